/- Contracts of functions of the program and of the model: PerM, PeI, PeP, PeA, PeB, PeM, PeW, PeQ, LawPeriodOf. -/
import Derived.Test.YtnfehccicnpbpaaGreatDoorPk9
import Derived.WalkMore
import Derived.Maps.AppendAt
import Derived.Deep.RegionHeld3
set_option linter.all false
set_option linter.unusedVariables false
set_option linter.unusedSimpArgs false
set_option linter.unnecessarySimpa false
set_option linter.deprecated false
namespace Go.Proofs.YtnfehccicnpbpaaGreatDoor

/-- p states, beginning behind the first b ones, come again and again, and no state comes twice before -/
def Per (f : Nat → List Nat) (b p : Nat) : Prop := 0 < p ∧ f b = f (b + p) ∧ ∀ i j, i < j → j < b + p → f i ≠ f j
/-- the first n + 1 states are different ones -/
def NoPer (f : Nat → List Nat) (n : Nat) : Prop := ∀ i j, i < j → j ≤ n → f i ≠ f j

theorem Per.one {f : Nat → List Nat} {b p b' p' : Nat} (h : Per f b p) (h' : Per f b' p') : b = b' ∧ p = p' := by
  obtain ⟨h1, h2, h3⟩ := h
  obtain ⟨k1, k2, k3⟩ := h'
  have e : b + p = b' + p' := by
    rcases Nat.lt_trichotomy (b + p) (b' + p') with hlt | he | hlt
    · exact absurd h2 (k3 b (b + p) (by omega) hlt)
    · exact he
    · exact absurd k2 (h3 b' (b' + p') (by omega) hlt)
  have eb : b = b' := by
    rcases Nat.lt_trichotomy b b' with hlt | he | hlt
    · exact absurd (h2.trans ((congrArg f e).trans k2.symm)) (k3 b b' hlt (by omega))
    · exact he
    · exact absurd (k2.trans ((congrArg f e.symm).trans h2.symm)) (h3 b' b hlt (by omega))
  exact ⟨eb, by omega⟩

theorem NoPer.not {f : Nat → List Nat} {n b p : Nat} (h : NoPer f n) (h' : Per f b p) : n < b + p := by
  rcases Nat.lt_or_ge n (b + p) with h1 | h1
  · exact h1
  · exact absurd h'.2.1 (h b (b + p) (by have := h'.1; omega) h1)

section
variable {m : Nat} {cs ss : List Nat}

theorem sta_next {i j : Nat} (h : sta m cs ss i = sta m cs ss j) : ∀ d, sta m cs ss (i + d) = sta m cs ss (j + d)
  | 0 => h
  | d + 1 => by rw [← Nat.add_assoc, ← Nat.add_assoc, sta, sta, sta_next h d]

theorem sta_cyc {b p : Nat} (h : sta m cs ss b = sta m cs ss (b + p)) : ∀ q n, b ≤ n → sta m cs ss (n + q * p) = sta m cs ss n
  | 0, n, _ => by rw [Nat.zero_mul, Nat.add_zero]
  | q + 1, n, hn => by
    have h1 := sta_next h (n - b)
    have h2 := sta_cyc h q (n + p) (by omega)
    rw [show b + (n - b) = n by omega, show b + p + (n - b) = n + p by omega] at h1
    rw [show n + (q + 1) * p = n + p + q * p by rw [Nat.add_mul]; omega, h2, h1]

/-- a state is the list of its terms -/
theorem sta_ext (h : ss.length = cs.length) {i j : Nat} (he : ∀ k, k < cs.length → trm m cs ss (i + k) = trm m cs ss (j + k)) : sta m cs ss i = sta m cs ss j := by
  apply List.ext_getElem?
  intro k
  rcases Nat.lt_or_ge k cs.length with hk | hk
  · have a := sta_at (m := m) h k i hk
    have b := sta_at (m := m) h k j hk
    have hi := sta_len (m := m) h i
    have hj := sta_len (m := m) h j
    rw [he k hk, ← b] at a
    rw [List.getD_eq_getElem?_getD, List.getD_eq_getElem?_getD, List.getElem?_eq_getElem (by omega), List.getElem?_eq_getElem (by omega)] at a
    rw [List.getElem?_eq_getElem (by omega), List.getElem?_eq_getElem (by omega)]
    exact congrArg some a
  · rw [List.getElem?_eq_none (by rw [sta_len h]; exact hk), List.getElem?_eq_none (by rw [sta_len h]; exact hk)]

/-- the terms of equal states are equal -/
theorem trm_eq {i j : Nat} (h : sta m cs ss i = sta m cs ss j) : trm m cs ss i = trm m cs ss j := by unfold trm; rw [h]

/-- equal terms before equal states make equal states -/
theorem sta_back (h : ss.length = cs.length) {i j : Nat} (he : sta m cs ss (i + 1) = sta m cs ss (j + 1)) (ht : trm m cs ss i = trm m cs ss j) : sta m cs ss i = sta m cs ss j := by
  refine sta_ext h fun k hk => ?_
  cases k with
  | zero => exact ht
  | succ k =>
    rw [show i + (k + 1) = i + 1 + k by omega, show j + (k + 1) = j + 1 + k by omega]
    exact trm_eq (sta_next he k)

/-- the period, seen from a state far enough -/
theorem per_of {M l b : Nat} (hl : 0 < l) (h2 : ∀ d, 0 < d → d < l → sta m cs ss (M - d) ≠ sta m cs ss M)
    (hb : b + l ≤ M) (h3 : sta m cs ss b = sta m cs ss (b + l)) (h4 : 0 < b → trm m cs ss (b - 1) ≠ trm m cs ss (b - 1 + l)) : Per (sta m cs ss) b l := by
  have hdiff : ∀ i j, i < j → j < b + l → sta m cs ss i ≠ sta m cs ss j := by
    intro i j hij hj he
    -- equal states come again up to M, so that j - i is a multiple of l, and i is before b
    have hd : sta m cs ss (M - (j - i)) = sta m cs ss M := by
      have := sta_next he (M - j)
      rw [show i + (M - j) = M - (j - i) by omega, show j + (M - j) = M by omega] at this
      exact this
    have hge : l ≤ j - i := by
      rcases Nat.lt_or_ge (j - i) l with hlt | hge
      · exact absurd hd (h2 (j - i) (by omega) hlt)
      · exact hge
    have hib : i < b := by omega
    -- the state before b, and the one l behind it, are equal
    have e1 := sta_next he (b - 1 - i)
    rw [show i + (b - 1 - i) = b - 1 by omega] at e1
    obtain ⟨c, hc⟩ : ∃ c, c = j + (b - 1 - i) := ⟨_, rfl⟩
    rw [← hc] at e1
    obtain ⟨r, hr⟩ : ∃ r, r = (c - b) % l := ⟨_, rfl⟩
    obtain ⟨q, hq⟩ : ∃ q, q = (c - b) / l := ⟨_, rfl⟩
    have hdm : c = b + r + q * l := by
      have := Nat.div_add_mod (c - b) l
      rw [← hr, ← hq, Nat.mul_comm] at this
      omega
    have hrl : r < l := by rw [hr]; exact Nat.mod_lt _ hl
    have e2 := sta_cyc h3 q (b + r) (by omega)
    rw [← hdm] at e2
    rw [e2] at e1
    -- b - 1 and b + r are r + 1 apart
    have e3 : sta m cs ss (M - (r + 1)) = sta m cs ss M := by
      have := sta_next e1 (M - (b + r))
      rw [show b - 1 + (M - (b + r)) = M - (r + 1) by omega, show b + r + (M - (b + r)) = M by omega] at this
      exact this
    have hrl2 : r + 1 = l := by
      rcases Nat.lt_or_ge (r + 1) l with hlt | hge2
      · exact absurd e3 (h2 (r + 1) (by omega) hlt)
      · omega
    exact h4 (by omega) (by
      have := trm_eq e1
      rw [show b + r = b - 1 + l by omega] at this
      exact this)
  exact ⟨hl, h3, hdiff⟩

/-- a state that comes again far enough shows that there is a period -/
theorem per_far {M b p : Nat} (h : Per (sta m cs ss) b p) (hM : b + p ≤ M) : sta m cs ss (M - p) = sta m cs ss M := by
  have := sta_next h.2.1 (M - (b + p))
  rw [show b + (M - (b + p)) = M - p by omega, show b + p + (M - (b + p)) = M by omega] at this
  exact this

end

/-- either the first states are all different, or there is a period among them -/
theorem per_or (f : Nat → List Nat) : ∀ n, NoPer f n ∨ ∃ b p, Per f b p ∧ b + p ≤ n
  | 0 => .inl fun i j hij hj => by omega
  | n + 1 => by
    rcases per_or f n with h | ⟨b, p, h, hb⟩
    · by_cases he : ∃ i, i < n + 1 ∧ f i = f (n + 1)
      · obtain ⟨i, hi, he⟩ := he
        exact .inr ⟨i, n + 1 - i, ⟨by omega, by rw [he]; congr 1; omega, fun a c hac hc => h a c hac (by omega)⟩, by omega⟩
      · refine .inl fun i j hij hj => ?_
        rcases Nat.lt_or_ge j (n + 1) with hlt | hge
        · exact h i j hij (by omega)
        · obtain rfl : j = n + 1 := by omega
          exact fun e => he ⟨i, hij, e⟩
    · exact .inr ⟨b, p, h, by omega⟩

end Go.Proofs.YtnfehccicnpbpaaGreatDoor

namespace Go.Proofs.YtnfehccicnpbpaaGreatDoor
open Go Go.RowKit

set_option maxRecDepth 100000 in
set_option maxHeartbeats 4000000 in
theorem since_any (m g N : Nat) (cs ss : List Nat) (w : World) (hA : Arr .u64 61 w g (trms m cs ss N)) (hN : N = 5000 + cs.length) (hl : ss.length = cs.length) (h8 : cs.length ≤ 8) (R : Ending → World → Prop)
    (hR1 : ∀ l, 0 < l → l ≤ 5000 → sta m cs ss (5000 - l) = sta m cs ss 5000 → (∀ d, 0 < d → d < l → sta m cs ss (5000 - d) ≠ sta m cs ss 5000) → R (.returned (.tuple #[.int .i64 ((l : Nat) : Int), .bool true])) w)
    (hR2 : (∀ d, 0 < d → d ≤ 5000 → sta m cs ss (5000 - d) ≠ sta m cs ss 5000) → R (.returned (.tuple #[.int .i64 0, .bool false])) w) :
    Calls Tryz.prog 101 #[.slice (some ⟨g, 0, none⟩) N N] w R := by
  have HR1 := Lib.hid hR1; clear hR1
  have HR2 := Lib.hid hR2; clear hR2
  obtain ⟨k, hk⟩ : ∃ k, k = cs.length := ⟨_, rfl⟩
  have HL := Lib.hid (And.intro hl (And.intro hk hN))
  have hNk : N = 5000 + k := by omega
  subst hNk
  have hcell : ∀ i, i < 5000 + k → w.cell? ⟨g, i, none⟩ = some (.int .u64 ((trm m cs ss i : Nat) : Int)) := fun i hi => by
    have := hA.cell i (by rw [trms_len]; exact hi)
    rw [trms_at hi] at this; exact this
  have HC := Lib.hid hcell
  have HSL := Lib.hid (hA.sl (5000 + k) (5000 + k) (by rw [trms_len]) (Nat.le_refl _))
  have h8k : k ≤ 8 := by omega
  have hnn : ((5000 + k : Nat) : Int) = 5000 + (k : Int) := by omega
  have h5 : (5000 : Int) ≤ 5000 + (k : Int) := by omega
  clear hA hN hl h8 hk hcell
  go_enter Tryz.func101, Tryz.ntmps101
  go_wp2
  go_step3
  obtain ⟨ao', hao⟩ : ∃ ao', (if k = 0 then (some ⟨g, 0, none⟩ : Option Addr) else some ⟨g, 5000, none⟩) = ao' := ⟨_, rfl⟩
  have HT : Hid (∀ i, i < k → ∃ b off, ao' = some ⟨b, off, none⟩ ∧ w.cell? ⟨b, off + i, none⟩ = some (.int .u64 ((trm m cs ss (5000 + i) : Nat) : Int))) := Lib.hid (fun i hi => by
    refine ⟨g, 5000, by rw [← hao, if_neg (by omega)], ?_⟩
    exact HC.out (5000 + i) (by omega))
  go_wp2
  trace_state
  go_step3
  go_wp2
  go_loop [11] (fun iv => ∃ d : Nat, iv = .int .i64 (d : Int) ∧ d ≤ 5000 ∧ ∀ e, 0 < e → e ≤ d → sta m cs ss (5000 - e) ≠ sta m cs ss 5000) (fun iv => 5000 - (intOf iv).toNat)
  case atStart => exact ⟨0, rfl, Nat.zero_le _, fun e h1 h2 => by omega⟩
  case round =>
    obtain ⟨d, rfl, hd, hno⟩ := hrel
    have HNO := Lib.hid hno
    clear hno
    by_cases hd5 : d = 5000
    · subst hd5
      have HF := Lib.hid (HR2.out HNO.out)
      have hlt : ¬ ((5000 : Nat) : Int) < 5000 := by omega
      go_wp2
      first | go_ret | skip
      exact HF.out
    · have hdl : d < 5000 := by omega
      obtain ⟨bg, hbg⟩ : ∃ bg, bg = 4999 - d := ⟨_, rfl⟩
      have hw1 : IntKind.i64.wrap (4999 - (d : Int)) = (bg : Int) := by rw [IntWalk.i64_in _ (by omega)]; omega
      have hw2 : IntKind.i64.wrap ((d : Int) + 1) = ((d + 1 : Nat) : Int) := by rw [IntWalk.i64_in _ (by omega)]; omega
      have hd1 : (d : Int) < 5000 := by omega
      have HBG := Lib.hid (show bg + (d + 1) = 5000 by omega)
      clear hbg hd hd5
      go_wp2
      go_loop [18] (fun iv => ∃ i : Nat, iv = .int .i64 (i : Int) ∧ i ≤ k ∧ ∀ j, j < i → trm m cs ss (bg + j) = trm m cs ss (5000 + j)) (fun iv => k - (intOf iv).toNat)
      case atStart => exact ⟨0, rfl, Nat.zero_le _, fun j hj => by omega⟩
      case round =>
        obtain ⟨i, rfl, hi, hall⟩ := hrel
        have HALL := Lib.hid hall
        clear hall
        by_cases hik : i = k
        · subst hik
          have hii : ¬ ((i : Int) < (i : Int)) := by omega
          have hst : sta m cs ss bg = sta m cs ss 5000 := sta_ext HL.out.1 (fun j hj => HALL.out j (by rw [HL.out.2.1]; exact hj))
          have HF := Lib.hid (HR1.out (d + 1) (by omega) (by omega) (by rw [show 5000 - (d + 1) = bg by have := HBG.out; omega]; exact hst) (fun e h1 h2 => HNO.out e h1 (by omega)))
          have hw3 : IntKind.i64.wrap (5000 - (bg : Int)) = ((d + 1 : Nat) : Int) := by have := HBG.out; rw [IntWalk.i64_in _ (by omega)]; omega
          clear hst hi
          go_wp2
          first | go_ret | skip
          exact HF.out
        · have hil : i < k := by omega
          obtain ⟨b, off, rfl, hc1⟩ := HT.out i hil
          obtain ⟨t, ht⟩ : ∃ t, t = bg + i := ⟨_, rfl⟩
          have hc2 := HC.out t (by have := HBG.out; omega)
          obtain ⟨x, hx⟩ : ∃ x, x = trm m cs ss (5000 + i) := ⟨_, rfl⟩
          obtain ⟨y, hy⟩ : ∃ y, y = trm m cs ss t := ⟨_, rfl⟩
          rw [← hx] at hc1
          rw [← hy] at hc2
          have hw3 : IntKind.i64.wrap ((bg : Int) + (i : Int)) = (t : Int) := by have := HBG.out; rw [IntWalk.i64_in _ (by omega)]; omega
          have hw4 : IntKind.i64.wrap ((i : Int) + 1) = ((i + 1 : Nat) : Int) := by rw [IntWalk.i64_in _ (by omega)]; omega
          have hi0 : (0 : Int) ≤ (i : Int) := by omega
          have hi1 : (i : Int) < (k : Int) := by omega
          have ht0 : (0 : Int) ≤ (t : Int) := by omega
          have ht1 : (t : Int) < ((5000 + k : Nat) : Int) := by have := HBG.out; omega
          have ht2 : (t : Int) < 5000 + (k : Int) := by omega
          by_cases hxy : y = x
          · have e1 : ((y : Int) != (x : Int)) = false := by rw [hxy]; simp
            have HNX : Hid (∀ j, j < i + 1 → trm m cs ss (bg + j) = trm m cs ss (5000 + j)) := Lib.hid fun j hj => by
              rcases Nat.lt_or_ge j i with h1 | h1
              · exact HALL.out j h1
              · rw [show j = i by omega, ← ht, ← hy, ← hx]; exact hxy
            clear ht hx hy hxy hik hi
            go_wp2
            go_round
            case rel => exact ⟨i + 1, rfl, hil, HNX.out⟩
            case measure => simp [intOf]; omega
          · have e1 : ((y : Int) != (x : Int)) = true := by rw [bne_iff_ne]; omega
            have HNX : Hid (∀ e, 0 < e → e ≤ d + 1 → sta m cs ss (5000 - e) ≠ sta m cs ss 5000) := Lib.hid fun e h1 h2 he => by
              rcases Nat.lt_or_ge d e with h3 | h3
              · have e9 : 5000 - e = bg := by have := HBG.out; omega
                rw [e9] at he
                have := trm_eq (sta_next he i)
                rw [← ht, ← hy, ← hx] at this
                exact hxy this
              · exact HNO.out e h1 h3 he
            clear ht hx hy hxy hik hi
            go_wp2
            go_round
            case rel => exact ⟨d + 1, rfl, by omega, HNX.out⟩
            case measure => simp [intOf]; omega
end Go.Proofs.YtnfehccicnpbpaaGreatDoor

namespace Go.Proofs.YtnfehccicnpbpaaGreatDoor
open Go Go.RowKit

def PbI (w2 : World) (m l : Nat) (cs ss : List Nat) (iv : Value) (wr : World) : Prop := ∃ b : Nat, iv = .int .i64 (b : Int) ∧ b + l ≤ 5000 ∧ sta m cs ss b = sta m cs ss (b + l) ∧ Below w2.heap.size w2 wr

set_option maxRecDepth 100000 in
set_option maxHeartbeats 8000000 in
theorem period_any (m : Nat) (vs vc : Value) (cs ss : List Nat) (w : World) (hs : At w vs ss) (hc : At w vc cs) (hl : ss.length = cs.length) (h8 : cs.length ≤ 8) (hm : 2 ≤ m) (hm2 : m ≤ 1000000)
    (hC : ∀ x ∈ cs, x < m) (hS : ∀ x ∈ ss, x < m) (R : Ending → World → Prop)
    (hR1 : ∀ b p w', Per (sta m cs ss) b p → b + p ≤ 5000 → Below w.heap.size w w' → R (.returned (.tuple #[.int .i64 ((b : Nat) : Int), .int .i64 ((p : Nat) : Int), .bool true])) w')
    (hR2 : ∀ w', (∀ d, 0 < d → d ≤ 5000 → sta m cs ss (5000 - d) ≠ sta m cs ss 5000) → Below w.heap.size w w' → R (.returned (.tuple #[.int .i64 0, .int .i64 0, .bool false])) w') :
    Calls Tryz.prog 66 #[.agg #[.int .u64 ((m : Nat) : Int), vs, vc]] w R := by
  have HR1 := Lib.hid hR1; clear hR1
  have HR2 := Lib.hid hR2; clear hR2
  obtain ⟨b1, o1, c1, rfl, hs'⟩ := hs.op
  obtain ⟨b2, o2, c2, rfl, hc'⟩ := hc.op
  obtain ⟨L, hL⟩ : ∃ L, L = w.alloc (.cells #[.int .u64 ((m : Nat) : Int), .slice (some ⟨b1, o1, none⟩) ss.length c1, .slice (some ⟨b2, o2, none⟩) cs.length c2] 65) := ⟨_, rfl⟩
  have HBL : Hid (Below w.heap.size w L) := Lib.hid (by rw [hL]; exact (Below.refl _ _).alloc (Nat.le_refl _) _)
  have HBX : Hid (Box3 L w.heap.size (.int .u64 ((m : Nat) : Int)) (.slice (some ⟨b1, o1, none⟩) ss.length c1) (.slice (some ⟨b2, o2, none⟩) cs.length c2) 65) := Lib.hid (by rw [hL]; exact Box3.made _ _ _ _ _)
  have HL := Lib.hid hL
  have HS := Lib.hid (hs'.later HBL.out (Nat.le_refl _))
  have HC := Lib.hid (hc'.later HBL.out (Nat.le_refl _))
  have HLL := Lib.hid (And.intro hl (And.intro h8 (And.intro hC hS)))
  obtain ⟨⟨hB0, hB1, hB2⟩, _, _, _⟩ := HBX.out.cells
  rw [hL] at hB0 hB1 hB2
  obtain ⟨n1, hn1⟩ : ∃ n1, n1 = ss.length := ⟨_, rfl⟩
  obtain ⟨k, hk⟩ : ∃ k, k = cs.length := ⟨_, rfl⟩
  rw [← hn1, ← hk] at hB0 hB1 hB2 HL HBX ⊢
  rw [← hn1] at HS
  rw [← hk] at HC
  obtain ⟨N, hN⟩ : ∃ N, N = 5000 + k := ⟨_, rfl⟩
  have HN := Lib.hid (show N = 5000 + cs.length by rw [hN, hk])
  have HN5 := Lib.hid (show 5000 ≤ N ∧ N ≤ 5008 by omega)
  have hwN : IntKind.i64.wrap (5000 + (k : Int)) = (N : Int) := by rw [IntWalk.i64_in _ (by omega)]; omega
  clear hs hs' hc hc' hL hn1 hk hl h8 hC hS hN
  go_enter Tryz.func66, Tryz.ntmps66
  go_wp2_with fail
  rw [← HL.out]
  refine rterms_any m N _ _ cs ss _ HS.out HC.out HLL.out.1 (by have := HLL.out.2.1; omega) hm hm2 HLL.out.2.2.1 HLL.out.2.2.2 (by have := HN5.out; omega) _ ?_
  intro g w2 hA hg hb2
  have HA := Lib.hid hA
  have HB2 := Lib.hid (HBL.out.trans (hb2.mono HBL.out.size))
  clear hA hg hb2 hB0 hB1 hB2
  dsimp only
  go_wp2_with fail
  refine since_any m g N cs ss _ HA.out HN.out HLL.out.1 HLL.out.2.1 _ ?_ ?_
  rotate_left
  · intro hno
    have HF := Lib.hid (HR2.out w2 hno HB2.out)
    clear hno hwN
    dsimp only
    go_wp2
    first | go_ret3 | go_ret | skip
    exact HF.out
  intro l hl0 hl5 hse hno
  have HNO := Lib.hid hno
  have HL0 := Lib.hid hl0
  have HL5 := Lib.hid hl5
  obtain ⟨bf, hbf⟩ : ∃ bf, bf = 5000 - l := ⟨_, rfl⟩
  have hwb : IntKind.i64.wrap (5000 - (l : Int)) = (bf : Int) := by rw [IntWalk.i64_in _ (by omega)]; omega
  have HST : Hid (PbI w2 m l cs ss (.int .i64 (bf : Int)) w2) := Lib.hid ⟨bf, rfl, by omega, by rw [hbf, show 5000 - l + l = 5000 by omega]; exact hse, Below.refl _ _⟩
  clear hno hl0 hl5 hse hbf hwN
  dsimp only
  go_wp2
  go_loopw [8] (fun iv wr => PbI w2 m l cs ss iv wr) (fun iv _ => (intOf iv).toNat)
  case atStart => exact HST.out
  case round =>
    clear HST hwb
    obtain ⟨b, rfl, hb, hst, hbel⟩ := hrel
    have HBB := Lib.hid hb
    have HSB := Lib.hid hst
    have HBW := Lib.hid hbel
    have HF : Hid ((0 < b → trm m cs ss (b - 1) ≠ trm m cs ss (b - 1 + l)) → ∀ w', Below wr.heap.size wr w' → R (.returned (.tuple #[.int .i64 ((b : Nat) : Int), .int .i64 ((l : Nat) : Int), .bool true])) w') := Lib.hid fun h4 w' hb' =>
      HR1.out b l w' (per_of HL0.out HNO.out HBB.out HSB.out h4) HBB.out (HB2.out.trans ((HBW.out.mono HB2.out.size).trans (hb'.mono (Nat.le_trans HB2.out.size HBW.out.size))))
    clear hst hbel hb
    rcases Nat.eq_zero_or_pos b with hb0 | hb0
    · have HFF := Lib.hid (HF.out (by intro h; omega))
      have hd : decide ((0 : Int) < (b : Int)) = false := decide_eq_false (by omega)
      have hdn : decide (0 < b) = false := decide_eq_false (by omega)
      clear HF hb0
      go_wp2
      go_quiet (fail)
      go_wp2
      first | go_ret3 | go_ret | skip
      exact HFF.out _ (below_draws (Below.refl _ _) _)
    · obtain ⟨d, hd⟩ : ∃ d, d = b - 1 := ⟨_, rfl⟩
      have hdb : d + 1 = b := by omega
      have HDB := Lib.hid hdb
      obtain ⟨t, ht⟩ : ∃ t, t = d + l := ⟨_, rfl⟩
      have hAr := HA.out.later HBW.out (HA.out.lt)
      have hc1 := hAr.cell d (by rw [trms_len]; have := HBB.out; have := HN5.out; omega)
      have hc2 := hAr.cell t (by rw [trms_len]; have := HBB.out; have := HN5.out; omega)
      rw [trms_at (by have := HBB.out; have := HN5.out; omega)] at hc1 hc2
      obtain ⟨x, hx⟩ : ∃ x, x = trm m cs ss d := ⟨_, rfl⟩
      obtain ⟨y, hy⟩ : ∃ y, y = trm m cs ss t := ⟨_, rfl⟩
      rw [← hx] at hc1
      rw [← hy] at hc2
      have hb1 : (0 : Int) < (b : Int) := by omega
      have hbn : decide (0 < b) = true := decide_eq_true hb0
      have hw1 : IntKind.i64.wrap ((b : Int) - 1) = (d : Int) := by have := HBB.out; rw [IntWalk.i64_in _ (by omega)]; omega
      have hw2 : IntKind.i64.wrap ((d : Int) + (l : Int)) = (t : Int) := by have := HBB.out; rw [IntWalk.i64_in _ (by omega)]; omega
      have hd0 : (0 : Int) ≤ (d : Int) := by omega
      have hd1 : (d : Int) < (N : Int) := by have := HBB.out; have := HN5.out; omega
      have ht0 : (0 : Int) ≤ (t : Int) := by omega
      have ht1 : (t : Int) < (N : Int) := by have := HBB.out; have := HN5.out; omega
      by_cases hxy : x = y
      · have e1 : ((x : Int) == (y : Int)) = true := by rw [hxy]; simp
        have e2 : (x == y) = true := by rw [hxy]; simp
        have HNX : Hid (∀ w', Below wr.heap.size wr w' → PbI w2 m l cs ss (.int .i64 (d : Int)) w') := Lib.hid fun w' hb' =>
          ⟨d, rfl, by have := HBB.out; omega, sta_back HLL.out.1 (by have := HSB.out; rw [← hdb, show d + 1 + l = d + l + 1 by omega] at this; exact this) (by rw [← ht, ← hx, ← hy]; exact hxy), HBW.out.trans (hb'.mono HBW.out.size)⟩
        have HXY := Lib.hid hxy
        clear hx hy ht hxy hAr HF hd hdb
        go_wp2
        go_quiet (fail)
        go_wp2
        go_roundw
        case rel => exact HNX.out _ (below_draws (Below.refl _ _) _)
        case measure => simp [intOf]; have := HDB.out; omega
      · have e1 : ((x : Int) == (y : Int)) = false := by rw [beq_eq_false_iff_ne]; omega
        have e2 : (x == y) = false := by rw [beq_eq_false_iff_ne]; omega
        have HFF := Lib.hid (HF.out (fun _ => by rw [← hd, ← ht, ← hx, ← hy]; exact hxy))
        clear hx hy ht hxy hAr HF hd hdb
        go_wp2
        go_quiet (fail)
        go_wp2
        first | go_ret3 | go_ret | skip
        exact HFF.out _ (below_draws (Below.refl _ _) _)
end Go.Proofs.YtnfehccicnpbpaaGreatDoor

namespace Go.Proofs.YtnfehccicnpbpaaGreatDoor
open Go Go.RowKit

/-- the model's code of the first numbers of a state -/
def codeN (m : Nat) (st : List Nat) : Nat → Nat
  | 0 => 0
  | n + 1 => (codeN m st n * m + st.getD n 0) % 1000003
theorem codeN_lt (m : Nat) (st : List Nat) : ∀ n, codeN m st n < 1000003
  | 0 => by show (0 : Nat) < 1000003; decide
  | n + 1 => Nat.mod_lt _ (by decide)

theorem Sl.cellAt2 {k : IntKind} {w : World} {ao : Option Addr} {n c : Nat} {xs : List Nat} (h : Sl k w (.slice ao n c) xs) {i : Nat} (hi : i < xs.length) {W : World} (hb : Below w.heap.size w W) : ∃ b off, ao = some ⟨b, off, none⟩ ∧ W.cell? ⟨b, off + i, none⟩ = some (.int k ((xs.getD i 0 : Nat) : Int)) := by
  have hl := h.len
  obtain ⟨b, off, e, hlt, hc⟩ := h.at i (by omega)
  exact ⟨b, off, e, by rw [hb.cell (p := ⟨b, off + i, none⟩) hlt]; exact hc⟩

set_option maxRecDepth 100000 in
set_option maxHeartbeats 2000000 in
theorem scode_any (m : Nat) (v : Value) (st : List Nat) (w : World) (h : Sl .i64 w v st) (hm : m ≤ 1000000) (hst : ∀ x ∈ st, x < m) (hm1 : 2 ≤ m) (hl : st.length ≤ 100) (R : Ending → World → Prop)
    (hR : R (.returned (.int .i64 ((codeN m st st.length : Nat) : Int))) w) :
    Calls Tryz.prog 98 #[v, .int .i64 ((m : Nat) : Int)] w R := by
  have HR := Lib.hid hR; clear hR
  obtain ⟨ao, cap, rfl, _, hc⟩ := h
  obtain ⟨k, hk⟩ : ∃ k, k = st.length := ⟨_, rfl⟩
  rw [← hk] at HR hc hl ⊢
  have HC := Lib.hid hc
  have HST := Lib.hid hst
  clear hc hst hk
  go_enter Tryz.func98, Tryz.ntmps98
  go_wp2
  go_loop [5, 6] (fun cv iv => ∃ i : Nat, cv = .int .i64 ((codeN m st i : Nat) : Int) ∧ iv = .int .i64 (i : Int) ∧ i ≤ k) (fun _ iv => k - (intOf iv).toNat)
  case atStart => exact ⟨0, rfl, rfl, Nat.zero_le _⟩
  case round =>
    obtain ⟨i, rfl, rfl, hi⟩ := hrel
    by_cases hik : i = k
    · subst hik
      have hii : ¬ ((i : Int) < (i : Int)) := by omega
      go_wp2
      first | go_ret | skip
      exact HR.out
    · have hil : i < k := by omega
      obtain ⟨b, off, rfl, _, hc1⟩ := HC.out i hil
      obtain ⟨x, hx⟩ : ∃ x, x = st.getD i 0 := ⟨_, rfl⟩
      rw [← hx] at hc1
      have hxm : x < m := by rw [hx]; exact getD_lt_of (by omega) HST.out _
      obtain ⟨c, hcd⟩ : ∃ c, c = codeN m st i := ⟨_, rfl⟩
      have hc9 : c < 1000003 := by rw [hcd]; exact codeN_lt _ _ _
      obtain ⟨p, hp⟩ : ∃ p, p = c * m := ⟨_, rfl⟩
      have hpb : p ≤ 1000003 * 1000000 := by rw [hp]; exact Nat.mul_le_mul (by omega) hm
      obtain ⟨y, hy⟩ : ∃ y, y = p + x := ⟨_, rfl⟩
      obtain ⟨z, hz⟩ : ∃ z, z = y % 1000003 := ⟨_, rfl⟩
      have hzl : z < 1000003 := by rw [hz]; exact Nat.mod_lt _ (by decide)
      have HNX : Hid (z = codeN m st (i + 1)) := Lib.hid (by rw [hz, hy, hp, hcd, hx]; rfl)
      have hw1 : IntKind.i64.wrap ((c : Int) * (m : Int)) = (p : Int) := by rw [hp, Int.natCast_mul, IntWalk.i64_in _ (by rw [← Int.natCast_mul, ← hp]; omega)]
      have hw2 : IntKind.i64.wrap ((p : Int) + (x : Int)) = (y : Int) := by rw [IntWalk.i64_in _ (by omega)]; omega
      have e1 : (y : Int) % 1000003 = (z : Int) := by rw [hz]; omega
      have e2 : Int.tmod (y : Int) 1000003 = (z : Int) := by rw [Int.tmod_eq_emod_of_nonneg (by omega)]; exact e1
      have hw3 : IntKind.i64.wrap (z : Int) = (z : Int) := IntWalk.i64_in _ (by omega)
      have hw4 : IntKind.i64.wrap ((i : Int) + 1) = ((i + 1 : Nat) : Int) := by rw [IntWalk.i64_in _ (by omega)]; omega
      have hi0 : (0 : Int) ≤ (i : Int) := by omega
      have hi1 : (i : Int) < (k : Int) := by omega
      rw [← hcd]
      clear hx hcd hp hy hz hik hi
      go_wp2
      go_round
      case rel => exact ⟨i + 1, by rw [HNX.out], rfl, by omega⟩
      case measure => simp [intOf]; omega

set_option maxRecDepth 100000 in
set_option maxHeartbeats 2000000 in
theorem ssame_any (v v' : Value) (xs ys : List Nat) (w : World) (h : Sl .i64 w v xs) (h' : Sl .i64 w v' ys) (hl : xs.length ≤ 100000) (R : Ending → World → Prop)
    (hR : ∀ w', Below w.heap.size w w' → R (.returned (.bool (decide (xs = ys)))) w') :
    Calls Tryz.prog 100 #[v, v'] w R := by
  have HR := Lib.hid hR; clear hR
  obtain ⟨a1, c1, rfl, _, hc1⟩ := h
  obtain ⟨a2, c2, rfl, _, hc2⟩ := h'
  by_cases hle : xs.length = ys.length
  · obtain ⟨k, hk⟩ : ∃ k, k = xs.length := ⟨_, rfl⟩
    rw [← hle] at hc2 ⊢
    rw [← hk] at hc1 hc2 hl ⊢
    have HK := Lib.hid (And.intro hk (show k = ys.length by rw [hk]; exact hle))
    have HC1 := Lib.hid hc1
    have HC2 := Lib.hid hc2
    have hkk : ((k : Int) != (k : Int)) = false := by simp
    clear hc1 hc2 hk hle
    go_enter Tryz.func100, Tryz.ntmps100
    go_wp2
    clear hkk
    go_loopw [5] (fun iv wr => ∃ i : Nat, iv = .int .i64 (i : Int) ∧ i ≤ k ∧ (∀ j, j < i → xs.getD j 0 = ys.getD j 0) ∧ Below w.heap.size w wr) (fun iv _ => k - (intOf iv).toNat)
    case atStart => exact ⟨0, rfl, Nat.zero_le _, fun j hj => by omega, Below.refl _ _⟩
    case round =>
      obtain ⟨i, rfl, hi, hall, hbel⟩ := hrel
      have HB := Lib.hid hbel
      have HALL := Lib.hid hall
      clear hall
      by_cases hik : i = k
      · subst hik
        have heq : xs = ys := by
          apply List.ext_getElem (by rw [← HK.out.1]; exact HK.out.2)
          intro j h1 h2
          have := HALL.out j (by rw [HK.out.1]; exact h1)
          rw [List.getD_eq_getElem?_getD, List.getD_eq_getElem?_getD, List.getElem?_eq_getElem h1, List.getElem?_eq_getElem h2] at this
          exact this
        have HF := Lib.hid (HR.out wr HB.out)
        rw [decide_eq_true heq] at HF
        have hii : ¬ ((i : Int) < (i : Int)) := by omega
        clear heq hbel hi
        go_wp2
        first | go_ret | skip
        exact HF.out
      · have hil : i < k := by omega
        obtain ⟨b1, o1, rfl, hb1, hd1⟩ := HC1.out i hil
        obtain ⟨b2, o2, rfl, hb2, hd2⟩ := HC2.out i hil
        rw [← hbel.cell (p := ⟨b1, o1 + i, none⟩) hb1] at hd1
        rw [← hbel.cell (p := ⟨b2, o2 + i, none⟩) hb2] at hd2
        obtain ⟨x, hx⟩ : ∃ x, x = xs.getD i 0 := ⟨_, rfl⟩
        obtain ⟨y, hy⟩ : ∃ y, y = ys.getD i 0 := ⟨_, rfl⟩
        rw [← hx] at hd1
        rw [← hy] at hd2
        have hi0 : (0 : Int) ≤ (i : Int) := by omega
        have hi1 : (i : Int) < (k : Int) := by omega
        have hw4 : IntKind.i64.wrap ((i : Int) + 1) = ((i + 1 : Nat) : Int) := by rw [IntWalk.i64_in _ (by omega)]; omega
        by_cases hxy : x = y
        · have e1 : ((x : Int) != (y : Int)) = false := by rw [hxy]; simp
          have HNX : Hid (∀ N, ∃ i' : Nat, (Value.int .i64 ((i + 1 : Nat) : Int)) = .int .i64 (i' : Int) ∧ i' ≤ k ∧ (∀ j, j < i' → xs.getD j 0 = ys.getD j 0) ∧ Below w.heap.size w (wr.drewN N)) := Lib.hid fun N =>
            ⟨i + 1, rfl, hil, fun j hj => by
              rcases Nat.lt_or_ge j i with h1 | h1
              · exact HALL.out j h1
              · rw [show j = i by omega, ← hx, ← hy]; exact hxy, below_draws HB.out N⟩
          clear hx hy hxy hik hi hbel hb1 hb2
          go_wp2
          go_quiet (fail)
          go_wp2
          go_roundw
          case rel => exact HNX.out _
          case measure => simp [intOf]; omega
        · have e1 : ((x : Int) != (y : Int)) = true := by rw [bne_iff_ne]; omega
          have HF : Hid (∀ N, R (.returned (.bool false)) (wr.drewN N)) := Lib.hid fun N => by
            have := HR.out (wr.drewN N) (below_draws HB.out N)
            rw [decide_eq_false (fun e => hxy (by rw [hx, hy, e]))] at this; exact this
          clear hx hy hxy hik hi hbel hb1 hb2
          go_wp2
          go_quiet (fail)
          go_wp2
          first | go_ret | skip
          exact HF.out _
  · have hne : ((xs.length : Int) != (ys.length : Int)) = true := by rw [bne_iff_ne]; omega
    have HF := Lib.hid (HR.out w (Below.refl _ _))
    rw [decide_eq_false (fun e => hle (by rw [e]))] at HF
    clear hle hc1 hc2
    go_enter Tryz.func100, Tryz.ntmps100
    go_wp2
    first | go_ret | skip
    exact HF.out

theorem wpList_appendN {P : Program} {w : World} {ops : Array Oper} {rest : List Oper} {o : Oper} {a : Act} {Q : Exit → Act → World → Prop} (hgd : o.guard = none) (s x : Operand) (t : TypeId)
    (ho : o.op = .call { callee := .builtin .append, args := #[s, x], argTypes := #[t, t] })
    (e : TypeId) (k : IntKind) (bytes : Nat) (ht : P.underlying t = some (.slice e)) (hi : (P.info? e).map (fun i => (i.zero, i.size, i.bytes)) = some (some (.int k 0), 1, bytes)) (hby : bytes ≤ 16)
    (B : Nat) (v u : Value) (xs ys : List Nat) (hs : a.eval s = v) (hxu : a.eval x = u) (hown : Own k e w B v xs) (hx : Sl k w u ys) (hlen : xs.length + ys.length ≤ 100000000) (hB : B ≤ w.heap.size)
    (hK : ∀ ao n c w', Own k e w' B (.slice ao n c) (xs ++ ys) → n = xs.length + ys.length → Below B w w' → wpList P ops Q rest (a.put o.dst (.slice ao n c)) w') : wpList P ops Q (o :: rest) a w := by
  obtain ⟨v', w', hr, h2, h3⟩ := run_append_any (P := P) (w := w) t o.type e k bytes ht hi hby B v u xs ys hown hx hlen hB
  refine wpList_plain hgd fun K hK' => ?_
  unfold Oper.wp execOp
  obtain ⟨ao, n, c, rfl, hn⟩ := h2.shape
  simp only [ho, resolve, invoke, builtin, Sem.run_bind, Sem.run_pure, Result.andThen_ok, List.map_toArray, List.map_cons, List.map_nil, hs, hxu, hr]
  exact hK' _ _ (hK ao n c w' h2 (by simpa using hn) h3)

set_option maxRecDepth 100000 in
set_option maxHeartbeats 1000000 in
theorem sown_any (v : Value) (xs : List Nat) (w : World) (h : Sl .i64 w v xs) (hl : xs.length ≤ 100000) (R : Ending → World → Prop)
    (hR : ∀ v' w', Own .i64 2 w' w.heap.size v' xs → Below w.heap.size w w' → R (.returned v') w') :
    Calls Tryz.prog 132 #[v] w R := by
  have HR := Lib.hid hR; clear hR
  have HS := Lib.hid h
  obtain ⟨a1, c1, rfl, _, _⟩ := h
  have HLN := Lib.hid hl
  clear hl
  go_enter Tryz.func132, Tryz.ntmps132
  go_wp2_with (at_builtin; go_must (refine wpList_appendN rfl (.tmp 3) (.tmp 4) 32 rfl 2 .i64 8 Tryz.underlying32 info_i64 (by omega) w.heap.size _ _ [] xs rfl rfl (Own.lit _ _ _ _ (Nat.le_refl _)) (HS.out.alloc _) (by have := HLN.out; simp; omega) (by simp) ?_))
  intro ao n c w1 hown hn hb1
  have HF := Lib.hid (HR.out (.slice ao n c) w1 hown (((Below.refl w.heap.size w).alloc (Nat.le_refl _) _).trans hb1))
  clear hown hn hb1
  go_wp2
  first | go_ret | skip
  exact HF.out
end Go.Proofs.YtnfehccicnpbpaaGreatDoor

namespace Go.Proofs.YtnfehccicnpbpaaGreatDoor
open Go Go.RowKit

theorem Own.mono' {k : IntKind} {e : TypeId} {w : World} {B B' : Nat} {v : Value} {xs : List Nat} (h : Own k e w B v xs) (hB : B' ≤ B) : Own k e w B' v xs := by
  obtain ⟨h1, h2⟩ := h
  refine ⟨h1, ?_⟩
  rcases h2 with h2 | ⟨g, cap, cur, e1, hg, h3⟩
  · exact .inl h2
  · exact .inr ⟨g, cap, cur, e1, Nat.le_trans hB hg, h3⟩

theorem fsum_step {m : Nat} {cs st : List Nat} {i : Nat} : (fsum cs st i % m + cs.getD i 0 * st.getD (st.length - 1 - i) 0) % m = fsum cs st (i + 1) % m := by
  rw [fsum, Nat.add_mod, Nat.mod_mod, ← Nat.add_mod]

set_option maxRecDepth 100000 in
set_option maxHeartbeats 4000000 in
theorem snext_any (m : Nat) (v vc : Value) (st cs : List Nat) (w : World) (h : Sl .i64 w v st) (hc : Sl .i64 w vc cs) (hl : st.length = cs.length) (hst : ∀ x ∈ st, x < m) (hcm : ∀ x ∈ cs, x < m) (hm1 : 2 ≤ m) (hm : m ≤ 1000000) (h8 : cs.length ≤ 100) (R : Ending → World → Prop)
    (hR : ∀ v' w', Own .i64 2 w' w.heap.size v' (nxt m cs st) → v' ≠ .slice none 0 0 → Below w.heap.size w w' → R (.returned v') w') :
    Calls Tryz.prog 99 #[v, vc, .int .i64 ((m : Nat) : Int)] w R := by
  have HR := Lib.hid hR; clear hR
  have HS := Lib.hid h
  have HCS := Lib.hid hc
  obtain ⟨a1, c1, rfl, hcap1, hc1⟩ := h
  obtain ⟨a2, c2, rfl, _, hc2⟩ := hc
  obtain ⟨k, hk⟩ : ∃ k, k = cs.length := ⟨_, rfl⟩
  have hks : st.length = k := by rw [hk]; exact hl
  rw [hks] at HS hc1 hcap1 ⊢
  rw [← hk] at hc2 h8 HCS ⊢
  rcases Nat.eq_zero_or_pos k with h0 | h0
  · have HF := Lib.hid (HR.out (.slice (some ⟨w.heap.size, 0, none⟩) 0 0) (w.alloc (.cells #[] 2)) (by unfold nxt; rw [if_pos (by omega)]; exact Own.lit _ _ _ _ (Nat.le_refl _)) (by intro e; cases e) ((Below.refl _ _).alloc (Nat.le_refl _) _))
    subst h0
    clear hc1 hc2 hk hks hl hcap1 HS HCS
    go_enter Tryz.func99, Tryz.ntmps99
    go_wp2
    first | go_ret | skip
    exact HF.out
  · have HK := Lib.hid (And.intro hk hks)
    have HC1 := Lib.hid hc1
    have HC2 := Lib.hid hc2
    have HM := Lib.hid (And.intro hst hcm)
    have hk0 : ¬ (k : Int) = 0 := by omega
    have hk1 : ((k : Int) == 0) = false := by rw [beq_eq_false_iff_ne]; exact hk0
    clear hc1 hc2 hk hks hl hst hcm
    go_enter Tryz.func99, Tryz.ntmps99
    go_wp2
    go_loopw [8, 9] (fun sv iv wr => ∃ i : Nat, sv = .int .i64 ((fsum cs st i % m : Nat) : Int) ∧ iv = .int .i64 (i : Int) ∧ i ≤ k ∧ Below w.heap.size w wr) (fun _ iv _ => k - (intOf iv).toNat)
    case atStart => exact ⟨0, by rw [fsum, Nat.zero_mod]; rfl, rfl, Nat.zero_le _, Below.refl _ _⟩
    case round =>
      obtain ⟨i, rfl, rfl, hi, hbel⟩ := hrel
      have HB := Lib.hid hbel
      obtain ⟨s, hs⟩ : ∃ s, s = fsum cs st i % m := ⟨_, rfl⟩
      rw [← hs]
      by_cases hik : i = k
      · subst hik
        have hii : ¬ ((i : Int) < (i : Int)) := by omega
        have HNE : Hid (nxt m cs st = st.tail ++ [s]) := Lib.hid (by unfold nxt; rw [if_neg (by rw [← HK.out.1]; omega), ← HK.out.1, ← hs])
        have HSW := Lib.hid (HS.out.later hbel (Nat.le_refl _))
        have hwlen : st.tail.length = i - 1 := by rw [List.length_tail, HK.out.2]
        have HWL := Lib.hid hwlen
        have h1i : 1 ≤ i := by omega
        clear hs hbel hi hk0 hk1 hwlen
        go_wp2_with (with_reducible (refine wpList_slice_from rfl (.tmp 36) (.const (.int .i64 1)) 32 rfl 2 .i64 8 Tryz.underlying32 info_i64 a1 i c1 1 st rfl rfl h1i HSW.out ?_))
        intro ao' hsl
        have HSL := Lib.hid hsl
        clear hsl
        go_wp2_with fail
        refine sown_any _ st.tail _ HSL.out (by rw [HWL.out]; omega) _ ?_
        intro v3 w3 hv3 hb3
        have HV3 := Lib.hid hv3
        have HB3 := Lib.hid (HB.out.trans (hb3.mono HB.out.size))
        have HSZ := Lib.hid hb3.size
        obtain ⟨a3, n3, c3, rfl, hn3⟩ := hv3.shape
        clear hv3 hb3 hn3
        dsimp only
        go_wp2_with (at_builtin; go_must (refine wpList_pushz rfl (.tmp 38) (.tmp 40) 32 rfl 2 .i64 8 Tryz.underlying32 info_i64 (by omega) wr.heap.size _ st.tail s (s : Int) rfl rfl (HV3.out.alloc _) w3.heap.size rfl (World.cell?_alloc_at _ _ _ _ rfl) (by rw [HWL.out]; omega) (by have := HSZ.out; simp; omega) ?_))
        intro v4 w4 hown4 hb4
        have hne4 : v4 ≠ .slice none 0 0 := by
          intro e
          have := hown4.1
          rw [e] at hown4
          rcases hown4.2 with ⟨_, h2⟩ | ⟨g, cap, cur, e2, _⟩
          · rw [List.length_append] at h2; simp at h2
          · cases e2
        have HF := Lib.hid (HR.out v4 w4 (by rw [HNE.out]; exact hown4.mono' HB.out.size) hne4 ((HB3.out.alloc HB3.out.size _).trans (hb4.mono HB.out.size)))
        clear hown4 hb4 hne4
        go_wp2
        first | go_ret | skip
        exact HF.out
      · have hil : i < k := by omega
        obtain ⟨j, hj⟩ : ∃ j, j = k - 1 - i := ⟨_, rfl⟩
        obtain ⟨t, ht⟩ : ∃ t, t = k - 1 := ⟨_, rfl⟩
        obtain ⟨b1, o1, rfl, hb1, hd1⟩ := HC1.out j (by omega)
        obtain ⟨b2, o2, rfl, hb2, hd2⟩ := HC2.out i hil
        rw [← hbel.cell (p := ⟨b1, o1 + j, none⟩) hb1] at hd1
        rw [← hbel.cell (p := ⟨b2, o2 + i, none⟩) hb2] at hd2
        obtain ⟨y, hy⟩ : ∃ y, y = st.getD j 0 := ⟨_, rfl⟩
        obtain ⟨x, hx⟩ : ∃ x, x = cs.getD i 0 := ⟨_, rfl⟩
        rw [← hy] at hd1
        rw [← hx] at hd2
        have hxm : x < m := by rw [hx]; exact getD_lt_of (by omega) HM.out.2 _
        have hym : y < m := by rw [hy]; exact getD_lt_of (by omega) HM.out.1 _
        have hsm : s < m := by rw [hs]; exact Nat.mod_lt _ (by omega)
        obtain ⟨p, hp⟩ : ∃ p, p = x * y := ⟨_, rfl⟩
        have hpm : p ≤ 1000000 * 1000000 := by rw [hp]; exact Nat.mul_le_mul (by omega) (by omega)
        obtain ⟨z, hz⟩ : ∃ z, z = (s + p) % m := ⟨_, rfl⟩
        have hzm : z < m := by rw [hz]; exact Nat.mod_lt _ (by omega)
        have HNX : Hid (z = fsum cs st (i + 1) % m) := Lib.hid (by rw [← fsum_step, hz, hs, hp, hx, hy, hj, HK.out.2])
        have hw1 : IntKind.i64.wrap ((k : Int) - 1) = (t : Int) := by rw [IntWalk.i64_in _ (by omega)]; omega
        have hw2 : IntKind.i64.wrap ((t : Int) - (i : Int)) = (j : Int) := by rw [IntWalk.i64_in _ (by omega)]; omega
        have hw3 : IntKind.i64.wrap ((i : Int) + 1) = ((i + 1 : Nat) : Int) := by rw [IntWalk.i64_in _ (by omega)]; omega
        have hw4 : IntKind.i64.wrap ((x : Int) * (y : Int)) = (p : Int) := by rw [hp, Int.natCast_mul, IntWalk.i64_in _ (by rw [← Int.natCast_mul, ← hp]; omega)]
        have hw5 : IntKind.i64.wrap ((s : Int) + (p : Int)) = (s : Int) + (p : Int) := IntWalk.i64_in _ (by omega)
        have e1 : ((s : Int) + (p : Int)) % (m : Int) = (z : Int) := by rw [hz, Int.natCast_emod, Int.natCast_add]
        have e2 : Int.tmod ((s : Int) + (p : Int)) (m : Int) = (z : Int) := by rw [Int.tmod_eq_emod_of_nonneg (by omega)]; exact e1
        have hw6 : IntKind.i64.wrap (z : Int) = (z : Int) := IntWalk.i64_in _ (by omega)
        have hm0 : ¬ ((m : Int) = 0) := by omega
        have hm2 : ((m : Int) == 0) = false := by rw [beq_eq_false_iff_ne]; omega
        have hm3 : ¬ m = 0 := by omega
        have hi0 : (0 : Int) ≤ (i : Int) := by omega
        have hi1 : (i : Int) < (k : Int) := by omega
        have hj0 : (0 : Int) ≤ (j : Int) := by omega
        have hj1 : (j : Int) < (k : Int) := by omega
        clear hs hj ht hx hy hp hz hbel hb1 hb2 hik hi
        go_wp2
        go_quiet (fail)
        go_wp2
        go_roundw
        case rel => exact ⟨i + 1, by rw [HNX.out], rfl, by omega, below_draws HB.out _⟩
        case measure => simp [intOf]; omega
end Go.Proofs.YtnfehccicnpbpaaGreatDoor

namespace Go.Proofs.YtnfehccicnpbpaaGreatDoor
open Go Go.RowKit

/-- a slice as an element -/
def EV (_ : World) (cs : List Value) (v : Value) : Prop := cs = [v] ∧ ∃ ao n c, v = .slice ao n c
theorem elemV1 : Elem 1 EV where
  len := by rintro w cs x ⟨rfl, _⟩; rfl
  ints := by
    rintro w cs x ⟨rfl, _, _, _, rfl⟩ u hu
    simp at hu; subst hu; rfl
  one := by
    rintro w cs x ⟨rfl, _, _, _, rfl⟩ u hu
    simp at hu; subst hu; rfl
  keep := by rintro w w' g cs x h _ _; exact h

/-- one number is appended to an own list; where the list lies then is told -/
theorem wpList_pushh {P : Program} {w : World} {ops : Array Oper} {rest : List Oper} {o : Oper} {a : Act} {Q : Exit → Act → World → Prop} (hgd : o.guard = none) (s x : Operand) (t : TypeId)
    (ho : o.op = .call { callee := .builtin .append, args := #[s, x], argTypes := #[t, t] })
    (e : TypeId) (k : IntKind) (bytes : Nat) (ht : P.underlying t = some (.slice e)) (hi : (P.info? e).map (fun i => (i.zero, i.size, i.bytes)) = some (some (.int k 0), 1, bytes)) (hby : bytes ≤ 16)
    (B : Nat) (v : Value) (xs : List Nat) (n : Nat) (hs : a.eval s = v) (hown : Own k e w B v xs)
    (g : Nat) (hx : a.eval x = .slice (some ⟨g, 0, none⟩) 1 1) (hg : w.cell? ⟨g, 0, none⟩ = some (.int k ((n : Nat) : Int)))
    (hlen : xs.length ≤ 100000000) (hB : B ≤ w.heap.size)
    (h : ∀ ao m c w', Own k e w' B (.slice ao m c) (xs ++ [n]) → Below B w w' → w.grownBy w' v.ownBlock → ((Value.slice ao m c).ownBlock = v.ownBlock ∨ (Value.slice ao m c).ownBlock = some w.heap.size) → wpList P ops Q rest (a.put o.dst (.slice ao m c)) w') : wpList P ops Q (o :: rest) a w := by
  obtain ⟨i0, hi0, hz0, hz1, hz2⟩ := info_parts hi
  refine wpList_append_own_at (w := w) hgd s x t ho B e i0 (.int k 0) 1 bytes ht hi0 hz0 hz1 hz2 rfl (by decide) v xs.length (nums k xs) hs hown ⟨g, 0, none⟩ 1 1 [.int k ((n : Nat) : Int)] hx rfl ?_ ?_ ?_ ?_ hB ?_
  · intro j u hj
    match j, hj with
    | 0, hj => simp at hj; subst hj; simpa [Addr.add] using hg
  · intro u hu; simp at hu; subst hu; rfl
  · simp only [maxLen]; omega
  · have : (xs.length + 1) * bytes ≤ (xs.length + 1) * 16 := Nat.mul_le_mul_left _ hby
    omega
  · intro v' w' hown' hgr _ hwh
    have h9 : Own k e w' B v' (xs ++ [n]) := by simpa [Own, nums] using hown'
    obtain ⟨ao, m, c, rfl, _⟩ := h9.shape
    exact h ao m c w' h9 ((Below.refl B w).grown hgr hB (fun g' hg' => (Own.ownBlock hown g' hg').1)) hgr hwh

theorem Own.blkB {k : IntKind} {e : TypeId} {w : World} {B : Nat} {v : Value} {xs : List Nat} (h : Own k e w B v xs) : ∀ g, v.ownBlock = some g → B ≤ g ∧ g < w.heap.size := Own.ownBlock h

/-- an own list of numbers stays where another block turns -/
theorem Own.grownN {k : IntKind} {e : TypeId} {w w' : World} {B : Nat} {v : Value} {xs : List Nat} {o : Option Nat} (h : Own k e w B v xs) (hg : w.grownBy w' o) (hne : ∀ g, v.ownBlock = some g → some g ≠ o) : Own k e w' B v xs := by
  obtain ⟨h1, h2⟩ := h
  refine ⟨h1, ?_⟩
  rcases h2 with h2 | ⟨g, cap, cur, rfl, hb, hh, h3⟩
  · exact .inl h2
  · exact .inr ⟨g, cap, cur, rfl, hb, by rw [hg.block g (lt_of_block hh) (hne g rfl)]; exact hh, h3⟩

theorem OwE.grownV {e : TypeId} {w w' : World} {B : Nat} {v : Value} {L : List Value} {o : Option Nat} (h : OwE 1 EV e w B v L) (hg : w.grownBy w' o) (hne : ∀ g, v.ownBlock = some g → some g ≠ o) : OwE 1 EV e w' B v L := by
  rcases h with h | ⟨g, cap, cur, rfl, h2, h3, h4⟩
  · exact .inl h
  · exact .inr ⟨g, cap, cur, rfl, h2, by rw [hg.block g (lt_of_block h3) (hne g rfl)]; exact h3, h4⟩

theorem Sl.grownN {k : IntKind} {w w' : World} {v : Value} {xs : List Nat} {o : Option Nat} (h : Sl k w v xs) (hg : w.grownBy w' o) (hne : 0 < xs.length → ∀ g, blk v = some g → some g ≠ o) : Sl k w' v xs := by
  obtain ⟨ao, cap, rfl, hc, hx⟩ := h
  refine ⟨ao, cap, rfl, hc, fun i hi => ?_⟩
  obtain ⟨b, off, rfl, h2, h3⟩ := hx i hi
  exact ⟨b, off, rfl, Nat.lt_of_lt_of_le h2 hg.size, by rw [World.cell?_of_block (w := w) (hg.block b h2 (hne (by omega) b rfl))]; exact h3⟩

/-- a list of numbers and a list of slices do not lie in one block -/
theorem own_apart {k : IntKind} {e e' : TypeId} {w : World} {B B' : Nat} {v v' : Value} {xs : List Nat} {L : List Value} (h : Own k e w B v xs) (h0 : 0 < xs.length) (h' : OwE 1 EV e' w B' v' L) : ∀ g, v.ownBlock = some g → v'.ownBlock ≠ some g := by
  intro g hg hg'
  rcases h' with ⟨rfl, _⟩ | ⟨g', cap, cur, rfl, _, h3, _, _, _, h7, _⟩
  · cases hg'
  · obtain rfl : g' = g := by simpa [Value.ownBlock] using hg'
    obtain ⟨h1, h2⟩ := h
    rcases h2 with ⟨rfl, h2⟩ | ⟨g2, cap2, cur2, rfl, _, hh, hn, _, hs, ht⟩
    · omega
    · obtain rfl : g2 = g' := by simpa [Value.ownBlock] using hg
      rw [hh] at h3
      simp only [Option.some.injEq, Obj.cells.injEq] at h3
      obtain ⟨rfl, _⟩ := h3
      have hm : (.int k ((xs.getD 0 0 : Nat) : Int) : Value) ∈ cur2.toList := by
        have := nums_get k xs 0 h0
        rw [← ht] at this
        exact List.mem_of_mem_take (List.mem_of_getElem? this)
      have := h7 _ hm
      cases this

theorem sl_apart {k : IntKind} {e' : TypeId} {w : World} {B' : Nat} {v v' : Value} {xs : List Nat} {L : List Value} (h : Sl k w v xs) (h0 : 0 < xs.length) (h' : OwE 1 EV e' w B' v' L) : ∀ g, blk v = some g → v'.ownBlock ≠ some g := by
  intro g hg hg'
  rcases h' with ⟨rfl, _⟩ | ⟨g', cap, cur, rfl, _, h3, _, _, _, h7, _⟩
  · cases hg'
  · obtain rfl : g' = g := by simpa [Value.ownBlock] using hg'
    obtain ⟨ao, cap', rfl, _, hx⟩ := h
    obtain ⟨b, off, rfl, hb, hc⟩ := hx 0 h0
    obtain rfl : b = g' := by simpa [blk] using hg
    simp only [World.cell?, h3, Option.isSome_none, Bool.false_eq_true, if_false] at hc
    rw [← Array.getElem?_toList] at hc
    have := h7 _ (List.mem_of_getElem? hc)
    cases this

/-- the codes of the first states -/
def codes (m k : Nat) (cs ss : List Nat) (n : Nat) : List Nat := (List.range n).map fun i => codeN m (sta m cs ss i) k
theorem codes_len (m k : Nat) (cs ss : List Nat) (n : Nat) : (codes m k cs ss n).length = n := by simp [codes]
theorem codes_succ (m k : Nat) (cs ss : List Nat) (n : Nat) : codes m k cs ss (n + 1) = codes m k cs ss n ++ [codeN m (sta m cs ss n) k] := by simp [codes, List.range_succ]
theorem codes_at {m k : Nat} {cs ss : List Nat} {n i : Nat} (h : i < n) : (codes m k cs ss n).getD i 0 = codeN m (sta m cs ss i) k := by simp [codes, List.getD_eq_getElem?_getD, h]

/-- n states and their codes -/
def WkS (B : Nat) (w : World) (m k : Nat) (cs ss : List Nat) (vs vc : Value) (n : Nat) : Prop :=
  ∃ L : List Value, L.length = n ∧ OwE 1 EV 32 w B vs L ∧ Own .i64 2 w B vc (codes m k cs ss n) ∧
    ∀ i v, L[i]? = some v → Sl .i64 w v (sta m cs ss i) ∧ (0 < k → ∀ g, blk v = some g → some g ≠ vc.ownBlock)

theorem WkS.later {B : Nat} {w w' : World} {m k : Nat} {cs ss : List Nat} {vs vc : Value} {n : Nat} (h : WkS B w m k cs ss vs vc n) (hb : Below w.heap.size w w') : WkS B w' m k cs ss vs vc n := by
  obtain ⟨L, h1, h2, h3, h4⟩ := h
  exact ⟨L, h1, h2.later elemV1 hb (Nat.le_refl _), h3.later hb (Nat.le_refl _), fun i v hi => ⟨(h4 i v hi).1.later hb (Nat.le_refl _), (h4 i v hi).2⟩⟩

/-- a state is added -/
theorem WkS.pushS {B : Nat} {w w' : World} {m k : Nat} {cs ss : List Nat} {vs vc x : Value} {n : Nat} {L : List Value} (hn : 0 < n) (h1 : L.length = n) (h2 : OwE 1 EV 32 w B vs L) (h3 : Own .i64 2 w B vc (codes m k cs ss n))
    (h4 : ∀ i v, L[i]? = some v → Sl .i64 w v (sta m cs ss i) ∧ (0 < k → ∀ g, blk v = some g → some g ≠ vc.ownBlock)) (hx : Sl .i64 w x (sta m cs ss n)) (hxc : 0 < k → ∀ g, blk x = some g → some g ≠ vc.ownBlock)
    (hg : w.grownBy w' vs.ownBlock) :
    (L ++ [x]).length = n + 1 ∧ Own .i64 2 w' B vc (codes m k cs ss n) ∧
      ∀ i v, (L ++ [x])[i]? = some v → Sl .i64 w' v (sta m cs ss i) ∧ (0 < k → ∀ g, blk v = some g → some g ≠ vc.ownBlock) := by
  have hap : ∀ v st, Sl .i64 w v st → 0 < st.length → ∀ g, blk v = some g → some g ≠ vs.ownBlock := fun v st hs h0 g hgv e => sl_apart hs h0 h2 g hgv e.symm
  refine ⟨by rw [List.length_append, h1]; rfl, h3.grownN hg (fun g hgv e => own_apart h3 (by rw [codes_len]; exact hn) h2 g hgv e.symm), fun i v hi => ?_⟩
  rcases Nat.lt_or_ge i L.length with hl | hl
  · rw [List.getElem?_append_left hl] at hi
    obtain ⟨k1, k2⟩ := h4 i v hi
    exact ⟨k1.grownN hg (fun h0 g hgv => hap v _ k1 h0 g hgv), k2⟩
  · rw [List.getElem?_append_right hl] at hi
    have hz : i - L.length = 0 := by
      rcases Nat.eq_zero_or_pos (i - L.length) with h0 | h0
      · exact h0
      · rw [List.getElem?_eq_none (by simp; omega)] at hi; cases hi
    rw [hz] at hi
    simp at hi
    subst hi
    obtain rfl : i = n := by omega
    exact ⟨hx.grownN hg (fun h0 g hgv => hap x _ hx h0 g hgv), hxc⟩

/-- a code is added -/
theorem WkS.pushC {B : Nat} {w w' : World} {m k : Nat} {cs ss : List Nat} {vs vc vc' : Value} {n : Nat} {L : List Value} (hk : ∀ i, (sta m cs ss i).length = k) (hn : 0 < n) (h1 : L.length = n + 1) (h2 : OwE 1 EV 32 w B vs L) (h3 : Own .i64 2 w B vc (codes m k cs ss n))
    (h4 : ∀ i v, L[i]? = some v → Sl .i64 w v (sta m cs ss i) ∧ (0 < k → ∀ g, blk v = some g → some g ≠ vc.ownBlock))
    (hg : w.grownBy w' vc.ownBlock) (hc : Own .i64 2 w' B vc' (codes m k cs ss (n + 1))) (hwh : vc'.ownBlock = vc.ownBlock ∨ vc'.ownBlock = some w.heap.size) : WkS B w' m k cs ss vs vc' (n + 1) := by
  refine ⟨L, h1, h2.grownV hg (fun g hgv e => own_apart h3 (by rw [codes_len]; exact hn) h2 g e.symm hgv), hc, fun i v hi => ?_⟩
  obtain ⟨k1, k2⟩ := h4 i v hi
  refine ⟨k1.grownN hg (fun h0 g hgv => k2 (by rw [← hk i]; exact h0) g hgv), fun h0 g hgv e => ?_⟩
  rcases hwh with hw | hw
  · exact k2 h0 g hgv (by rw [← hw]; exact e)
  · rw [hw] at e
    obtain rfl : g = w.heap.size := Option.some.inj e
    obtain ⟨ao, cap, rfl, _, hx⟩ := k1
    obtain ⟨b, off, rfl, hb, _⟩ := hx 0 (by rw [hk i]; exact h0)
    simp [blk] at hgv
    omega
end Go.Proofs.YtnfehccicnpbpaaGreatDoor

namespace Go.Proofs.YtnfehccicnpbpaaGreatDoor
open Go Go.RowKit

theorem code_eq {m k : Nat} {a b : List Nat} (h : a = b) : codeN m a k = codeN m b k := by rw [h]

theorem info_sli : (Tryz.prog.info? 32).map (fun i => (i.zero, i.size, i.bytes)) = some (some (.slice none 0 0), 1, 24) := by kernel_rfl

def lenV : Value → Nat
  | .slice _ n _ => n
  | _ => 0

theorem OwE.one {e : TypeId} (w : World) (v : Value) (hv : ∃ ao n c, v = .slice ao n c) : OwE 1 EV e (w.alloc (.cells #[v] e)) w.heap.size (.slice (some ⟨w.heap.size, 0, none⟩) 1 1) [v] := by
  refine .inr ⟨w.heap.size, 1, #[v], rfl, Nat.le_refl _, ?_, Nat.le_refl _, by simp only [maxLen]; omega, rfl, ?_, ?_⟩
  · show (w.heap.push _)[_]? = _
    simp
  · intro u hu
    simp at hu
    subst hu
    obtain ⟨_, _, _, rfl⟩ := hv
    rfl
  · intro i x hi
    cases i with
    | zero => simp at hi; subst hi; exact ⟨rfl, hv⟩
    | succ i => simp at hi

/-- a state's slice lies in its list -/
theorem OwE.cellV {e : TypeId} {w : World} {B n c : Nat} {ao : Option Addr} {L : List Value} (h : OwE 1 EV e w B (.slice ao n c) L) {i : Nat} {v : Value} (hi : L[i]? = some v) {W : World} (hb : Below w.heap.size w W) : ∃ b off, ao = some ⟨b, off, none⟩ ∧ W.cell? ⟨b, off + i, none⟩ = some v ∧ ∃ a' n' c', v = .slice a' n' c' := by
  obtain ⟨b, off, cs, e1, hlt, hc, hE⟩ := SlE.at h.sl i v hi
  obtain ⟨rfl, hsh⟩ := hE
  have := hc 0 v rfl
  rw [Nat.mul_one, Nat.add_zero] at this
  exact ⟨b, off, e1, by rw [hb.cell (p := ⟨b, off + i, none⟩) hlt]; exact this, hsh⟩

def WkR (B : Nat) (w : World) (m k : Nat) (C S : List Nat) (vs vc : Value) (wr : World) : Prop :=
  ∃ n : Nat, 1 ≤ n ∧ n ≤ 5001 ∧ WkS B wr m k C S vs vc n ∧ NoPer (sta m C S) (n - 1) ∧ Below w.heap.size w wr

set_option maxRecDepth 100000 in
set_option maxHeartbeats 16000000 in
theorem swalk_any (m : Nat) (b n1 n2 c1 c2 : Nat) (a1 a2 : Option Addr) (L1 L2 : List ByteArray) (w : World) (hbx : Box2 w b (.slice a1 n1 c1) (.slice a2 n2 c2) 28)
    (h1 : TxL w (.slice a1 n1 c1) L1) (h2 : TxL w (.slice a2 n2 c2) L2) (hw : wholeB L1 L2 = true) (hm : 2 ≤ m) (hm2 : m ≤ 1000000) (R : Ending → World → Prop)
    (hR1 : ∀ p q B vs vc w', Per (sta m (resL m L2) (resL m L1)) p q → p + q ≤ 5000 → WkS B w' m L2.length (resL m L2) (resL m L1) vs vc (p + q) → Below w.heap.size w w' → R (.returned (.tuple #[vs, .int .i64 ((p : Nat) : Int), .bool true])) w')
    (hR2 : ∀ B vs vc w', NoPer (sta m (resL m L2) (resL m L1)) 5000 → WkS B w' m L2.length (resL m L2) (resL m L1) vs vc 5001 → Below w.heap.size w w' → R (.returned (.tuple #[vs, .int .i64 0, .bool false])) w') :
    Calls Tryz.prog 65 #[.pointer (some ⟨b, 0, none⟩), .int .i64 ((m : Nat) : Int)] w R := by
  have HR1 := Lib.hid hR1; clear hR1
  have HR2 := Lib.hid hR2; clear hR2
  have HBX := Lib.hid hbx
  have H1 := Lib.hid h1
  have H2 := Lib.hid h2
  have HP := Lib.hid (whole_parts hw)
  obtain ⟨hA0, hA1, _, _⟩ := hbx.cells
  obtain ⟨C, hC⟩ : ∃ C, C = resL m L2 := ⟨_, rfl⟩
  obtain ⟨S, hS⟩ : ∃ S, S = resL m L1 := ⟨_, rfl⟩
  obtain ⟨k, hk⟩ : ∃ k, k = L2.length := ⟨_, rfl⟩
  have hkC : C.length = k := by rw [hC, resL_len, hk]
  have hkS : S.length = C.length := by rw [hC, hS, resL_len, resL_len]; exact HP.out.1
  have hk8 : k ≤ 8 := by rw [hk]; exact HP.out.2.2.1
  have HCM : Hid ((∀ x ∈ C, x < m) ∧ (∀ n, ∀ x ∈ sta m C S n, x < m) ∧ ∀ n, (sta m C S n).length = k) := Lib.hid ⟨by rw [hC]; exact resL_lt (by omega) _, fun n => sta_lt (by omega) (by rw [hS]; exact resL_lt (by omega) _) n, fun n => by rw [sta_len hkS, hkC]⟩
  rw [← hC, ← hS, ← hk] at HR1 HR2
  have HD := Lib.hid (And.intro hC (And.intro hS (And.intro hkC hkS)))
  clear hbx h1 h2 hw hC hS hk hkC hkS
  go_enter Tryz.func65, Tryz.ntmps65
  go_wp2_with fail
  refine sresidues_any _ L2 m _ H2.out HP.out.2.2.2.2.1 (by have := HP.out.2.2.1; omega) hm hm2 _ ?_
  intro v3 w3 hv3 hb3
  have HC3 : Hid (Sl .i64 w3 v3 C) := Lib.hid (by rw [HD.out.1]; exact hv3.sl)
  obtain ⟨a5, n5, c5, rfl, hn5⟩ := hv3.shape
  have e5 : n5 = k := by rw [hn5, ← HD.out.1]; exact HD.out.2.2.1
  subst e5
  have HB3 := Lib.hid hb3
  clear hA0 hA1
  obtain ⟨hA0, hA1, _, _⟩ := (HBX.out.later hb3 (lt_of_block HBX.out)).cells
  clear hv3 hb3 hn5
  dsimp only
  go_wp2_with fail
  refine sresidues_any _ L1 m _ (H1.out.later HB3.out (Nat.le_refl _)) HP.out.2.2.2.1 (by have := HP.out.2.1; omega) hm hm2 _ ?_
  intro v4 w4 hv4 hb4
  have HS4 : Hid (Own .i64 2 w4 w3.heap.size v4 S) := Lib.hid (by rw [HD.out.2.1]; exact hv4)
  obtain ⟨a6, n6, c6, rfl, hn6⟩ := hv4.shape
  have e6 : n6 = n5 := by rw [hn6, ← HD.out.2.1, HD.out.2.2.2]; exact HD.out.2.2.1
  subst e6
  have HB4 := Lib.hid (HB3.out.trans (hb4.mono HB3.out.size))
  have HC4 := Lib.hid (HC3.out.later hb4 (Nat.le_refl _))
  clear hv4 hb4 hn6 hA0 hA1
  dsimp only
  obtain ⟨V, hV⟩ : ∃ V, V = w4.alloc (.cells #[.slice a6 n6 c6] 32) := ⟨_, rfl⟩
  have HV := Lib.hid hV
  have HOV : Hid (OwE 1 EV 32 V w4.heap.size (.slice (some ⟨w4.heap.size, 0, none⟩) 1 1) [.slice a6 n6 c6]) := Lib.hid (by rw [hV]; exact OwE.one w4 _ ⟨_, _, _, rfl⟩)
  have hbV : Below w4.heap.size w4 V := by rw [hV]; exact (Below.refl _ _).alloc (Nat.le_refl _) _
  have HVS : Hid (V.heap.size = w4.heap.size + 1) := Lib.hid (by rw [hV]; simp)
  have HBV := Lib.hid hbV
  have HSV := Lib.hid ((HS4.out.later hbV (Nat.le_refl _)).sl)
  have hcv := World.cell?_alloc_at #[.slice a6 n6 c6] 32 w4.heap.size 0 (w := w4) rfl
  clear hV hbV
  have hcv0 : (w4.alloc (.cells #[.slice a6 n6 c6] 32)).cell? ⟨w4.heap.size, 0, none⟩ = some (.slice a6 n6 c6) := by
    rw [World.cell?_alloc_at _ _ _ _ rfl]; rfl
  clear hcv
  go_wp2_with fail
  rw [← HV.out]
  have hSl : S.length = n6 := by have := HD.out.2.2.1; have := HD.out.2.2.2; omega
  refine scode_any m _ S _ HSV.out hm2 (HCM.out.2.1 0) hm (by rw [hSl]; omega) _ ?_
  rw [hSl]
  obtain ⟨c0, hc0⟩ : ∃ c0, c0 = codeN m S n6 := ⟨_, rfl⟩
  rw [← hc0]
  have HST : Hid (WkR w4.heap.size w4 m n6 C S (.slice (some ⟨w4.heap.size, 0, none⟩) 1 1) (.slice (some ⟨V.heap.size, 0, none⟩) 1 1) (V.alloc (.cells #[.int .i64 ((c0 : Nat) : Int)] 2))) := Lib.hid (by
    have hbW : Below V.heap.size V (V.alloc (.cells #[.int .i64 ((c0 : Nat) : Int)] 2)) := (Below.refl _ _).alloc (Nat.le_refl _) _
    refine ⟨1, Nat.le_refl _, by omega, ⟨[.slice a6 n6 c6], rfl, HOV.out.later elemV1 hbW (Nat.le_refl _), ?_, fun i v hi => ?_⟩, fun i j hij hj => by omega, HBV.out.trans (hbW.mono (by have := HVS.out; omega))⟩
    · have e : codes m n6 C S 1 = [c0] := by rw [hc0]; rfl
      rw [e]
      exact (Own.lit1 .i64 2 V V.heap.size c0 _ rfl (Nat.le_refl _)).mono' (by have := HVS.out; omega)
    · cases i with
      | succ i => simp at hi
      | zero =>
        simp at hi
        subst hi
        refine ⟨HSV.out.later hbW (Nat.le_refl _), fun h0 g hg e => ?_⟩
        have hg2 : g = V.heap.size := by simpa [Value.ownBlock] using e
        have := (HS4.out.blkB g hg).2
        have := HVS.out
        omega)
  clear hcv0 hSl hc0
  have HSZ := Lib.hid (show w4.heap.size ≤ V.heap.size by rw [HVS.out]; omega)
  have hn8 : n6 ≤ 8 := hk8
  have HKN : Hid (n6 = L2.length) := Lib.hid (by have := HD.out.2.2.1; rw [HD.out.1, resL_len] at this; exact this.symm)
  dsimp only
  go_wp2
  go_loopw [8, 9] (fun vs vc wr => WkR w4.heap.size w4 m n6 C S vs vc wr) (fun vs _ _ => 5002 - lenV vs)
  case atStart => exact HST.out
  case round =>
    clear HST
    obtain ⟨n, hn1, hn2, hwk, hno, hbel⟩ := hrel
    have HWK := Lib.hid hwk
    obtain ⟨LL, hl1, hl2, hl3, hl4⟩ := hwk
    obtain ⟨as', ns, cs', rfl, hns⟩ := hl2.shape
    obtain ⟨ac, nc, cc, rfl, hnc⟩ := hl3.shape
    rw [hl1] at hns
    subst hns
    rw [codes_len] at hnc
    subst hnc
    have HNO := Lib.hid hno
    have HB := Lib.hid hbel
    have HBW := Lib.hid (HB4.out.trans (hbel.mono HB4.out.size))
    by_cases hend : 5000 < nc
    · obtain rfl : nc = 5001 := by omega
      have HF := Lib.hid (HR2.out w4.heap.size _ _ wr HNO.out HWK.out HBW.out)
      have hle : ¬ ((5001 : Nat) : Int) ≤ 5000 := by omega
      clear hl1 hl2 hl3 hl4 hno hbel hend hn1 hn2
      go_wp2
      first | go_ret3 | skip
      exact HF.out
    · have hle : (nc : Int) ≤ 5000 := by omega
      obtain ⟨j, hj⟩ : ∃ j, j = nc - 1 := ⟨_, rfl⟩
      obtain ⟨vj, hvj⟩ : ∃ vj, LL[j]? = some vj := ⟨_, List.getElem?_eq_getElem (by omega)⟩
      obtain ⟨b1, o1, rfl, hcj, a7, n7, c7, rfl⟩ := hl2.cellV hvj (Below.refl _ _)
      have hslj := (hl4 j _ hvj).1
      have hn7 : n7 = n6 := by rw [hslj.len, HCM.out.2.2]
      subst hn7
      have HSLJ := Lib.hid hslj
      have HCW := Lib.hid (HC4.out.later hbel (Nat.le_refl _))
      have hw1 : IntKind.i64.wrap ((nc : Int) - 1) = (j : Int) := by rw [IntWalk.i64_in _ (by omega)]; omega
      have hj0 : (0 : Int) ≤ (j : Int) := by omega
      have hj1 : (j : Int) < (nc : Int) := by omega
      have HJ := Lib.hid (show j + 1 = nc by omega)
      have HN := Lib.hid (show 1 ≤ nc ∧ nc ≤ 5000 by omega)
      clear hl1 hl2 hl3 hl4 hno hbel hend hn1 hn2 hslj hvj hj
      go_wp2_with fail
      refine snext_any m _ _ (sta m C S j) C _ HSLJ.out HCW.out (by rw [HCM.out.2.2, HD.out.2.2.1]) (HCM.out.2.1 j) HCM.out.1 hm hm2 (by rw [HD.out.2.2.1]; omega) _ ?_
      intro v6 w6 hv6 hne6 hb6
      have hnx : nxt m C (sta m C S j) = sta m C S nc := by rw [← HJ.out, sta]
      rw [hnx] at hv6
      have HV6 := Lib.hid hv6
      obtain ⟨a8, n8, c8, rfl, hn8'⟩ := hv6.shape
      have e8 : n8 = n7 := by rw [hn8', HCM.out.2.2]
      subst e8
      have HB6 := Lib.hid hb6
      have HWK6 := Lib.hid (HWK.out.later hb6)
      clear hv6 hne6 hb6 hnx hn8' hcj hw1 hj0 hj1
      dsimp only
      go_wp2_with fail
      refine scode_any m _ (sta m C S nc) _ HV6.out.sl hm2 (HCM.out.2.1 nc) hm (by rw [HCM.out.2.2]; omega) _ ?_
      rw [HCM.out.2.2]
      obtain ⟨cn, hcn⟩ : ∃ cn, cn = codeN m (sta m C S nc) n8 := ⟨_, rfl⟩
      rw [← hcn]
      have HCN := Lib.hid hcn
      have HXC : Hid (∀ g, blk (Value.slice a8 n8 c8) = some g → some g ≠ (Value.slice ac nc cc).ownBlock) := Lib.hid (by
        intro g hg e
        have h1 := (HV6.out.blkB g hg).1
        obtain ⟨_, _, _, h3, _⟩ := HWK.out
        have h2 := (h3.blkB g e.symm).2
        omega)
      clear hcn
      obtain ⟨wo, hwo⟩ : ∃ wo : World, wo = wr := ⟨_, rfl⟩
      subst hwo
      dsimp only
      go_wp2
      go_loopw [12] (fun iv wq => ∃ i : Nat, iv = .int .i64 (i : Int) ∧ i ≤ nc ∧ (∀ q, q < i → sta m C S q ≠ sta m C S nc) ∧ Below w6.heap.size w6 wq) (fun iv _ => nc - (intOf iv).toNat)
      case atStart => exact ⟨0, rfl, Nat.zero_le _, fun q hq => by omega, Below.refl _ _⟩
      case round =>
        obtain ⟨i, rfl, hi, hall, hbq⟩ := hrel
        have HALL := Lib.hid hall
        have HBQ := Lib.hid hbq
        have HWQ := Lib.hid (HWK6.out.later hbq)
        have HVQ := Lib.hid (HV6.out.later hbq (Nat.le_refl _))
        have HB6Q := Lib.hid (HB6.out.trans (hbq.mono HB6.out.size))
        clear hall hbq
        by_cases hin : i = nc
        · subst hin
          have hii : ¬ ((i : Int) < (i : Int)) := by omega
          have HNO2 : Hid (NoPer (sta m C S) i) := Lib.hid (by
            intro p q hpq hq
            rcases Nat.lt_or_ge q i with h1 | h1
            · exact HNO.out p q hpq (by omega)
            · obtain rfl : q = i := by omega
              exact HALL.out p hpq)
          have HBX : Hid (Below wr.heap.size wr (wr.alloc (.cells #[.slice a8 n8 c8] 32))) := Lib.hid ((Below.refl _ _).alloc (Nat.le_refl _) _)
          have hwx := HWQ.out.later HBX.out
          obtain ⟨LX, x1, x2, x3, x4⟩ := hwx
          have HX := Lib.hid (And.intro x1 (And.intro x2 (And.intro x3 x4)))
          have HVX := Lib.hid (HVQ.out.later HBX.out (Nat.le_refl _))
          have HSZ2 := Lib.hid (show w4.heap.size ≤ wr.heap.size from Nat.le_trans HB.out.size HB6Q.out.size)
          clear hi x1 x2 x3 x4
          go_wp2_with (at_builtin; go_must (refine wpList_pushE elemV1 (by omega) rfl (.tmp 69) (.tmp 71) 78 rfl 32 24 (.slice none 0 0) Tryz.underlying78 info_sli rfl (by intro u hu; simp [Value.cells] at hu; subst hu; rfl) (by omega) w4.heap.size LX HX.out.2.1 (by rw [HX.out.1]; omega) (by have := HSZ2.out; simp; omega) wr.heap.size [.slice a8 n8 c8] (.slice a8 n8 c8) rfl ⟨rfl, _, _, _, rfl⟩ (cells_alloc wr #[.slice a8 n8 c8] _ _ (by simp)) ?_))
          intro ao9 n9 c9 w9 hown9 hn9 hgr9 hb9
          have e9 : n9 = i + 1 := by rw [hn9, HX.out.1]
          subst e9
          obtain ⟨y1, y2, y3⟩ := WkS.pushS (by have := HN.out; omega) HX.out.1 HX.out.2.1 HX.out.2.2.1 HX.out.2.2.2 HVX.out.sl (fun _ => HXC.out) hgr9
          have hbY : Below w9.heap.size w9 (w9.alloc (.cells #[.int .i64 ((cn : Nat) : Int)] 2)) := (Below.refl _ _).alloc (Nat.le_refl _) _
          have HB9 : Hid (Below w4.heap.size w4 w9) := Lib.hid (((HB.out.trans (HB6Q.out.mono HB.out.size)).alloc HSZ2.out _).trans hb9)
          have HY : Hid (OwE 1 EV 32 (w9.alloc (.cells #[.int .i64 ((cn : Nat) : Int)] 2)) w4.heap.size (.slice ao9 (i + 1) c9) (LX ++ [Value.slice a8 n8 c8]) ∧ (LX ++ [Value.slice a8 n8 c8]).length = i + 1 ∧ Own .i64 2 (w9.alloc (.cells #[.int .i64 ((cn : Nat) : Int)] 2)) w4.heap.size (.slice ac i cc) (codes m n8 C S i) ∧
              ∀ q v, (LX ++ [Value.slice a8 n8 c8])[q]? = some v → Sl .i64 (w9.alloc (.cells #[.int .i64 ((cn : Nat) : Int)] 2)) v (sta m C S q) ∧ (0 < n8 → ∀ g, blk v = some g → some g ≠ (Value.slice ac i cc).ownBlock)) := Lib.hid
            ⟨hown9.later elemV1 hbY (Nat.le_refl _), y1, y2.later hbY (Nat.le_refl _), fun q v hq => ⟨(y3 q v hq).1.later hbY (Nat.le_refl _), (y3 q v hq).2⟩⟩
          clear hown9 hn9 hgr9 hb9 y1 y2 y3 hbY
          go_wp2_with (at_builtin; go_must (refine wpList_pushh rfl (.tmp 73) (.tmp 75) 32 rfl 2 .i64 8 Tryz.underlying32 info_i64 (by omega) w4.heap.size _ (codes m n8 C S i) cn rfl HY.out.2.2.1 w9.heap.size rfl (World.cell?_alloc_at _ _ _ _ rfl) (by rw [codes_len]; omega) (by have := HB9.out.size; simp; omega) ?_))
          intro ao10 n10 c10 w10 hown10 hb10 hgr10 hwh10
          have hcc : Own .i64 2 w10 w4.heap.size (.slice ao10 n10 c10) (codes m n8 C S (i + 1)) := by rw [codes_succ, ← HCN.out]; exact hown10
          have HNX : Hid (WkR w4.heap.size w4 m n8 C S (.slice ao9 (i + 1) c9) (.slice ao10 n10 c10) w10) := Lib.hid
            ⟨i + 1, by omega, by have := HN.out; omega, WkS.pushC HCM.out.2.2 (by have := HN.out; omega) HY.out.2.1 HY.out.1 HY.out.2.2.1 HY.out.2.2.2 hgr10 hcc (by rw [World.size_alloc]; exact hwh10), by rw [Nat.add_sub_cancel]; exact HNO2.out, (HB9.out.alloc HB9.out.size _).trans hb10⟩
          clear hown10 hb10 hgr10 hwh10 hcc
          go_wp2
          go_roundw
          case rel => exact HNX.out
          case measure => simp [lenV]; have := HN.out; omega
        · have hil : i < nc := by omega
          obtain ⟨LQ, q1, q2, q3, q4⟩ := HWQ.out
          obtain ⟨vi, hvi⟩ : ∃ vi, LQ[i]? = some vi := ⟨_, List.getElem?_eq_getElem (by omega)⟩
          obtain ⟨b5, o5, eb5, hci, a9, n9, c9, rfl⟩ := q2.cellV hvi (Below.refl _ _)
          cases eb5
          have hsli := (q4 i _ hvi).1
          have hn9 : n9 = n8 := by rw [hsli.len, HCM.out.2.2]
          subst hn9
          obtain ⟨b6, o6, eb6, hcd⟩ := q3.sl.cellAt2 (i := i) (by rw [codes_len]; exact hil) (Below.refl _ _)
          cases eb6
          rw [codes_at hil] at hcd
          obtain ⟨ci, hcI⟩ : ∃ ci, ci = codeN m (sta m C S i) n9 := ⟨_, rfl⟩
          rw [← hcI] at hcd
          have HSLI := Lib.hid hsli
          have hi0 : (0 : Int) ≤ (i : Int) := by omega
          have hi1 : (i : Int) < (nc : Int) := by omega
          have hw4' : IntKind.i64.wrap ((i : Int) + 1) = ((i + 1 : Nat) : Int) := by have := HN.out; rw [IntWalk.i64_in _ (by omega)]; omega
          have HIL := Lib.hid hil
          by_cases heq : sta m C S i = sta m C S nc
          · have hce : ci = cn := by rw [hcI, HCN.out, heq]
            have e1 : ((ci : Int) == (cn : Int)) = true := by rw [hce]; simp
            have HF : Hid (∀ w', Below wr.heap.size wr w' → R (.returned (.tuple #[.slice (some ⟨b1, o1, none⟩) nc cs', .int .i64 ((i : Nat) : Int), .bool true])) w') := Lib.hid fun w' hb => by
              have e2 : i + (nc - i) = nc := by omega
              exact HR1.out i (nc - i) w4.heap.size _ (.slice (some ⟨b6, o6, none⟩) nc cc) w' ⟨by omega, by rw [e2]; exact heq, fun p q hpq hq => HNO.out p q hpq (by omega)⟩ (by have := HN.out; omega) (by rw [e2]; exact HWQ.out.later hb) ((HBW.out.trans (HB6Q.out.mono HBW.out.size)).trans (hb.mono (Nat.le_trans HBW.out.size HB6Q.out.size)))
            have HEQ := Lib.hid heq
            clear q1 q2 q3 q4 hvi hsli hcI heq hce hin hil
            go_wp2_with fail
            refine ssame_any _ _ (sta m C S i) (sta m C S nc) _ HSLI.out HVQ.out.sl (by rw [HCM.out.2.2]; omega) _ ?_
            intro w7 hb7
            rw [decide_eq_true HEQ.out]
            have HFF := Lib.hid (HF.out w7 hb7)
            clear hb7
            dsimp only
            go_wp2
            first | go_ret3 | skip
            exact HFF.out
          · have HNE := Lib.hid heq
            have HNX : Hid (∀ w', Below wr.heap.size wr w' → ∃ i' : Nat, (Value.int .i64 ((i + 1 : Nat) : Int)) = .int .i64 (i' : Int) ∧ i' ≤ nc ∧ (∀ q, q < i' → sta m C S q ≠ sta m C S nc) ∧ Below w6.heap.size w6 w') := Lib.hid fun w' hb =>
              ⟨i + 1, rfl, HIL.out, fun q hq => by
                rcases Nat.lt_or_ge q i with h1 | h1
                · exact HALL.out q h1
                · rw [show q = i by omega]; exact HNE.out, HBQ.out.trans (hb.mono HBQ.out.size)⟩
            by_cases hce : ci = cn
            · have e1 : ((ci : Int) == (cn : Int)) = true := by rw [hce]; simp
              clear q1 q2 q3 q4 hvi hsli hcI heq hce hin hil hi
              go_wp2_with fail
              refine ssame_any _ _ (sta m C S i) (sta m C S nc) _ HSLI.out HVQ.out.sl (by rw [HCM.out.2.2]; omega) _ ?_
              intro w7 hb7
              rw [decide_eq_false HNE.out]
              have HNXX := Lib.hid (HNX.out w7 hb7)
              clear hb7
              dsimp only
              go_wp2
              go_roundw
              case rel => exact HNXX.out
              case measure => simp [intOf]; have := HIL.out; omega
            · have e1 : ((ci : Int) == (cn : Int)) = false := by rw [beq_eq_false_iff_ne]; omega
              clear q1 q2 q3 q4 hvi hsli hcI heq hce hin hil hi
              go_wp2
              go_roundw
              case rel => exact HNX.out _ (Below.refl _ _)
              case measure => simp [intOf]; have := HIL.out; omega
end Go.Proofs.YtnfehccicnpbpaaGreatDoor

namespace Go.Proofs.YtnfehccicnpbpaaGreatDoor
open Go Go.RowKit

/-- there is a period whose end the walk reaches -/
def HasPer (L1 L2 : List ByteArray) (m : Int) : Prop := (wholeB L1 L2 && modB m) = true ∧ ∃ b p, Per (sta m.toNat (resL m.toNat L2) (resL m.toNat L1)) b p ∧ b + p ≤ 5000
open Classical in
/-- the answer -/
noncomputable def periodOfV (L1 L2 : List ByteArray) (m : Int) : Value :=
  if h : HasPer L1 L2 m then .tuple #[.int .i64 ((h.2.choose : Nat) : Int), .int .i64 ((h.2.choose_spec.choose : Nat) : Int), .bool true] else .tuple #[.int .i64 0, .int .i64 0, .bool false]

theorem periodOfV_no {L1 L2 : List ByteArray} {m : Int} (h : ¬ HasPer L1 L2 m) : periodOfV L1 L2 m = .tuple #[.int .i64 0, .int .i64 0, .bool false] := by
  unfold periodOfV; rw [dif_neg h]

theorem periodOfV_yes {L1 L2 : List ByteArray} {M b p : Nat} (hok : (wholeB L1 L2 && modB (M : Int)) = true) (hp : Per (sta M (resL M L2) (resL M L1)) b p) (hb : b + p ≤ 5000) :
    periodOfV L1 L2 (M : Int) = .tuple #[.int .i64 (b : Int), .int .i64 (p : Int), .bool true] := by
  have h : HasPer L1 L2 (M : Int) := ⟨hok, b, p, by rw [Int.toNat_natCast]; exact hp, hb⟩
  unfold periodOfV
  rw [dif_pos h]
  have h2 := h.2.choose_spec.choose_spec.1
  have h3 : Per (sta M (resL M L2) (resL M L1)) h.2.choose h.2.choose_spec.choose := h2
  obtain ⟨e1, e2⟩ := h3.one hp
  rw [e2, e1]

theorem periodOfV_shape (L1 L2 : List ByteArray) (m : Int) : ∃ (z0 z1 : Int) (b : Bool), periodOfV L1 L2 m = .tuple #[.int .i64 z0, .int .i64 z1, .bool b] := by
  unfold periodOfV
  split
  · exact ⟨_, _, _, rfl⟩
  · exact ⟨_, _, _, rfl⟩

theorem noPer_of {L1 L2 : List ByteArray} {M : Nat} (h : ∀ d, 0 < d → d ≤ 5000 → sta M (resL M L2) (resL M L1) (5000 - d) ≠ sta M (resL M L2) (resL M L1) 5000) : ¬ HasPer L1 L2 (M : Int) := by
  rintro ⟨_, b, p, hp, hb⟩
  have hp' : Per (sta M (resL M L2) (resL M L1)) b p := hp
  exact h p hp'.1 (by omega) (per_far hp' hb)

theorem noPer_of2 {L1 L2 : List ByteArray} {M : Nat} (h : NoPer (sta M (resL M L2) (resL M L1)) 5000) : ¬ HasPer L1 L2 (M : Int) := by
  rintro ⟨_, b, p, hp, hb⟩
  have hp' : Per (sta M (resL M L2) (resL M L1)) b p := hp
  have := h.not hp'
  omega

theorem noPer_ok {L1 L2 : List ByteArray} {m : Int} (h : (wholeB L1 L2 && modB m) = false) : ¬ HasPer L1 L2 m := fun k => by rw [k.1] at h; cases h

set_option maxRecDepth 100000 in
set_option maxHeartbeats 4000000 in
theorem impl_periodOf (v : Value) (L1 L2 : List ByteArray) (m : Int) (w : World) (hE : Env w) (h : IsRec w v L1 L2) (hn1 : L1.length ≤ 1048576) (hn2 : L2.length ≤ 1048576) (R : Ending → World → Prop)
    (hR : ∀ w', Below w.heap.size w w' → R (.returned (periodOfV L1 L2 m)) w') :
    Calls Tryz.prog 31 #[v, .int .i64 m] w R := by
  have HR := Lib.hid hR; clear hR
  have HE := Lib.hid hE
  have h9 := h
  obtain ⟨a1, n1, c1, a2, n2, c2, rfl, e1, e2, h1, h2⟩ := h.parts
  obtain ⟨L, hL⟩ : ∃ L, L = w.alloc (.cells #[.slice a1 n1 c1, .slice a2 n2 c2] 28) := ⟨_, rfl⟩
  have HBL : Hid (Below w.heap.size w L) := Lib.hid (by rw [hL]; exact (Below.refl _ _).alloc (Nat.le_refl _) _)
  have HBX : Hid (Box2 L w.heap.size (.slice a1 n1 c1) (.slice a2 n2 c2) 28) := Lib.hid (by rw [hL]; exact Box2.made _ _ _ _)
  have HL := Lib.hid hL
  have HV := Lib.hid (h9.later HBL.out (Nat.le_refl _))
  have HN := Lib.hid (And.intro hn1 hn2)
  obtain ⟨hA0, hA1, _, _⟩ := HBX.out.cells
  have HNO : Hid (¬ HasPer L1 L2 m → ∀ w', Below w.heap.size w w' → R (.returned (.tuple #[.int .i64 0, .int .i64 0, .bool false])) w') := Lib.hid fun hf w' hb => by
    have := HR.out w' hb
    rw [periodOfV_no hf] at this; exact this
  clear h h9 e1 e2 h1 h2 hn1 hn2 hL hE
  go_enter Tryz.func31, Tryz.ntmps31
  rw [HL.out] at hA0 hA1
  go_wp2_with fail
  rw [← HL.out]
  refine readres_any _ L1 L2 m L (HE.out.later HBL.out (Nat.le_refl _)) HV.out HN.out.1 HN.out.2 _ ?_ ?_
  rotate_left
  · intro e w2 hno he hb2
    obtain ⟨t, p, rfl⟩ := he
    have HF := Lib.hid (HNO.out (noPer_ok hno) (w2.alloc (.cells #[.int .u64 0, .slice none 0 0, .slice none 0 0] 65)) ((HBL.out.trans (hb2.mono HBL.out.size)).alloc (Nat.le_trans HBL.out.size hb2.size) _))
    clear hno hb2 hA0 hA1
    unfold zeroU
    dsimp only
    go_wp2
    first | go_ret3 | go_ret | skip
    exact HF.out
  intro M vs vc w2 hM hM2 hM3 hw hvs hvc hb2
  subst hM
  obtain ⟨b1, o1, d1, rfl, hvs'⟩ := hvs.op
  obtain ⟨b2, o2, d2, rfl, hvc'⟩ := hvc.op
  obtain ⟨k1, hk1⟩ : ∃ k1, k1 = (resL M L1).length := ⟨_, rfl⟩
  obtain ⟨k2, hk2⟩ : ∃ k2, k2 = (resL M L2).length := ⟨_, rfl⟩
  rw [← hk1] at hvs' ⊢
  rw [← hk2] at hvc' ⊢
  obtain ⟨V, hV⟩ : ∃ V, V = w2.alloc (.cells #[.int .u64 (M : Int), .slice (some ⟨b1, o1, none⟩) k1 d1, .slice (some ⟨b2, o2, none⟩) k2 d2] 65) := ⟨_, rfl⟩
  have hbV : Below w2.heap.size w2 V := by rw [hV]; exact (Below.refl _ _).alloc (Nat.le_refl _) _
  have HBV : Hid (Below w.heap.size w V) := Lib.hid ((HBL.out.trans (hb2.mono HBL.out.size)).trans (hbV.mono (by have := HBL.out.size; have := hb2.size; omega)))
  have HVS := Lib.hid (hvs'.later hbV (Nat.le_refl _))
  have HVC := Lib.hid (hvc'.later hbV (Nat.le_refl _))
  have HRB : Hid (Box3 V w2.heap.size (.int .u64 (M : Int)) (.slice (some ⟨b1, o1, none⟩) k1 d1) (.slice (some ⟨b2, o2, none⟩) k2 d2) 65) := Lib.hid (by rw [hV]; exact Box3.made _ _ _ _ _)
  have HV2 := Lib.hid hV
  have HOK : Hid ((wholeB L1 L2 && modB (M : Int)) = true) := Lib.hid (by unfold modB; rw [hw, decide_eq_true ⟨by omega, by omega⟩]; rfl)
  have HLE := Lib.hid (And.intro (res_le (m := M) hw).1 (show (resL M L2).length ≤ 8 by rw [resL_len]; exact (whole_parts hw).2.2.1))
  obtain ⟨⟨hB0, hB1, hB2⟩, _, _, _⟩ := HRB.out.cells
  rw [hV] at hB0 hB1 hB2
  clear hw hvs hvc hvs' hvc' hb2 hbV hV hk1 hk2 hA0 hA1
  dsimp only
  go_wp2_with fail
  rw [← HV2.out]
  refine period_any M _ _ (resL M L2) (resL M L1) _ HVS.out HVC.out HLE.out.1 HLE.out.2 hM2 hM3 (resL_lt (by omega) _) (resL_lt (by omega) _) _ ?_ ?_
  · intro b p w3 hp hb hb3
    have HF := Lib.hid (HR.out w3 (HBV.out.trans (hb3.mono HBV.out.size)))
    rw [periodOfV_yes HOK.out hp hb] at HF
    have hwb : IntKind.i64.wrap (b : Int) = (b : Int) := IntWalk.i64_in _ (by omega)
    have hwp : IntKind.i64.wrap (p : Int) = (p : Int) := IntWalk.i64_in _ (by omega)
    clear hp hb hb3 hB0 hB1 hB2
    dsimp only
    go_wp2
    first | go_ret3 | go_ret | skip
    exact HF.out
  · intro w3 hno hb3
    have HF := Lib.hid (HNO.out (noPer_of hno) w3 (HBV.out.trans (hb3.mono HBV.out.size)))
    clear hno hb3 hB0 hB1 hB2
    dsimp only
    go_wp2
    first | go_ret3 | go_ret | skip
    exact HF.out

set_option maxRecDepth 100000 in
set_option maxHeartbeats 4000000 in
theorem spec_periodOf (v : Value) (L1 L2 : List ByteArray) (m : Int) (w : World) (h : IsRec w v L1 L2) (hn1 : L1.length ≤ 1048576) (hs1 : ∀ s ∈ L1, s.size ≤ 1048576) (hn2 : L2.length ≤ 1048576) (hs2 : ∀ s ∈ L2, s.size ≤ 1048576) (R : Ending → World → Prop)
    (hR : ∀ w', Below w.heap.size w w' → R (.returned (periodOfV L1 L2 m)) w') :
    Calls Tryz.prog 30 #[v, .int .i64 m] w R := by
  have HR := Lib.hid hR; clear hR
  obtain ⟨a1, n1, c1, a2, n2, c2, rfl, e1, e2, h1, h2⟩ := h.parts
  obtain ⟨L, hL⟩ : ∃ L, L = w.alloc (.cells #[.slice a1 n1 c1, .slice a2 n2 c2] 28) := ⟨_, rfl⟩
  have HBL : Hid (Below w.heap.size w L) := Lib.hid (by rw [hL]; exact (Below.refl _ _).alloc (Nat.le_refl _) _)
  have HBX : Hid (Box2 L w.heap.size (.slice a1 n1 c1) (.slice a2 n2 c2) 28) := Lib.hid (by rw [hL]; exact Box2.made _ _ _ _)
  have HL := Lib.hid hL
  have H1 := Lib.hid (h1.later HBL.out (Nat.le_refl _))
  have H2 := Lib.hid (h2.later HBL.out (Nat.le_refl _))
  have HH := Lib.hid (And.intro hn1 (And.intro hs1 (And.intro hn2 hs2)))
  have HE := Lib.hid (And.intro e1 e2)
  have HNO : Hid (¬ HasPer L1 L2 m → ∀ w', Below w.heap.size w w' → R (.returned (.tuple #[.int .i64 0, .int .i64 0, .bool false])) w') := Lib.hid fun hf w' hb => by
    have := HR.out w' hb
    rw [periodOfV_no hf] at this; exact this
  clear h e1 e2 h1 h2 hn1 hs1 hn2 hs2 hL
  go_enter Tryz.func30, Tryz.ntmps30
  go_wp2_with fail
  rw [← HL.out]
  refine l04is_any _ n1 n2 c1 c2 a1 a2 L1 L2 L HBX.out HE.out.1 HE.out.2 H1.out H2.out HH.out.1 HH.out.2.1 HH.out.2.2.1 HH.out.2.2.2 _ ?_
  intro w1 hb1
  have HB := Lib.hid (HBL.out.trans (hb1.mono HBL.out.size))
  have HB1 := Lib.hid hb1
  clear hb1
  cases hx : wholeB L1 L2 with
  | false =>
    have HF := Lib.hid (HNO.out (noPer_ok (by rw [hx]; rfl)) w1 HB.out)
    clear hx
    dsimp only
    go_wp2
    first | go_ret3 | go_ret | skip
    exact HF.out
  | true =>
    have HX := Lib.hid hx
    clear hx
    dsimp only
    go_wp2_with fail
    refine smod_any m _ _ ?_
    cases hz : decide (2 ≤ m ∧ m ≤ 1000000) with
    | false =>
      have HF := Lib.hid (HNO.out (noPer_ok (by unfold modB; rw [hz]; simp)) w1 HB.out)
      clear hz
      dsimp only
      go_wp2
      first | go_ret3 | go_ret | skip
      exact HF.out
    | true =>
      have hm := of_decide_eq_true hz
      have HOK : Hid ((wholeB L1 L2 && modB m) = true) := Lib.hid (by unfold modB; rw [HX.out, hz]; rfl)
      obtain ⟨M, rfl⟩ : ∃ M : Nat, m = (M : Int) := ⟨m.toNat, by omega⟩
      have hM2 : 2 ≤ M := by omega
      have hM3 : M ≤ 1000000 := by omega
      have HBX1 := Lib.hid (HBX.out.later HB1.out (lt_of_block HBX.out))
      have H11 := Lib.hid (H1.out.later HB1.out (Nat.le_refl _))
      have H21 := Lib.hid (H2.out.later HB1.out (Nat.le_refl _))
      clear hz hm
      dsimp only
      go_wp2_with fail
      refine swalk_any M w.heap.size n1 n2 c1 c2 a1 a2 L1 L2 w1 HBX1.out H11.out H21.out HX.out hM2 hM3 _ ?_ ?_
      · intro p q B vs vc w3 hp hpq hwk hb3
        obtain ⟨LX, hl, how, _, _⟩ := hwk
        obtain ⟨ao, nn, cc, rfl, hnn⟩ := how.shape
        have hn2 : nn = p + q := by rw [hnn, hl]
        have HF := Lib.hid (HR.out w3 (HB.out.trans (hb3.mono HB.out.size)))
        rw [periodOfV_yes HOK.out hp hpq] at HF
        have hw1 : IntKind.i64.wrap (nn : Int) = (nn : Int) := IntWalk.i64_in _ (by omega)
        have hw2 : IntKind.i64.wrap ((nn : Int) - (p : Int)) = (q : Int) := by rw [IntWalk.i64_in _ (by omega)]; omega
        clear hp hpq hl how hnn hn2 hb3
        dsimp only
        go_wp2
        first | go_ret3 | go_ret | skip
        exact HF.out
      · intro B vs vc w3 hno hwk hb3
        obtain ⟨LX, hl, how, _, _⟩ := hwk
        obtain ⟨ao, nn, cc, rfl, hnn⟩ := how.shape
        have HF := Lib.hid (HNO.out (noPer_of2 hno) w3 (HB.out.trans (hb3.mono HB.out.size)))
        clear hno hl how hnn hb3
        dsimp only
        go_wp2
        first | go_ret3 | go_ret | skip
        exact HF.out
end Go.Proofs.YtnfehccicnpbpaaGreatDoor

namespace Go.Proofs.YtnfehccicnpbpaaGreatDoor
open Go Go.RowKit

set_option maxRecDepth 100000 in
set_option maxHeartbeats 8000000 in
theorem law_periodOf (v : Value) (L1 L2 : List ByteArray) (m : Int) (w : World) (hE : Env w) (h : IsRec w v L1 L2) (hn1 : L1.length ≤ maxLen) (hs1 : ∀ s ∈ L1, s.size ≤ maxLen) (hn2 : L2.length ≤ maxLen) (hs2 : ∀ s ∈ L2, s.size ≤ maxLen) (_hm0 : -9223372036854775807 - 1 ≤ m) (_hm1 : m ≤ 9223372036854775807) (R : Ending → World → Prop)
    (hR : ∀ w', Below w.heap.size w w' → R (.returned (.bool true)) w') :
    Calls Tryz.prog 7 #[v, .int .i64 m] w R := by
  have HR := Lib.hid hR; clear hR
  have HE := Lib.hid hE; clear hE
  have h9 := h
  obtain ⟨s1, s2, rfl, h1, h2⟩ := h9
  obtain ⟨a1, n1, c1, rfl, h1'⟩ := h1.op
  obtain ⟨a2, n2, c2, rfl, h2'⟩ := h2.op
  obtain ⟨L, hL⟩ : ∃ L, L = w.alloc (.cells #[.slice a1 n1 c1, .slice a2 n2 c2] 24) := ⟨_, rfl⟩
  have HBL : Hid (Below w.heap.size w L) := Lib.hid (by rw [hL]; exact (Below.refl _ _).alloc (Nat.le_refl _) _)
  have HBX : Hid (Box2 L w.heap.size (.slice a1 n1 c1) (.slice a2 n2 c2) 24) := Lib.hid (by rw [hL]; exact Box2.made _ _ _ _)
  have HL := Lib.hid hL
  have HV := Lib.hid (h.later HBL.out (Nat.le_refl _))
  have HN := Lib.hid (And.intro hn1 (And.intro hs1 (And.intro hn2 hs2)))
  obtain ⟨z0, z1, bq, hzq⟩ := periodOfV_shape L1 L2 m
  have HZQ := Lib.hid hzq
  have cz0 : (z0 != z0) = false := by simp
  have cz1 : (z1 != z1) = false := by simp
  have cbq : (bq != bq) = false := by cases bq <;> rfl
  obtain ⟨hA0, hA1, _, _⟩ := HBX.out.cells
  clear h h1 h2 h1' h2' hn1 hs1 hn2 hs2 hL hzq _hm0 _hm1
  go_enter Tryz.func7, Tryz.ntmps7
  rw [HL.out] at hA0 hA1
  go_wp2_with fail
  rw [← HL.out]
  refine szR_any _ L1 L2 L 1048576 HV.out HN.out.1 HN.out.2.1 HN.out.2.2.1 HN.out.2.2.2 (by omega) _ ?_ ?_
  rotate_left
  · intro w1 _ hb1
    have HF := Lib.hid (HR.out w1 (HBL.out.trans (hb1.mono HBL.out.size)))
    clear hb1 hA0 hA1
    dsimp only
    go_wp2
    first | go_ret | skip
    exact HF.out
  intro w1 ht hb1
  obtain ⟨p1, p2⟩ := sizes_each (L := L1) (by omega)
  obtain ⟨p3, p4⟩ := sizes_each (L := L2) (by omega)
  have HP := Lib.hid (And.intro p1 (And.intro p2 (And.intro p3 p4)))
  obtain ⟨mm, hmm⟩ : ∃ mm : Nat, mm = 1048576 - (tot L1 + tot L2) := ⟨_, rfl⟩
  rw [← hmm]
  have hm0 : ¬ ((mm : Int) < 0) := by omega
  have HB1 : Hid (Below L.heap.size L w1) := Lib.hid hb1
  have HX1 := Lib.hid (HBX.out.later hb1 (lt_of_block HBX.out))
  clear hmm ht p1 p2 p3 p4 hb1 hA0 hA1
  obtain ⟨hA0, hA1, _, _⟩ := HX1.out.cells
  dsimp only
  go_wp2_with fail
  refine toR_any _ L1 L2 w1 (HV.out.later HB1.out (Nat.le_refl _)) HP.out.1 HP.out.2.2.1 _ ?_
  intro v2 w2 hv2 hb2
  have HV2 := Lib.hid hv2
  obtain ⟨x1, m1, y1, x2, m2, y2, rfl, q1, q2, q3, q4⟩ := hv2.parts
  have HB2 := Lib.hid (HB1.out.trans (hb2.mono HB1.out.size))
  have HX2 := Lib.hid (HX1.out.later hb2 (lt_of_block HX1.out))
  clear hv2 q1 q2 q3 q4 hb2 hA0 hA1
  obtain ⟨hA0, hA1, _, _⟩ := HX2.out.cells
  dsimp only
  go_wp2_with fail
  refine spec_periodOf _ L1 L2 m w2 HV2.out HP.out.1 HP.out.2.1 HP.out.2.2.1 HP.out.2.2.2 _ ?_
  intro w3 hb3
  rw [HZQ.out]
  have HB3 := Lib.hid (HB2.out.trans (hb3.mono HB2.out.size))
  have HX3 := Lib.hid (HX2.out.later hb3 (lt_of_block HX2.out))
  clear hb3 hA0 hA1
  obtain ⟨hA0, hA1, _, _⟩ := HX3.out.cells
  dsimp only
  go_wp2_with fail
  refine toR_any _ L1 L2 w3 (HV.out.later HB3.out (Nat.le_refl _)) HP.out.1 HP.out.2.2.1 _ ?_
  intro v4 w4 hv4 hb4
  obtain ⟨x3, m3, y3, x4, m4, y4, rfl, q1, q2, q3, q4⟩ := hv4.parts
  obtain ⟨W, hW⟩ : ∃ W, W = w4.alloc (.cells #[.slice x3 m3 y3, .slice x4 m4 y4] 28) := ⟨_, rfl⟩
  have hbW : Below w4.heap.size w4 W := by rw [hW]; exact (Below.refl _ _).alloc (Nat.le_refl _) _
  have B4 : Hid (Box2 W w4.heap.size (.slice x3 m3 y3) (.slice x4 m4 y4) 28) := Lib.hid (by rw [hW]; exact Box2.made _ _ _ _)
  have HV4 := Lib.hid (hv4.later hbW (Nat.le_refl _))
  have hb4W : Below w3.heap.size w3 W := hb4.trans (hbW.mono hb4.size)
  have HB4 := Lib.hid (HB3.out.trans (hb4W.mono HB3.out.size))
  have HX4 := Lib.hid (HX3.out.later hb4W (lt_of_block HX3.out))
  have HW := Lib.hid hW
  obtain ⟨hC0, hC1, _, _⟩ := B4.out.cells
  clear hv4 q1 q2 q3 q4 hb4 hbW hb4W hW hA0 hA1
  rw [HW.out] at hC0 hC1
  dsimp only
  go_wp2_with fail
  rw [← HW.out]
  refine impl_periodOf _ L1 L2 m W (HE.out.later (HBL.out.trans (HB4.out.mono HBL.out.size)) (Nat.le_refl _)) HV4.out HP.out.1 HP.out.2.2.1 _ ?_
  intro w5 hb5
  rw [HZQ.out]
  have HB5 := Lib.hid (HB4.out.trans (hb5.mono HB4.out.size))
  have HX5 := Lib.hid (HX4.out.later hb5 (lt_of_block HX4.out))
  have B5 := Lib.hid (B4.out.later hb5 (lt_of_block B4.out))
  have HV5 := Lib.hid (HV4.out.later hb5 (Nat.le_refl _))
  have HSOF : Hid (∀ w', Below w5.heap.size w5 w' → (Below w5.heap.size w5 w' ∧ (w'.cell? ⟨w.heap.size, 0, none⟩ = some (.slice a1 n1 c1) ∧ w'.cell? ⟨w.heap.size, 1, none⟩ = some (.slice a2 n2 c2)) ∧ (w'.cell? ⟨w4.heap.size, 0, none⟩ = some (.slice x3 m3 y3) ∧ w'.cell? ⟨w4.heap.size, 1, none⟩ = some (.slice x4 m4 y4)))) :=
    Lib.hid fun w' hb => ⟨hb, ⟨(HX5.out.later hb (lt_of_block HX5.out)).cells.1, (HX5.out.later hb (lt_of_block HX5.out)).cells.2.1⟩, ⟨(B5.out.later hb (lt_of_block B5.out)).cells.1, (B5.out.later hb (lt_of_block B5.out)).cells.2.1⟩⟩
  have HVL := Lib.hid (HV.out.later HB5.out (Nat.le_refl _))
  have HLEN : Hid (L1.length ≤ 281474976710656 ∧ L2.length ≤ 281474976710656) := Lib.hid (by have := HP.out.1; have := HP.out.2.2.1; omega)
  clear hb5 hC0 hC1
  dsimp only
  go_wp2_with fail
  first
    | (go_region_held3 (fun w' => Below w5.heap.size w5 w' ∧ (w'.cell? ⟨w.heap.size, 0, none⟩ = some (.slice a1 n1 c1) ∧ w'.cell? ⟨w.heap.size, 1, none⟩ = some (.slice a2 n2 c2)) ∧ (w'.cell? ⟨w4.heap.size, 0, none⟩ = some (.slice x3 m3 y3) ∧ w'.cell? ⟨w4.heap.size, 1, none⟩ = some (.slice x4 m4 y4)))
        (first
          | exact HSOF.out _ HQ2.out
          | exact HSOF.out _ HQ1.out
          | exact HSOF.out _ (Below.refl _ _).drew)
        (first
          | (go_at_call 19; refine eqR_any _ _ L1 L2 _ (HV5.out.later HQ1.out (Nat.le_refl _)) HV6.out HLEN.out.1 HLEN.out.2 _ ?_; intro w7 hb7; have HQ2 : Hid (Below w5.heap.size w5 w7) := Lib.hid (HQ1.out.trans (hb7.mono HQ1.out.size)); clear hb7; dsimp only)
          | (go_at_call 17; refine toR_any _ L1 L2 _ (HVL.out.later (Below.refl _ _).drew (Nat.le_refl _)) HP.out.1 HP.out.2.2.1 _ ?_; intro v6 w6 hv6 hb6; have HV6 := Lib.hid hv6; have HQ1 : Hid (Below w5.heap.size w5 w6) := Lib.hid ⟨hb6.os, hb6.tape, hb6.output, hb6.size, hb6.block⟩; clear hv6 hb6; dsimp only)))
    | fail
  all_goals
    go_wp2
    first | go_ret | skip
    exact HR.out _ (HBL.out.trans ((HB5.out.trans (HQ2.out.mono HB5.out.size)).mono HBL.out.size))
end Go.Proofs.YtnfehccicnpbpaaGreatDoor
