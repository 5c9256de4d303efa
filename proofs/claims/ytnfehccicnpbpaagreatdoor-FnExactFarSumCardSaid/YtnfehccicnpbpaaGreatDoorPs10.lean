/- Contracts of functions of the program and of the model: FsM, FsI, FsS, FsP, LawFarSum. -/
import Derived.Test.YtnfehccicnpbpaaGreatDoorPk9
import Derived.Deep.RegionHeld3
set_option linter.all false
set_option linter.unusedVariables false
set_option linter.unusedSimpArgs false
set_option linter.unnecessarySimpa false
set_option linter.deprecated false
namespace Go.Proofs.YtnfehccicnpbpaaGreatDoor

/-- the residue of the sum of the first terms of a state -/
def psum (m : Nat) (ss : List Nat) : Nat → Nat
  | 0 => 0
  | n + 1 => (psum m ss n + ss.getD n 0) % m
def sumL (m : Nat) (ss : List Nat) : List Nat := (List.range (ss.length + 1)).map (psum m ss)
/-- a coefficient of the sums -/
def wideN (m : Nat) (cs : List Nat) (j : Nat) : Nat := if j = 0 then (cs.getD 0 0 + 1) % m else (cs.getD j 0 + m - cs.getD (j - 1) 0) % m
def wideL (m : Nat) (cs : List Nat) : List Nat := (List.range (cs.length + 1)).map (wideN m cs)
/-- the coefficients on the way: the first ones are made -/
def mixW (m : Nat) (cs : List Nat) (i : Nat) : List Nat := (List.range (cs.length + 1)).map fun j => if j ≤ i then wideN m cs j else cs.getD j 0

theorem sumL_len (m : Nat) (ss : List Nat) : (sumL m ss).length = ss.length + 1 := by simp [sumL]
theorem wideL_len (m : Nat) (cs : List Nat) : (wideL m cs).length = cs.length + 1 := by simp [wideL]
theorem mixW_len (m : Nat) (cs : List Nat) (i : Nat) : (mixW m cs i).length = cs.length + 1 := by simp [mixW]
theorem psum_lt {m : Nat} (hm : 0 < m) (ss : List Nat) : ∀ n, psum m ss n < m
  | 0 => hm
  | _ + 1 => Nat.mod_lt _ hm
theorem wideN_lt {m : Nat} (hm : 0 < m) (cs : List Nat) (j : Nat) : wideN m cs j < m := by
  unfold wideN; split <;> exact Nat.mod_lt _ hm
theorem sumL_lt {m : Nat} (hm : 0 < m) (ss : List Nat) : ∀ x ∈ sumL m ss, x < m := by
  intro x hx
  obtain ⟨n, _, rfl⟩ := List.mem_map.1 hx
  exact psum_lt hm ss n
theorem wideL_lt {m : Nat} (hm : 0 < m) (cs : List Nat) : ∀ x ∈ wideL m cs, x < m := by
  intro x hx
  obtain ⟨n, _, rfl⟩ := List.mem_map.1 hx
  exact wideN_lt hm cs n
theorem sumL_take {m : Nat} {ss : List Nat} {i : Nat} (h : i < ss.length + 1) : (sumL m ss).take (i + 1) = (sumL m ss).take i ++ [psum m ss i] := by
  rw [List.take_add_one]; congr 1; simp [sumL, h]
theorem sumL_at {m : Nat} {ss : List Nat} {i : Nat} (h : i < ss.length + 1) : (sumL m ss).getD i 0 = psum m ss i := by
  simp [sumL, List.getD_eq_getElem?_getD, h]
theorem wideL_take {m : Nat} {cs : List Nat} {i : Nat} (h : i < cs.length + 1) : (wideL m cs).take (i + 1) = (wideL m cs).take i ++ [wideN m cs i] := by
  rw [List.take_add_one]; congr 1; simp [wideL, h]
theorem mixW_at {m : Nat} {cs : List Nat} {i j : Nat} (h : j < cs.length + 1) : (mixW m cs i).getD j 0 = if j ≤ i then wideN m cs j else cs.getD j 0 := by
  simp [mixW, List.getD_eq_getElem?_getD, h]
theorem mixW_end (m : Nat) (cs : List Nat) : mixW m cs cs.length = wideL m cs := by
  unfold mixW wideL
  apply List.map_congr_left
  intro j hj
  rw [if_pos (by have := List.mem_range.1 hj; omega)]
theorem getD_ext {xs ys : List Nat} (hl : xs.length = ys.length) (h : ∀ j, j < xs.length → xs.getD j 0 = ys.getD j 0) : xs = ys := by
  apply List.ext_getElem hl
  intro j h1 h2
  have := h j h1
  rw [List.getD_eq_getElem?_getD, List.getD_eq_getElem?_getD, List.getElem?_eq_getElem h1, List.getElem?_eq_getElem h2] at this
  exact this
theorem mixW_start (m : Nat) (cs : List Nat) : (cs ++ [0]).set 0 (wideN m cs 0) = mixW m cs 0 := by
  refine getD_ext (by simp [mixW_len]) fun j hj => ?_
  simp only [List.length_set, List.length_append, List.length_singleton] at hj
  rw [mixW_at hj]
  rcases Nat.eq_zero_or_pos j with h0 | h0
  · subst h0; rw [if_pos (Nat.le_refl _), getD_setE _ _ (by simp)]
  · rw [if_neg (by omega), getD_setN _ _ (by omega)]
    rcases Nat.lt_or_ge j cs.length with h1 | h1
    · rw [List.getD_eq_getElem?_getD, List.getElem?_append_left h1, ← List.getD_eq_getElem?_getD]
    · rw [show j = cs.length by omega, List.getD_eq_getElem?_getD, List.getElem?_append_right (Nat.le_refl _), List.getD_eq_getElem?_getD, List.getElem?_eq_none (Nat.le_refl _)]; simp
theorem mixW_next {m : Nat} {cs : List Nat} {i : Nat} : (mixW m cs i).set (i + 1) (wideN m cs (i + 1)) = mixW m cs (i + 1) := by
  refine getD_ext (by simp [mixW_len]) fun j hj => ?_
  rw [List.length_set, mixW_len] at hj
  rw [mixW_at hj]
  by_cases he : j = i + 1
  · subst he; rw [if_pos (Nat.le_refl _), getD_setE _ _ (by rw [mixW_len]; omega)]
  · rw [getD_setN _ _ (fun e => he e.symm), mixW_at hj]
    by_cases h1 : j ≤ i
    · rw [if_pos h1, if_pos (by omega)]
    · rw [if_neg h1, if_neg (by omega)]

/-- what the model makes of a coefficient -/
theorem wide_spec {m : Nat} (hm : 0 < m) {z : Int} (h1 : -(m : Int) < z) (h2 : z ≤ (m : Int)) : Int.tmod (Int.tmod z (m : Int) + (m : Int)) (m : Int) = z % (m : Int) := by
  have hp : (0 : Int) < (m : Int) := by omega
  rcases Int.lt_or_le z 0 with hz | hz
  · have e : Int.tmod z (m : Int) = z := by
      have : z = -(((-z).toNat : Nat) : Int) := by omega
      rw [this, Int.neg_tmod, Int.tmod_eq_of_lt (by omega) (by omega)]
    rw [e, Int.tmod_eq_emod_of_nonneg (by omega), Int.add_emod_right]
  · rw [Int.tmod_eq_emod_of_nonneg hz, Int.tmod_eq_emod_of_nonneg (by have := Int.emod_nonneg z (show (m : Int) ≠ 0 by omega); omega), Int.add_emod_right, Int.emod_emod_of_dvd _ (Int.dvd_refl _)]

theorem wide_first {m c : Nat} : (((c + 1) % m : Nat) : Int) = ((c : Int) + 1) % (m : Int) := by rw [Int.natCast_emod, Int.natCast_add]; rfl
theorem wide_next {m c d : Nat} (hd : d < m) : (((c + m - d) % m : Nat) : Int) = ((c : Int) - (d : Int)) % (m : Int) := by
  rw [Int.natCast_emod, show ((c + m - d : Nat) : Int) = (c : Int) - (d : Int) + (m : Int) by omega, Int.add_emod_right]
end Go.Proofs.YtnfehccicnpbpaaGreatDoor

namespace Go.Proofs.YtnfehccicnpbpaaGreatDoor
open Go Go.RowKit

theorem Own.atE {w : World} {B : Nat} {v : Value} {xs : List Nat} (h : Own .u64 61 w B v xs) (h0 : 0 < xs.length) : At w v xs := by
  obtain ⟨h1, h2⟩ := h
  rcases h2 with ⟨rfl, h2⟩ | ⟨g, cap, cur, rfl, hg, hh, hn, hm, hs, ht⟩
  · omega
  · have hr : Rng w g xs := ⟨cur, hh, by rw [Nat.mul_one] at ht; exact ht⟩
    exact ⟨g, 0, cap, rfl, hn, hr.lt, fun i hi => by rw [Nat.zero_add]; exact hr.cell i hi⟩

theorem At.other {w : World} {b o n c : Nat} {xs : List Nat} (h : At w (.slice (some ⟨b, o, none⟩) n c) xs) {g : Nat} (hne : b ≠ g) (i : Nat) (u : Value) : At (w.setCell ⟨g, i, none⟩ u) (.slice (some ⟨b, o, none⟩) n c) xs := by
  obtain ⟨b', o', c', e, h2, h3, h4⟩ := h
  obtain ⟨rfl, rfl⟩ : b = b' ∧ o = o' := by
    simp only [Value.slice.injEq, Option.some.injEq, Addr.mk.injEq, and_true] at e
    exact e.1
  exact ⟨b, o, c', e, h2, by simp [World.setCell]; exact h3, fun j hj => by rw [World.cell?_of_block (w := w) (Below.heap_setCell _ _ _ _ hne)]; exact h4 j hj⟩
theorem Rng.at {w : World} {g cap n : Nat} {xs : List Nat} (h : Rng w g xs) (hn : n = xs.length) (hc : n ≤ cap) : At w (.slice (some ⟨g, 0, none⟩) n cap) xs := by
  subst hn
  exact ⟨g, 0, cap, rfl, hc, h.lt, fun i hi => by rw [Nat.zero_add]; exact h.cell i hi⟩

theorem Own.rngC {w : World} {B : Nat} {v : Value} {xs : List Nat} (h : Own .u64 61 w B v xs) (h0 : 0 < xs.length) : ∃ g cap, v = .slice (some ⟨g, 0, none⟩) xs.length cap ∧ xs.length ≤ cap ∧ B ≤ g ∧ Rng w g xs := by
  obtain ⟨h1, h2⟩ := h
  rcases h2 with ⟨rfl, h2⟩ | ⟨g, cap, cur, rfl, hg, hh, hn, hm, hs, ht⟩
  · omega
  · exact ⟨g, cap, rfl, hn, hg, cur, hh, by rw [Nat.mul_one] at ht; exact ht⟩

def FsA (L : World) (m : Nat) (ss : List Nat) (v iv : Value) (wr : World) : Prop :=
  ∃ i : Nat, iv = .int .i64 (i : Int) ∧ i ≤ ss.length ∧ Own .u64 61 wr L.heap.size v ((sumL m ss).take (i + 1)) ∧ Below L.heap.size L wr
def FsB (W : World) (g m : Nat) (cs : List Nat) (iv : Value) (wr : World) : Prop :=
  ∃ i : Nat, iv = .int .i64 (i : Int) ∧ i ≤ cs.length ∧ Rng wr g (mixW m cs i) ∧ Below W.heap.size W wr

theorem mplus1_any (m a : Nat) (w : World) (ha : a < m) (h1 : 1 < m) (hm : m ≤ 9223372036854775807) (R : Ending → World → Prop)
    (hR : R (.returned (.int .u64 (((a + 1) % m : Nat) : Int))) w) :
    Calls Tryz.prog 92 #[.int .u64 ((m : Nat) : Int), .int .u64 ((a : Nat) : Int), .int .u64 1] w R := mplus_any m a 1 w ha h1 hm R hR

theorem app0_at (cs : List Nat) {j : Nat} : (cs ++ [0]).getD j 0 = cs.getD j 0 := by
  rcases Nat.lt_or_ge j cs.length with h1 | h1
  · rw [List.getD_eq_getElem?_getD, List.getElem?_append_left h1, ← List.getD_eq_getElem?_getD]
  · rw [List.getD_eq_getElem?_getD, List.getElem?_append_right h1, List.getD_eq_getElem?_getD, List.getElem?_eq_none h1]
    cases j - cs.length <;> simp

set_option maxRecDepth 100000 in
set_option maxHeartbeats 8000000 in
theorem sums_any (m : Nat) (vs vc : Value) (cs ss : List Nat) (w : World) (hs : At w vs ss) (hc : At w vc cs) (hl : ss.length = cs.length) (h8 : cs.length ≤ 10) (hm : 2 ≤ m) (hm2 : m ≤ 1000000)
    (hC : ∀ x ∈ cs, x < m) (hS : ∀ x ∈ ss, x < m) (R : Ending → World → Prop)
    (hR : ∀ vs' vc' w', At w' vs' (sumL m ss) → At w' vc' (wideL m cs) → Below w.heap.size w w' → R (.returned (.agg #[.int .u64 ((m : Nat) : Int), vs', vc'])) w') :
    Calls Tryz.prog 62 #[.agg #[.int .u64 ((m : Nat) : Int), vs, vc]] w R := by
  have HR := Lib.hid hR; clear hR
  obtain ⟨b1, o1, c1, rfl, hs'⟩ := hs.op
  obtain ⟨b2, o2, c2, rfl, hc'⟩ := hc.op
  obtain ⟨L, hL⟩ : ∃ L, L = (w.alloc (.cells #[.int .u64 ((m : Nat) : Int), .slice (some ⟨b1, o1, none⟩) ss.length c1, .slice (some ⟨b2, o2, none⟩) cs.length c2] 65)).alloc (.cells #[.int .u64 0, .slice none 0 0, .slice none 0 0] 65) := ⟨_, rfl⟩
  have hb1 : Below (w.heap.size + 1) (w.alloc (.cells #[.int .u64 ((m : Nat) : Int), .slice (some ⟨b1, o1, none⟩) ss.length c1, .slice (some ⟨b2, o2, none⟩) cs.length c2] 65)) L := by rw [hL]; exact (Below.refl _ _).alloc (by simp) _
  have HBX : Hid (Box3 L w.heap.size (.int .u64 ((m : Nat) : Int)) (.slice (some ⟨b1, o1, none⟩) ss.length c1) (.slice (some ⟨b2, o2, none⟩) cs.length c2) 65) := Lib.hid ((Box3.made w _ _ _ _).later hb1 (by omega))
  have HRX : Hid (Box3 L (w.heap.size + 1) (.int .u64 0) (.slice none 0 0) (.slice none 0 0) 65) := Lib.hid (by
    have := Box3.made (w.alloc (.cells #[.int .u64 ((m : Nat) : Int), .slice (some ⟨b1, o1, none⟩) ss.length c1, .slice (some ⟨b2, o2, none⟩) cs.length c2] 65)) (.int .u64 0) (.slice none 0 0) (.slice none 0 0) 65
    rw [World.size_alloc, ← hL] at this; exact this)
  have HBL : Hid (Below w.heap.size w L) := Lib.hid (by rw [hL]; exact ((Below.refl w.heap.size w).alloc (Nat.le_refl _) _).alloc (by simp) _)
  have HLS : Hid (L.heap.size = w.heap.size + 2) := Lib.hid (by rw [hL]; simp)
  have HL := Lib.hid hL
  have HS := Lib.hid (hs'.later HBL.out (Nat.le_refl _))
  have HC := Lib.hid (hc'.later HBL.out (Nat.le_refl _))
  have HLL := Lib.hid (And.intro hl (And.intro h8 (And.intro hC hS)))
  obtain ⟨⟨hB0, hB1, hB2⟩, _, _, _⟩ := HBX.out.cells
  rw [hL] at hB0 hB1 hB2
  obtain ⟨n1, hn1⟩ : ∃ n1, n1 = ss.length := ⟨_, rfl⟩
  obtain ⟨k, hk⟩ : ∃ k, k = cs.length := ⟨_, rfl⟩
  rw [← hn1, ← hk] at hB0 hB1 hB2 HL HBX ⊢
  rw [← hn1] at HS
  rw [← hk] at HC
  have HK := Lib.hid (And.intro hn1 hk)
  have hn1k : n1 ≤ 10 := by omega
  have hkk : k ≤ 10 := by omega
  clear hs hs' hc hc' hL hn1 hk hl h8 hC hS hb1
  go_enter Tryz.func62, Tryz.ntmps62
  go_wp2
  rw [← HL.out]
  obtain ⟨V, hV⟩ : ∃ V, V = L.alloc (.cells #[.int .u64 0] 61) := ⟨_, rfl⟩
  have hbV : Below L.heap.size L V := by rw [hV]; exact (Below.refl _ _).alloc (Nat.le_refl _) _
  have HST : Hid (FsA L m ss (.slice (some ⟨L.heap.size, 0, none⟩) 1 1) (.int .i64 0) V) := Lib.hid ⟨0, rfl, Nat.zero_le _, by
    have e : (sumL m ss).take (0 + 1) = [0] := by simp [sumL, List.range_succ_eq_map, psum]
    rw [e, hV]
    exact Own.lit1 .u64 61 L L.heap.size 0 0 rfl (Nat.le_refl _), hbV⟩
  rw [← hV]
  clear hV hbV hB0 hB1 hB2
  have hwlt : w.heap.size < L.heap.size := by have := HLS.out; omega
  go_loopw [3, 13] (fun v i wr => FsA L m ss v i wr) (fun _ i _ => n1 - (intOf i).toNat)
  case atStart => have := HST.out; rw [HLS.out] at this; exact this
  case round =>
    clear HST
    obtain ⟨i, rfl, hi, how, hbel⟩ := hrel
    rw [← HK.out.1] at hi
    have HB := Lib.hid hbel
    have HOW := Lib.hid how
    obtain ⟨⟨hB0, hB1, hB2⟩, _, _, _⟩ := (HBX.out.later hbel hwlt).cells
    by_cases hin : i = n1
    · subst hin
      have hlen : ((sumL m ss).take (i + 1)).length = i + 1 := by rw [List.length_take, sumL_len, ← HK.out.1]; omega
      have hall : (sumL m ss).take (i + 1) = sumL m ss := by rw [List.take_of_length_le (by rw [sumL_len, ← HK.out.1]; omega)]
      rw [hall] at HOW hlen
      have hoa := how
      rw [hall] at hoa
      obtain ⟨g, cap, rfl, hcap, hg, hrng⟩ := hoa.rngC (by rw [hlen]; omega)
      rw [hlen] at hcap HOW ⊢
      have HG0 := Lib.hid hg
      have HAT := Lib.hid (hrng.at (n := i + 1) (cap := cap) (by rw [hlen]) hcap)
      have hii : ¬ ((i : Int) < (i : Int)) := by omega
      have HRW := Lib.hid (HRX.out.later hbel (by have := HLS.out; omega))
      clear hi how hbel hcap hg hrng hlen hall hoa
      go_wp2_with fail
      refine clone64_any _ cs _ (HC.out.later HB.out (Nat.le_refl _)) (by have := HLL.out.2.1; omega) _ ?_
      intro v3 w3 hv3 hne hb3
      obtain ⟨a3, n3, c3, rfl, hn3⟩ := hv3.shape
      have HV3 := Lib.hid hv3
      have HB3 := Lib.hid hb3
      have HBT := Lib.hid (HB.out.trans (hb3.mono HB.out.size))
      clear hB0 hB1 hB2
      obtain ⟨⟨hB0, hB1, hB2⟩, _, _, _⟩ := (HBX.out.later HBT.out hwlt).cells
      clear hv3 hne hb3 hn3
      dsimp only
      go_wp2_with (at_builtin; go_must (refine wpList_pushz rfl (.tmp 32) (.tmp 33) 63 rfl 61 .u64 8 Tryz.underlying63 info_u64' (by omega) wr.heap.size _ cs 0 0 rfl rfl (HV3.out.alloc _) w3.heap.size rfl (World.cell?_alloc_at _ _ _ _ rfl) (by have := HLL.out.2.1; omega) (by simp; have := HB3.out.size; omega) ?_))
      intro v4 w4 hown4 hb4
      have HB4 : Hid (Below wr.heap.size wr w4) := Lib.hid ((HB3.out.alloc HB3.out.size _).trans hb4)
      have hl4 : (cs ++ [0]).length = k + 1 := by rw [List.length_append, ← HK.out.2]; rfl
      obtain ⟨g4, cap4, rfl, hcap4, hg4, hrng4⟩ := hown4.rngC (by rw [hl4]; omega)
      rw [hl4] at hcap4 ⊢
      have hwg : w.heap.size < wr.heap.size := by have := HB.out.size; omega
      clear hB0 hB1 hB2
      obtain ⟨⟨hB0, hB1, hB2⟩, _, _, _⟩ := ((HBX.out.later HB.out hwlt).later HB4.out hwg).cells
      obtain ⟨c0, hc0⟩ : ∃ c0, c0 = cs.getD 0 0 := ⟨_, rfl⟩
      have hc0m : c0 < m := by rw [hc0]; exact getD_lt_of (by omega) HLL.out.2.2.1 _
      have hcl := hrng4.cell 0 (by rw [hl4]; omega)
      rw [app0_at, ← hc0] at hcl
      have hfl := hrng4.frozen 0
      obtain ⟨z0, hz0⟩ : ∃ z0, z0 = (c0 + 1) % m := ⟨_, rfl⟩
      have HZ0 := Lib.hid hz0
      have HNX0 : Hid (∀ M, FsB wr g4 m cs (.int .i64 0) ((w4.drewN M).setCell ⟨g4, 0, none⟩ (.int .u64 ((z0 : Nat) : Int)))) := Lib.hid fun M =>
        ⟨0, rfl, Nat.zero_le _, by
          have h9 := (hrng4.block (w' := w4.drewN M) rfl).set 0 z0
          rw [show z0 = wideN m cs 0 by rw [hz0, hc0]; rfl, mixW_start] at h9
          rw [show z0 = wideN m cs 0 by rw [hz0, hc0]; rfl]
          exact h9, (below_draws HB4.out M).setCell hg4 _⟩
      have HG4 := Lib.hid (And.intro hg4 hcap4)
      have HC0M := Lib.hid hc0m
      have h01 : (0 : Int) < ((k + 1 : Nat) : Int) := by omega
      have h02 : (0 : Int) < (k : Int) + 1 := by omega
      have hne1 : ¬ w.heap.size = g4 := by omega
      have hne2 : ¬ g4 = w.heap.size := by omega
      obtain ⟨W0, hW0⟩ : ∃ W0, W0 = wr := ⟨_, rfl⟩
      rw [← hW0] at HNX0 HB HB3 HB4 HAT HRW HG4 hwg
      clear hown4 hb4 hl4 hcap4 hg4 hrng4 hc0 hz0 hc0m hW0 HBT
      go_wp2_with fail
      go_region_law (first
        | ((try go_simp); go_at_call 92; refine mplus1_any m c0 _ HC0M.out (by omega) (by omega) _ ?_; rw [← HZ0.out]; dsimp only))
      all_goals
        go_wp2
        clear hB0 hB1 hB2 hcl hfl
        go_loopw [46] (fun j wq => FsB W0 g4 m cs j wq) (fun j _ => k - (intOf j).toNat)
        case atStart => exact HNX0.out _
        case round =>
          clear HNX0
          obtain ⟨j, rfl, hj, hrng, hbel⟩ := hrel
          rw [← HK.out.2] at hj
          have hml : (mixW m cs j).length = k + 1 := by rw [mixW_len, ← HK.out.2]
          obtain ⟨⟨hB0, hB1, hB2⟩, _, _, _⟩ := ((HBX.out.later HB.out hwlt).later hbel hwg).cells
          by_cases hjk : j = k
          · subst hjk
            have hmw : mixW m cs j = wideL m cs := by rw [HK.out.2]; exact mixW_end m cs
            have HVC := Lib.hid (hrng.at (n := j + 1) (cap := cap4) (by rw [hml]) HG4.out.2)
            rw [hmw] at HVC
            have HVS := Lib.hid (HAT.out.later hbel (Nat.le_refl _))
            have HBF := Lib.hid (HBL.out.trans ((HB.out.trans (hbel.mono HB.out.size)).mono HBL.out.size))
            have hx := HRW.out.later hbel (by have := HB.out.size; have := HLS.out; omega)
            obtain ⟨⟨hX0, hX1, hX2⟩, hX3, hX4, hX5⟩ := hx.cells
            have hii : ¬ ((j : Int) < (j : Int)) := by omega
            clear hj hrng hbel hml hmw hx
            go_wp2
            refine bodyPost_ret_at (by simp [results, Tryz.results62, go_sem, hX0, hX1, hX2, hX3, hX4, hX5] <;> rfl) rfl ?_
            have n1' : g ≠ w.heap.size + 1 := by have := HG0.out; have := HLS.out; omega
            have n2' : g4 ≠ w.heap.size + 1 := by have := HG4.out.1; have := HB.out.size; have := HLS.out; omega
            exact HR.out _ _ _ (((HVS.out.other n1' _ _).other n1' _ _).other n1' _ _) (((HVC.out.other n2' _ _).other n2' _ _).other n2' _ _) (below_set3 HBF.out (by omega) _ _ _)
          · have hjl : j < k := by omega
            obtain ⟨hx9, hb, hcell⟩ := HC.out.cellAt
            have hc2 := hcell j (by rw [← HK.out.2]; exact hjl)
            rw [← (HB.out.trans (hbel.mono HB.out.size)).cell (p := ⟨b2, o2 + j, none⟩) hb] at hc2
            obtain ⟨y, hy⟩ : ∃ y, y = cs.getD j 0 := ⟨_, rfl⟩
            rw [← hy] at hc2
            have hym : y < m := by rw [hy]; exact getD_lt_of (by omega) HLL.out.2.2.1 _
            obtain ⟨a, ha⟩ : ∃ a, a = j + 1 := ⟨_, rfl⟩
            obtain ⟨x, hx⟩ : ∃ x, x = cs.getD (j + 1) 0 := ⟨_, rfl⟩
            have hxm : x < m := by rw [hx]; exact getD_lt_of (by omega) HLL.out.2.2.1 _
            have hc1 := hrng.cell a (by rw [hml]; omega)
            have hf1 := hrng.frozen a
            rw [ha, mixW_at (by rw [← HK.out.2]; omega), if_neg (by omega), ← hx, ← ha] at hc1
            obtain ⟨z, hz⟩ : ∃ z, z = (x + m - y) % m := ⟨_, rfl⟩
            have HZE := Lib.hid hz
            have hzw : z = wideN m cs (j + 1) := by rw [hz, hx, hy]; rfl
            have HNX : Hid (∀ M, FsB W0 g4 m cs (.int .i64 ((j + 1 : Nat) : Int)) ((wr.drewN M).setCell ⟨g4, a, none⟩ (.int .u64 ((z : Nat) : Int)))) := Lib.hid fun M =>
              ⟨j + 1, rfl, by rw [← HK.out.2]; omega, by
                have h9 := (hrng.block (w' := wr.drewN M) rfl).set a z
                rw [hzw, ha, mixW_next] at h9
                rw [hzw, ha]
                exact h9, (below_draws hbel M).setCell HG4.out.1 _⟩
            have hw3 : IntKind.i64.wrap ((j : Int) + 1) = (a : Int) := by rw [IntWalk.i64_in _ (by omega)]; omega
            have hae : (a : Int) = ((j + 1 : Nat) : Int) := by omega
            have ha0 : (0 : Int) ≤ (a : Int) := by omega
            have ha1 : (a : Int) < ((k + 1 : Nat) : Int) := by omega
            have ha2 : (a : Int) < (k : Int) + 1 := by omega
            have hj0 : (0 : Int) ≤ (j : Int) := by omega
            have hj1 : (j : Int) < (k : Int) := by omega
            have HMP := Lib.hid (And.intro hxm hym)
            have HAE := Lib.hid hae
            clear hj hrng hbel hml hjk hx9 hb hcell hx hy hz hzw ha hae
            go_wp2_with fail
            go_region_law (first
              | ((try go_simp); go_at_call 96; refine mminus_any m x y _ HMP.out.1 HMP.out.2 (by omega) _ ?_; rw [← HZE.out]; dsimp only))
            all_goals
              go_wp2
              go_roundw
              case rel => rw [HAE.out]; exact HNX.out _
              case measure => rw [HAE.out]; simp [intOf]; omega
    · have hil : i < n1 := by omega
      have hlen : ((sumL m ss).take (i + 1)).length = i + 1 := by rw [List.length_take, sumL_len, ← HK.out.1]; omega
      obtain ⟨g, cap, rfl, hcap, hg, hrng⟩ := how.rngC (by rw [hlen]; omega)
      rw [hlen] at hcap HOW ⊢
      have hc1 := hrng.cell i (by rw [hlen]; omega)
      rw [List.getD_eq_getElem?_getD, List.getElem?_take_of_lt (by omega), ← List.getD_eq_getElem?_getD, sumL_at (by rw [← HK.out.1]; omega)] at hc1
      obtain ⟨hx9, hb, hcell⟩ := HS.out.cellAt
      clear hx9
      have hc2 := hcell i (by rw [← HK.out.1]; exact hil)
      rw [← hbel.cell (p := ⟨b1, o1 + i, none⟩) hb] at hc2
      obtain ⟨x, hx⟩ : ∃ x, x = psum m ss i := ⟨_, rfl⟩
      obtain ⟨y, hy⟩ : ∃ y, y = ss.getD i 0 := ⟨_, rfl⟩
      rw [← hx] at hc1
      rw [← hy] at hc2
      have hxm : x < m := by rw [hx]; exact psum_lt (by omega) _ _
      have hym : y < m := by rw [hy]; exact getD_lt_of (by omega) HLL.out.2.2.2 _
      obtain ⟨z, hz⟩ : ∃ z, z = (x + y) % m := ⟨_, rfl⟩
      have HZE := Lib.hid hz
      have HTK : Hid ((sumL m ss).take (i + 1 + 1) = (sumL m ss).take (i + 1) ++ [z]) := Lib.hid (by rw [sumL_take (by rw [← HK.out.1]; omega), psum, ← hx, ← hy, ← hz])
      have HLN := Lib.hid hlen
      have hw3 : IntKind.i64.wrap ((i : Int) + 1) = ((i + 1 : Nat) : Int) := by rw [IntWalk.i64_in _ (by omega)]; omega
      have hi0 : (0 : Int) ≤ (i : Int) := by omega
      have hi1 : (i : Int) < (n1 : Int) := by omega
      have hi2 : (i : Int) < ((i + 1 : Nat) : Int) := by omega
      have hi3 : (i : Int) < (i : Int) + 1 := by omega
      have HMP := Lib.hid (And.intro hxm hym)
      clear hi how hbel hin hcap hg hrng hcell hb hx hy hz hlen
      go_wp2_with fail
      go_region_law (first
        | (have hguard := HQ1; refine step_append_any rfl _ _ 63 rfl 61 .u64 8 Tryz.underlying63 info_u64' (by omega) L.heap.size ((sumL m ss).take (i + 1)) [z] (HOW.out.drew.alloc _) (Own.lit1 .u64 61 _ _ z _ rfl (Nat.le_refl _)).sl (by rw [HLN.out]; simp; omega) (by have := HB.out.size; simp; omega) ?_; intro ao n9 c9 w9 hown9 hn9 hb9; have HOW9 : Hid (Own .u64 61 w9 L.heap.size (.slice ao n9 c9) ((sumL m ss).take (i + 1 + 1))) := Lib.hid (by rw [HTK.out]; exact hown9); have HB9 : Hid (Below L.heap.size L w9) := Lib.hid ((HB.out.drew.alloc HB.out.size _).trans hb9); clear hguard hown9 hn9 hb9)
        | ((try go_simp); go_at_call 92; refine mplus_any m x y _ HMP.out.1 HMP.out.2 (by omega) _ ?_; rw [← HZE.out]; have HQ1 : Hid True := Lib.hid trivial; dsimp only))
      all_goals
        go_wp2
        go_roundw
        case rel => exact ⟨i + 1, rfl, by rw [← HK.out.1]; omega, HOW9.out, HB9.out⟩
        case measure => simp [intOf]; omega
end Go.Proofs.YtnfehccicnpbpaaGreatDoor

namespace Go.Proofs.YtnfehccicnpbpaaGreatDoor
open Go Go.RowKit

noncomputable def sumT (L1 L2 : List ByteArray) (n m : Int) : Nat := trm m.toNat (wideL m.toNat (resL m.toNat L2)) (sumL m.toNat (resL m.toNat L1)) n.toNat
/-- what FarSum answers -/
noncomputable def farSumV (L1 L2 : List ByteArray) (n m : Int) : Value := if farB L1 L2 n m = true then .tuple #[.int .i64 ((sumT L1 L2 n m : Nat) : Int), .bool true] else .tuple #[.int .i64 0, .bool false]
theorem farSumV_shape (L1 L2 : List ByteArray) (n m : Int) : ∃ (z : Int) (b : Bool), farSumV L1 L2 n m = .tuple #[.int .i64 z, .bool b] := by
  unfold farSumV
  split
  · exact ⟨_, _, rfl⟩
  · exact ⟨_, _, rfl⟩

set_option maxRecDepth 100000 in
set_option maxHeartbeats 4000000 in
theorem impl_farSum (v : Value) (L1 L2 : List ByteArray) (n m : Int) (w : World) (hE : Env w) (h : IsRec w v L1 L2) (hn1 : L1.length ≤ 1048576) (hn2 : L2.length ≤ 1048576) (R : Ending → World → Prop)
    (hR : ∀ w', Below w.heap.size w w' → R (.returned (farSumV L1 L2 n m)) w') :
    Calls Tryz.prog 27 #[v, .int .i64 n, .int .i64 m] w R := by
  have HR := Lib.hid hR; clear hR
  have HE := Lib.hid hE
  have h9 := h
  obtain ⟨a1, n1, c1, a2, n2, c2, rfl, e1, e2, h1, h2⟩ := h.parts
  obtain ⟨L, hL⟩ : ∃ L, L = w.alloc (.cells #[.slice a1 n1 c1, .slice a2 n2 c2] 28) := ⟨_, rfl⟩
  have HBL : Hid (Below w.heap.size w L) := Lib.hid (by rw [hL]; exact (Below.refl _ _).alloc (Nat.le_refl _) _)
  have HBX : Hid (Box2 L w.heap.size (.slice a1 n1 c1) (.slice a2 n2 c2) 28) := Lib.hid (by rw [hL]; exact Box2.made _ _ _ _)
  have HL := Lib.hid hL
  have HV := Lib.hid (h9.later HBL.out (Nat.le_refl _))
  have HN := Lib.hid (And.intro hn1 hn2)
  obtain ⟨hA0, hA1, _, _⟩ := HBX.out.cells
  have HNO : Hid (farB L1 L2 n m = false → ∀ w', Below w.heap.size w w' → R (.returned (.tuple #[.int .i64 0, .bool false])) w') := Lib.hid fun hf w' hb => by
    have := HR.out w' hb
    unfold farSumV at this
    rw [if_neg (by rw [hf]; decide)] at this; exact this
  clear h h9 e1 e2 h1 h2 hn1 hn2 hL hE
  go_enter Tryz.func27, Tryz.ntmps27
  rw [HL.out] at hA0 hA1
  go_wp2_with fail
  rw [← HL.out]
  refine readres_any _ L1 L2 m L (HE.out.later HBL.out (Nat.le_refl _)) HV.out HN.out.1 HN.out.2 _ ?_ ?_
  rotate_left
  · intro e w2 hno he hb2
    obtain ⟨t, p, rfl⟩ := he
    have HF := Lib.hid (HNO.out (by
      unfold farB modB
      cases hx : wholeB L1 L2
      · rfl
      · rw [hx, Bool.true_and] at hno; rw [hno]; simp) (w2.alloc (.cells #[.int .u64 0, .slice none 0 0, .slice none 0 0] 65)) ((HBL.out.trans (hb2.mono HBL.out.size)).alloc (Nat.le_trans HBL.out.size hb2.size) _))
    clear hno hb2 hA0 hA1
    unfold zeroU
    dsimp only
    go_wp2
    first | go_ret | skip
    exact HF.out
  intro M vs vc w2 hM hM2 hM3 hw hvs hvc hb2
  subst hM
  obtain ⟨b1, o1, d1, rfl, hvs'⟩ := hvs.op
  obtain ⟨b2, o2, d2, rfl, hvc'⟩ := hvc.op
  obtain ⟨k1, hk1⟩ : ∃ k1, k1 = (resL M L1).length := ⟨_, rfl⟩
  obtain ⟨k2, hk2⟩ : ∃ k2, k2 = (resL M L2).length := ⟨_, rfl⟩
  rw [← hk1] at hvs' ⊢
  rw [← hk2] at hvc' ⊢
  obtain ⟨V, hV⟩ : ∃ V, V = w2.alloc (.cells #[.int .u64 (M : Int), .slice (some ⟨b1, o1, none⟩) k1 d1, .slice (some ⟨b2, o2, none⟩) k2 d2] 65) := ⟨_, rfl⟩
  have hbV : Below w2.heap.size w2 V := by rw [hV]; exact (Below.refl _ _).alloc (Nat.le_refl _) _
  have HBV : Hid (Below w.heap.size w V) := Lib.hid ((HBL.out.trans (hb2.mono HBL.out.size)).trans (hbV.mono (by have := HBL.out.size; have := hb2.size; omega)))
  have HVS := Lib.hid (hvs'.later hbV (Nat.le_refl _))
  have HVC := Lib.hid (hvc'.later hbV (Nat.le_refl _))
  have HRB : Hid (Box3 V w2.heap.size (.int .u64 (M : Int)) (.slice (some ⟨b1, o1, none⟩) k1 d1) (.slice (some ⟨b2, o2, none⟩) k2 d2) 65) := Lib.hid (by rw [hV]; exact Box3.made _ _ _ _ _)
  have HV2 := Lib.hid hV
  have HW := Lib.hid hw
  have HLE := Lib.hid (And.intro (res_le (m := M) hw).1 (show (resL M L2).length ≤ 8 by rw [resL_len]; exact (whole_parts hw).2.2.1))
  obtain ⟨⟨hB0, hB1, hB2⟩, _, _, _⟩ := HRB.out.cells
  rw [hV] at hB0 hB1 hB2
  clear hw hvs hvc hvs' hvc' hb2 hbV hV hk1 hk2 hA0 hA1
  dsimp only
  go_wp2_with fail
  rw [← HV2.out]
  refine iidx_any n _ _ ?_
  cases hy : idxB n with
  | false =>
    have HF := Lib.hid (HNO.out (by unfold farB; rw [hy]; simp) V HBV.out)
    clear hy hB0 hB1 hB2
    dsimp only
    go_wp2
    first | go_ret | skip
    exact HF.out
  | true =>
    have hn := of_decide_eq_true (show decide (0 ≤ n ∧ n ≤ 1000000000000000000) = true from hy)
    have hOK : farB L1 L2 n (M : Int) = true := by unfold farB modB; rw [HW.out, hy, decide_eq_true ⟨by omega, by omega⟩]; rfl
    obtain ⟨K, rfl⟩ : ∃ K : Nat, n = (K : Int) := ⟨n.toNat, by omega⟩
    obtain ⟨t, ht⟩ : ∃ t, t = trm M (wideL M (resL M L2)) (sumL M (resL M L1)) K := ⟨_, rfl⟩
    have HT := Lib.hid ht
    have HF : Hid (∀ w', Below w.heap.size w w' → R (.returned (.tuple #[.int .i64 ((t : Nat) : Int), .bool true])) w') := Lib.hid fun w' hb => by
      have := HR.out w' hb
      unfold farSumV at this
      rw [if_pos hOK, sumT, Int.toNat_natCast, Int.toNat_natCast, ← ht] at this; exact this
    have htm : t < M := by rw [ht]; exact trm_lt (by omega) (sumL_lt (by omega) _) _
    have hwK : IntKind.u64.wrap (K : Int) = (K : Int) := wrapu _ (by omega) (by omega)
    have hwt : IntKind.i64.wrap (t : Int) = (t : Int) := IntWalk.i64_in _ (by omega)
    have HKN := Lib.hid (show K < 18446744073709551616 by omega)
    clear hy hn hOK ht hB0 hB1 hB2
    obtain ⟨⟨hB0, hB1, hB2⟩, _, _, _⟩ := HRB.out.cells
    dsimp only
    go_wp2_with fail
    refine sums_any M _ _ (resL M L2) (resL M L1) _ HVS.out HVC.out HLE.out.1 (by have := HLE.out.2; omega) hM2 hM3 (resL_lt (by omega) _) (resL_lt (by omega) _) _ ?_
    intro vs' vc' w3 hs3 hc3 hb3
    obtain ⟨b5, o5, d5, rfl, hs3'⟩ := hs3.op
    obtain ⟨b6, o6, d6, rfl, hc3'⟩ := hc3.op
    have HS3 := Lib.hid hs3'
    have HC3 := Lib.hid hc3'
    have HB3 := Lib.hid (HBV.out.trans (hb3.mono HBV.out.size))
    have HL3 : Hid ((sumL M (resL M L1)).length = (wideL M (resL M L2)).length ∧ (wideL M (resL M L2)).length ≤ 10) := Lib.hid (by rw [sumL_len, wideL_len, HLE.out.1]; exact ⟨rfl, by have := HLE.out.2; omega⟩)
    obtain ⟨k5, hk5⟩ : ∃ k5, k5 = (sumL M (resL M L1)).length := ⟨_, rfl⟩
    obtain ⟨k6, hk6⟩ : ∃ k6, k6 = (wideL M (resL M L2)).length := ⟨_, rfl⟩
    rw [← hk5] at HS3 ⊢
    rw [← hk6] at HC3 ⊢
    clear hs3 hc3 hs3' hc3' hb3 hB0 hB1 hB2 hk5 hk6
    dsimp only
    go_wp2_with fail
    refine rterm_any M K _ _ (wideL M (resL M L2)) (sumL M (resL M L1)) _ HS3.out HC3.out HL3.out.1 HL3.out.2 hM2 hM3 (wideL_lt (by omega) _) (sumL_lt (by omega) _) HKN.out _ ?_
    rw [← HT.out]
    intro w4 hb4
    have HFF := Lib.hid (HF.out w4 (HB3.out.trans (hb4.mono HB3.out.size)))
    clear hb4
    dsimp only
    go_wp2
    first | go_ret | skip
    exact HFF.out
end Go.Proofs.YtnfehccicnpbpaaGreatDoor

namespace Go.Proofs.YtnfehccicnpbpaaGreatDoor
open Go Go.RowKit

def WdR (w0 : World) (m : Nat) (C : List Nat) (v iv : Value) (wr : World) : Prop :=
  ∃ i : Nat, iv = .int .i64 (i : Int) ∧ i ≤ C.length + 1 ∧ Own .i64 2 wr w0.heap.size v ((wideL m C).take i) ∧ Below w0.heap.size w0 wr
def SuR (w0 : World) (m : Nat) (S : List Nat) (v iv : Value) (wr : World) : Prop :=
  ∃ i : Nat, iv = .int .i64 (i : Int) ∧ i ≤ S.length ∧ Own .i64 2 wr w0.heap.size v ((sumL m S).take (i + 1)) ∧ Below w0.heap.size w0 wr

theorem Sl.cellAt {k : IntKind} {w : World} {ao : Option Addr} {n c : Nat} {xs : List Nat} (h : Sl k w (.slice ao n c) xs) {i : Nat} (hi : i < xs.length) {W : World} (hb : Below w.heap.size w W) : ∃ b off, ao = some ⟨b, off, none⟩ ∧ W.cell? ⟨b, off + i, none⟩ = some (.int k ((xs.getD i 0 : Nat) : Int)) := by
  have hl := h.len
  obtain ⟨b, off, e, hlt, hc⟩ := h.at i (by omega)
  exact ⟨b, off, e, by rw [hb.cell (p := ⟨b, off + i, none⟩) hlt]; exact hc⟩

set_option maxRecDepth 100000 in
set_option maxHeartbeats 16000000 in
theorem spec_farSum (v : Value) (L1 L2 : List ByteArray) (n m : Int) (w : World) (h : IsRec w v L1 L2) (hn1 : L1.length ≤ 1048576) (hs1 : ∀ s ∈ L1, s.size ≤ 1048576) (hn2 : L2.length ≤ 1048576) (hs2 : ∀ s ∈ L2, s.size ≤ 1048576) (R : Ending → World → Prop)
    (hR : ∀ w', Below w.heap.size w w' → R (.returned (farSumV L1 L2 n m)) w') :
    Calls Tryz.prog 26 #[v, .int .i64 n, .int .i64 m] w R := by
  have HR := Lib.hid hR; clear hR
  obtain ⟨a1, n1, c1, a2, n2, c2, rfl, e1, e2, h1, h2⟩ := h.parts
  obtain ⟨L, hL⟩ : ∃ L, L = w.alloc (.cells #[.slice a1 n1 c1, .slice a2 n2 c2] 28) := ⟨_, rfl⟩
  have HBL : Hid (Below w.heap.size w L) := Lib.hid (by rw [hL]; exact (Below.refl _ _).alloc (Nat.le_refl _) _)
  have HBX : Hid (Box2 L w.heap.size (.slice a1 n1 c1) (.slice a2 n2 c2) 28) := Lib.hid (by rw [hL]; exact Box2.made _ _ _ _)
  have HL := Lib.hid hL
  have H1 := Lib.hid (h1.later HBL.out (Nat.le_refl _))
  have H2 := Lib.hid (h2.later HBL.out (Nat.le_refl _))
  have HH := Lib.hid (And.intro hn1 (And.intro hs1 (And.intro hn2 hs2)))
  have HE := Lib.hid (And.intro e1 e2)
  have HNO : Hid (farB L1 L2 n m = false → ∀ w', Below w.heap.size w w' → R (.returned (.tuple #[.int .i64 0, .bool false])) w') := Lib.hid fun hf w' hb => by
    have := HR.out w' hb
    unfold farSumV at this
    rw [if_neg (by rw [hf]; decide)] at this; exact this
  clear h e1 e2 h1 h2 hn1 hs1 hn2 hs2 hL
  go_enter Tryz.func26, Tryz.ntmps26
  go_wp2_with fail
  rw [← HL.out]
  refine l04is_any _ n1 n2 c1 c2 a1 a2 L1 L2 L HBX.out HE.out.1 HE.out.2 H1.out H2.out HH.out.1 HH.out.2.1 HH.out.2.2.1 HH.out.2.2.2 _ ?_
  intro w1 hb1
  have HB := Lib.hid (HBL.out.trans (hb1.mono HBL.out.size))
  have HB1 := Lib.hid hb1
  clear hb1
  cases hx : wholeB L1 L2 with
  | false =>
    have HF := Lib.hid (HNO.out (by unfold farB; rw [hx]; rfl) w1 HB.out)
    clear hx
    dsimp only
    go_wp2
    first | go_ret | skip
    exact HF.out
  | true =>
    have HX := Lib.hid hx
    clear hx
    dsimp only
    go_wp2_with fail
    refine sidx_any n _ _ ?_
    cases hy : idxB n with
    | false =>
      have HF := Lib.hid (HNO.out (by unfold farB; rw [hy]; simp) w1 HB.out)
      clear hy
      dsimp only
      go_wp2
      first | go_ret | skip
      exact HF.out
    | true =>
      have HY := Lib.hid hy
      clear hy
      dsimp only
      go_wp2_with fail
      refine smod_any m _ _ ?_
      cases hz : decide (2 ≤ m ∧ m ≤ 1000000) with
      | false =>
        have HF := Lib.hid (HNO.out (by unfold farB modB; rw [hz]; simp) w1 HB.out)
        clear hz
        dsimp only
        go_wp2
        first | go_ret | skip
        exact HF.out
      | true =>
        have hm := of_decide_eq_true hz
        have hn := of_decide_eq_true (show decide (0 ≤ n ∧ n ≤ 1000000000000000000) = true from HY.out)
        have hOK : farB L1 L2 n m = true := by unfold farB modB; rw [HX.out, HY.out, hz]; rfl
        obtain ⟨M, rfl⟩ : ∃ M : Nat, m = (M : Int) := ⟨m.toNat, by omega⟩
        obtain ⟨K, rfl⟩ : ∃ K : Nat, n = (K : Int) := ⟨n.toNat, by omega⟩
        obtain ⟨t, ht⟩ : ∃ t, t = trm M (wideL M (resL M L2)) (sumL M (resL M L1)) K := ⟨_, rfl⟩
        have HF : Hid (∀ w', Below w.heap.size w w' → R (.returned (.tuple #[.int .i64 ((t : Nat) : Int), .bool true])) w') := Lib.hid fun w' hb => by
          have := HR.out w' hb
          unfold farSumV at this
          rw [if_pos hOK, sumT, Int.toNat_natCast, Int.toNat_natCast, ← ht] at this; exact this
        have hM2 : 2 ≤ M := by omega
        have hM3 : M ≤ 1000000 := by omega
        have hK9 : K ≤ 9000000000000000000 := by omega
        have HT := Lib.hid ht
        have HP := Lib.hid (whole_parts HX.out)
        have HBX1 := Lib.hid (HBX.out.later HB1.out (lt_of_block HBX.out))
        have H11 := Lib.hid (H1.out.later HB1.out (Nat.le_refl _))
        have H21 := Lib.hid (H2.out.later HB1.out (Nat.le_refl _))
        obtain ⟨hA0, hA1, _, _⟩ := HBX1.out.cells
        have HPL := Lib.hid HP.out.1
        obtain ⟨C, hCd⟩ : ∃ C, C = resL M L2 := ⟨_, rfl⟩
        obtain ⟨S, hSd⟩ : ∃ S, S = resL M L1 := ⟨_, rfl⟩
        have HM : Hid ((∀ x ∈ C, x < M) ∧ (∀ x ∈ S, x < M)) := Lib.hid ⟨by rw [hCd]; exact resL_lt (by omega) _, by rw [hSd]; exact resL_lt (by omega) _⟩
        obtain ⟨k, hkd⟩ : ∃ k, k = L2.length := ⟨_, rfl⟩
        have hkC : k = C.length := by rw [hCd, resL_len]; exact hkd
        have hkS : k = S.length := by rw [hSd, resL_len, HPL.out]; exact hkd
        have hk8 : k ≤ 8 := by rw [hkd]; exact HP.out.2.2.1
        rw [← hCd, ← hSd] at ht
        have HT := Lib.hid ht
        have HD := Lib.hid (And.intro hCd (And.intro hSd (And.intro hkC hkS)))
        clear hz hm hn hOK ht hCd hSd hkd hkC hkS
        dsimp only
        go_wp2_with fail
        refine sresidues_any _ L2 M _ H21.out HP.out.2.2.2.2.1 (by have := HP.out.2.2.1; omega) hM2 hM3 _ ?_
        intro v3 w3 hv3 hb3
        obtain ⟨a5, c5, rfl, hc5, hh5⟩ := hv3.sl
        have hcv : Sl .i64 w3 (.slice a5 (resL M L2).length c5) (resL M L2) := ⟨a5, c5, rfl, hc5, hh5⟩
        rw [← HD.out.1, ← HD.out.2.2.1] at hcv
        have HC3 := Lib.hid hcv
        have e9 : (resL M L2).length = k := by rw [← HD.out.1]; exact HD.out.2.2.1.symm
        rw [e9]
        have HT1 := Lib.hid hb3
        clear hA0 hA1
        obtain ⟨hA0, hA1, _, _⟩ := (HBX1.out.later hb3 (lt_of_block HBX1.out)).cells
        clear hv3 hb3 hc5 hh5 hcv e9
        dsimp only
        go_wp2_with fail
        refine sresidues_any _ L1 M _ (H11.out.later HT1.out (Nat.le_refl _)) HP.out.2.2.2.1 (by have := HP.out.2.1; omega) hM2 hM3 _ ?_
        intro v4 w4 hv4 hb4
        obtain ⟨a6, c6, rfl, hc6, hh6⟩ := hv4.sl
        have hcv : Sl .i64 w4 (.slice a6 (resL M L1).length c6) (resL M L1) := ⟨a6, c6, rfl, hc6, hh6⟩
        rw [← HD.out.2.1, ← HD.out.2.2.2] at hcv
        have HSS := Lib.hid hcv
        have HCC := Lib.hid (HC3.out.later hb4 (Nat.le_refl _))
        have e9 : (resL M L1).length = k := by rw [← HD.out.2.1]; exact HD.out.2.2.2.symm
        rw [e9]
        have HB4 := Lib.hid (HB.out.trans ((HT1.out.trans (hb4.mono HT1.out.size)).mono HB.out.size))
        clear hv4 hb4 hc6 hh6 hcv e9 hA0 hA1
        dsimp only
        have HST : Hid (WdR w4 M C (.slice (some ⟨w4.heap.size, 0, none⟩) 0 0) (.int .i64 0) (w4.alloc (.cells #[] 2))) := Lib.hid ⟨0, rfl, by omega, Own.lit _ _ _ _ (Nat.le_refl _), (Below.refl _ _).alloc (Nat.le_refl _) _⟩
        go_wp2
        go_loopw [10, 11] (fun v i wr => WdR w4 M C v i wr) (fun _ i _ => k + 1 - (intOf i).toNat)
        case atStart => exact HST.out
        case round =>
          clear HST
          obtain ⟨i, rfl, hi, how, hbel⟩ := hrel
          obtain ⟨ao, no, co, rfl, hno⟩ := how.shape
          clear hno
          rw [← HD.out.2.2.1] at hi
          have HB := Lib.hid hbel
          have HOW := Lib.hid how
          have hkC := HD.out.2.2.1
          have hb4 : Below w4.heap.size w4 wr := hbel
          by_cases hend : i = k + 1
          · subst hend
            have hwd : (wideL M C).take (k + 1) = wideL M C := List.take_of_length_le (by rw [wideL_len]; omega)
            rw [hwd] at how
            have HWD := Lib.hid how
            have hgt : ¬ ((k + 1 : Nat) : Int) ≤ (k : Int) := by omega
            have hgt2 : ¬ (k : Int) + 1 ≤ (k : Int) := by omega
            obtain ⟨wo, hwo⟩ : ∃ wo : World, wo = wr := ⟨_, rfl⟩
            subst hwo
            have HST3 : Hid (SuR wo M S (.slice (some ⟨wo.heap.size, 0, none⟩) 1 1) (.int .i64 0) (wo.alloc (.cells #[.int .i64 0] 2))) := Lib.hid ⟨0, rfl, Nat.zero_le _, by
              have e : (sumL M S).take (0 + 1) = [0] := by simp [sumL, List.range_succ_eq_map, psum]
              rw [e]
              exact Own.lit1 .i64 2 wo wo.heap.size 0 0 rfl (Nat.le_refl _), (Below.refl _ _).alloc (Nat.le_refl _) _⟩
            clear hi how hbel hb4 hwd hkC HOW
            go_wp2
            clear hgt hgt2
            go_loopw [13, 14] (fun v i wr => SuR wo M S v i wr) (fun _ i _ => k - (intOf i).toNat)
            case atStart => exact HST3.out
            case round =>
              clear HST3
              obtain ⟨i, rfl, hi, how, hbel⟩ := hrel
              rw [← HD.out.2.2.2] at hi
              have HBW := Lib.hid hbel
              have HOW := Lib.hid how
              by_cases hik : i = k
              · subst hik
                have hall : (sumL M S).take (i + 1) = sumL M S := List.take_of_length_le (by rw [sumL_len]; have := HD.out.2.2.2; omega)
                rw [hall] at how
                obtain ⟨ax, cx, rfl, hcx, hhx⟩ := how.sl
                have HX5 : Hid (Sl .i64 wr (.slice ax (sumL M S).length cx) (sumL M S)) := Lib.hid ⟨ax, cx, rfl, hcx, hhx⟩
                have HW5 := Lib.hid (HWD.out.later hbel (Nat.le_refl _))
                have hii : ¬ ((i : Int) < (i : Int)) := by omega
                have HBF := Lib.hid (HB4.out.trans ((HB.out.trans (hbel.mono HB.out.size)).mono HB4.out.size))
                clear hi how hbel hall hcx hhx
                go_wp2_with fail
                refine sterm_any M K _ _ (sumL M S) (wideL M C) _ HX5.out HW5.out.sl (by rw [sumL_len, wideL_len, ← HD.out.2.2.1, ← HD.out.2.2.2]) (sumL_lt (by omega) _) (wideL_lt (by omega) _) hM2 hM3 (by rw [wideL_len, ← HD.out.2.2.1]; omega) hK9 _ ?_
                rw [← HT.out]
                intro w6 hb6
                have HFF := Lib.hid (HF.out w6 (HBF.out.trans (hb6.mono HBF.out.size)))
                clear hb6
                dsimp only
                go_wp2
                first | go_ret | skip
                exact HFF.out
              · have hil : i < k := by omega
                have hlen : ((sumL M S).take (i + 1)).length = i + 1 := by rw [List.length_take, sumL_len, ← HD.out.2.2.2]; omega
                obtain ⟨ax, nx, cx, rfl, hnx⟩ := how.shape
                rw [hlen] at hnx
                subst hnx
                obtain ⟨b1, o1, eb1, hc1⟩ := how.sl.cellAt (i := i) (by rw [hlen]; omega) (Below.refl _ _)
                cases eb1
                rw [List.getD_eq_getElem?_getD, List.getElem?_take_of_lt (by omega), ← List.getD_eq_getElem?_getD, sumL_at (by rw [← HD.out.2.2.2]; omega)] at hc1
                have hb4w : Below w4.heap.size w4 wr := HB.out.trans (hbel.mono HB.out.size)
                obtain ⟨b2, o2, eb2, hc2⟩ := HSS.out.cellAt (i := i) (by rw [← HD.out.2.2.2]; exact hil) hb4w
                cases eb2
                obtain ⟨x, hx⟩ : ∃ x, x = psum M S i := ⟨_, rfl⟩
                obtain ⟨y, hy⟩ : ∃ y, y = S.getD i 0 := ⟨_, rfl⟩
                rw [← hx] at hc1
                rw [← hy] at hc2
                have hxm : x < M := by rw [hx]; exact psum_lt (by omega) _ _
                have hym : y < M := by rw [hy]; exact getD_lt_of (by omega) HM.out.2 _
                obtain ⟨z, hz⟩ : ∃ z, z = (x + y) % M := ⟨_, rfl⟩
                have HTK : Hid ((sumL M S).take (i + 1 + 1) = (sumL M S).take (i + 1) ++ [z]) := Lib.hid (by rw [sumL_take (by rw [← HD.out.2.2.2]; omega), psum, ← hx, ← hy, ← hz])
                have HLN := Lib.hid hlen
                have hw5 : IntKind.i64.wrap ((x : Int) + (y : Int)) = (x : Int) + (y : Int) := IntWalk.i64_in _ (by omega)
                have e1 : ((x : Int) + (y : Int)) % (M : Int) = (z : Int) := by rw [hz, Int.natCast_emod, Int.natCast_add]
                have e2 : Int.tmod ((x : Int) + (y : Int)) (M : Int) = (z : Int) := by rw [Int.tmod_eq_emod_of_nonneg (by omega)]; exact e1
                have hzm : z < M := by rw [hz]; exact Nat.mod_lt _ (by omega)
                have hw6 : IntKind.i64.wrap (z : Int) = (z : Int) := IntWalk.i64_in _ (by omega)
                have hm0 : ¬ ((M : Int) = 0) := by omega
                have hm1 : ((M : Int) == 0) = false := by rw [beq_eq_false_iff_ne]; omega
                have hm3 : ¬ M = 0 := by omega
                have hw3 : IntKind.i64.wrap ((i : Int) + 1) = ((i + 1 : Nat) : Int) := by rw [IntWalk.i64_in _ (by omega)]; omega
                have hi0 : (0 : Int) ≤ (i : Int) := by omega
                have hi1 : (i : Int) < (k : Int) := by omega
                have hi2 : (i : Int) < ((i + 1 : Nat) : Int) := by omega
                have hi3 : (i : Int) < (i : Int) + 1 := by omega
                clear hi how hbel hik hx hy hz hlen hb4w
                go_wp2_with fail
                go_region_law (first
                  | (refine step_append_any rfl (.tmp 78) (.tmp 90) 32 rfl 2 .i64 8 Tryz.underlying32 info_i64 (by omega) wo.heap.size ((sumL M S).take (i + 1)) [z] (HOW.out.drew.alloc _) (Own.lit1 .i64 2 _ _ z _ rfl (Nat.le_refl _)).sl (by rw [HLN.out]; simp; omega) (by have := HBW.out.size; simp; omega) ?_; intro ao9 n9 c9 w9 hown9 hn9 hb9; have HOW9 : Hid (Own .i64 2 w9 wo.heap.size (.slice ao9 n9 c9) ((sumL M S).take (i + 1 + 1))) := Lib.hid (by rw [HTK.out]; exact hown9); have HB9 : Hid (Below wo.heap.size wo w9) := Lib.hid ((HBW.out.drew.alloc HBW.out.size _).trans hb9); clear hown9 hn9 hb9))
                all_goals
                  go_wp2
                  go_roundw
                  case rel => exact ⟨i + 1, rfl, by rw [← HD.out.2.2.2]; omega, HOW9.out, HB9.out⟩
                  case measure => simp [intOf]; omega
          · have hle : (i : Int) ≤ (k : Int) := by omega
            rcases Nat.lt_or_ge i k with hik | hik
            · rcases Nat.eq_zero_or_pos i with h0 | h0
              · have hkk := hkC
                obtain ⟨b1, o1, eb1, hc1⟩ := HCC.out.cellAt (i := i) (by omega) hb4
                cases eb1
                obtain ⟨x, hx⟩ : ∃ x, x = C.getD i 0 := ⟨_, rfl⟩
                rw [← hx] at hc1
                have hik1 : (i : Int) < (k : Int) := by omega
                have hxm : x < M := by rw [hx]; exact getD_lt_of (by omega) HM.out.1 _
                have hie : i = 0 := by omega
                have hi0 : ¬ (0 : Int) < (i : Int) := by omega
                obtain ⟨z0, hz0⟩ : ∃ z0 : Int, z0 = (x : Int) + 1 := ⟨_, rfl⟩
                have hw2 : IntKind.i64.wrap ((x : Int) + 1) = z0 := by rw [hz0]; exact IntWalk.i64_in _ (by omega)
                have hzr : -(M : Int) < z0 ∧ z0 ≤ (M : Int) := by omega
                have hwn : z0 % (M : Int) = ((wideN M C i : Nat) : Int) := by rw [hz0, ← wide_first]; unfold wideN; rw [if_pos hie, hx, hie]
                obtain ⟨r1, hr1⟩ : ∃ r1, r1 = Int.tmod z0 (M : Int) := ⟨_, rfl⟩
                have hr1b : -(M : Int) < r1 ∧ r1 < (M : Int) := by rw [hr1]; exact ⟨Int.lt_tmod_of_pos _ (by omega), Int.tmod_lt_of_pos _ (by omega)⟩
                obtain ⟨z, hz⟩ : ∃ z, z = wideN M C i := ⟨_, rfl⟩
                have hzm : z < M := by rw [hz]; exact wideN_lt (by omega) _ _
                have e1 : Int.tmod z0 (M : Int) = r1 := hr1.symm
                have hw3 : IntKind.i64.wrap r1 = r1 := IntWalk.i64_in _ (by omega)
                obtain ⟨r2, hr2⟩ : ∃ r2, r2 = r1 + (M : Int) := ⟨_, rfl⟩
                have hw4 : IntKind.i64.wrap (r1 + (M : Int)) = r2 := by rw [hr2]; exact IntWalk.i64_in _ (by omega)
                have e2 : Int.tmod r2 (M : Int) = (z : Int) := by rw [hr2, hr1, wide_spec (by omega) hzr.1 hzr.2, hwn, hz]
                have e3 : r2 % (M : Int) = (z : Int) := by rw [← e2, Int.tmod_eq_emod_of_nonneg (by omega)]
                have hw5 : IntKind.i64.wrap (z : Int) = (z : Int) := IntWalk.i64_in _ (by omega)
                have HTK : Hid ((wideL M C).take (i + 1) = (wideL M C).take i ++ [z]) := Lib.hid (by rw [wideL_take (by omega), hz])
                have hii0 : (0 : Int) ≤ (i : Int) := by omega
                have HIK := Lib.hid (show i ≤ k by omega)
                clear hkC hkk hik h0 hend hi how hbel hb4 hx hz0 hzr hwn hr1 hr1b hz hr2 hzm hxm hie
                go_wp2_with (at_builtin; go_must (refine wpList_pushz rfl (.tmp 61) (.tmp 69) 32 rfl 2 .i64 8 Tryz.underlying32 info_i64 (by omega) w4.heap.size _ ((wideL M C).take i) z (z : Int) rfl rfl (HOW.out.alloc _) wr.heap.size rfl (World.cell?_alloc_at _ _ _ _ rfl) (by have := HIK.out; rw [List.length_take]; omega) (by simp; have := HB.out.size; omega) ?_))
                intro v5 w5 hown5 hb5
                have HNX : Hid (WdR w4 M C v5 (.int .i64 ((i + 1 : Nat) : Int)) w5) := Lib.hid ⟨i + 1, rfl, by have := HIK.out; have := HD.out.2.2.1; omega, by rw [HTK.out]; exact hown5, (HB.out.alloc HB.out.size _).trans hb5⟩
                have hw9 : IntKind.i64.wrap ((i : Int) + 1) = ((i + 1 : Nat) : Int) := by have := HIK.out; rw [IntWalk.i64_in _ (by omega)]; omega
                clear hown5 hb5
                go_wp2
                go_roundw
                case rel => exact HNX.out
                case measure => simp [intOf]; have := HIK.out; omega
              · have hkk := hkC
                obtain ⟨b1, o1, eb1, hc1⟩ := HCC.out.cellAt (i := i) (by omega) hb4
                cases eb1
                obtain ⟨x, hx⟩ : ∃ x, x = C.getD i 0 := ⟨_, rfl⟩
                rw [← hx] at hc1
                have hik1 : (i : Int) < (k : Int) := by omega
                have hxm : x < M := by rw [hx]; exact getD_lt_of (by omega) HM.out.1 _
                obtain ⟨j, hj⟩ : ∃ j, j = i - 1 := ⟨_, rfl⟩
                obtain ⟨b2, o2, eb2, hc2⟩ := HCC.out.cellAt (i := j) (by rw [← HD.out.2.2.1]; omega) hb4
                obtain ⟨y, hy⟩ : ∃ y, y = C.getD j 0 := ⟨_, rfl⟩
                rw [← hy] at hc2
                have hym : y < M := by rw [hy]; exact getD_lt_of (by omega) HM.out.1 _
                have hw1 : IntKind.i64.wrap ((i : Int) - 1) = (j : Int) := by rw [IntWalk.i64_in _ (by omega)]; omega
                have hj0 : (0 : Int) ≤ (j : Int) := by omega
                have hjk : (j : Int) < (k : Int) := by omega
                have hi0 : (0 : Int) < (i : Int) := by omega
                obtain ⟨z0, hz0⟩ : ∃ z0 : Int, z0 = (x : Int) - (y : Int) := ⟨_, rfl⟩
                have hw2 : IntKind.i64.wrap ((x : Int) - (y : Int)) = z0 := by rw [hz0]; exact IntWalk.i64_in _ (by omega)
                obtain ⟨rfl, rfl⟩ : b1 = b2 ∧ o1 = o2 := by cases eb2; exact ⟨rfl, rfl⟩
                clear eb2
                have hzr : -(M : Int) < z0 ∧ z0 ≤ (M : Int) := by omega
                have hwn : z0 % (M : Int) = ((wideN M C i : Nat) : Int) := by rw [hz0, ← wide_next hym]; unfold wideN; rw [if_neg (show ¬ i = 0 by omega), hx, hy, hj]
                obtain ⟨r1, hr1⟩ : ∃ r1, r1 = Int.tmod z0 (M : Int) := ⟨_, rfl⟩
                have hr1b : -(M : Int) < r1 ∧ r1 < (M : Int) := by rw [hr1]; exact ⟨Int.lt_tmod_of_pos _ (by omega), Int.tmod_lt_of_pos _ (by omega)⟩
                obtain ⟨z, hz⟩ : ∃ z, z = wideN M C i := ⟨_, rfl⟩
                have hzm : z < M := by rw [hz]; exact wideN_lt (by omega) _ _
                have e1 : Int.tmod z0 (M : Int) = r1 := hr1.symm
                have hw3 : IntKind.i64.wrap r1 = r1 := IntWalk.i64_in _ (by omega)
                obtain ⟨r2, hr2⟩ : ∃ r2, r2 = r1 + (M : Int) := ⟨_, rfl⟩
                have hw4 : IntKind.i64.wrap (r1 + (M : Int)) = r2 := by rw [hr2]; exact IntWalk.i64_in _ (by omega)
                have e2 : Int.tmod r2 (M : Int) = (z : Int) := by rw [hr2, hr1, wide_spec (by omega) hzr.1 hzr.2, hwn, hz]
                have e3 : r2 % (M : Int) = (z : Int) := by rw [← e2, Int.tmod_eq_emod_of_nonneg (by omega)]
                have hw5 : IntKind.i64.wrap (z : Int) = (z : Int) := IntWalk.i64_in _ (by omega)
                have HTK : Hid ((wideL M C).take (i + 1) = (wideL M C).take i ++ [z]) := Lib.hid (by rw [wideL_take (by omega), hz])
                have hii0 : (0 : Int) ≤ (i : Int) := by omega
                have HIK := Lib.hid (show i ≤ k by omega)
                clear hkC hkk hik h0 hend hi how hbel hb4 hx hz0 hzr hwn hr1 hr1b hz hr2 hzm hxm hj hy hym
                go_wp2_with (at_builtin; go_must (refine wpList_pushz rfl (.tmp 61) (.tmp 69) 32 rfl 2 .i64 8 Tryz.underlying32 info_i64 (by omega) w4.heap.size _ ((wideL M C).take i) z (z : Int) rfl rfl (HOW.out.alloc _) wr.heap.size rfl (World.cell?_alloc_at _ _ _ _ rfl) (by have := HIK.out; rw [List.length_take]; omega) (by simp; have := HB.out.size; omega) ?_))
                intro v5 w5 hown5 hb5
                have HNX : Hid (WdR w4 M C v5 (.int .i64 ((i + 1 : Nat) : Int)) w5) := Lib.hid ⟨i + 1, rfl, by have := HIK.out; have := HD.out.2.2.1; omega, by rw [HTK.out]; exact hown5, (HB.out.alloc HB.out.size _).trans hb5⟩
                have hw9 : IntKind.i64.wrap ((i : Int) + 1) = ((i + 1 : Nat) : Int) := by have := HIK.out; rw [IntWalk.i64_in _ (by omega)]; omega
                clear hown5 hb5
                go_wp2
                go_roundw
                case rel => exact HNX.out
                case measure => simp [intOf]; have := HIK.out; omega
            · rcases Nat.eq_zero_or_pos i with h0 | h0
              · have hkk := hkC
                obtain ⟨x, hx⟩ : ∃ x, x = C.getD i 0 := ⟨_, rfl⟩
                have hx0 : x = 0 := by rw [hx, List.getD_eq_getElem?_getD, List.getElem?_eq_none (by omega)]; rfl
                have hik1 : ¬ (i : Int) < (k : Int) := by omega
                have hxm : x < M := by rw [hx]; exact getD_lt_of (by omega) HM.out.1 _
                have hie : i = 0 := by omega
                have hi0 : ¬ (0 : Int) < (i : Int) := by omega
                obtain ⟨z0, hz0⟩ : ∃ z0 : Int, z0 = (x : Int) + 1 := ⟨_, rfl⟩
                have hz1 : z0 = 1 := by rw [hz0, hx0]; rfl
                have hzr : -(M : Int) < z0 ∧ z0 ≤ (M : Int) := by omega
                have hwn : z0 % (M : Int) = ((wideN M C i : Nat) : Int) := by rw [hz0, ← wide_first]; unfold wideN; rw [if_pos hie, hx, hie]
                obtain ⟨r1, hr1⟩ : ∃ r1, r1 = Int.tmod z0 (M : Int) := ⟨_, rfl⟩
                have hr1b : -(M : Int) < r1 ∧ r1 < (M : Int) := by rw [hr1]; exact ⟨Int.lt_tmod_of_pos _ (by omega), Int.tmod_lt_of_pos _ (by omega)⟩
                obtain ⟨z, hz⟩ : ∃ z, z = wideN M C i := ⟨_, rfl⟩
                have hzm : z < M := by rw [hz]; exact wideN_lt (by omega) _ _
                have e1 : Int.tmod z0 (M : Int) = r1 := hr1.symm
                have hw3 : IntKind.i64.wrap r1 = r1 := IntWalk.i64_in _ (by omega)
                obtain ⟨r2, hr2⟩ : ∃ r2, r2 = r1 + (M : Int) := ⟨_, rfl⟩
                have hw4 : IntKind.i64.wrap (r1 + (M : Int)) = r2 := by rw [hr2]; exact IntWalk.i64_in _ (by omega)
                have e2 : Int.tmod r2 (M : Int) = (z : Int) := by rw [hr2, hr1, wide_spec (by omega) hzr.1 hzr.2, hwn, hz]
                have e3 : r2 % (M : Int) = (z : Int) := by rw [← e2, Int.tmod_eq_emod_of_nonneg (by omega)]
                have hw5 : IntKind.i64.wrap (z : Int) = (z : Int) := IntWalk.i64_in _ (by omega)
                have HTK : Hid ((wideL M C).take (i + 1) = (wideL M C).take i ++ [z]) := Lib.hid (by rw [wideL_take (by omega), hz])
                have hr11 : r1 = 1 := by rw [hr1, hz1, Int.tmod_eq_of_lt (by omega) (by omega)]
                have e1a : Int.tmod 1 (M : Int) = 1 := Int.tmod_eq_of_lt (by omega) (by omega)
                have e1b : (1 : Int) % (M : Int) = 1 := Int.emod_eq_of_lt (by omega) (by omega)
                rw [hr11] at hw4
                have hii0 : (0 : Int) ≤ (i : Int) := by omega
                have HIK := Lib.hid (show i ≤ k by omega)
                clear e1 hw3 hr11 hz1
                clear hkC hkk hik h0 hend hi how hbel hb4 hx hz0 hzr hwn hr1 hr1b hz hr2 hzm hxm hx0 hie
                go_wp2_with (at_builtin; go_must (refine wpList_pushz rfl (.tmp 61) (.tmp 69) 32 rfl 2 .i64 8 Tryz.underlying32 info_i64 (by omega) w4.heap.size _ ((wideL M C).take i) z (z : Int) rfl rfl (HOW.out.alloc _) wr.heap.size rfl (World.cell?_alloc_at _ _ _ _ rfl) (by have := HIK.out; rw [List.length_take]; omega) (by simp; have := HB.out.size; omega) ?_))
                intro v5 w5 hown5 hb5
                have HNX : Hid (WdR w4 M C v5 (.int .i64 ((i + 1 : Nat) : Int)) w5) := Lib.hid ⟨i + 1, rfl, by have := HIK.out; have := HD.out.2.2.1; omega, by rw [HTK.out]; exact hown5, (HB.out.alloc HB.out.size _).trans hb5⟩
                have hw9 : IntKind.i64.wrap ((i : Int) + 1) = ((i + 1 : Nat) : Int) := by have := HIK.out; rw [IntWalk.i64_in _ (by omega)]; omega
                clear hown5 hb5
                go_wp2
                go_roundw
                case rel => exact HNX.out
                case measure => simp [intOf]; have := HIK.out; omega
              · have hkk := hkC
                obtain ⟨x, hx⟩ : ∃ x, x = C.getD i 0 := ⟨_, rfl⟩
                have hx0 : x = 0 := by rw [hx, List.getD_eq_getElem?_getD, List.getElem?_eq_none (by omega)]; rfl
                have hik1 : ¬ (i : Int) < (k : Int) := by omega
                have hxm : x < M := by rw [hx]; exact getD_lt_of (by omega) HM.out.1 _
                obtain ⟨j, hj⟩ : ∃ j, j = i - 1 := ⟨_, rfl⟩
                obtain ⟨b2, o2, eb2, hc2⟩ := HCC.out.cellAt (i := j) (by rw [← HD.out.2.2.1]; omega) hb4
                obtain ⟨y, hy⟩ : ∃ y, y = C.getD j 0 := ⟨_, rfl⟩
                rw [← hy] at hc2
                have hym : y < M := by rw [hy]; exact getD_lt_of (by omega) HM.out.1 _
                have hw1 : IntKind.i64.wrap ((i : Int) - 1) = (j : Int) := by rw [IntWalk.i64_in _ (by omega)]; omega
                have hj0 : (0 : Int) ≤ (j : Int) := by omega
                have hjk : (j : Int) < (k : Int) := by omega
                have hi0 : (0 : Int) < (i : Int) := by omega
                obtain ⟨z0, hz0⟩ : ∃ z0 : Int, z0 = (x : Int) - (y : Int) := ⟨_, rfl⟩
                have hw2 : IntKind.i64.wrap (-(y : Int)) = z0 := by rw [hz0, hx0]; rw [IntWalk.i64_in _ (by omega)]; omega
                cases eb2
                have hzr : -(M : Int) < z0 ∧ z0 ≤ (M : Int) := by omega
                have hwn : z0 % (M : Int) = ((wideN M C i : Nat) : Int) := by rw [hz0, ← wide_next hym]; unfold wideN; rw [if_neg (show ¬ i = 0 by omega), hx, hy, hj]
                obtain ⟨r1, hr1⟩ : ∃ r1, r1 = Int.tmod z0 (M : Int) := ⟨_, rfl⟩
                have hr1b : -(M : Int) < r1 ∧ r1 < (M : Int) := by rw [hr1]; exact ⟨Int.lt_tmod_of_pos _ (by omega), Int.tmod_lt_of_pos _ (by omega)⟩
                obtain ⟨z, hz⟩ : ∃ z, z = wideN M C i := ⟨_, rfl⟩
                have hzm : z < M := by rw [hz]; exact wideN_lt (by omega) _ _
                have e1 : Int.tmod z0 (M : Int) = r1 := hr1.symm
                have hw3 : IntKind.i64.wrap r1 = r1 := IntWalk.i64_in _ (by omega)
                obtain ⟨r2, hr2⟩ : ∃ r2, r2 = r1 + (M : Int) := ⟨_, rfl⟩
                have hw4 : IntKind.i64.wrap (r1 + (M : Int)) = r2 := by rw [hr2]; exact IntWalk.i64_in _ (by omega)
                have e2 : Int.tmod r2 (M : Int) = (z : Int) := by rw [hr2, hr1, wide_spec (by omega) hzr.1 hzr.2, hwn, hz]
                have e3 : r2 % (M : Int) = (z : Int) := by rw [← e2, Int.tmod_eq_emod_of_nonneg (by omega)]
                have hw5 : IntKind.i64.wrap (z : Int) = (z : Int) := IntWalk.i64_in _ (by omega)
                have HTK : Hid ((wideL M C).take (i + 1) = (wideL M C).take i ++ [z]) := Lib.hid (by rw [wideL_take (by omega), hz])
                have hii0 : (0 : Int) ≤ (i : Int) := by omega
                have HIK := Lib.hid (show i ≤ k by omega)
                clear hkC hkk hik h0 hend hi how hbel hb4 hx hz0 hzr hwn hr1 hr1b hz hr2 hzm hxm hj hy hym hx0
                go_wp2_with (at_builtin; go_must (refine wpList_pushz rfl (.tmp 61) (.tmp 69) 32 rfl 2 .i64 8 Tryz.underlying32 info_i64 (by omega) w4.heap.size _ ((wideL M C).take i) z (z : Int) rfl rfl (HOW.out.alloc _) wr.heap.size rfl (World.cell?_alloc_at _ _ _ _ rfl) (by have := HIK.out; rw [List.length_take]; omega) (by simp; have := HB.out.size; omega) ?_))
                intro v5 w5 hown5 hb5
                have HNX : Hid (WdR w4 M C v5 (.int .i64 ((i + 1 : Nat) : Int)) w5) := Lib.hid ⟨i + 1, rfl, by have := HIK.out; have := HD.out.2.2.1; omega, by rw [HTK.out]; exact hown5, (HB.out.alloc HB.out.size _).trans hb5⟩
                have hw9 : IntKind.i64.wrap ((i : Int) + 1) = ((i + 1 : Nat) : Int) := by have := HIK.out; rw [IntWalk.i64_in _ (by omega)]; omega
                clear hown5 hb5
                go_wp2
                go_roundw
                case rel => exact HNX.out
                case measure => simp [intOf]; have := HIK.out; omega
end Go.Proofs.YtnfehccicnpbpaaGreatDoor

namespace Go.Proofs.YtnfehccicnpbpaaGreatDoor
open Go Go.RowKit

set_option maxRecDepth 100000 in
set_option maxHeartbeats 8000000 in
theorem law_farSum (v : Value) (L1 L2 : List ByteArray) (n m : Int) (w : World) (hE : Env w) (h : IsRec w v L1 L2) (hn1 : L1.length ≤ maxLen) (hs1 : ∀ s ∈ L1, s.size ≤ maxLen) (hn2 : L2.length ≤ maxLen) (hs2 : ∀ s ∈ L2, s.size ≤ maxLen) (_hn0 : -9223372036854775807 - 1 ≤ n) (_hn1 : n ≤ 9223372036854775807) (_hm0 : -9223372036854775807 - 1 ≤ m) (_hm1 : m ≤ 9223372036854775807) (R : Ending → World → Prop)
    (hR : ∀ w', Below w.heap.size w w' → R (.returned (.bool true)) w') :
    Calls Tryz.prog 5 #[v, .int .i64 n, .int .i64 m] w R := by
  have HR := Lib.hid hR; clear hR
  have HE := Lib.hid hE; clear hE
  have h9 := h
  obtain ⟨s1, s2, rfl, h1, h2⟩ := h9
  obtain ⟨a1, n1, c1, rfl, h1'⟩ := h1.op
  obtain ⟨a2, n2, c2, rfl, h2'⟩ := h2.op
  obtain ⟨L, hL⟩ : ∃ L, L = w.alloc (.cells #[.slice a1 n1 c1, .slice a2 n2 c2] 24) := ⟨_, rfl⟩
  have HBL : Hid (Below w.heap.size w L) := Lib.hid (by rw [hL]; exact (Below.refl _ _).alloc (Nat.le_refl _) _)
  have HBX : Hid (Box2 L w.heap.size (.slice a1 n1 c1) (.slice a2 n2 c2) 24) := Lib.hid (by rw [hL]; exact Box2.made _ _ _ _)
  have HL := Lib.hid hL
  have HV := Lib.hid (h.later HBL.out (Nat.le_refl _))
  have HN := Lib.hid (And.intro hn1 (And.intro hs1 (And.intro hn2 hs2)))
  obtain ⟨z0, bq, hzq⟩ := farSumV_shape L1 L2 n m
  have HZQ := Lib.hid hzq
  have cz0 : (z0 != z0) = false := by simp
  have cbq : (bq != bq) = false := by cases bq <;> rfl
  obtain ⟨hA0, hA1, _, _⟩ := HBX.out.cells
  clear h h1 h2 h1' h2' hn1 hs1 hn2 hs2 hL hzq _hn0 _hn1 _hm0 _hm1
  go_enter Tryz.func5, Tryz.ntmps5
  rw [HL.out] at hA0 hA1
  go_wp2_with fail
  rw [← HL.out]
  refine szR_any _ L1 L2 L 1048576 HV.out HN.out.1 HN.out.2.1 HN.out.2.2.1 HN.out.2.2.2 (by omega) _ ?_ ?_
  rotate_left
  · intro w1 _ hb1
    have HF := Lib.hid (HR.out w1 (HBL.out.trans (hb1.mono HBL.out.size)))
    clear hb1 hA0 hA1
    dsimp only
    go_wp2
    first | go_ret | skip
    exact HF.out
  intro w1 ht hb1
  obtain ⟨p1, p2⟩ := sizes_each (L := L1) (by omega)
  obtain ⟨p3, p4⟩ := sizes_each (L := L2) (by omega)
  have HP := Lib.hid (And.intro p1 (And.intro p2 (And.intro p3 p4)))
  obtain ⟨mm, hmm⟩ : ∃ mm : Nat, mm = 1048576 - (tot L1 + tot L2) := ⟨_, rfl⟩
  rw [← hmm]
  have hm0 : ¬ ((mm : Int) < 0) := by omega
  have HB1 : Hid (Below L.heap.size L w1) := Lib.hid hb1
  have HX1 := Lib.hid (HBX.out.later hb1 (lt_of_block HBX.out))
  clear hmm ht p1 p2 p3 p4 hb1 hA0 hA1
  obtain ⟨hA0, hA1, _, _⟩ := HX1.out.cells
  dsimp only
  go_wp2_with fail
  refine toR_any _ L1 L2 w1 (HV.out.later HB1.out (Nat.le_refl _)) HP.out.1 HP.out.2.2.1 _ ?_
  intro v2 w2 hv2 hb2
  have HV2 := Lib.hid hv2
  obtain ⟨x1, m1, y1, x2, m2, y2, rfl, q1, q2, q3, q4⟩ := hv2.parts
  have HB2 := Lib.hid (HB1.out.trans (hb2.mono HB1.out.size))
  have HX2 := Lib.hid (HX1.out.later hb2 (lt_of_block HX1.out))
  clear hv2 q1 q2 q3 q4 hb2 hA0 hA1
  obtain ⟨hA0, hA1, _, _⟩ := HX2.out.cells
  dsimp only
  go_wp2_with fail
  refine spec_farSum _ L1 L2 n m w2 HV2.out HP.out.1 HP.out.2.1 HP.out.2.2.1 HP.out.2.2.2 _ ?_
  intro w3 hb3
  rw [HZQ.out]
  have HB3 := Lib.hid (HB2.out.trans (hb3.mono HB2.out.size))
  have HX3 := Lib.hid (HX2.out.later hb3 (lt_of_block HX2.out))
  clear hb3 hA0 hA1
  obtain ⟨hA0, hA1, _, _⟩ := HX3.out.cells
  dsimp only
  go_wp2_with fail
  refine toR_any _ L1 L2 w3 (HV.out.later HB3.out (Nat.le_refl _)) HP.out.1 HP.out.2.2.1 _ ?_
  intro v4 w4 hv4 hb4
  obtain ⟨x3, m3, y3, x4, m4, y4, rfl, q1, q2, q3, q4⟩ := hv4.parts
  obtain ⟨W, hW⟩ : ∃ W, W = w4.alloc (.cells #[.slice x3 m3 y3, .slice x4 m4 y4] 28) := ⟨_, rfl⟩
  have hbW : Below w4.heap.size w4 W := by rw [hW]; exact (Below.refl _ _).alloc (Nat.le_refl _) _
  have B4 : Hid (Box2 W w4.heap.size (.slice x3 m3 y3) (.slice x4 m4 y4) 28) := Lib.hid (by rw [hW]; exact Box2.made _ _ _ _)
  have HV4 := Lib.hid (hv4.later hbW (Nat.le_refl _))
  have hb4W : Below w3.heap.size w3 W := hb4.trans (hbW.mono hb4.size)
  have HB4 := Lib.hid (HB3.out.trans (hb4W.mono HB3.out.size))
  have HX4 := Lib.hid (HX3.out.later hb4W (lt_of_block HX3.out))
  have HW := Lib.hid hW
  obtain ⟨hC0, hC1, _, _⟩ := B4.out.cells
  clear hv4 q1 q2 q3 q4 hb4 hbW hb4W hW hA0 hA1
  rw [HW.out] at hC0 hC1
  dsimp only
  go_wp2_with fail
  rw [← HW.out]
  refine impl_farSum _ L1 L2 n m W (HE.out.later (HBL.out.trans (HB4.out.mono HBL.out.size)) (Nat.le_refl _)) HV4.out HP.out.1 HP.out.2.2.1 _ ?_
  intro w5 hb5
  rw [HZQ.out]
  have HB5 := Lib.hid (HB4.out.trans (hb5.mono HB4.out.size))
  have HX5 := Lib.hid (HX4.out.later hb5 (lt_of_block HX4.out))
  have B5 := Lib.hid (B4.out.later hb5 (lt_of_block B4.out))
  have HV5 := Lib.hid (HV4.out.later hb5 (Nat.le_refl _))
  have HSOF : Hid (∀ w', Below w5.heap.size w5 w' → (Below w5.heap.size w5 w' ∧ (w'.cell? ⟨w.heap.size, 0, none⟩ = some (.slice a1 n1 c1) ∧ w'.cell? ⟨w.heap.size, 1, none⟩ = some (.slice a2 n2 c2)) ∧ (w'.cell? ⟨w4.heap.size, 0, none⟩ = some (.slice x3 m3 y3) ∧ w'.cell? ⟨w4.heap.size, 1, none⟩ = some (.slice x4 m4 y4)))) :=
    Lib.hid fun w' hb => ⟨hb, ⟨(HX5.out.later hb (lt_of_block HX5.out)).cells.1, (HX5.out.later hb (lt_of_block HX5.out)).cells.2.1⟩, ⟨(B5.out.later hb (lt_of_block B5.out)).cells.1, (B5.out.later hb (lt_of_block B5.out)).cells.2.1⟩⟩
  have HVL := Lib.hid (HV.out.later HB5.out (Nat.le_refl _))
  have HLEN : Hid (L1.length ≤ 281474976710656 ∧ L2.length ≤ 281474976710656) := Lib.hid (by have := HP.out.1; have := HP.out.2.2.1; omega)
  clear hb5 hC0 hC1
  dsimp only
  go_wp2_with fail
  first
    | (go_region_held3 (fun w' => Below w5.heap.size w5 w' ∧ (w'.cell? ⟨w.heap.size, 0, none⟩ = some (.slice a1 n1 c1) ∧ w'.cell? ⟨w.heap.size, 1, none⟩ = some (.slice a2 n2 c2)) ∧ (w'.cell? ⟨w4.heap.size, 0, none⟩ = some (.slice x3 m3 y3) ∧ w'.cell? ⟨w4.heap.size, 1, none⟩ = some (.slice x4 m4 y4)))
        (first
          | exact HSOF.out _ HQ2.out
          | exact HSOF.out _ HQ1.out
          | exact HSOF.out _ (Below.refl _ _).drew)
        (first
          | (go_at_call 19; refine eqR_any _ _ L1 L2 _ (HV5.out.later HQ1.out (Nat.le_refl _)) HV6.out HLEN.out.1 HLEN.out.2 _ ?_; intro w7 hb7; have HQ2 : Hid (Below w5.heap.size w5 w7) := Lib.hid (HQ1.out.trans (hb7.mono HQ1.out.size)); clear hb7; dsimp only)
          | (go_at_call 17; refine toR_any _ L1 L2 _ (HVL.out.later (Below.refl _ _).drew (Nat.le_refl _)) HP.out.1 HP.out.2.2.1 _ ?_; intro v6 w6 hv6 hb6; have HV6 := Lib.hid hv6; have HQ1 : Hid (Below w5.heap.size w5 w6) := Lib.hid ⟨hb6.os, hb6.tape, hb6.output, hb6.size, hb6.block⟩; clear hv6 hb6; dsimp only)))
    | fail
  all_goals
    go_wp2
    first | go_ret | skip
    exact HR.out _ (HBL.out.trans ((HB5.out.trans (HQ2.out.mono HB5.out.size)).mono HBL.out.size))
end Go.Proofs.YtnfehccicnpbpaaGreatDoor
