/- Contracts of functions of the program and of the model: Blo3, RevM, RevD, RevP, LawReversePoly. -/
import Derived.Test.YtegdcmcfeaohhaaGreatDoorPd12
import Derived.Deep.RegionLaw
set_option linter.all false
set_option linter.unusedVariables false
set_option linter.unusedSimpArgs false
set_option linter.unnecessarySimpa false
set_option linter.deprecated false
namespace Go.Proofs.YtegdcmcfeaohhaaGreatDoor
open Go Go.RowKit

/-- a block with the elements of a list at its beginning -/
def Bo3 {α : Type} (E : World → List Value → α → Prop) (e : TypeId) (w : World) (g n : Nat) (xs : List α) : Prop :=
  ∃ cur, w.heap[g]? = some (.cells cur e (0, 0)) ∧ cur.size = n * 3 ∧ xs.length ≤ n ∧ n ≤ maxLen ∧ (∀ u ∈ cur.toList, notInt u = true) ∧ (∀ i x, xs[i]? = some x → E w ((cur.toList.drop (i * 3)).take 3) x)

theorem Bo3.lt {α : Type} {E : World → List Value → α → Prop} {e : TypeId} {w : World} {g n : Nat} {xs : List α} (h : Bo3 E e w g n xs) : g < w.heap.size := by
  obtain ⟨cur, h1, _⟩ := h; exact lt_of_block h1
theorem Bo3.noInt {α : Type} {E : World → List Value → α → Prop} {e : TypeId} {w : World} {g n : Nat} {xs : List α} (h : Bo3 E e w g n xs) : NoInt w g := by
  obtain ⟨cur, h1, _, _, _, h2, _⟩ := h; exact NoInt.of h1 h2
theorem Bo3.frozen {α : Type} {E : World → List Value → α → Prop} {e : TypeId} {w : World} {g n : Nat} {xs : List α} (h : Bo3 E e w g n xs) (o : Nat) : w.frozen? ⟨g, o, none⟩ = false := by
  obtain ⟨cur, h1, _⟩ := h
  simp [World.frozen?, h1]
theorem Bo3.later {α : Type} {E : World → List Value → α → Prop} (hE : Elem 3 E) {e : TypeId} {w w' : World} {g n B : Nat} {xs : List α} (h : Bo3 E e w g n xs) (hb : Below B w w') (hB : w.heap.size ≤ B) : Bo3 E e w' g n xs := by
  have hg := h.lt
  obtain ⟨cur, h1, h2, h3, h4, h5, h6⟩ := h
  exact ⟨cur, by rw [hb.block g (by omega)]; exact h1, h2, h3, h4, h5, fun i x hi => hE.below (h6 i x hi) hb hB⟩
theorem Bo3.own {α : Type} {E : World → List Value → α → Prop} {e : TypeId} {w : World} {g n : Nat} {xs : List α} (h : Bo3 E e w g n xs) {B : Nat} (hB : B ≤ g) : OwE 3 E e w B (.slice (some ⟨g, 0, none⟩) xs.length n) xs := by
  obtain ⟨cur, h1, h2, h3, h4, h5, h6⟩ := h
  exact .inr ⟨g, n, cur, rfl, hB, h1, h3, h4, h2, h5, h6⟩
theorem OwE.bo3 {α : Type} {E : World → List Value → α → Prop} {e : TypeId} {w : World} {B : Nat} {v : Value} {xs : List α} (h : OwE 3 E e w B v xs) (hne : xs ≠ []) : ∃ g n, v = .slice (some ⟨g, 0, none⟩) xs.length n ∧ B ≤ g ∧ Bo3 E e w g n xs := by
  rcases h with ⟨_, h⟩ | ⟨g, cap, cur, h1, h2, h3, h4, h5, h6, h7, h8⟩
  · exact absurd h hne
  · exact ⟨g, cap, h1, h2, cur, h3, h6, h4, h5, h7, h8⟩

theorem segs3 {C : List Value} {i : Nat} (hi : i * 3 + 3 ≤ C.length) : ∃ u0 u1 u2, (C.drop (i * 3)).take 3 = [u0, u1, u2] ∧ C[i * 3]? = some u0 ∧ C[i * 3 + 1]? = some u1 ∧ C[i * 3 + 2]? = some u2 := by
  refine ⟨C[i * 3], C[i * 3 + 1], C[i * 3 + 2], ?_, List.getElem?_eq_getElem _, List.getElem?_eq_getElem _, List.getElem?_eq_getElem _⟩
  rw [List.drop_eq_getElem_cons (by omega), List.drop_eq_getElem_cons (by omega), List.drop_eq_getElem_cons (by omega)]
  rfl
theorem Bo3.cells {α : Type} {E : World → List Value → α → Prop} {e : TypeId} {w : World} {g n : Nat} {xs : List α} (h : Bo3 E e w g n xs) {i : Nat} (hi : i < xs.length) :
    ∃ u0 u1 u2, w.cell? ⟨g, i * 3, none⟩ = some u0 ∧ w.cell? ⟨g, i * 3 + 1, none⟩ = some u1 ∧ w.cell? ⟨g, i * 3 + 2, none⟩ = some u2 ∧ ∀ x, xs[i]? = some x → E w [u0, u1, u2] x := by
  obtain ⟨cur, h1, h2, h3, h4, h5, h6⟩ := h
  have hin : i * 3 + 3 ≤ cur.toList.length := by rw [Array.length_toList, h2]; exact seg_le (by omega)
  obtain ⟨u0, u1, u2, k, k0, k1, k2⟩ := segs3 hin
  have hc : ∀ (j : Nat) (u : Value), cur.toList[j]? = some u → w.cell? ⟨g, j, none⟩ = some u := by
    intro j u hj
    simp only [World.cell?, h1, Option.isSome_none, Bool.false_eq_true, if_false]
    rw [← Array.getElem?_toList]; exact hj
  exact ⟨u0, u1, u2, hc _ _ k0, hc _ _ k1, hc _ _ k2, fun x hx => by rw [← k]; exact h6 i x hx⟩

theorem segs_set3 {C : List Value} {i j : Nat} (hi : i * 3 + 3 ≤ C.length) (c0 c1 c2 : Value) :
    ((((C.set (i * 3) c0).set (i * 3 + 1) c1).set (i * 3 + 2) c2).drop (j * 3)).take 3 = if i = j then [c0, c1, c2] else (C.drop (j * 3)).take 3 := by
  apply List.ext_getElem?
  intro m
  by_cases hij : i = j
  · subst hij
    rw [if_pos rfl]
    rcases m with _ | _ | _ | m
    · rw [List.getElem?_take_of_lt (by omega), List.getElem?_drop, Nat.add_zero (i * 3), List.getElem?_set_ne (by omega), List.getElem?_set_ne (by omega), List.getElem?_set_self (by (repeat rw [List.length_set]); omega)]; rfl
    · rw [List.getElem?_take_of_lt (by omega), List.getElem?_drop, List.getElem?_set_ne (by omega), List.getElem?_set_self (by (repeat rw [List.length_set]); omega)]; rfl
    · rw [List.getElem?_take_of_lt (by omega), List.getElem?_drop, List.getElem?_set_self (by (repeat rw [List.length_set]); omega)]; rfl
    · rw [List.getElem?_eq_none (by rw [List.length_take]; omega)]; rfl
  · rw [if_neg hij]
    rcases Nat.lt_or_ge m 3 with hm | hm
    · rw [List.getElem?_take_of_lt hm, List.getElem?_take_of_lt hm, List.getElem?_drop, List.getElem?_drop, List.getElem?_set_ne (by omega), List.getElem?_set_ne (by omega), List.getElem?_set_ne (by omega)]
    · rw [List.getElem?_eq_none (by rw [List.length_take]; omega), List.getElem?_eq_none (by rw [List.length_take]; omega)]

/-- 3 stores -/
def puts3 (w : World) (g i : Nat) (c0 c1 c2 : Value) : World := ((w.setCell ⟨g, i * 3, none⟩ c0).setCell ⟨g, i * 3 + 1, none⟩ c1).setCell ⟨g, i * 3 + 2, none⟩ c2
theorem puts3_but (w : World) (g i : Nat) (c0 c1 c2 : Value) : But g w (puts3 w g i c0 c1 c2) := ((((But.refl g w).setCell _ _).setCell _ _).setCell _ _)
theorem puts3_below {B g : Nat} {w0 w : World} (h : Below B w0 w) (hB : B ≤ g) (i : Nat) (c0 c1 c2 : Value) : Below B w0 (puts3 w g i c0 c1 c2) := (((h.setCell hB _).setCell hB _).setCell hB _)
theorem Bo3.set {α : Type} {E : World → List Value → α → Prop} (hE : Elem 3 E) {e : TypeId} {w : World} {g n : Nat} {xs : List α} (h : Bo3 E e w g n xs) {i : Nat} (hi : i < xs.length) {c0 c1 c2 : Value} {x : α} (hc : E w [c0, c1, c2] x) :
    Bo3 E e (puts3 w g i c0 c1 c2) g n (xs.set i x) := by
  have hno := h.noInt
  obtain ⟨cur, h1, h2, h3, h4, h5, h6⟩ := h
  have hin : i * 3 + 3 ≤ cur.toList.length := by rw [Array.length_toList, h2]; exact seg_le (by omega)
  refine ⟨(((cur.setIfInBounds (i * 3) c0).setIfInBounds (i * 3 + 1) c1).setIfInBounds (i * 3 + 2) c2), ?_, by simp [h2], by rw [List.length_set]; exact h3, h4, ?_, ?_⟩
  · simp only [puts3, World.setCell, Array.getElem?_modify, h1]
    simp
  · intro u hu
    simp only [Array.toList_setIfInBounds] at hu
    rcases List.mem_or_eq_of_mem_set hu with hu | rfl
    · skip
      rcases List.mem_or_eq_of_mem_set hu with hu | rfl
      · skip
        rcases List.mem_or_eq_of_mem_set hu with hu | rfl
        · exact h5 u hu
        · exact hE.ints hc _ (by simp)
      · exact hE.ints hc _ (by simp)
    · exact hE.ints hc _ (by simp)
  · intro j y hj
    simp only [Array.toList_setIfInBounds]
    rw [segs_set3 hin]
    rw [List.getElem?_set] at hj
    by_cases hij : i = j
    · subst hij
      rw [if_pos rfl, if_pos hi] at hj
      cases hj
      rw [if_pos rfl]
      exact hE.keep hc (puts3_but w g i c0 c1 c2) hno
    · rw [if_neg hij] at hj ⊢
      exact hE.keep (h6 j y hj) (puts3_but w g i c0 c1 c2) hno
end Go.Proofs.YtegdcmcfeaohhaaGreatDoor

namespace Go.Proofs.YtegdcmcfeaohhaaGreatDoor
open Go Go.RowKit

/-- the first rounds of turning a list round -/
def revSt (xs : List Rat) : Nat → List Rat
  | 0 => xs
  | k + 1 => ((revSt xs k).set k (atQ (revSt xs k) (xs.length - 1 - k))).set (xs.length - 1 - k) (atQ (revSt xs k) k)
theorem revSt_len (xs : List Rat) : ∀ k, (revSt xs k).length = xs.length
  | 0 => rfl
  | k + 1 => by rw [revSt, List.length_set, List.length_set, revSt_len xs k]
theorem revSt_at (xs : List Rat) : ∀ (k : Nat), 2 * k ≤ xs.length → ∀ i, i < xs.length → (revSt xs k)[i]? = some (if i < k ∨ xs.length - 1 - i < k then atQ xs (xs.length - 1 - i) else atQ xs i)
  | 0, _, i, hi => by
    rw [revSt, if_neg (by omega)]
    have := List.getElem?_eq_getElem hi
    rw [this, atQ_some this]
  | k + 1, h, i, hi => by
    have ih := revSt_at xs k (by omega)
    have e1 := ih k (by omega)
    have e2 := ih (xs.length - 1 - k) (by omega)
    rw [if_neg (by omega)] at e1
    rw [if_neg (by omega)] at e2
    rw [revSt, List.getElem?_set, List.getElem?_set, List.length_set, revSt_len]
    by_cases h1 : xs.length - 1 - k = i
    · rw [if_pos h1, if_pos (by omega), if_pos (by omega), atQ_some e1]
      congr 2
      omega
    · rw [if_neg h1]
      by_cases h2 : k = i
      · subst h2
        rw [if_pos rfl, if_pos (by omega), if_pos (by omega), atQ_some e2]
      · rw [if_neg h2, ih i hi]
        congr 1
        by_cases h3 : i < k ∨ xs.length - 1 - i < k
        · rw [if_pos h3, if_pos (by omega)]
        · rw [if_neg h3, if_neg (by omega)]
theorem revSt_all (xs : List Rat) {k : Nat} (h1 : 2 * k ≤ xs.length) (h2 : xs.length ≤ 2 * k + 1) : revSt xs k = xs.reverse := by
  apply List.ext_getElem?
  intro i
  rcases Nat.lt_or_ge i xs.length with hi | hi
  · rw [revSt_at xs k h1 i hi, List.getElem?_reverse hi]
    have h3 : xs.length - 1 - i < xs.length := by omega
    have e := List.getElem?_eq_getElem h3
    rw [e]
    by_cases h4 : i < k ∨ xs.length - 1 - i < k
    · rw [if_pos h4, atQ_some e]
    · rw [if_neg h4]
      have : i = xs.length - 1 - i := by omega
      rw [atQ_some (by rw [this]; exact e)]
  · rw [List.getElem?_eq_none (by rw [revSt_len]; exact hi), List.getElem?_eq_none (by rw [List.length_reverse]; exact hi)]
end Go.Proofs.YtegdcmcfeaohhaaGreatDoor

namespace Go.Proofs.YtegdcmcfeaohhaaGreatDoor
open Go Go.RowKit

def RevDRel (w : World) (g n cap : Nat) (xs : List Rat) (iv jv : Value) (wr : World) : Prop :=
  ∃ k : Nat, iv = .int .i64 (k : Int) ∧ jv = .int .i64 ((n : Int) - 1 - (k : Int)) ∧ 2 * k ≤ n ∧ Bo3 ER 70 wr g cap (revSt xs k) ∧ ButO (some g) w wr

set_option maxRecDepth 100000 in
set_option maxHeartbeats 4000000 in
theorem revD_any (v : Value) (xs : List Rat) (B : Nat) (w : World) (h : OwE 3 ER 70 w B v xs) (hB : B ≤ w.heap.size) (hl : xs.length ≤ 60) (R : Ending → World → Prop)
    (hR : ∀ w', OwE 3 ER 70 w' B v xs.reverse → Below B w w' → R (.returned (.tuple #[])) w') :
    Calls Tryz.prog 67 #[v] w R := by
  have HR := Lib.hid hR; clear hR
  by_cases hne : xs = []
  · subst hne
    obtain ⟨a0, n0, c0, rfl, hn0⟩ := h.shape
    have hn00 : n0 = 0 := by simpa using hn0
    subst hn00
    have HF := Lib.hid (HR.out w h (Below.refl _ _))
    clear h hn0 hl
    go_enter Tryz.func67, Tryz.ntmps67
    go_wp2
    go_loopw [2, 3] (fun iv jv wr => iv = .int .i64 0 ∧ jv = .int .i64 (-1) ∧ wr = w) (fun _ _ _ => 0)
    case atStart => exact ⟨rfl, rfl, rfl⟩
    case round =>
      obtain ⟨rfl, rfl, rfl⟩ := hrel
      go_wp2
      refine bodyPost_end (v := .tuple #[]) (by first | rfl | (simp [results, Tryz.results67, go_sem] <;> rfl)) rfl ?_
      exact HF.out
  · obtain ⟨g, cap, rfl, hBg, hbo⟩ := h.bo3 hne
    obtain ⟨n, hn⟩ : ∃ n, n = xs.length := ⟨_, rfl⟩
    rw [← hn] at HR ⊢
    have HN := Lib.hid hn
    have HBG := Lib.hid hBg
    have hn0 : 0 < n := by rw [hn]; exact List.length_pos_iff.2 hne
    have HST : Hid (RevDRel w g n cap xs (.int .i64 0) (.int .i64 ((n : Int) - 1 - ((0 : Nat) : Int))) w) := Lib.hid ⟨0, rfl, rfl, by omega, hbo, ButO.refl _ _⟩
    have hw0 : IntKind.i64.wrap ((n : Int) - 1) = (n : Int) - 1 := IntWalk.i64_in _ (by omega)
    have hs0 : (n : Int) - 1 - ((0 : Nat) : Int) = (n : Int) - 1 := by omega
    rw [hs0] at HST
    have HLN := Lib.hid (show n ≤ 60 ∧ 0 < n by omega)
    clear h hl hne hBg hbo hn hs0 hn0
    go_enter Tryz.func67, Tryz.ntmps67
    go_wp2
    clear hw0
    go_loopw [2, 3] (fun iv jv wr => RevDRel w g n cap xs iv jv wr) (fun iv _ _ => n - (intOf iv).toNat)
    case atStart => exact HST.out
    case round =>
      clear HST
      obtain ⟨k, rfl, rfl, hk, hbo, hbut⟩ := hrel
      have HBO := Lib.hid hbo
      have HBU := Lib.hid hbut
      by_cases hlt : (k : Int) < (n : Int) - 1 - (k : Int)
      · obtain ⟨m, hm⟩ : ∃ m, m = n - 1 - k := ⟨_, rfl⟩
        have hmi : (n : Int) - 1 - (k : Int) = (m : Int) := by omega
        rw [hmi] at hlt ⊢
        have HMM := Lib.hid (show m = n - 1 - k ∧ k < m ∧ m < n by omega)
        have hlk : k < (revSt xs k).length := by rw [revSt_len, ← HN.out]; omega
        have hlm : m < (revSt xs k).length := by rw [revSt_len, ← HN.out]; omega
        obtain ⟨p, hp⟩ : ∃ p, (revSt xs k)[k]? = some p := ⟨_, List.getElem?_eq_getElem hlk⟩
        obtain ⟨q, hq⟩ : ∃ q, (revSt xs k)[m]? = some q := ⟨_, List.getElem?_eq_getElem hlm⟩
        obtain ⟨u0, u1, u2, hu0, hu1, hu2, hux⟩ := hbo.cells hlk
        obtain ⟨v0, v1, v2, hv0, hv1, hv2, hvx⟩ := hbo.cells hlm
        have HUX := Lib.hid (hux p hp)
        have HVX := Lib.hid (hvx q hq)
        obtain ⟨y1, y2, y3, y4, y5, y6, hcu, _, _⟩ := hux p hp
        obtain ⟨z1, z2, z3, z4, z5, z6, hcv, _, _⟩ := hvx q hq
        obtain ⟨pg, hpg⟩ : ∃ pg, pg = decide (p.num < 0) := ⟨_, rfl⟩
        obtain ⟨qg, hqg⟩ : ∃ qg, qg = decide (q.num < 0) := ⟨_, rfl⟩
        rw [← hpg] at hcu
        rw [← hqg] at hcv
        cases hcu
        cases hcv
        have HNEW : Hid (revSt xs (k + 1) = ((revSt xs k).set k q).set m p) := Lib.hid (by
          rw [revSt, ← HN.out, ← HMM.out.1, atQ_some hp, atQ_some hq])
        have hf := fun o => hbo.frozen o
        have hf0 := hf (k * 3)
        have hf1 := hf (k * 3 + 1)
        have hf2 := hf (k * 3 + 2)
        have hf3 := hf (m * 3)
        have hf4 := hf (m * 3 + 1)
        have hf5 := hf (m * 3 + 2)
        have d1 : ¬ m * 3 = k * 3 := by omega
        have d2 : ¬ m * 3 = k * 3 + 1 := by omega
        have d3 : ¬ m * 3 = k * 3 + 2 := by omega
        have d4 : ¬ m * 3 + 1 = k * 3 := by omega
        have d5 : ¬ m * 3 + 1 = k * 3 + 1 := by omega
        have d6 : ¬ m * 3 + 1 = k * 3 + 2 := by omega
        have d7 : ¬ m * 3 + 2 = k * 3 := by omega
        have d8 : ¬ m * 3 + 2 = k * 3 + 1 := by omega
        have d9 : ¬ m * 3 + 2 = k * 3 + 2 := by omega
        have hk0 : (0 : Int) ≤ (k : Int) := by omega
        have hm0 : (0 : Int) ≤ (m : Int) := by omega
        have hkn : (k : Int) < (n : Int) := by omega
        have hmn : (m : Int) < (n : Int) := by omega
        have hw1 : IntKind.i64.wrap ((k : Int) + 1) = ((k + 1 : Nat) : Int) := by rw [IntWalk.i64_in _ (by have := HLN.out; omega)]; omega
        obtain ⟨jj, hjj⟩ : ∃ jj, jj = (m : Int) - 1 := ⟨_, rfl⟩
        have hw2 : IntKind.i64.wrap ((m : Int) - 1) = jj := by rw [IntWalk.i64_in _ (by have := HLN.out; omega)]; exact hjj.symm
        have HJJ := Lib.hid hjj
        have HLT : Hid (k < m ∧ m < n ∧ m = n - 1 - k) := Lib.hid (by omega)
        clear hk hbo hbut hm hmi hlk hlm hp hq hux hvx hpg hqg hf hjj
        have b1 := HBO.out
        have b2 := b1.set elemR (i := k) (by rw [revSt_len, ← HN.out]; have := HLT.out; omega) HVX.out
        have c3 := elemR.keep HUX.out (puts3_but wr g k (.bool qg) (.slice z1 z2 z3) (.slice z4 z5 z6)) b1.noInt
        have b3 := b2.set elemR (i := m) (by rw [List.length_set, revSt_len, ← HN.out]; have := HLT.out; omega) c3
        rw [← HNEW.out] at b3
        have HB3 := Lib.hid (b3.later elemR (Below.refl _ _).drew (Nat.le_refl _))
        have HBU3 : Hid (ButO (some g) w (World.drew (puts3 (puts3 wr g k (.bool qg) (.slice z1 z2 z3) (.slice z4 z5 z6)) g m (.bool pg) (.slice y1 y2 y3) (.slice y4 y5 y6)))) := Lib.hid (HBU.out.trans (((((((ButO.set _ _ _).trans (ButO.set _ _ _)).trans (ButO.set _ _ _)).trans (ButO.set _ _ _)).trans (ButO.set _ _ _)).trans (ButO.set _ _ _)).trans (ButO.of (Below.refl _ _).drew)))
        have HREL : Hid (RevDRel w g n cap xs (.int .i64 ((k + 1 : Nat) : Int)) (.int .i64 jj) (World.drew (puts3 (puts3 wr g k (.bool qg) (.slice z1 z2 z3) (.slice z4 z5 z6)) g m (.bool pg) (.slice y1 y2 y3) (.slice y4 y5 y6)))) := Lib.hid
          ⟨k + 1, rfl, by rw [HJJ.out]; congr 1; have := HLT.out; omega, by have := HLT.out; omega, HB3.out, HBU3.out⟩
        unfold puts3 at HREL
        clear b1 b2 c3 b3 HB3 HBU3
        go_wp2
        go_region_law (fail)
        all_goals
          go_wp2
          go_roundw
          case rel => exact HREL.out
          case measure => simp [intOf]; have := HLT.out; omega
      · have hfin : revSt xs k = xs.reverse := revSt_all xs (by rw [← HN.out]; exact hk) (by rw [← HN.out]; omega)
        rw [hfin] at hbo
        have hown := hbo.own HBG.out
        rw [List.length_reverse, ← HN.out] at hown
        have HF := Lib.hid (HR.out wr hown (hbut.below (fun g' e => by obtain rfl := Option.some.inj e; exact HBG.out) hB))
        clear hk hbo hbut hfin hown
        go_wp2
        refine bodyPost_end (v := .tuple #[]) (by first | rfl | (simp [results, Tryz.results67, go_sem] <;> rfl)) rfl ?_
        exact HF.out
end Go.Proofs.YtegdcmcfeaohhaaGreatDoor

namespace Go.Proofs.YtegdcmcfeaohhaaGreatDoor
open Go Go.RowKit

set_option maxRecDepth 100000 in
set_option maxHeartbeats 2000000 in
theorem clone_any (v : Value) (qs : List Rat) (w : World) (h : RsL w v qs) (hl : qs.length ≤ 1000000) (R : Ending → World → Prop)
    (hR : ∀ v' w', OwE 3 ER 70 w' w.heap.size v' qs → Below w.heap.size w w' → R (.returned v') w') :
    Calls Tryz.prog 66 #[v] w R := by
  have HR := Lib.hid hR; clear hR
  obtain ⟨ao, n, cap, rfl, hn, hc, hh⟩ := SlE.open h
  have HH := Lib.hid hh
  have HL := Lib.hid hl
  cases ao with
  | none =>
    have hq : qs = [] := by
      cases qs with
      | nil => rfl
      | cons q l => obtain ⟨b, off, cs, e, _⟩ := hh.at 0 q rfl; cases e
    have HF := Lib.hid (HR.out (.slice none 0 0) w (by rw [hq]; exact OwE.nil _ _ _) (Below.refl _ _))
    clear h hh hn hc hl hq
    go_enter Tryz.func66, Tryz.ntmps66
    go_wp2
    rw [show (Sem.run Tryz.prog (binOp .eql 64 (.slice none n cap) (.slice none 0 0)) w) = .ok (.bool true) w from by kernel_rfl]
    go_wp2
    first | go_ret | skip
    exact HF.out
  | some a0 =>
    clear h hh hn hc hl
    go_enter Tryz.func66, Tryz.ntmps66
    go_wp2
    rw [show (Sem.run Tryz.prog (binOp .eql 64 (.slice (some a0) n cap) (.slice none 0 0)) w) = .ok (.bool false) w from by kernel_rfl]
    go_wp2_with (at_builtin; go_must (refine wpList_spread0 elemR (by omega) rfl (.tmp 5) (.tmp 6) 64 rfl 70 56 zeroR Tryz.underlying64 info_ratio rfl zeroR_ints (by omega) w.heap.size w.heap.size rfl (by show (w.heap.push _)[_]? = _; simp) (Nat.le_refl _) (by simp) _ rfl qs (SlE.later elemR HH.out ((Below.refl _ _).alloc (Nat.le_refl _) _) (Nat.le_refl _)) (by have := HL.out; omega) ?_))
    intro a5 n5 c5 w5 hv5 hn5 hb5
    have HF := Lib.hid (HR.out _ w5 hv5 (((Below.refl w.heap.size w).alloc (Nat.le_refl _) _).trans (hb5.mono (Nat.le_succ _))))
    clear hv5 hn5 hb5
    go_wp2
    first | go_ret | skip
    exact HF.out

def RevSRel (w : World) (us : List Rat) (v i : Value) (wr : World) : Prop :=
  ∃ (k : Nat) (ii : Int), i = .int .i64 ii ∧ ii = (us.length : Int) - 1 - (k : Int) ∧ k ≤ us.length ∧ OwE 4 EQ 58 wr w.heap.size v (us.reverse.take k) ∧ Below w.heap.size w wr

set_option maxRecDepth 100000 in
set_option maxHeartbeats 2000000 in
theorem impl_revp (v0 : Value) (L0 : List ByteArray) (w : World) (hE : Env w) (htab : Lib.TabIs Tryz.prog w "internal/strconv.uint64pow10" .u64 Lib.pow10Tab) (h0 : TxL w v0 L0) (hn0 : L0.length ≤ 1048576) (R : Ending → World → Prop)
    (hR : ∀ v' w', OwE 1 ET 9 w' w.heap.size v' (revpL L0) → Below w.heap.size w w' → R (.returned (.tuple #[v', .bool (revpB L0)])) w') :
    Calls Tryz.prog 30 #[v0] w R := by
  have HR := Lib.hid hR; clear hR
  have HE := Lib.hid hE
  have HTAB := Lib.hid htab
  obtain ⟨a0, n0, c0, rfl, h0'⟩ := h0.op
  have H0 := Lib.hid h0'
  have HN := Lib.hid hn0
  clear hE htab h0 h0' hn0
  go_enter Tryz.func30, Tryz.ntmps30
  go_wp2_with fail
  refine readc_any _ L0 _ HE.out H0.out HN.out _ ?_ ?_
  · intro x w2 hp hx hb2
    have HP := Lib.hid hp
    obtain ⟨a2, n2, c2, rfl, hx'⟩ := SlE.op hx
    have HX := Lib.hid hx'
    have HB2 := Lib.hid hb2
    have HK := Lib.hid (polyB_nums hp)
    clear hp hx hx' hb2
    dsimp only
    go_wp2_with fail
    refine clone_any _ (L0.map qOf) _ HX.out (by rw [List.length_map]; have := HK.out.1; omega) _ ?_
    intro v3 w3 hv3 hb3
    have HV3 := Lib.hid hv3
    obtain ⟨a3, n3, c3, rfl, e3⟩ := hv3.shape
    have HB3 := Lib.hid (HB2.out.trans (hb3.mono HB2.out.size))
    have HZ3 := Lib.hid hb3.size
    clear hv3 hb3 e3
    dsimp only
    go_wp2_with fail
    refine revD_any _ (L0.map qOf) _ _ HV3.out HZ3.out (by rw [List.length_map]; have := HK.out.1; omega) _ ?_
    intro w4 hv4 hb4
    have HV4a := Lib.hid hv4
    have HB4a := Lib.hid (HB3.out.trans (hb4.mono HB2.out.size))
    clear hv4 hb4
    dsimp only
    go_wp2_with fail
    refine trimI_any _ _ _ HV4a.out.sl (by rw [List.length_reverse, List.length_map]; have := HK.out.1; omega) _ ?_
    intro v4 w5 hv4 hb4
    obtain ⟨a4, n4, c4, rfl, hv4'⟩ := SlE.op hv4
    have HV4 := Lib.hid hv4'
    have HB4 := Lib.hid (HB4a.out.trans (hb4.mono HB4a.out.size))
    clear hv4 hv4' hb4
    dsimp only
    go_wp2_with fail
    refine cof_any _ _ _ (tab_later HTAB.out HB4.out (Nat.le_refl _)) HV4.out _ ?_
    intro v5 w6 hv5 hb5
    obtain ⟨a5, n5, c5, rfl, e5⟩ := hv5.shape
    clear e5
    obtain ⟨bq, hbq⟩ : ∃ bq, bq = cofB (trimQ (L0.map qOf).reverse) := ⟨_, rfl⟩
    have HF := Lib.hid (HR.out (.slice a5 n5 c5) w6 (by rw [revpL_eq HP.out]; exact hv5.mono HB4.out.size) (HB4.out.trans (hb5.mono HB4.out.size)))
    rw [revpB_eq HP.out] at HF
    rw [← hbq] at HF ⊢
    clear hv5 hb5 hbq
    dsimp only
    go_wp2
    first | go_ret | skip
    exact HF.out
  · intro e w2 hp he hb2
    obtain ⟨t, p, rfl⟩ := he
    have HF := Lib.hid (HR.out (.slice none 0 0) w2 (by rw [revpL_none hp]; exact OwE.nil _ _ _) hb2)
    rw [revpB_none hp] at HF
    clear hp hb2
    dsimp only
    go_wp2
    first | go_ret | skip
    exact HF.out

set_option maxRecDepth 100000 in
set_option maxHeartbeats 4000000 in
theorem spec_revp (v0 : Value) (L0 : List ByteArray) (w : World) (h0 : TxL w v0 L0) (hn0 : L0.length ≤ 1048576) (hs0 : ∀ s ∈ L0, s.size ≤ 1048576) (R : Ending → World → Prop)
    (hR : ∀ v' w', OwE 1 ET 9 w' w.heap.size v' (revpL L0) → Below w.heap.size w w' → R (.returned (.tuple #[v', .bool (revpB L0)])) w') :
    Calls Tryz.prog 29 #[v0] w R := by
  have HR := Lib.hid hR; clear hR
  obtain ⟨a0, n0, c0, rfl, h0'⟩ := h0.op
  have H0 := Lib.hid h0'
  have HN0 := Lib.hid (And.intro hn0 hs0)
  clear h0 h0' hn0 hs0
  go_enter Tryz.func29, Tryz.ntmps29
  go_wp2_with fail
  refine l02is_any _ L0 _ H0.out HN0.out.1 HN0.out.2 _ ?_
  intro w1 hb1
  have HB1 := Lib.hid hb1
  clear hb1
  cases hp0 : polyB L0 with
  | false =>
    have HF := Lib.hid (HR.out (.slice none 0 0) w1 (by rw [revpL_none hp0]; exact OwE.nil _ _ _) HB1.out)
    rw [revpB_none hp0] at HF
    clear hp0
    dsimp only
    go_wp2
    first | go_ret | skip
    exact HF.out
  | true =>
  have HP := Lib.hid hp0
  have HK := Lib.hid (polyB_nums hp0)
  clear hp0
  dsimp only
  go_wp2_with fail
  refine oflist_any _ L0 _ (TxL.later H0.out HB1.out (Nat.le_refl _)) HK.out.2 HN0.out.1 _ ?_
  intro v3 w3 hv3 hb3
  obtain ⟨a3, n3, c3, rfl, e3⟩ := hv3.shape
  have HV3 := Lib.hid hv3.sl
  have HN3 := Lib.hid e3
  have HB3 := Lib.hid (HB1.out.trans (hb3.mono HB1.out.size))
  clear hv3 hb3 e3
  dsimp only
  have HST : Hid (RevSRel w3 (L0.map qOf) (.slice (some ⟨w3.heap.size, 0, none⟩) 0 0) (.int .i64 ((n3 : Int) - 1)) (w3.alloc (.cells #[] 58))) := Lib.hid ⟨0, _, rfl, by rw [HN3.out]; simp, Nat.zero_le _, OwE.lit _ _ _ (Nat.le_refl _), (Below.refl _ _).alloc (Nat.le_refl _) _⟩
  have hw0 : IntKind.i64.wrap ((n3 : Int) - 1) = (n3 : Int) - 1 := IntWalk.i64_in _ (by have := HN3.out; rw [List.length_map] at this; have := HK.out.1; omega)
  have hn13 : n3 ≤ 13 := by have := HN3.out; rw [List.length_map] at this; have := HK.out.1; omega
  go_wp2
  clear hw0
  go_loopw [5, 6] (fun v i wr => RevSRel w3 (L0.map qOf) v i wr) (fun _ i _ => (intOf i + 1).toNat)
  case atStart => exact HST.out
  case round =>
  clear HST
  obtain ⟨k, ii, rfl, hii, hk, hown, hbel⟩ := hrel
  have HBE := Lib.hid hbel
  have HOWN := Lib.hid hown
  have HNK : Hid ((L0.map qOf).length = n3) := Lib.hid HN3.out.symm
  obtain ⟨a5, n5, c5, rfl, hn5⟩ := hown.shape
  clear hown hn5
  by_cases hkn : k < n3
  · obtain ⟨j, hj⟩ : ∃ j, j = n3 - 1 - k := ⟨_, rfl⟩
    obtain rfl : ii = (j : Int) := by rw [HNK.out] at hii; omega
    obtain ⟨p, hp⟩ : ∃ p, (L0.map qOf)[j]? = some p := ⟨_, List.getElem?_eq_getElem (by rw [HNK.out]; omega)⟩
    have HM2 : Hid ((L0.map qOf).reverse.take (k + 1) = (L0.map qOf).reverse.take k ++ [p]) := Lib.hid (by
      rw [List.take_add_one, List.getElem?_reverse (by rw [HNK.out]; omega), show (L0.map qOf).length - 1 - k = j by rw [HNK.out]; omega, hp]; rfl)
    have HLK : Hid (((L0.map qOf).reverse.take k).length ≤ 100000000) := Lib.hid (by rw [List.length_take, List.length_reverse, HNK.out]; omega)
    obtain ⟨b, off, cs, rfl, hb, hcell, hE⟩ := HV3.out.at j p hp
    obtain ⟨x1, y1, z1, x2, y2, z2, hcs, hi1⟩ := hE
    obtain ⟨ng, hng⟩ : ∃ ng, ng = decide (p.num < 0) := ⟨_, rfl⟩
    rw [← hng] at hcs hi1
    have hd0 : wr.cell? ⟨b, off + j * 4, none⟩ = some (.bool ng) := by rw [hbel.cell (p := ⟨b, off + j * 4, none⟩) hb]; exact hcell 0 _ (by rw [hcs]; rfl)
    have hd1 : wr.cell? ⟨b, off + j * 4 + 1, none⟩ = some (.slice x1 y1 z1) := by rw [hbel.cell (p := ⟨b, off + j * 4 + 1, none⟩) hb]; exact hcell 1 _ (by rw [hcs]; rfl)
    have hd2 : wr.cell? ⟨b, off + j * 4 + 2, none⟩ = some (.bool false) := by rw [hbel.cell (p := ⟨b, off + j * 4 + 2, none⟩) hb]; exact hcell 2 _ (by rw [hcs]; rfl)
    have hd3 : wr.cell? ⟨b, off + j * 4 + 3, none⟩ = some (.slice x2 y2 z2) := by rw [hbel.cell (p := ⟨b, off + j * 4 + 3, none⟩) hb]; exact hcell 3 _ (by rw [hcs]; rfl)
    have HEQ := Lib.hid (EQ.of (hi1.later hbel (Nat.le_refl _)))
    obtain ⟨jj, hjj⟩ : ∃ jj, jj = (j : Int) - 1 := ⟨_, rfl⟩
    have hw1 : IntKind.i64.wrap ((j : Int) - 1) = jj := by rw [IntWalk.i64_in _ (by omega)]; exact hjj.symm
    have HJJ : Hid (jj = ((L0.map qOf).length : Int) - 1 - ((k + 1 : Nat) : Int)) := Lib.hid (by rw [HNK.out]; omega)
    have hj0 : (0 : Int) ≤ (j : Int) := by omega
    have hj1 : (j : Int) < (n3 : Int) := by omega
    have HKL := Lib.hid hkn
    have HJ := Lib.hid (show jj + 1 = (j : Int) by omega)
    clear hp hcell hcs hi1 hng hkn hbel hb hk hj hii hjj
    go_wp2_with (at_builtin; go_must (refine wpList_pushE elemQ (by omega) rfl _ _ 51 rfl 58 64 zeroQ Tryz.underlying51 info_q rfl zeroQ_ints (by omega) w3.heap.size _ (HOWN.out.alloc elemQ _) HLK.out (by have := HBE.out.size; simp; omega) wr.heap.size [.bool ng, .slice x1 y1 z1, .bool false, .slice x2 y2 z2] p rfl (elemQ.below HEQ.out ((Below.refl _ _).alloc (Nat.le_refl _) _) (Nat.le_refl _)) (cells_alloc _ #[.bool ng, .slice x1 y1 z1, .bool false, .slice x2 y2 z2] _ _ rfl) ?_))
    intro ao n9 c9 w9 hown9 hn9 hgr hb9
    have HOW9 : Hid (OwE 4 EQ 58 w9 w3.heap.size (.slice ao n9 c9) ((L0.map qOf).reverse.take (k + 1))) := Lib.hid (by rw [HM2.out]; exact hown9)
    have HB9 : Hid (Below w3.heap.size w3 w9) := Lib.hid ((HBE.out.alloc HBE.out.size _).trans hb9)
    clear hown9 hn9 hgr hb9
    all_goals
      go_wp2
      go_roundw
      case rel => exact ⟨k + 1, _, rfl, HJJ.out, by rw [HNK.out]; exact HKL.out, HOW9.out, HB9.out⟩
      case measure => simp [intOf]; have := HJ.out; omega
  · obtain rfl : ii = -1 := by rw [HNK.out] at hii hk; omega
    have he : (L0.map qOf).reverse.take k = (L0.map qOf).reverse := List.take_of_length_le (by rw [List.length_reverse, HNK.out]; omega)
    rw [he] at HOWN
    have HV6 : Hid (OwE 4 EQ 58 wr w3.heap.size (.slice a5 n5 c5) (L0.map qOf).reverse) := HOWN
    have HB6 := Lib.hid (HB3.out.trans (HBE.out.mono HB3.out.size))
    clear he hbel hkn hk hii
    go_wp2_with fail
    refine put_any _ _ _ HV6.out.sl (DigsQ.of (N := 60) (AllBd.rev (allBd_of HK.out.2)) (by omega)) (by rw [List.length_reverse, List.length_map]; have := HK.out.1; omega) _ ?_
    intro v7 w7 hv7 hb7
    obtain ⟨a7, n7, c7, rfl, e7⟩ := hv7.shape
    have HF := Lib.hid (HR.out (.slice a7 n7 c7) w7 (by rw [revpL_eq HP.out]; rw [← put_cofL0]; exact hv7.mono HB6.out.size) (HB6.out.trans (hb7.mono HB6.out.size)))
    rw [revpB_eq HP.out] at HF
    rw [← put_cofB0] at HF
    obtain ⟨bq, hbq⟩ : ∃ bq, bq = putB (L0.map qOf).reverse := ⟨_, rfl⟩
    rw [← hbq] at HF ⊢
    clear hv7 hb7 e7 hbq
    dsimp only
    go_wp2
    first | go_ret | skip
    exact HF.out
end Go.Proofs.YtegdcmcfeaohhaaGreatDoor

namespace Go.Proofs.YtegdcmcfeaohhaaGreatDoor
open Go Go.RowKit

set_option maxRecDepth 100000 in
set_option maxHeartbeats 4000000 in
theorem law_reversePoly (v0 : Value) (L0 : List ByteArray) (w : World) (hE : Env w) (htab : Lib.TabIs Tryz.prog w "internal/strconv.uint64pow10" .u64 Lib.pow10Tab) (h0 : TxL w v0 L0) (hn0 : L0.length ≤ maxLen) (hs0 : ∀ s ∈ L0, s.size ≤ maxLen) (R : Ending → World → Prop)
    (hR : ∀ w', Below w.heap.size w w' → R (.returned (.bool true)) w') :
    Calls Tryz.prog 8 #[v0] w R := by
  have HR := Lib.hid hR; clear hR
  have HE := Lib.hid hE; clear hE
  have HTAB := Lib.hid htab; clear htab
  obtain ⟨ao0, no0, co0, rfl, hh0⟩ := h0.op
  have HH0 := Lib.hid hh0
  have HN0 := Lib.hid (And.intro hn0 hs0)
  clear h0 hh0 hn0 hs0
  have HSM := Lib.hid (revp_small L0)
  obtain ⟨bq, hbq⟩ : ∃ bq, bq = (revpB L0) := ⟨_, rfl⟩
  have HBQ := Lib.hid hbq
  have cbq : (bq != bq) = false := by cases bq <;> rfl
  clear hbq
  go_enter Tryz.func8, Tryz.ntmps8
  go_wp2_with fail
  refine szT_any _ L0 _ 1048576 HH0.out HN0.out.1 HN0.out.2 (by omega) _ ?_ ?_
  rotate_left
  · intro ht
    have HF := Lib.hid (HR.out w (Below.refl _ _))
    clear ht
    dsimp only
    go_wp2
    first | go_ret | skip
    exact HF.out
  intro ht0
  obtain ⟨m0, hm0⟩ : ∃ m0 : Nat, m0 = 1048576 - tot L0 := ⟨_, rfl⟩
  have HP0 := Lib.hid (sizes_each (L := L0) (Nat.le_trans ht0 (by omega)))
  rw [← hm0]
  have hz0 : ¬ ((m0 : Int) < 0) := by omega
  have hl0 : m0 ≤ 1048576 := by omega
  have HLM0 := Lib.hid hl0
  clear hm0 ht0 hl0
  dsimp only
  go_wp2_with fail
  refine toT_any _ L0 _ HH0.out HP0.out.1 _ ?_
  intro v w1 hv hb
  obtain ⟨a1, n1, c1, rfl, hv'⟩ := hv.op
  have SC0 := Lib.hid hv'
  clear hv
  have HB1 : Hid (Below w.heap.size w w1) := Lib.hid (hb)
  clear hb hv'
  dsimp only
  go_wp2_with fail
  refine spec_revp _ L0 _ SC0.out HP0.out.1 HP0.out.2 _ ?_
  intro v w2 hv hb
  rw [← HBQ.out]
  obtain ⟨a2, n2, c2, rfl, esh⟩ := hv.shape
  clear esh
  have W0 := Lib.hid hv
  have W0U : Hid (∀ g, (Value.slice a2 n2 c2).ownBlock = some g → g < w2.heap.size) := Lib.hid hv.own_lt
  have HB2 : Hid (Below w.heap.size w w2) := Lib.hid (HB1.out.trans (hb.mono HB1.out.size))
  clear SC0 HB1 hb hv
  dsimp only
  go_wp2_with fail
  refine toT_own _ L0 _ (HH0.out.later HB2.out (Nat.le_refl _)) HP0.out.1 _ ?_
  intro v w3 hv hb
  obtain ⟨a3, n3, c3, rfl, esh⟩ := hv.shape
  clear esh
  have X0 := Lib.hid hv
  have X0U : Hid (∀ g, (Value.slice a3 n3 c3).ownBlock = some g → g < w3.heap.size) := Lib.hid hv.own_lt
  have X0Z : Hid (w2.heap.size ≤ w3.heap.size) := Lib.hid hb.size
  have WX0 : Hid (w2.heap.size ≤ w2.heap.size) := Lib.hid (Nat.le_refl _)
  have WXN0 : Hid (w2.heap.size ≤ w3.heap.size) := Lib.hid (Nat.le_trans WX0.out X0Z.out)
  have BX0 : Hid (w.heap.size ≤ w2.heap.size) := Lib.hid HB2.out.size
  have HB3 : Hid (Below w.heap.size w w3) := Lib.hid (HB2.out.trans (hb.mono HB2.out.size))
  have W0_3 := Lib.hid (W0.out.later elemT hb (Nat.le_refl _))
  clear W0 HB2 hb hv
  dsimp only
  go_wp2_with fail
  refine impl_revp _ L0 _ (HE.out.later HB3.out (Nat.le_refl _)) (tab_later HTAB.out HB3.out (Nat.le_refl _)) X0.out.tx HP0.out.1 _ ?_
  intro v w4 hv hb
  rw [← HBQ.out]
  obtain ⟨a4, n4, c4, rfl, esh⟩ := hv.shape
  clear esh
  have G0 := Lib.hid hv
  have G0U : Hid (∀ g, (Value.slice a4 n4 c4).ownBlock = some g → g < w4.heap.size) := Lib.hid hv.own_lt
  have XG0 : Hid (w3.heap.size ≤ w3.heap.size) := Lib.hid (Nat.le_refl _)
  have WG : Hid (w2.heap.size ≤ w3.heap.size) := Lib.hid WXN0.out
  have BG : Hid (w.heap.size ≤ w3.heap.size) := Lib.hid HB3.out.size
  have GZ : Hid (w3.heap.size ≤ w4.heap.size) := Lib.hid hb.size
  have HB4 : Hid (Below w.heap.size w w4) := Lib.hid (HB3.out.trans (hb.mono HB3.out.size))
  have W0_4 := Lib.hid (W0_3.out.later elemT hb (Nat.le_refl _))
  have X0_4 := Lib.hid (X0.out.later elemT hb (Nat.le_refl _))
  have X0Z_4 : Hid (w2.heap.size ≤ w4.heap.size) := Lib.hid (Nat.le_trans X0Z.out hb.size)
  clear W0_3 X0 X0Z HB3 hb hv
  dsimp only
  go_wp2_with fail
  refine eqT_any _ _ (revpL L0) (revpL L0) _ G0.out.tx W0_4.out.tx (Nat.le_trans HSM.out (by omega)) (Nat.le_trans HSM.out (by omega)) _ ?_
  intro w5 hb
  rw [decide_eq_true rfl]
  have HB5 : Hid (Below w.heap.size w w5) := Lib.hid (HB4.out.trans (hb.mono HB4.out.size))
  have W0_5 := Lib.hid (W0_4.out.later elemT hb (Nat.le_refl _))
  have X0_5 := Lib.hid (X0_4.out.later elemT hb (Nat.le_refl _))
  have X0Z_5 : Hid (w2.heap.size ≤ w5.heap.size) := Lib.hid (Nat.le_trans X0Z_4.out hb.size)
  have G0_5 := Lib.hid (G0.out.later elemT hb (Nat.le_refl _))
  have GZ_5 : Hid (w3.heap.size ≤ w5.heap.size) := Lib.hid (Nat.le_trans GZ.out hb.size)
  clear W0_4 X0_4 X0Z_4 G0 GZ HB4 hb
  dsimp only
  go_wp2_with fail
  refine toT_any _ L0 _ (HH0.out.later HB5.out (Nat.le_refl _)) HP0.out.1 _ ?_
  intro v w6 hv hb
  obtain ⟨a6, n6, c6, rfl, hv'⟩ := hv.op
  have EC0 := Lib.hid hv'
  clear hv
  have HB6 : Hid (Below w.heap.size w w6) := Lib.hid (HB5.out.trans (hb.mono HB5.out.size))
  have W0_6 := Lib.hid (W0_5.out.later elemT hb (Nat.le_refl _))
  have X0_6 := Lib.hid (X0_5.out.later elemT hb (Nat.le_refl _))
  have X0Z_6 : Hid (w2.heap.size ≤ w6.heap.size) := Lib.hid (Nat.le_trans X0Z_5.out hb.size)
  have G0_6 := Lib.hid (G0_5.out.later elemT hb (Nat.le_refl _))
  have GZ_6 : Hid (w3.heap.size ≤ w6.heap.size) := Lib.hid (Nat.le_trans GZ_5.out hb.size)
  clear W0_5 X0_5 X0Z_5 G0_5 GZ_5 HB5 hb hv'
  dsimp only
  go_wp2_with fail
  refine eqT_any _ _ L0 L0 _ X0_6.out.tx EC0.out (Nat.le_trans HP0.out.1 (by omega)) (Nat.le_trans HP0.out.1 (by omega)) _ ?_
  intro w7 hb
  rw [decide_eq_true rfl]
  have HB7 : Hid (Below w.heap.size w w7) := Lib.hid (HB6.out.trans (hb.mono HB6.out.size))
  have W0_7 := Lib.hid (W0_6.out.later elemT hb (Nat.le_refl _))
  have X0_7 := Lib.hid (X0_6.out.later elemT hb (Nat.le_refl _))
  have X0Z_7 : Hid (w2.heap.size ≤ w7.heap.size) := Lib.hid (Nat.le_trans X0Z_6.out hb.size)
  have G0_7 := Lib.hid (G0_6.out.later elemT hb (Nat.le_refl _))
  have GZ_7 : Hid (w3.heap.size ≤ w7.heap.size) := Lib.hid (Nat.le_trans GZ_6.out hb.size)
  clear EC0 W0_6 X0_6 X0Z_6 G0_6 GZ_6 HB6 hb
  dsimp only
  go_wp2_with fail
  refine mark_any _ L0 1 _ _ X0_7.out (Nat.le_trans HP0.out.1 (by omega)) (by omega) _ ?_
  intro w8 hv hb
  obtain ⟨k0, hk0⟩ : ∃ k0, k0 = 1 + L0.length := ⟨_, rfl⟩
  rw [← hk0]
  have d0 : ¬ ((k0 : Int) < 0) := by omega
  have HK0 : Hid (k0 ≤ 1000000000) := Lib.hid (by have := HP0.out.1; omega)
  have HKB0 : Hid (k0 ≤ 1 * 1048576 + 1) := Lib.hid (by have := HP0.out.1; omega)
  have hbel := hb.below (fun g hg => X0_7.out.base g hg) X0Z_7.out
  have W0_8 := Lib.hid (W0_7.out.butO hb (fun g hg hc => by have h1 := W0U.out g hg; have h2 := X0_7.out.base g hc; have h3 := WX0.out; omega))
  have X0Z_8 : Hid (w2.heap.size ≤ w8.heap.size) := Lib.hid (Nat.le_trans X0Z_7.out hb.size)
  have G0_8 := Lib.hid (G0_7.out.butO hb (fun g hg hc => by have h1 := G0_7.out.base g hg; have h2 := X0U.out g hc; have h3 := XG0.out; omega))
  have GZ_8 : Hid (w3.heap.size ≤ w8.heap.size) := Lib.hid (Nat.le_trans GZ_7.out hb.size)
  have HB8 : Hid (Below w.heap.size w w8) := Lib.hid (HB7.out.trans (hbel.mono BX0.out))
  clear W0_7 X0_7 X0Z_7 G0_7 GZ_7 HB7 hv hb hbel hk0
  dsimp only
  go_wp2_with fail
  refine eqT_any _ _ (revpL L0) (revpL L0) _ G0_8.out.tx W0_8.out.tx (Nat.le_trans HSM.out (by omega)) (Nat.le_trans HSM.out (by omega)) _ ?_
  intro w9 hb
  rw [decide_eq_true rfl]
  have HB9 : Hid (Below w.heap.size w w9) := Lib.hid (HB8.out.trans (hb.mono HB8.out.size))
  have W0_9 := Lib.hid (W0_8.out.later elemT hb (Nat.le_refl _))
  have X0Z_9 : Hid (w2.heap.size ≤ w9.heap.size) := Lib.hid (Nat.le_trans X0Z_8.out hb.size)
  have G0_9 := Lib.hid (G0_8.out.later elemT hb (Nat.le_refl _))
  have GZ_9 : Hid (w3.heap.size ≤ w9.heap.size) := Lib.hid (Nat.le_trans GZ_8.out hb.size)
  clear W0_8 X0Z_8 G0_8 GZ_8 HB8 hb
  dsimp only
  go_wp2_with fail
  refine mark_any _ (revpL L0) 1 _ _ G0_9.out (Nat.le_trans HSM.out (by omega)) (by omega) _ ?_
  intro w10 hv hb
  obtain ⟨kg, hkg⟩ : ∃ kg, kg = 1 + (revpL L0).length := ⟨_, rfl⟩
  have HKG := Lib.hid hkg
  rw [← hkg]
  have d1 : ¬ ((kg : Int) < 0) := by omega
  have d2 : ((kg : Int) != (kg : Int)) = false := by simp
  have hbel := hb.below (fun g hg => G0_9.out.base g hg) GZ_9.out
  have GM := Lib.hid hv.tx
  have W0_10 := Lib.hid (W0_9.out.butO hb (fun g hg hc => by have h1 := W0U.out g hg; have h2 := G0_9.out.base g hc; have h3 := WG.out; omega))
  have HB10 : Hid (Below w.heap.size w w10) := Lib.hid (HB9.out.trans (hbel.mono BG.out))
  clear W0_9 X0Z_9 G0_9 GZ_9 HB9 hv hb hbel hkg
  dsimp only
  go_wp2_with fail
  refine held_any _ 1 (revpL L0).length _ GM.out (Nat.le_trans HSM.out (by omega)) (by omega) _ ?_
  intro w11 hb
  rw [← HKG.out]
  have HB11 : Hid (Below w.heap.size w w11) := Lib.hid (HB10.out.trans (hb.mono HB10.out.size))
  have W0_11 := Lib.hid (W0_10.out.later elemT hb (Nat.le_refl _))
  have GM_11 := Lib.hid (TxL.later GM.out hb (Nat.le_refl _))
  clear W0_10 GM HB10 hb
  dsimp only
  go_wp2_with fail
  refine toT_any _ L0 _ (HH0.out.later HB11.out (Nat.le_refl _)) HP0.out.1 _ ?_
  intro v w12 hv hb
  obtain ⟨a12, n12, c12, rfl, hv'⟩ := hv.op
  have HC0 := Lib.hid hv'
  clear hv
  have HB12 : Hid (Below w.heap.size w w12) := Lib.hid (HB11.out.trans (hb.mono HB11.out.size))
  have W0_12 := Lib.hid (W0_11.out.later elemT hb (Nat.le_refl _))
  have GM_12 := Lib.hid (TxL.later GM_11.out hb (Nat.le_refl _))
  clear W0_11 GM_11 HB11 hb hv'
  dsimp only
  go_wp2_with fail
  refine impl_revp _ L0 _ (HE.out.later HB12.out (Nat.le_refl _)) (tab_later HTAB.out HB12.out (Nat.le_refl _)) HC0.out HP0.out.1 _ ?_
  intro v w13 hv hb
  rw [← HBQ.out]
  obtain ⟨a13, n13, c13, rfl, esh⟩ := hv.shape
  clear esh
  have H0 := Lib.hid hv
  have H0U : Hid (∀ g, (Value.slice a13 n13 c13).ownBlock = some g → g < w13.heap.size) := Lib.hid hv.own_lt
  have HB13 : Hid (Below w.heap.size w w13) := Lib.hid (HB12.out.trans (hb.mono HB12.out.size))
  have W0_13 := Lib.hid (W0_12.out.later elemT hb (Nat.le_refl _))
  have GM_13 := Lib.hid (TxL.later GM_12.out hb (Nat.le_refl _))
  clear HC0 W0_12 GM_12 HB12 hb hv
  dsimp only
  go_wp2_with fail
  refine eqT_any _ _ (revpL L0) (revpL L0) _ H0.out.tx W0_13.out.tx (Nat.le_trans HSM.out (by omega)) (Nat.le_trans HSM.out (by omega)) _ ?_
  intro w14 hb
  rw [decide_eq_true rfl]
  have HB14 : Hid (Below w.heap.size w w14) := Lib.hid (HB13.out.trans (hb.mono HB13.out.size))
  have W0_14 := Lib.hid (W0_13.out.later elemT hb (Nat.le_refl _))
  have GM_14 := Lib.hid (TxL.later GM_13.out hb (Nat.le_refl _))
  have H0_14 := Lib.hid (H0.out.later elemT hb (Nat.le_refl _))
  clear W0_13 GM_13 H0 HB13 hb
  dsimp only
  go_wp2_with fail
  refine held_any _ 1 (revpL L0).length _ GM_14.out (Nat.le_trans HSM.out (by omega)) (by omega) _ ?_
  intro w15 hb
  rw [← HKG.out]
  have HB15 : Hid (Below w.heap.size w w15) := Lib.hid (HB14.out.trans (hb.mono HB14.out.size))
  have W0_15 := Lib.hid (W0_14.out.later elemT hb (Nat.le_refl _))
  have GM_15 := Lib.hid (TxL.later GM_14.out hb (Nat.le_refl _))
  have H0_15 := Lib.hid (H0_14.out.later elemT hb (Nat.le_refl _))
  clear W0_14 GM_14 H0_14 HB14 hb
  dsimp only
  go_wp2
  first | go_ret | skip
  exact HR.out _ HB15.out
end Go.Proofs.YtegdcmcfeaohhaaGreatDoor
