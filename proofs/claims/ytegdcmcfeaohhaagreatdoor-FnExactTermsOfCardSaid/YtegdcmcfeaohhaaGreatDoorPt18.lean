/- Contracts of functions of the program and of the model: RecL, RowRec, TermI, RrO, ToRO, LawTermsOf. -/
import Derived.Test.YtegdcmcfeaohhaaGreatDoorPt17
set_option linter.all false
set_option linter.unusedVariables false
set_option linter.unusedSimpArgs false
set_option linter.unnecessarySimpa false
set_option linter.deprecated false
namespace Go.Proofs.YtegdcmcfeaohhaaGreatDoor
open Go Go.RowKit

/-- a store into a cell that holds no text leaves lists of texts as they are -/
theorem TxL.setAt {w : World} {v : Value} {L : List ByteArray} (h : TxL w v L) {b o : Nat} {x : Value} (hx : w.cell? ⟨b, o, none⟩ = some x) (hns : ∀ s, x ≠ .string s) (u : Value) : TxL (w.setCell ⟨b, o, none⟩ u) v L := by
  obtain ⟨ao, cap, hv, hc, hh⟩ := h
  refine ⟨ao, cap, hv, hc, fun i s hi => ?_⟩
  obtain ⟨c, off, cs, h1, h2, h3, h4⟩ := hh i s hi
  refine ⟨c, off, cs, h1, by rw [heap_size_set]; exact h2, fun j y hj => ?_, h4⟩
  have hy := h3 j y hj
  rw [cell?_set]
  split
  · rename_i he
    obtain ⟨rfl, e⟩ := he
    rw [e] at hy
    rw [hx] at hy
    obtain rfl := Option.some.inj hy
    have h4' : cs = [.string s] := h4
    subst h4'
    match j, hj with
    | 0, hj => simp at hj; exact absurd hj.symm (hns s)
    | (k + 1), hj => simp at hj
  · exact hy

set_option maxRecDepth 100000 in
set_option maxHeartbeats 1000000 in
theorem szR_any (v : Value) (L1 L2 : List ByteArray) (w : World) (left : Nat) (h : IsRec w v L1 L2) (hn1 : L1.length ≤ maxLen) (hs1 : ∀ s ∈ L1, s.size ≤ maxLen) (hn2 : L2.length ≤ maxLen) (hs2 : ∀ s ∈ L2, s.size ≤ maxLen) (hl : left ≤ 1048576) (R : Ending → World → Prop)
    (hR : ∀ w', tot L1 + tot L2 ≤ left → Below w.heap.size w w' → R (.returned (.int .i64 ((left - (tot L1 + tot L2) : Nat) : Int))) w') (hR2 : ∀ w', left < tot L1 + tot L2 → Below w.heap.size w w' → R (.returned (.int .i64 (-1))) w') :
    Calls Tryz.prog 33 #[v, .int .i64 (left : Int)] w R := by
  have HR := Lib.hid hR; clear hR
  have HR2 := Lib.hid hR2; clear hR2
  obtain ⟨s1, s2, rfl, h1, h2⟩ := h
  obtain ⟨a1, n1, c1, rfl, h1'⟩ := h1.op
  obtain ⟨a2, n2, c2, rfl, h2'⟩ := h2.op
  obtain ⟨L, hL⟩ : ∃ L, L = w.alloc (.cells #[.slice a1 n1 c1, .slice a2 n2 c2] 33) := ⟨_, rfl⟩
  have HBL : Hid (Below w.heap.size w L) := Lib.hid (by rw [hL]; exact (Below.refl _ _).alloc (Nat.le_refl _) _)
  have HBX : Hid (Box2 L w.heap.size (.slice a1 n1 c1) (.slice a2 n2 c2) 33) := Lib.hid (by rw [hL]; exact Box2.made _ _ _ _)
  have HL := Lib.hid hL
  have H1 := Lib.hid (h1'.later HBL.out (Nat.le_refl _))
  have H2 := Lib.hid (h2'.later HBL.out (Nat.le_refl _))
  have HN := Lib.hid (And.intro hn1 (And.intro hs1 (And.intro hn2 hs2)))
  have HLE := Lib.hid hl
  obtain ⟨hA0, hA1, _, _⟩ := HBX.out.cells
  clear h1 h2 h1' h2' hn1 hs1 hn2 hs2 hL hl
  go_enter Tryz.func33, Tryz.ntmps33
  rw [HL.out] at hA0 hA1
  go_wp2_with fail
  rw [← HL.out] at hA0 hA1 ⊢
  refine szT_any _ L1 _ left H1.out HN.out.1 HN.out.2.1 HLE.out _ ?_ ?_
  · intro ht
    obtain ⟨m, hm⟩ : ∃ m : Nat, left = m + tot L1 := ⟨left - tot L1, by omega⟩
    have e1 : left - tot L1 = m := by omega
    rw [e1]
    have hm0 : ¬ ((m : Int) < 0) := by omega
    have HM := Lib.hid hm
    clear ht hm e1
    dsimp only
    go_wp2_with fail
    refine szT_any _ L2 _ m H2.out HN.out.2.2.1 HN.out.2.2.2 (by have := HM.out; have := HLE.out; omega) _ ?_ ?_
    · intro ht2
      obtain ⟨k, hk⟩ : ∃ k : Nat, m = k + tot L2 := ⟨m - tot L2, by omega⟩
      have e2 : m - tot L2 = k := by omega
      rw [e2]
      have HF := Lib.hid (HR.out L (by have := HM.out; omega) HBL.out)
      have e3 : left - (tot L1 + tot L2) = k := by have := HM.out; omega
      rw [e3] at HF
      have hk0 : ¬ ((k : Int) < 0) := by omega
      clear ht2 hk e2 e3
      dsimp only
      go_wp2
      first | go_ret | skip
      exact HF.out
    · intro ht2
      have HF := Lib.hid (HR2.out L (by have := HM.out; omega) HBL.out)
      clear ht2
      dsimp only
      go_wp2
      first | go_ret | skip
      exact HF.out
  · intro ht
    have HF := Lib.hid (HR2.out L (by omega) HBL.out)
    clear ht
    dsimp only
    go_wp2
    first | go_ret | skip
    exact HF.out

theorem no_str_sl (a : Option Addr) (n c : Nat) : ∀ s, Value.slice a n c ≠ .string s := by intro s h; cases h

set_option maxRecDepth 100000 in
set_option maxHeartbeats 2000000 in
theorem toR_any (v : Value) (L1 L2 : List ByteArray) (w : World) (h : IsRec w v L1 L2) (hn1 : L1.length ≤ 1048576) (hn2 : L2.length ≤ 1048576) (R : Ending → World → Prop)
    (hR : ∀ v' w', IsRec w' v' L1 L2 → Below w.heap.size w w' → R (.returned v') w') :
    Calls Tryz.prog 35 #[v] w R := by
  have HR := Lib.hid hR; clear hR
  obtain ⟨s1, s2, rfl, h1, h2⟩ := h
  obtain ⟨a1, n1, c1, rfl, h1'⟩ := h1.op
  obtain ⟨a2, n2, c2, rfl, h2'⟩ := h2.op
  obtain ⟨L, hL⟩ : ∃ L, L = ((w.alloc (.cells #[.slice a1 n1 c1, .slice a2 n2 c2] 33)).alloc (.cells #[.slice none 0 0, .slice none 0 0] 36)).alloc (.cells #[.slice none 0 0, .slice none 0 0] 36) := ⟨_, rfl⟩
  have HLS : Hid (L.heap.size = w.heap.size + 3) := Lib.hid (by rw [hL]; simp)
  have B0 : Hid (Box2 L w.heap.size (.slice a1 n1 c1) (.slice a2 n2 c2) 33) := Lib.hid (by
    rw [hL]; exact ((Box2.made w _ _ _).later (B := w.heap.size + 1) ((Below.refl _ _).alloc (by simp) _) (by omega)).later (B := w.heap.size + 2) ((Below.refl _ _).alloc (by simp) _) (by omega))
  have B1 : Hid (Box2 L (w.heap.size + 1) (.slice none 0 0) (.slice none 0 0) 36) := Lib.hid (by
    have := (Box2.made (w.alloc (.cells #[.slice a1 n1 c1, .slice a2 n2 c2] 33)) (.slice none 0 0) (.slice none 0 0) 36).later (B := w.heap.size + 2) ((Below.refl _ _).alloc (by simp) (.cells #[.slice none 0 0, .slice none 0 0] 36)) (by simp)
    rw [World.size_alloc, ← hL] at this; exact this)
  have B2 : Hid (Box2 L (w.heap.size + 2) (.slice none 0 0) (.slice none 0 0) 36) := Lib.hid (by
    have := Box2.made ((w.alloc (.cells #[.slice a1 n1 c1, .slice a2 n2 c2] 33)).alloc (.cells #[.slice none 0 0, .slice none 0 0] 36)) (.slice none 0 0) (.slice none 0 0) 36
    rw [World.size_alloc, World.size_alloc, ← hL] at this; exact this)
  have HEXT : Hid (Below w.heap.size w L) := Lib.hid (by rw [hL]; exact (((Below.refl w.heap.size w).alloc (Nat.le_refl _) _).alloc (by simp) _).alloc (by simp; omega) _)
  have H1 := Lib.hid (h1'.later HEXT.out (Nat.le_refl _))
  have H2 := Lib.hid (h2'.later HEXT.out (Nat.le_refl _))
  have HN := Lib.hid (And.intro hn1 hn2)
  have HL := Lib.hid hL
  obtain ⟨hA0, hA1, _, _⟩ := B0.out.cells
  clear h1 h2 h1' h2' hn1 hn2 hL
  go_enter Tryz.func35, Tryz.ntmps35
  rw [HL.out] at hA0 hA1
  go_wp2_with fail
  rw [← HL.out] at hA0 hA1 ⊢
  refine toT_any _ L1 L H1.out HN.out.1 _ ?_
  intro v1 w1 hv1 hb1
  obtain ⟨x1, m1, y1, rfl, hv1'⟩ := hv1.op
  have B0a := Lib.hid (B0.out.later hb1 (lt_of_block B0.out))
  have B1a := Lib.hid (B1.out.later hb1 (lt_of_block B1.out))
  have B2a := Lib.hid (B2.out.later hb1 (lt_of_block B2.out))
  obtain ⟨hC0, hC1, hF0, hF1⟩ := B2a.out.cells
  obtain ⟨W, hW⟩ : ∃ W, W = w1.setCell ⟨w.heap.size + 2, 0, none⟩ (.slice x1 m1 y1) := ⟨_, rfl⟩
  have HW := Lib.hid hW
  have HV1 := Lib.hid (hv1'.setAt hC0 (no_str_sl _ _ _) (.slice x1 m1 y1))
  rw [← hW] at HV1
  have H2a := Lib.hid ((H2.out.later hb1 (Nat.le_refl _)).setAt hC0 (no_str_sl _ _ _) (.slice x1 m1 y1))
  rw [← hW] at H2a
  have HBW : Hid (Below w.heap.size w W) := Lib.hid (by rw [hW]; exact (HEXT.out.trans (hb1.mono HEXT.out.size)).setCell (by simp) _)
  have hlt : w.heap.size + 2 < w1.heap.size := by have := HLS.out; have := hb1.size; omega
  have HWS : Hid (W.heap.size = w1.heap.size) := Lib.hid (by rw [hW]; simp)
  have B2b : Hid (Box2 W (w.heap.size + 2) (.slice x1 m1 y1) (.slice none 0 0) 36) := Lib.hid (by
    rw [hW]
    have := B2a.out
    unfold Box2 at this ⊢
    simp [World.setCell, Array.getElem?_modify, this])
  have B0b : Hid (Box2 W w.heap.size (.slice a1 n1 c1) (.slice a2 n2 c2) 33) := Lib.hid (by
    have := B0a.out
    unfold Box2 at this ⊢
    rw [hW, Below.heap_setCell _ _ _ _ (by simp)]; exact this)
  have B1b : Hid (Box2 W (w.heap.size + 1) (.slice none 0 0) (.slice none 0 0) 36) := Lib.hid (by
    have := B1a.out
    unfold Box2 at this ⊢
    rw [hW, Below.heap_setCell _ _ _ _ (by simp)]; exact this)
  have e1 : ¬ w.heap.size = w.heap.size + 2 := by omega
  have HLT := Lib.hid hlt
  obtain ⟨hD0, hD1, _, _⟩ := B0a.out.cells
  clear hA0 hA1 hv1 hv1' hb1 hW hlt
  dsimp only
  go_wp2_with fail
  rw [← HW.out]
  clear hC0 hC1 hF0 hF1 hD0 hD1
  refine toT_any _ L2 W H2a.out HN.out.2 _ ?_
  intro v2 w2 hv2 hb2
  obtain ⟨x2, m2, y2, rfl, hv2'⟩ := hv2.op
  have B1c := Lib.hid (B1b.out.later hb2 (lt_of_block B1b.out))
  have B2c := Lib.hid (B2b.out.later hb2 (lt_of_block B2b.out))
  have HV1c := Lib.hid (HV1.out.later hb2 (Nat.le_refl _))
  have HV2 := Lib.hid hv2'
  have HB2 := Lib.hid (HBW.out.trans (hb2.mono HBW.out.size))
  obtain ⟨hC0, hC1, hF0, hF1⟩ := B2c.out.cells
  obtain ⟨hR0, hR1, hG0, hG1⟩ := B1c.out.cells
  have e2 : ¬ w.heap.size + 1 = w.heap.size + 2 := by omega
  have e3 : ¬ w.heap.size + 2 = w.heap.size + 1 := by omega
  clear hv2 hv2' hb2
  dsimp only
  go_wp2
  refine bodyPost_ret_at (by simp [results, Tryz.results35, go_sem, hC0, hC1, hF0, hF1, hR0, hR1, hG0, hG1] <;> rfl) rfl ?_
  have T1 := HV1c.out.setAt hC1 (no_str_sl _ _ _) (.slice x2 m2 y2)
  have T2 := HV2.out.setAt hC1 (no_str_sl _ _ _) (.slice x2 m2 y2)
  have k0 : (w2.setCell ⟨w.heap.size + 2, 1, none⟩ (.slice x2 m2 y2)).cell? ⟨w.heap.size + 1, 0, none⟩ = some (.slice none 0 0) := by rw [cell?_set, if_neg (by omega)]; exact hR0
  have k1 : ((w2.setCell ⟨w.heap.size + 2, 1, none⟩ (.slice x2 m2 y2)).setCell ⟨w.heap.size + 1, 0, none⟩ (.slice x1 m1 y1)).cell? ⟨w.heap.size + 1, 1, none⟩ = some (.slice none 0 0) := by
    rw [cell?_set, if_neg (by omega), cell?_set, if_neg (by omega)]; exact hR1
  refine HR.out _ _ ⟨_, _, rfl, (T1.setAt k0 (no_str_sl _ _ _) _).setAt k1 (no_str_sl _ _ _) _, (T2.setAt k0 (no_str_sl _ _ _) _).setAt k1 (no_str_sl _ _ _) _⟩ (((HB2.out.setCell (by simp <;> omega) _).setCell (by simp <;> omega) _).setCell (by simp <;> omega) _)

set_option maxRecDepth 100000 in
set_option maxHeartbeats 2000000 in
theorem eqR_any (va vb : Value) (L1 L2 : List ByteArray) (w : World) (ha : IsRec w va L1 L2) (hb : IsRec w vb L1 L2) (hn1 : L1.length ≤ 281474976710656) (hn2 : L2.length ≤ 281474976710656) (R : Ending → World → Prop)
    (hR : ∀ w', Below w.heap.size w w' → R (.returned (.bool true)) w') :
    Calls Tryz.prog 37 #[va, vb] w R := by
  have HR := Lib.hid hR; clear hR
  obtain ⟨s1, s2, rfl, h1, h2⟩ := ha
  obtain ⟨a1, n1, c1, rfl, h1'⟩ := h1.op
  obtain ⟨a2, n2, c2, rfl, h2'⟩ := h2.op
  obtain ⟨s3, s4, rfl, h3, h4⟩ := hb
  obtain ⟨a3, n3, c3, rfl, h3'⟩ := h3.op
  obtain ⟨a4, n4, c4, rfl, h4'⟩ := h4.op
  obtain ⟨L, hL⟩ : ∃ L, L = (w.alloc (.cells #[.slice a1 n1 c1, .slice a2 n2 c2] 36)).alloc (.cells #[.slice a3 n3 c3, .slice a4 n4 c4] 36) := ⟨_, rfl⟩
  have hb1 : Below (w.heap.size + 1) (w.alloc (.cells #[.slice a1 n1 c1, .slice a2 n2 c2] 36)) L := by rw [hL]; exact (Below.refl _ _).alloc (by simp) _
  have B0 : Hid (Box2 L w.heap.size (.slice a1 n1 c1) (.slice a2 n2 c2) 36) := Lib.hid ((Box2.made w _ _ _).later hb1 (by omega))
  have B1 : Hid (Box2 L (w.heap.size + 1) (.slice a3 n3 c3) (.slice a4 n4 c4) 36) := Lib.hid (by
    have := Box2.made (w.alloc (.cells #[.slice a1 n1 c1, .slice a2 n2 c2] 36)) (.slice a3 n3 c3) (.slice a4 n4 c4) 36
    rw [World.size_alloc, ← hL] at this; exact this)
  have HEXT : Hid (Below w.heap.size w L) := Lib.hid (by rw [hL]; exact ((Below.refl w.heap.size w).alloc (Nat.le_refl _) _).alloc (by simp) _)
  have H1 := Lib.hid (h1'.later HEXT.out (Nat.le_refl _))
  have H2 := Lib.hid (h2'.later HEXT.out (Nat.le_refl _))
  have H3 := Lib.hid (h3'.later HEXT.out (Nat.le_refl _))
  have H4 := Lib.hid (h4'.later HEXT.out (Nat.le_refl _))
  have HN := Lib.hid (And.intro hn1 hn2)
  have HL := Lib.hid hL
  obtain ⟨hA0, hA1, _, _⟩ := B0.out.cells
  obtain ⟨hB0, hB1, _, _⟩ := B1.out.cells
  clear h1 h2 h3 h4 h1' h2' h3' h4' hn1 hn2 hL hb1
  go_enter Tryz.func37, Tryz.ntmps37
  rw [HL.out] at hA0 hA1 hB0 hB1
  go_wp2_with fail
  rw [← HL.out]
  refine eqT_any _ _ L1 L1 L H1.out H3.out HN.out.1 HN.out.1 _ ?_
  intro w1 hb1
  rw [decide_eq_true rfl]
  have HB1 := Lib.hid hb1
  have B0a := Lib.hid (B0.out.later hb1 (lt_of_block B0.out))
  have B1a := Lib.hid (B1.out.later hb1 (lt_of_block B1.out))
  clear hA0 hA1 hB0 hB1 hb1
  obtain ⟨hA0, hA1, _, _⟩ := B0a.out.cells
  obtain ⟨hB0, hB1, _, _⟩ := B1a.out.cells
  dsimp only
  go_wp2_with fail
  refine eqT_any _ _ L2 L2 w1 (H2.out.later HB1.out (Nat.le_refl _)) (H4.out.later HB1.out (Nat.le_refl _)) HN.out.2 HN.out.2 _ ?_
  intro w2 hb2
  rw [decide_eq_true rfl]
  have HB2 := Lib.hid (HEXT.out.trans ((HB1.out.trans (hb2.mono HB1.out.size)).mono HEXT.out.size))
  clear hA0 hA1 hB0 hB1 hb2
  dsimp only
  go_wp2
  first | go_ret | skip
  exact HR.out _ HB2.out
end Go.Proofs.YtegdcmcfeaohhaaGreatDoor

namespace Go.Proofs.YtegdcmcfeaohhaaGreatDoor.EnvLaid
open Go Go.ChangeShapes Go.WideShapes Go.ChangeAt Go.RowKit

theorem cellsRec : Tryz.prog.cellsOf 33 = 2 := by kernel_rfl

set_option maxRecDepth 100000 in
/-- a recurrence that came in -/
theorem open_rec {H : Type} {enc : TypeId × Value → H} {W : World} {r : Reach} {b0 : Nat} {v : Value} {d : DataW H} {ps : List MemPlace}
    (hval : Value.okWide Tryz.prog W r b0 33 v) (h : DataW.Trod enc Tryz.prog W 0 (fun _ => true) true 33 v d ps) :
    ∃ L1 L2, IsRec W v L1 L2 ∧ L1.length ≤ maxLen ∧ (∀ s ∈ L1, s.size ≤ maxLen) ∧ L2.length ≤ maxLen ∧ ∀ s ∈ L2, s.size ≤ maxLen := by
  obtain ⟨cs, rfl, hsz⟩ := okWide_struct Tryz.underlying33 hval
  rw [cellsRec] at hsz
  obtain ⟨x0, x1, rfl⟩ : ∃ x0 x1, cs = #[x0, x1] := by
    obtain ⟨l⟩ := cs
    match l, hsz with
    | [x0, x1], _ => exact ⟨x0, x1, rfl⟩
  obtain ⟨fuel, hf⟩ := h
  obtain ⟨y0, y1, n, _, _, h0, h1⟩ := trod_struct2 Tryz.underlying33 hf
  obtain ⟨L1, p1, p2, p3⟩ := open_textsC (y := y0) (x := x0) (by simpa [Value.cells, cellsStr, show Tryz.prog.cellsOf 22 = 1 by kernel_rfl] using h0)
  obtain ⟨L2, q1, q2, q3⟩ := open_textsC (y := y1) (x := x1) (by simpa [Value.cells, cellsStr, show Tryz.prog.cellsOf 22 = 1 by kernel_rfl] using h1)
  exact ⟨L1, L2, ⟨x0, x1, rfl, p1, q1⟩, p2, p3, q2, q3⟩
end Go.Proofs.YtegdcmcfeaohhaaGreatDoor.EnvLaid

namespace Go.Proofs.YtegdcmcfeaohhaaGreatDoor
open Go Go.RowKit

theorem termsQ_at {ss cs : List Rat} {k : Nat} {q : Rat} (h : termsQ ss cs (k + 1) = termsQ ss cs k ++ [q]) : ∀ d, (termsQ ss cs (k + 1 + d))[k]? = some q
  | 0 => by
    rw [Nat.add_zero, h, List.getElem?_append_right (by rw [termsQ_len]; omega), termsQ_len]; simp
  | d + 1 => by
    have ih := termsQ_at h d
    rw [← Nat.add_assoc]
    by_cases hs : k + 1 + d < ss.length
    · rw [termsQ_start (List.getElem?_eq_getElem hs), List.getElem?_append_left (by rw [termsQ_len]; omega)]; exact ih
    · rw [termsQ_next hs, List.getElem?_append_left (by rw [termsQ_len]; omega)]; exact ih

theorem TArr.noInt {e : TypeId} {w : World} {g : Nat} {L : List ByteArray} (h : TArr e w g L) : NoInt w g := by
  unfold TArr at h
  exact NoInt.of h (by intro u hu; simp at hu; obtain ⟨s, _, rfl⟩ := hu; rfl)

theorem StR.but {w0 w w' : World} {B g : Nat} {s1 s2 : Value} {ss cs : List Rat} {n : Nat} (h : StR w0 w B s1 s2 ss cs n) (hb : But g w w') (hn : NoInt w g) (h1 : g < B) (h2 : w0.heap.size + 1 < g) : StR w0 w' B s1 s2 ss cs n := by
  obtain ⟨k1, k2, k3, k4, a, m, c, k5, k6⟩ := h
  refine ⟨k1, Nat.le_trans k2 hb.size, ?_, k4.trans (hb.below (by omega) k4.size), a, m, c, ?_, k6.but elemR hb hn (fun e => by have := k6.base _ e; omega)⟩
  · have := hb.block w0.heap.size (lt_of_block k3) (by omega)
    unfold Box2 at *; rw [this]; exact k3
  · rw [hb.block _ (Array.getElem?_eq_some_iff.1 k5).1 (by omega)]; exact k5

set_option maxRecDepth 100000 in
set_option maxHeartbeats 2000000 in
theorem steps_any (s1 s2 : Value) (w : World) (R : Ending → World → Prop)
    (hR : ∀ w', Box2 w' w.heap.size s1 s2 97 → w'.heap[w.heap.size + 1]? = some (.cells #[.slice none 0 0] 63 (0, 0)) → Below w.heap.size w w' → w.heap.size + 2 ≤ w'.heap.size →
      R (.returned (.func (.func 124) #[] #[.pointer (some ⟨w.heap.size + 1, 0, none⟩), .pointer (some ⟨w.heap.size, 0, none⟩)])) w')
    (h1 : ∃ a n c, s1 = .slice a n c) (h2 : ∃ a n c, s2 = .slice a n c) :
    Calls Tryz.prog 83 #[.agg #[s1, s2]] w R := by
  obtain ⟨a1, n1, c1, rfl⟩ := h1
  obtain ⟨a2, n2, c2, rfl⟩ := h2
  obtain ⟨L, hL⟩ : ∃ L, L = (w.alloc (.cells #[.slice a1 n1 c1, .slice a2 n2 c2] 97)).alloc (.cells #[.slice none 0 0] 63) := ⟨_, rfl⟩
  have hb1 : Below (w.heap.size + 1) (w.alloc (.cells #[.slice a1 n1 c1, .slice a2 n2 c2] 97)) L := by rw [hL]; exact (Below.refl _ _).alloc (by simp) _
  have HR := Lib.hid (hR L ((Box2.made w _ _ _).later hb1 (by omega)) (by
    rw [hL]
    show (World.alloc _ _).heap[_]? = _
    have : (w.alloc (.cells #[.slice a1 n1 c1, .slice a2 n2 c2] 97)).heap.size = w.heap.size + 1 := by simp
    rw [← this]
    show (Array.push _ _)[_]? = _
    rw [Array.getElem?_push, if_pos rfl]) (by rw [hL]; exact ((Below.refl w.heap.size w).alloc (Nat.le_refl _) _).alloc (by simp) _) (by rw [hL]; simp))
  rw [hL] at HR
  have hmf : ∀ (fn : Fn) (first cap : Array Value) (w : World), (Instr.makeFunc fn first cap).run Tryz.prog w = .ok (.func fn first cap) w := fun _ _ _ _ => rfl
  clear hR hL hb1
  go_enter Tryz.func83, Tryz.ntmps83
  go_wp2
  first | go_ret | skip
  exact HR.out

def TerRel (w wS : World) (B g : Nat) (s1 s2 : Value) (ss cs : List Rat) (c : Nat) (i : Value) (wr : World) : Prop :=
  ∃ k : Nat, i = .int .i64 (k : Int) ∧ k ≤ c ∧ StR wS wr B s1 s2 ss cs k ∧ fitsQ (termsQ ss cs k) = true ∧ TArr 9 wr g (textsQ (termsQ ss cs k) ++ List.replicate (c - k) ByteArray.empty) ∧ Below w.heap.size w wr

set_option maxRecDepth 100000 in
set_option maxHeartbeats 8000000 in
theorem impl_term (v : Value) (L1 L2 : List ByteArray) (n : Int) (w : World) (hE : Env w) (htab : Lib.TabIs Tryz.prog w "internal/strconv.uint64pow10" .u64 Lib.pow10Tab) (h : IsRec w v L1 L2) (hn1 : L1.length ≤ 1048576) (hn2 : L2.length ≤ 1048576) (hi0 : -9223372036854775807 - 1 ≤ n) (hi1 : n ≤ 9223372036854775807) (R : Ending → World → Prop)
    (hR : ∀ v' w', OwE 1 ET 9 w' w.heap.size v' (termL L1 L2 n) → Below w.heap.size w w' → R (.returned (.tuple #[v', .bool (termB L1 L2 n)])) w') :
    Calls Tryz.prog 40 #[v, .int .i64 n] w R := by
  have HR := Lib.hid hR; clear hR
  have HE := Lib.hid hE
  have HTAB := Lib.hid htab
  have HI := Lib.hid (And.intro hi0 hi1)
  have hk := h
  obtain ⟨a1, n1, c1, a2, n2, c2, rfl, e1, e2, h1, h2⟩ := h.parts
  obtain ⟨L, hL⟩ : ∃ L, L = w.alloc (.cells #[.slice a1 n1 c1, .slice a2 n2 c2] 36) := ⟨_, rfl⟩
  have HBL : Hid (Below w.heap.size w L) := Lib.hid (by rw [hL]; exact (Below.refl _ _).alloc (Nat.le_refl _) _)
  have HBX : Hid (Box2 L w.heap.size (.slice a1 n1 c1) (.slice a2 n2 c2) 36) := Lib.hid (by rw [hL]; exact Box2.made _ _ _ _)
  have HL := Lib.hid hL
  have HV := Lib.hid (hk.later HBL.out (Nat.le_refl _))
  have HN := Lib.hid (And.intro hn1 hn2)
  have HFAIL : Hid (∀ w', termB L1 L2 n = false → Below w.heap.size w w' → R (.returned (.tuple #[.slice none 0 0, .bool false])) w') := Lib.hid (fun w' hf hb => by
    have := HR.out (.slice none 0 0) w' (by rw [termL_false hf]; exact OwE.nil _ _ _) hb
    rw [hf] at this; exact this)
  obtain ⟨hA0, hA1, _, _⟩ := HBX.out.cells
  clear hE htab h hk e1 e2 h1 h2 hn1 hn2 hL hi0 hi1
  go_enter Tryz.func40, Tryz.ntmps40
  rw [HL.out] at hA0 hA1
  go_wp2_with fail
  rw [← HL.out]
  refine readseq_any _ L1 L2 L (HE.out.later HBL.out (Nat.le_refl _)) HV.out HN.out.1 HN.out.2 _ ?_ ?_
  rotate_left
  · intro e w2 hrec he hb2
    obtain ⟨t, p, rfl⟩ := he
    have HF := Lib.hid (HFAIL.out (w2.alloc (.cells #[.slice none 0 0, .slice none 0 0] 97)) (by unfold termB; rw [hrec]; rfl))
    have HB2 := Lib.hid (HBL.out.trans (hb2.mono HBL.out.size))
    clear hrec hb2 hA0 hA1
    unfold zeroS
    dsimp only
    go_wp2
    first | go_ret | skip
    exact HF.out (HB2.out.alloc HB2.out.size _)
  intro x1 x2 w2 hrec hx1 hx2 hb2
  have HREC := Lib.hid hrec
  obtain ⟨b1, m1, d1, rfl, hx1'⟩ := SlE.op hx1
  obtain ⟨b2, m2, d2, rfl, hx2'⟩ := SlE.op hx2
  obtain ⟨V, hV⟩ : ∃ V, V = w2.alloc (.cells #[.slice b1 m1 d1, .slice b2 m2 d2] 97) := ⟨_, rfl⟩
  have hbV : Below w2.heap.size w2 V := by rw [hV]; exact (Below.refl _ _).alloc (Nat.le_refl _) _
  have hb2V : Below L.heap.size L V := hb2.trans (hbV.mono hb2.size)
  have HBV : Hid (Below w.heap.size w V) := Lib.hid (HBL.out.trans (hb2V.mono HBL.out.size))
  have HX1V := Lib.hid (SlE.later elemR hx1' hbV (Nat.le_refl _))
  have HX2V := Lib.hid (SlE.later elemR hx2' hbV (Nat.le_refl _))
  have HV2 := Lib.hid hV
  have HK := Lib.hid (recB_four hrec)
  clear hrec hx1 hx2 hx1' hx2' hb2 hbV hb2V hV hA0 hA1
  by_cases hc0 : n < 0
  · have HF := Lib.hid (HFAIL.out V (by unfold termB; rw [decide_eq_false (by omega), Bool.false_and, Bool.and_false]) HBV.out)
    dsimp only
    go_wp2
    rw [← HV2.out]
    first | go_ret | skip
    exact HF.out
  by_cases hc1 : 40 < n
  · have HF := Lib.hid (HFAIL.out V (by unfold termB; rw [decide_eq_false (by omega), Bool.false_and, Bool.and_false]) HBV.out)
    dsimp only
    go_wp2
    rw [← HV2.out]
    first | go_ret | skip
    exact HF.out
  have HTB : Hid (termB L1 L2 n = fitsQ (termsQ (L1.map qOf) (L2.map qOf) n.toNat)) := Lib.hid (by unfold termB; rw [HREC.out, decide_eq_true (by omega)]; rfl)
  obtain ⟨c, rfl⟩ : ∃ c : Nat, n = (c : Int) := ⟨n.toNat, by omega⟩
  have hc40 : c ≤ 40 := by omega
  have HC : Hid (c ≤ 40) := Lib.hid (by omega)
  rw [Int.toNat_natCast] at HTB
  have HTL : Hid (termB L1 L2 (c : Int) = true → termL L1 L2 (c : Int) = textsQ (termsQ (L1.map qOf) (L2.map qOf) c)) := Lib.hid (fun h => by rw [termL_true h, Int.toNat_natCast])
  obtain ⟨ss, hss⟩ : ∃ ss, ss = L1.map qOf := ⟨_, rfl⟩
  obtain ⟨cs, hcs⟩ : ∃ cs, cs = L2.map qOf := ⟨_, rfl⟩
  have HSS : Hid (ss.length = cs.length ∧ cs.length ≤ 8 ∧ AllBd 60 ss ∧ AllBd 60 cs) := Lib.hid (by
    rw [hss, hcs]
    exact ⟨by rw [List.length_map, List.length_map]; exact HK.out.1, by rw [List.length_map]; exact HK.out.2.1, allBd_of HK.out.2.2.1, allBd_of HK.out.2.2.2⟩)
  rw [← hss, ← hcs] at HTB HTL
  rw [← hss] at HX1V
  rw [← hcs] at HX2V
  clear hss hcs
  dsimp only
  go_wp2_with fail
  rw [← HV2.out]
  refine steps_any _ _ V _ ?_ ⟨_, _, _, rfl⟩ ⟨_, _, _, rfl⟩
  intro w3 hq1 hq2 hb3 hs3
  have HB3 := Lib.hid (HBV.out.trans (hb3.mono HBV.out.size))
  have HQ := Lib.hid (And.intro hq1 (And.intro hq2 (And.intro hb3 hs3)))
  clear hq1 hq2 hb3 hs3
  dsimp only
  go_wp2_with (at_make; go_must (refine wpList_maket _ rfl _ 22 rfl 9 16 Tryz.underlying22 info_str (by omega) .i64 _ c rfl (by omega) (by have := HC.out; omega) ?_))
  intro W hA hbW hsW
  have HST : Hid (TerRel w V (w3.heap.size + 1) w3.heap.size (.slice b1 m1 d1) (.slice b2 m2 d2) ss cs c (.int .i64 0) W) := Lib.hid
    ⟨0, rfl, Nat.zero_le _, ⟨by have := HQ.out.2.2.2; omega, hA.lt, HQ.out.1.later hbW (lt_of_block HQ.out.1), HQ.out.2.2.1.trans (hbW.mono HQ.out.2.2.1.size), none, 0, 0, by
      rw [hbW.block _ (by have := HQ.out.2.2.2; omega)]; exact HQ.out.2.1, OwE.nil _ _ _⟩, rfl, by simpa [textsQ, termsQ] using hA, HB3.out.trans (hbW.mono HB3.out.size)⟩
  clear hA hbW hsW
  go_wp2
  go_loopw [34] (fun i wr => TerRel w V (w3.heap.size + 1) w3.heap.size (.slice b1 m1 d1) (.slice b2 m2 d2) ss cs c i wr) (fun i _ => c - (intOf i).toNat)
  case atStart => exact HST.out
  case round =>
    clear HST
    obtain ⟨k, rfl, hk, hst, hfit, hA, hbel⟩ := hrel
    have HB := Lib.hid hbel
    have HFIT := Lib.hid hfit
    have HA := Lib.hid hA
    have HSTR := Lib.hid hst
    by_cases hkn : k = c
    · subst hkn
      have hB := HTB.out
      rw [hfit] at hB
      rw [Nat.sub_self, List.replicate_zero, List.append_nil, ← HTL.out hB] at hA
      have HT := Lib.hid (hA.own w.heap.size k (by rw [HTL.out hB]; unfold textsQ; rw [List.length_map, termsQ_len]) HB3.out.size (by have := HC.out; omega))
      have HF := Lib.hid (HR.out _ wr HT.out HB.out)
      rw [hB] at HF
      have hkk : ¬ ((k : Int) < (k : Int)) := by omega
      clear hst hfit hA hbel hB hk
      go_wp2
      first | go_ret | skip
      exact HF.out
    · have hkl : k < c := by omega
      have hk1 : (k : Int) < (c : Int) := by omega
      have hk0 : (0 : Int) ≤ (k : Int) := by omega
      have hw1 : IntKind.i64.wrap ((k : Int) + 1) = ((k + 1 : Nat) : Int) := by rw [IntWalk.i64_in _ (by omega)]; omega
      have HKL := Lib.hid hkl
      clear hst hfit hA hbel hk hkn
      go_wp2_with fail
      refine step_any V wr (w3.heap.size + 1) _ _ ss cs k HSTR.out HX1V.out HX2V.out HSS.out.1 HSS.out.2.1 HSS.out.2.2.1 HSS.out.2.2.2 (by have := HC.out; omega) _ ?_
      intro v6 q w6 hq hv6 hst6 hfr
      have HQQ := Lib.hid hq
      have HBV6 : Hid (Below w.heap.size w w6) := Lib.hid (HB.out.trans (hfr.below (by have := HB3.out.size; omega) (by have := HBV.out.size; omega)))
      have hgt : V.heap.size + 1 < w3.heap.size := by have := HQ.out.2.2.2; omega
      have HGT := Lib.hid hgt
      have HA6 : Hid (TArr 9 w6 w3.heap.size (textsQ (termsQ ss cs k) ++ List.replicate (c - k) ByteArray.empty)) := Lib.hid (by
        have h9 := HA.out
        have := hfr.block w3.heap.size (by omega) (by omega)
        unfold TArr at *
        rw [this]; exact h9)
      have HST6 := Lib.hid hst6
      have HV6 := Lib.hid hv6
      clear hq hv6 hst6 hfr hgt
      dsimp only
      go_wp2_with fail
      refine rtext_any _ q _ HV6.out (tab_later HTAB.out HBV6.out (Nat.le_refl _)) _ ?_ ?_
      · intro w7 hf hb7
        obtain ⟨T, hT⟩ : ∃ T : ByteArray, T = ⟨(textQ q).toArray⟩ := ⟨_, rfl⟩
        rw [← hT]
        have hfit2 : Hid (fitsQ (termsQ ss cs (k + 1)) = true) := Lib.hid (by
          have := HFIT.out
          rw [HQQ.out]
          unfold fitsQ at this ⊢
          rw [List.all_append, this]
          simp only [List.all_cons, List.all_nil, Bool.and_true, Bool.true_and]
          exact few_dec hf)
        have hA1 := HA6.out.later hb7 HA6.out.lt
        have hlt : (textsQ (termsQ ss cs k)).length = k := by unfold textsQ; rw [List.length_map, termsQ_len]
        have hc2 := hA1.cell k ByteArray.empty (by rw [List.getElem?_append_right (by omega), hlt, Nat.sub_self, List.getElem?_replicate, if_pos (by omega)])
        have hf2 := hA1.frozen k
        have hA2 := hA1.set k T
        have e9 : (textsQ (termsQ ss cs k) ++ List.replicate (c - k) ByteArray.empty).set k T = textsQ (termsQ ss cs (k + 1)) ++ List.replicate (c - (k + 1)) ByteArray.empty := by
          have e : c - k = (c - (k + 1)) + 1 := by have := HKL.out; omega
          rw [e, List.replicate_succ, List.set_append_right _ _ (by omega), hlt, Nat.sub_self, List.set_cons_zero, hT, HQQ.out]
          unfold textsQ
          simp
        rw [e9] at hA2
        have HA2 := Lib.hid hA2
        have HST7 := Lib.hid ((HST6.out.later hb7).but ((But.refl w3.heap.size w7).setCell k (.string T)) hA1.noInt (by omega) HGT.out)
        have HB1 := Lib.hid (HBV6.out.trans (hb7.mono HBV6.out.size))
        have HB3S := Lib.hid HB3.out.size
        clear hf hb7 hT hA1 hA2 hlt e9
        dsimp only
        go_wp2
        go_roundw
        case rel => exact ⟨k + 1, by first | rfl | go_num, HKL.out, HST7.out, hfit2.out, HA2.out, HB1.out.setCell HB3S.out _⟩
        case measure => simp [intOf]; have := HKL.out; omega
      · intro w7 hf hb7
        have hB : termB L1 L2 (c : Int) = false := by
          rw [HTB.out]
          have hat := termsQ_at HQQ.out (c - (k + 1))
          rw [show k + 1 + (c - (k + 1)) = c by have := HKL.out; omega] at hat
          exact fitsQ_not hat (few_not hf)
        have HF := Lib.hid (HFAIL.out w7 hB (HBV6.out.trans (hb7.mono HBV6.out.size)))
        clear hf hb7 hB
        dsimp only
        go_wp2
        first | go_ret | skip
        exact HF.out

theorem term_small (L1 L2 : List ByteArray) (n : Int) : (termL L1 L2 n).length ≤ 1000 := by
  cases h : termB L1 L2 n
  · rw [termL_false h]; simp
  · rw [termL_true h]
    unfold termB at h
    rw [Bool.and_eq_true, Bool.and_eq_true] at h
    have := of_decide_eq_true h.2.1
    unfold textsQ
    rw [List.length_map, termsQ_len]
    omega
end Go.Proofs.YtegdcmcfeaohhaaGreatDoor

namespace Go.Proofs.YtegdcmcfeaohhaaGreatDoor
open Go Go.RowKit

/-- a value of the program's type of recurrences whose lists are own, in different blocks -/
def OwR (w : World) (B : Nat) (v : Value) (L1 L2 : List ByteArray) : Prop :=
  ∃ s1 s2 M, v = .agg #[s1, s2] ∧ OwE 1 ET 9 w B s1 L1 ∧ OwE 1 ET 9 w M s2 L2 ∧ B ≤ M ∧ M ≤ w.heap.size ∧ ∀ g, s1.ownBlock = some g → g < M

theorem OwR.rec {w : World} {B : Nat} {v : Value} {L1 L2 : List ByteArray} (h : OwR w B v L1 L2) : IsRec w v L1 L2 := by
  obtain ⟨s1, s2, M, rfl, h1, h2, _⟩ := h
  exact ⟨s1, s2, rfl, h1.tx, h2.tx⟩

/-- the blocks of a recurrence's lists -/
def rcBlock (v : Value) (g : Nat) : Prop := match v with
  | .agg #[s1, s2] => s1.ownBlock = some g ∨ s2.ownBlock = some g
  | _ => False

theorem ButO.both {a b c d : World} {o1 o2 : Option Nat} {B : Nat} (h1 : Below a.heap.size a b) (h2 : ButO o1 b c) (h3 : ButO o2 c d) (k1 : ∀ g, o1 = some g → B ≤ g) (k2 : ∀ g, o2 = some g → B ≤ g) (hB : B ≤ a.heap.size) : Below B a d :=
  ((h1.mono hB).trans (h2.below k1 (Nat.le_trans hB h1.size))).trans (h3.below k2 (Nat.le_trans hB (Nat.le_trans h1.size h2.size)))

set_option maxRecDepth 100000 in
set_option maxHeartbeats 2000000 in
theorem markRO_any (s1 s2 : Value) (L1 L2 : List ByteArray) (k0 : Nat) (B : Nat) (w : World) (h : OwR w B (.agg #[s1, s2]) L1 L2) (hn1 : L1.length ≤ 2000000) (hn2 : L2.length ≤ 2000000) (hk : k0 ≤ 1000000) (R : Ending → World → Prop)
    (hR : ∀ w' La wm, Below w.heap.size w La → ButO s1.ownBlock La wm → ButO s2.ownBlock wm w' → R (.returned (.int .i64 ((k0 + L1.length + L2.length : Nat) : Int))) w') :
    Calls Tryz.prog 38 #[.agg #[s1, s2], .int .i64 (k0 : Int)] w R := by
  have HR := Lib.hid hR; clear hR
  obtain ⟨t1, t2, M, ev, h1, h2, h3, h4, h5⟩ := h
  simp only [Value.agg.injEq, Array.mk.injEq, List.cons.injEq, and_true] at ev
  obtain ⟨rfl, rfl⟩ := ev
  obtain ⟨a1, n1, c1, rfl, e1⟩ := h1.shape
  obtain ⟨a2, n2, c2, rfl, e2⟩ := h2.shape
  obtain ⟨L, hL⟩ : ∃ L, L = w.alloc (.cells #[.slice a1 n1 c1, .slice a2 n2 c2] 36) := ⟨_, rfl⟩
  have HBL : Hid (Below w.heap.size w L) := Lib.hid (by rw [hL]; exact (Below.refl _ _).alloc (Nat.le_refl _) _)
  have B0 : Hid (Box2 L w.heap.size (.slice a1 n1 c1) (.slice a2 n2 c2) 36) := Lib.hid (by rw [hL]; exact Box2.made _ _ _ _)
  have HL := Lib.hid hL
  have HO1 := Lib.hid h1.own_lt
  have HO2 := Lib.hid h2.own_lt
  have H1 := Lib.hid (h1.later elemT HBL.out (Nat.le_refl _))
  have H2 := Lib.hid (h2.later elemT HBL.out (Nat.le_refl _))
  have HM := Lib.hid (And.intro h3 (And.intro h4 h5))
  have HN := Lib.hid (And.intro hn1 (And.intro hn2 hk))
  obtain ⟨hA0, hA1, _, _⟩ := B0.out.cells
  clear h1 h2 h3 h4 h5 e1 e2 hn1 hn2 hk hL
  go_enter Tryz.func38, Tryz.ntmps38
  rw [HL.out] at hA0 hA1
  go_wp2_with fail
  rw [← HL.out]
  refine mark_any _ L1 k0 B L H1.out (by have := HN.out.1; omega) (by have := HN.out.2.2; omega) _ ?_
  intro w1 hv1 hb1
  have B1 : Hid (Box2 w1 w.heap.size (.slice a1 n1 c1) (.slice a2 n2 c2) 36) := Lib.hid (by
    have k := hb1.block w.heap.size (lt_of_block B0.out) (fun e => by have := HO1.out _ e; omega)
    have := B0.out
    unfold Box2 at *
    rw [k]; exact this)
  have H2b := Lib.hid (H2.out.butO hb1 (fun g hg e => by have k1 := HM.out.2.2 g e; have k2 := H2.out.base g hg; omega))
  have HB1 := Lib.hid hb1
  obtain ⟨k1, hk1⟩ : ∃ k1, k1 = k0 + L1.length := ⟨_, rfl⟩
  rw [← hk1] at HR ⊢
  have HK1 : Hid (k1 ≤ 1000000000) := Lib.hid (by have := HN.out; omega)
  clear hv1 hb1 hk1 hA0 hA1
  obtain ⟨hA0, hA1, _, _⟩ := B1.out.cells
  dsimp only
  go_wp2_with fail
  refine mark_any _ L2 k1 M w1 H2b.out (by have := HN.out.2.1; omega) HK1.out _ ?_
  intro w2 hv2 hb2
  have HF := Lib.hid (HR.out w2 L w1 HBL.out HB1.out hb2)
  clear hv2 hb2 hA0 hA1
  dsimp only
  go_wp2
  first | go_ret | skip
  exact HF.out
end Go.Proofs.YtegdcmcfeaohhaaGreatDoor

namespace Go.Proofs.YtegdcmcfeaohhaaGreatDoor
open Go Go.RowKit

theorem OwR.later0 {w w' : World} {B : Nat} {v : Value} {L1 L2 : List ByteArray} (h : OwR w B v L1 L2) (hb : Below w.heap.size w w') : OwR w' B v L1 L2 := by
  obtain ⟨s1, s2, M, rfl, h1, h2, h3, h4, h5⟩ := h
  exact ⟨s1, s2, M, rfl, h1.later elemT hb (Nat.le_refl _), h2.later elemT hb (Nat.le_refl _), h3, Nat.le_trans h4 hb.size, h5⟩

set_option maxRecDepth 100000 in
set_option maxHeartbeats 2000000 in
theorem toR_own (v : Value) (L1 L2 : List ByteArray) (w : World) (h : IsRec w v L1 L2) (hn1 : L1.length ≤ 1048576) (hn2 : L2.length ≤ 1048576) (R : Ending → World → Prop)
    (hR : ∀ v' w', OwR w' w.heap.size v' L1 L2 → (∀ g, rcBlock v' g → g < w'.heap.size) → Below w.heap.size w w' → R (.returned v') w') :
    Calls Tryz.prog 35 #[v] w R := by
  have HR := Lib.hid hR; clear hR
  obtain ⟨s1, s2, rfl, h1, h2⟩ := h
  obtain ⟨a1, n1, c1, rfl, h1'⟩ := h1.op
  obtain ⟨a2, n2, c2, rfl, h2'⟩ := h2.op
  obtain ⟨L, hL⟩ : ∃ L, L = ((w.alloc (.cells #[.slice a1 n1 c1, .slice a2 n2 c2] 33)).alloc (.cells #[.slice none 0 0, .slice none 0 0] 36)).alloc (.cells #[.slice none 0 0, .slice none 0 0] 36) := ⟨_, rfl⟩
  have HLS : Hid (L.heap.size = w.heap.size + 3) := Lib.hid (by rw [hL]; simp)
  have B0 : Hid (Box2 L w.heap.size (.slice a1 n1 c1) (.slice a2 n2 c2) 33) := Lib.hid (by
    rw [hL]; exact ((Box2.made w _ _ _).later (B := w.heap.size + 1) ((Below.refl _ _).alloc (by simp) _) (by omega)).later (B := w.heap.size + 2) ((Below.refl _ _).alloc (by simp) _) (by omega))
  have B1 : Hid (Box2 L (w.heap.size + 1) (.slice none 0 0) (.slice none 0 0) 36) := Lib.hid (by
    have := (Box2.made (w.alloc (.cells #[.slice a1 n1 c1, .slice a2 n2 c2] 33)) (.slice none 0 0) (.slice none 0 0) 36).later (B := w.heap.size + 2) ((Below.refl _ _).alloc (by simp) (.cells #[.slice none 0 0, .slice none 0 0] 36)) (by simp)
    rw [World.size_alloc, ← hL] at this; exact this)
  have B2 : Hid (Box2 L (w.heap.size + 2) (.slice none 0 0) (.slice none 0 0) 36) := Lib.hid (by
    have := Box2.made ((w.alloc (.cells #[.slice a1 n1 c1, .slice a2 n2 c2] 33)).alloc (.cells #[.slice none 0 0, .slice none 0 0] 36)) (.slice none 0 0) (.slice none 0 0) 36
    rw [World.size_alloc, World.size_alloc, ← hL] at this; exact this)
  have HEXT : Hid (Below w.heap.size w L) := Lib.hid (by rw [hL]; exact (((Below.refl w.heap.size w).alloc (Nat.le_refl _) _).alloc (by simp) _).alloc (by simp; omega) _)
  have H1 := Lib.hid (h1'.later HEXT.out (Nat.le_refl _))
  have H2 := Lib.hid (h2'.later HEXT.out (Nat.le_refl _))
  have HN := Lib.hid (And.intro hn1 hn2)
  have HL := Lib.hid hL
  obtain ⟨hA0, hA1, _, _⟩ := B0.out.cells
  clear h1 h2 h1' h2' hn1 hn2 hL
  go_enter Tryz.func35, Tryz.ntmps35
  rw [HL.out] at hA0 hA1
  go_wp2_with fail
  rw [← HL.out] at hA0 hA1 ⊢
  refine toT_own _ L1 L H1.out HN.out.1 _ ?_
  intro v1 w1 hv1 hb1
  obtain ⟨x1, m1, y1, rfl, ex1⟩ := hv1.shape
  clear ex1
  have HOL := Lib.hid hv1.own_lt
  have B0a := Lib.hid (B0.out.later hb1 (lt_of_block B0.out))
  have B1a := Lib.hid (B1.out.later hb1 (lt_of_block B1.out))
  have B2a := Lib.hid (B2.out.later hb1 (lt_of_block B2.out))
  obtain ⟨hC0, hC1, hF0, hF1⟩ := B2a.out.cells
  obtain ⟨W, hW⟩ : ∃ W, W = w1.setCell ⟨w.heap.size + 2, 0, none⟩ (.slice x1 m1 y1) := ⟨_, rfl⟩
  have HW := Lib.hid hW
  have HV1 := Lib.hid (hv1.setOld elemT (b := w.heap.size + 2) (by rw [HLS.out]; omega) (B2a.out.noInt rfl rfl) 0 (.slice x1 m1 y1))
  rw [← hW] at HV1
  have H2a := Lib.hid ((H2.out.later hb1 (Nat.le_refl _)).setAt hC0 (no_str_sl _ _ _) (.slice x1 m1 y1))
  rw [← hW] at H2a
  have HBW : Hid (Below w.heap.size w W) := Lib.hid (by rw [hW]; exact (HEXT.out.trans (hb1.mono HEXT.out.size)).setCell (by simp) _)
  have hlt : w.heap.size + 2 < w1.heap.size := by have := HLS.out; have := hb1.size; omega
  have HWS : Hid (W.heap.size = w1.heap.size) := Lib.hid (by rw [hW]; simp)
  have B2b : Hid (Box2 W (w.heap.size + 2) (.slice x1 m1 y1) (.slice none 0 0) 36) := Lib.hid (by
    rw [hW]
    have := B2a.out
    unfold Box2 at this ⊢
    simp [World.setCell, Array.getElem?_modify, this])
  have B0b : Hid (Box2 W w.heap.size (.slice a1 n1 c1) (.slice a2 n2 c2) 33) := Lib.hid (by
    have := B0a.out
    unfold Box2 at this ⊢
    rw [hW, Below.heap_setCell _ _ _ _ (by simp)]; exact this)
  have B1b : Hid (Box2 W (w.heap.size + 1) (.slice none 0 0) (.slice none 0 0) 36) := Lib.hid (by
    have := B1a.out
    unfold Box2 at this ⊢
    rw [hW, Below.heap_setCell _ _ _ _ (by simp)]; exact this)
  have e1 : ¬ w.heap.size = w.heap.size + 2 := by omega
  have HLT := Lib.hid hlt
  obtain ⟨hD0, hD1, _, _⟩ := B0a.out.cells
  have HZ1 : Hid (w.heap.size ≤ L.heap.size ∧ L.heap.size ≤ W.heap.size) := Lib.hid ⟨HEXT.out.size, by rw [HWS.out]; exact hb1.size⟩
  clear hA0 hA1 hv1 hb1 hW hlt
  dsimp only
  go_wp2_with fail
  rw [← HW.out]
  clear hC0 hC1 hF0 hF1 hD0 hD1
  refine toT_own _ L2 W H2a.out HN.out.2 _ ?_
  intro v2 w2 hv2 hb2
  obtain ⟨x2, m2, y2, rfl, ex2⟩ := hv2.shape
  clear ex2
  have HOL2 := Lib.hid hv2.own_lt
  have B1c := Lib.hid (B1b.out.later hb2 (lt_of_block B1b.out))
  have B2c := Lib.hid (B2b.out.later hb2 (lt_of_block B2b.out))
  have HV1c := Lib.hid (HV1.out.later elemT hb2 (Nat.le_refl _))
  have HV2 := Lib.hid hv2
  have HZ2 : Hid (W.heap.size ≤ w2.heap.size) := Lib.hid hb2.size
  have HB2 := Lib.hid (HBW.out.trans (hb2.mono HBW.out.size))
  obtain ⟨hC0, hC1, hF0, hF1⟩ := B2c.out.cells
  obtain ⟨hR0, hR1, hG0, hG1⟩ := B1c.out.cells
  have e2 : ¬ w.heap.size + 1 = w.heap.size + 2 := by omega
  have e3 : ¬ w.heap.size + 2 = w.heap.size + 1 := by omega
  clear hv2 hb2
  dsimp only
  go_wp2
  refine bodyPost_ret_at (by simp [results, Tryz.results35, go_sem, hC0, hC1, hF0, hF1, hR0, hR1, hG0, hG1] <;> rfl) rfl ?_
  have n2 := B2c.out.noInt rfl rfl
  have n1 := B1c.out.noInt rfl rfl
  have T1 := HV1c.out.setOld elemT (b := w.heap.size + 2) (by rw [HLS.out]; omega) n2 1 (.slice x2 m2 y2)
  have T2 := HV2.out.setOld elemT (b := w.heap.size + 2) (by have := HZ1.out.2; have := HLS.out; omega) n2 1 (.slice x2 m2 y2)
  have nn : ∀ (wz : World) (o : Nat) (u : Value), NoInt wz (w.heap.size + 1) → notInt u = true → ∀ b, NoInt (wz.setCell ⟨b, o, none⟩ u) (w.heap.size + 1) := by
    intro wz o u hz hu b o' u' h'
    rw [cell?_set] at h'
    split at h'
    · rw [Option.map_eq_some_iff] at h'
      obtain ⟨_, _, rfl⟩ := h'
      exact hu
    · exact hz _ _ h'
  have k0 := nn _ 1 (.slice x2 m2 y2) n1 rfl (w.heap.size + 2)
  have T3 := T1.setOld elemT (b := w.heap.size + 1) (by rw [HLS.out]; omega) k0 0 (.slice x1 m1 y1)
  have T4 := T2.setOld elemT (b := w.heap.size + 1) (by have := HZ1.out.2; have := HLS.out; omega) k0 0 (.slice x1 m1 y1)
  have k1 := nn _ 0 (.slice x1 m1 y1) k0 rfl (w.heap.size + 1)
  have T5 := T3.setOld elemT (b := w.heap.size + 1) (by rw [HLS.out]; omega) k1 1 (.slice x2 m2 y2)
  have T6 := T4.setOld elemT (b := w.heap.size + 1) (by have := HZ1.out.2; have := HLS.out; omega) k1 1 (.slice x2 m2 y2)
  refine HR.out _ _ ⟨_, _, W.heap.size, rfl, T5.mono HZ1.out.1, T6, Nat.le_trans HZ1.out.1 HZ1.out.2, ?_, fun g hg => by have := HOL.out g hg; rw [HWS.out]; exact this⟩ ?_ (((HB2.out.setCell (by simp <;> omega) _).setCell (by simp <;> omega) _).setCell (by simp <;> omega) _)
  · simp; exact HZ2.out
  · intro g hg
    simp
    rcases hg with hg | hg
    · have := HOL.out g hg; have h8 := HZ2.out; have h9 := HWS.out; omega
    · exact HOL2.out g hg
end Go.Proofs.YtegdcmcfeaohhaaGreatDoor

namespace Go.Proofs.YtegdcmcfeaohhaaGreatDoor
open Go Go.RowKit

set_option maxRecDepth 100000 in
set_option maxHeartbeats 8000000 in
theorem law_termsOf (v : Value) (L1 L2 : List ByteArray) (n : Int) (w : World) (hE : Env w) (htab : Lib.TabIs Tryz.prog w "internal/strconv.uint64pow10" .u64 Lib.pow10Tab) (h : IsRec w v L1 L2) (hn1 : L1.length ≤ maxLen) (hs1 : ∀ s ∈ L1, s.size ≤ maxLen) (hn2 : L2.length ≤ maxLen) (hs2 : ∀ s ∈ L2, s.size ≤ maxLen) (hi0 : -9223372036854775807 - 1 ≤ n) (hi1 : n ≤ 9223372036854775807) (R : Ending → World → Prop)
    (hR : ∀ w', Below w.heap.size w w' → R (.returned (.bool true)) w') :
    Calls Tryz.prog 11 #[v, .int .i64 n] w R := by
  have HR := Lib.hid hR; clear hR
  have HE := Lib.hid hE; clear hE
  have HTAB := Lib.hid htab; clear htab
  have h9 := h
  obtain ⟨s1, s2, rfl, h1, h2⟩ := h9
  obtain ⟨a1, n1, c1, rfl, h1'⟩ := h1.op
  obtain ⟨a2, n2, c2, rfl, h2'⟩ := h2.op
  obtain ⟨L, hL⟩ : ∃ L, L = w.alloc (.cells #[.slice a1 n1 c1, .slice a2 n2 c2] 33) := ⟨_, rfl⟩
  have HBL : Hid (Below w.heap.size w L) := Lib.hid (by rw [hL]; exact (Below.refl _ _).alloc (Nat.le_refl _) _)
  have HBX : Hid (Box2 L w.heap.size (.slice a1 n1 c1) (.slice a2 n2 c2) 33) := Lib.hid (by rw [hL]; exact Box2.made _ _ _ _)
  have HL := Lib.hid hL
  have HV := Lib.hid (h.later HBL.out (Nat.le_refl _))
  have HN := Lib.hid (And.intro hn1 (And.intro hs1 (And.intro hn2 hs2)))
  have HI := Lib.hid (And.intro hi0 hi1)
  have HSM := Lib.hid (term_small L1 L2 n)
  obtain ⟨bq, hbq⟩ : ∃ bq, bq = (termB L1 L2 n) := ⟨_, rfl⟩
  have HBQ := Lib.hid hbq
  have cbq : (bq != bq) = false := by cases bq <;> rfl
  obtain ⟨hA0, hA1, _, _⟩ := HBX.out.cells
  clear h h1 h2 h1' h2' hn1 hs1 hn2 hs2 hL hbq hi0 hi1
  go_enter Tryz.func11, Tryz.ntmps11
  rw [HL.out] at hA0 hA1
  go_wp2_with fail
  rw [← HL.out]
  refine szR_any _ L1 L2 L 1048576 HV.out HN.out.1 HN.out.2.1 HN.out.2.2.1 HN.out.2.2.2 (by omega) _ ?_ ?_
  rotate_left
  · intro w1 _ hb1
    have HF := Lib.hid (HR.out w1 (HBL.out.trans (hb1.mono HBL.out.size)))
    clear hb1 hA0 hA1
    dsimp only
    go_wp2
    first | go_ret | skip
    exact HF.out
  intro w1 ht hb1
  obtain ⟨p1, p2⟩ := sizes_each (L := L1) (by omega)
  obtain ⟨p3, p4⟩ := sizes_each (L := L2) (by omega)
  have HP := Lib.hid (And.intro p1 (And.intro p2 (And.intro p3 p4)))
  obtain ⟨m, hm⟩ : ∃ m : Nat, m = 1048576 - (tot L1 + tot L2) := ⟨_, rfl⟩
  rw [← hm]
  have hm0 : ¬ ((m : Int) < 0) := by omega
  have HB1 : Hid (Below L.heap.size L w1) := Lib.hid hb1
  have HX1 := Lib.hid (HBX.out.later hb1 (lt_of_block HBX.out))
  clear hm ht p1 p2 p3 p4 hb1 hA0 hA1
  obtain ⟨hA0, hA1, _, _⟩ := HX1.out.cells
  dsimp only
  go_wp2_with fail
  refine toR_any _ L1 L2 w1 (HV.out.later HB1.out (Nat.le_refl _)) HP.out.1 HP.out.2.2.1 _ ?_
  intro v2 w2 hv2 hb2
  have SC := Lib.hid hv2
  obtain ⟨x2, m2, y2, z2, q2, r2, rfl, t1, t2, t3, t4⟩ := hv2.parts
  clear t1 t2 t3 t4
  have HB2 := Lib.hid (HB1.out.trans (hb2.mono HB1.out.size))
  have HX2 := Lib.hid (HX1.out.later hb2 (lt_of_block HX1.out))
  clear HB1 HX1 hb2 hv2 hA0 hA1
  obtain ⟨hA0, hA1, _, _⟩ := HX2.out.cells
  dsimp only
  go_wp2_with fail
  refine spec_term _ L1 L2 n w2 SC.out HP.out.1 HP.out.2.1 HP.out.2.2.1 HP.out.2.2.2 HI.out.1 HI.out.2 _ ?_
  intro v3 w3 hv3 hb3
  rw [← HBQ.out]
  obtain ⟨x3, m3, y3, rfl, esh⟩ := hv3.shape
  have W0 := Lib.hid hv3
  have W0U : Hid (∀ g, (Value.slice x3 m3 y3).ownBlock = some g → g < w3.heap.size) := Lib.hid hv3.own_lt
  have W0Z : Hid (w2.heap.size ≤ w3.heap.size) := Lib.hid hb3.size
  have HB3 := Lib.hid (HB2.out.trans (hb3.mono HB2.out.size))
  have HX3 := Lib.hid (HX2.out.later hb3 (lt_of_block HX2.out))
  clear HB2 HX2 hb3 hv3 esh hA0 hA1 SC
  obtain ⟨hA0, hA1, _, _⟩ := HX3.out.cells
  dsimp only
  go_wp2_with fail
  refine toR_own _ L1 L2 w3 (HV.out.later HB3.out (Nat.le_refl _)) HP.out.1 HP.out.2.2.1 _ ?_
  intro v4 w40 hv4 hlt4 hb4
  have ho4 := hv4
  obtain ⟨t1, t2, M, rfl, o1, o2, oM1, oM2, oM3⟩ := ho4
  obtain ⟨xa, ma, ya, rfl, exa⟩ := o1.shape
  obtain ⟨xb, mb, yb, rfl, exb⟩ := o2.shape
  clear o1 o2 oM1 oM2 oM3 exa exb
  obtain ⟨w4, hW⟩ : ∃ W, W = w40.alloc (.cells #[.slice xa ma ya, .slice xb mb yb] 36) := ⟨_, rfl⟩
  have hbW : Below w40.heap.size w40 w4 := by rw [hW]; exact (Below.refl _ _).alloc (Nat.le_refl _) _
  have XB : Hid (Box2 w4 w40.heap.size (.slice xa ma ya) (.slice xb mb yb) 36) := Lib.hid (by rw [hW]; exact Box2.made _ _ _ _)
  have X0 := Lib.hid (OwR.later0 hv4 hbW)
  have X0U : Hid (∀ g, rcBlock (.agg #[.slice xa ma ya, .slice xb mb yb]) g → g < w40.heap.size) := Lib.hid hlt4
  have hbb : Below w3.heap.size w3 w4 := hb4.trans (hbW.mono hb4.size)
  have X0Z : Hid (w3.heap.size ≤ w4.heap.size) := Lib.hid hbb.size
  have X0E : Hid (w40.heap.size ≤ w4.heap.size) := Lib.hid hbW.size
  have WX : Hid (w3.heap.size ≤ w3.heap.size ∧ w.heap.size < w3.heap.size) := Lib.hid ⟨Nat.le_refl _, lt_of_block HX3.out⟩
  have LX : Hid (L.heap.size ≤ w3.heap.size) := Lib.hid HB3.out.size
  have HW := Lib.hid hW
  have HB4 := Lib.hid (HB3.out.trans (hbb.mono HB3.out.size))
  have HX4 := Lib.hid (HX3.out.later hbb (lt_of_block HX3.out))
  have W0_4 := Lib.hid (W0.out.later elemT hbb (Nat.le_refl _))
  have W0Z_4 : Hid (w2.heap.size ≤ w4.heap.size) := Lib.hid (Nat.le_trans W0Z.out hbb.size)
  clear HB3 HX3 W0 W0Z hbb hv4 hlt4 hb4 hbW hW hA0 hA1
  obtain ⟨hA0, hA1, _, _⟩ := HX4.out.cells
  obtain ⟨hC0, hC1, _, _⟩ := XB.out.cells
  rw [HW.out] at hA0 hA1 hC0 hC1
  dsimp only
  go_wp2_with fail
  rw [← HW.out]
  have XR := Lib.hid X0.out.rec
  refine impl_term _ L1 L2 n w4 (HE.out.later (HBL.out.trans (HB4.out.mono HBL.out.size)) (Nat.le_refl _)) (tab_later HTAB.out (HBL.out.trans (HB4.out.mono HBL.out.size)) (Nat.le_refl _)) XR.out HP.out.1 HP.out.2.2.1 HI.out.1 HI.out.2 _ ?_
  intro v5 w5 hv5 hb5
  rw [← HBQ.out]
  obtain ⟨x5, m5, y5, rfl, esh⟩ := hv5.shape
  have G0 := Lib.hid hv5
  have GZ : Hid (w4.heap.size ≤ w5.heap.size) := Lib.hid hb5.size
  have XG : Hid (w40.heap.size ≤ w4.heap.size) := X0E
  have WG : Hid (w3.heap.size ≤ w4.heap.size) := Lib.hid (Nat.le_trans WX.out.1 X0Z.out)
  have LG : Hid (L.heap.size ≤ w4.heap.size) := Lib.hid (Nat.le_trans LX.out X0Z.out)
  have HB5 := Lib.hid (HB4.out.trans (hb5.mono HB4.out.size))
  have HX5 := Lib.hid (HX4.out.later hb5 (lt_of_block HX4.out))
  have W0_5 := Lib.hid (W0_4.out.later elemT hb5 (Nat.le_refl _))
  have W0Z_5 : Hid (w2.heap.size ≤ w5.heap.size) := Lib.hid (Nat.le_trans W0Z_4.out hb5.size)
  have X0_5 := Lib.hid (OwR.later0 X0.out hb5)
  have XB_5 := Lib.hid (XB.out.later hb5 (lt_of_block XB.out))
  have X0Z_5 : Hid (w3.heap.size ≤ w5.heap.size) := Lib.hid (Nat.le_trans X0Z.out hb5.size)
  have XR_5 := Lib.hid (IsRec.later XR.out hb5 (Nat.le_refl _))
  clear HB4 HX4 W0_4 W0Z_4 X0 XB X0Z XR hb5 hv5 esh hA0 hA1 hC0 hC1
  obtain ⟨hA0, hA1, _, _⟩ := HX5.out.cells
  dsimp only
  go_wp2_with fail
  refine eqT_any _ _ (termL L1 L2 n) (termL L1 L2 n) _ G0.out.tx W0_5.out.tx (Nat.le_trans HSM.out (by omega)) (Nat.le_trans HSM.out (by omega)) _ ?_
  intro w6 hb6
  rw [decide_eq_true rfl]
  have HB6 := Lib.hid (HB5.out.trans (hb6.mono HB5.out.size))
  have HX6 := Lib.hid (HX5.out.later hb6 (lt_of_block HX5.out))
  have W0_6 := Lib.hid (W0_5.out.later elemT hb6 (Nat.le_refl _))
  have W0Z_6 : Hid (w2.heap.size ≤ w6.heap.size) := Lib.hid (Nat.le_trans W0Z_5.out hb6.size)
  have X0_6 := Lib.hid (OwR.later0 X0_5.out hb6)
  have XB_6 := Lib.hid (XB_5.out.later hb6 (lt_of_block XB_5.out))
  have X0Z_6 : Hid (w3.heap.size ≤ w6.heap.size) := Lib.hid (Nat.le_trans X0Z_5.out hb6.size)
  have XR_6 := Lib.hid (IsRec.later XR_5.out hb6 (Nat.le_refl _))
  have G0_6 := Lib.hid (G0.out.later elemT hb6 (Nat.le_refl _))
  have GZ_6 : Hid (w4.heap.size ≤ w6.heap.size) := Lib.hid (Nat.le_trans GZ.out hb6.size)
  clear HB5 HX5 W0_5 W0Z_5 X0_5 XB_5 X0Z_5 XR_5 G0 GZ hb6 hA0 hA1
  obtain ⟨hA0, hA1, _, _⟩ := HX6.out.cells
  have HSOF : Hid (∀ w', Below w6.heap.size w6 w' → (Below w6.heap.size w6 w' ∧ (w'.cell? ⟨w.heap.size, 0, none⟩ = some (.slice a1 n1 c1) ∧ w'.cell? ⟨w.heap.size, 1, none⟩ = some (.slice a2 n2 c2)) ∧ (w'.cell? ⟨w40.heap.size, 0, none⟩ = some (.slice xa ma ya) ∧ w'.cell? ⟨w40.heap.size, 1, none⟩ = some (.slice xb mb yb)))) :=
    Lib.hid fun w' hb => ⟨hb, ⟨(HX6.out.later hb (lt_of_block HX6.out)).cells.1, (HX6.out.later hb (lt_of_block HX6.out)).cells.2.1⟩, ⟨(XB_6.out.later hb (lt_of_block XB_6.out)).cells.1, (XB_6.out.later hb (lt_of_block XB_6.out)).cells.2.1⟩⟩
  have HVL := Lib.hid (HV.out.later HB6.out (Nat.le_refl _))
  have HLEN : Hid (L1.length ≤ 281474976710656 ∧ L2.length ≤ 281474976710656) := Lib.hid (by have := HP.out.1; have := HP.out.2.2.1; omega)
  obtain ⟨hC0, hC1, _, _⟩ := XB_6.out.cells
  dsimp only
  go_wp2_with fail
  first
    | (go_region_held3 (fun w' => Below w6.heap.size w6 w' ∧ (w'.cell? ⟨w.heap.size, 0, none⟩ = some (.slice a1 n1 c1) ∧ w'.cell? ⟨w.heap.size, 1, none⟩ = some (.slice a2 n2 c2)) ∧ (w'.cell? ⟨w40.heap.size, 0, none⟩ = some (.slice xa ma ya) ∧ w'.cell? ⟨w40.heap.size, 1, none⟩ = some (.slice xb mb yb)))
        (first
          | exact HSOF.out _ HQ2.out
          | exact HSOF.out _ HQ1.out
          | exact HSOF.out _ (Below.refl _ _).drew)
        (first
          | (go_at_call 37; refine eqR_any _ _ L1 L2 _ (XR_6.out.later HQ1.out (Nat.le_refl _)) HV6.out HLEN.out.1 HLEN.out.2 _ ?_; intro w8 hb7; have HQ2 : Hid (Below w6.heap.size w6 w8) := Lib.hid (HQ1.out.trans (hb7.mono HQ1.out.size)); clear hb7; dsimp only)
          | (go_at_call 35; refine toR_any _ L1 L2 _ (HVL.out.later (Below.refl _ _).drew (Nat.le_refl _)) HP.out.1 HP.out.2.2.1 _ ?_; intro v6 w7 hv6 hb6; have HV6 := Lib.hid hv6; have HQ1 : Hid (Below w6.heap.size w6 w7) := Lib.hid ⟨hb6.os, hb6.tape, hb6.output, hb6.size, hb6.block⟩; clear hv6 hb6; dsimp only)))
    | fail
  all_goals
    have hbr := HQ2.out
    have HB8 := Lib.hid (HB6.out.trans (hbr.mono HB6.out.size))
    have HX8 := Lib.hid (HX6.out.later hbr (lt_of_block HX6.out))
    have W0_8 := Lib.hid (W0_6.out.later elemT hbr (Nat.le_refl _))
    have W0Z_8 : Hid (w2.heap.size ≤ w8.heap.size) := Lib.hid (Nat.le_trans W0Z_6.out hbr.size)
    have X0_8 := Lib.hid (OwR.later0 X0_6.out hbr)
    have XB_8 := Lib.hid (XB_6.out.later hbr (lt_of_block XB_6.out))
    have X0Z_8 : Hid (w3.heap.size ≤ w8.heap.size) := Lib.hid (Nat.le_trans X0Z_6.out hbr.size)
    have XR_8 := Lib.hid (IsRec.later XR_6.out hbr (Nat.le_refl _))
    have G0_8 := Lib.hid (G0_6.out.later elemT hbr (Nat.le_refl _))
    have GZ_8 : Hid (w4.heap.size ≤ w8.heap.size) := Lib.hid (Nat.le_trans GZ_6.out hbr.size)
    clear HB6 HX6 W0_6 W0Z_6 X0_6 XB_6 X0Z_6 XR_6 G0_6 GZ_6 hbr hA0 hA1 hC0 hC1
    obtain ⟨hA0, hA1, _, _⟩ := HX8.out.cells
    obtain ⟨hC0, hC1, _, _⟩ := XB_8.out.cells
    go_wp2_with fail
    refine markRO_any _ _ L1 L2 1 w3.heap.size w8 X0_8.out (Nat.le_trans HP.out.1 (by omega)) (Nat.le_trans HP.out.2.2.1 (by omega)) (by omega) _ ?_
    intro w9 La wm hm1 hm2 hm3
    obtain ⟨k0, hk0⟩ : ∃ k0, k0 = 1 + L1.length + L2.length := ⟨_, rfl⟩
    rw [← hk0]
    have d0 : ¬ ((k0 : Int) < 0) := by omega
    obtain ⟨t1, t2, M, ev, q1, q2, q3, q4, q5⟩ := X0_8.out
    simp only [Value.agg.injEq, Array.mk.injEq, List.cons.injEq, and_true] at ev
    obtain ⟨rfl, rfl⟩ := ev
    have hB1 : ∀ g, (Value.slice xa ma ya).ownBlock = some g → w3.heap.size ≤ g := fun g hg => q1.base g hg
    have hB2 : ∀ g, (Value.slice xb mb yb).ownBlock = some g → w3.heap.size ≤ g := fun g hg => Nat.le_trans q3 (q2.base g hg)
    have hbel : Below w3.heap.size w8 w9 := ButO.both hm1 hm2 hm3 hB1 hB2 X0Z_8.out
    have W0_9 := Lib.hid (((W0_8.out.later elemT hm1 (Nat.le_refl _)).butO hm2 (fun g hg hc => by have h1 := W0U.out g hg; have h2 := hB1 g hc; have h3 := WX.out.1; omega)).butO hm3 (fun g hg hc => by have h1 := W0U.out g hg; have h2 := hB2 g hc; have h3 := WX.out.1; omega))
    have G0_9 := Lib.hid (((G0_8.out.later elemT hm1 (Nat.le_refl _)).butO hm2 (fun g hg hc => by have h1 := G0_8.out.base g hg; have h2 := X0U.out g (.inl hc); have h3 := XG.out; omega)).butO hm3 (fun g hg hc => by have h1 := G0_8.out.base g hg; have h2 := X0U.out g (.inr hc); have h3 := XG.out; omega))
    have GZ_9 : Hid (w4.heap.size ≤ w9.heap.size) := Lib.hid (Nat.le_trans GZ_8.out (Nat.le_trans hm1.size (Nat.le_trans hm2.size hm3.size)))
    have HB9 : Hid (Below L.heap.size L w9) := Lib.hid (HB8.out.trans (hbel.mono LX.out))
    have HX9 := Lib.hid (HX8.out.later hbel WX.out.2)
    clear W0_8 W0Z_8 X0_8 XB_8 X0Z_8 XR_8 G0_8 GZ_8 HB8 HX8 hm1 hm2 hm3 hk0 hbel hB1 hB2 q1 q2 q3 q4 q5 hA0 hA1 hC0 hC1
    obtain ⟨hA0, hA1, _, _⟩ := HX9.out.cells
    dsimp only
    go_wp2_with fail
    refine eqT_any _ _ (termL L1 L2 n) (termL L1 L2 n) _ G0_9.out.tx W0_9.out.tx (Nat.le_trans HSM.out (by omega)) (Nat.le_trans HSM.out (by omega)) _ ?_
    intro w10 hb10
    rw [decide_eq_true rfl]
    have HB10 := Lib.hid (HB9.out.trans (hb10.mono HB9.out.size))
    have HX10 := Lib.hid (HX9.out.later hb10 (lt_of_block HX9.out))
    have W0_10 := Lib.hid (W0_9.out.later elemT hb10 (Nat.le_refl _))
    have G0_10 := Lib.hid (G0_9.out.later elemT hb10 (Nat.le_refl _))
    have GZ_10 : Hid (w4.heap.size ≤ w10.heap.size) := Lib.hid (Nat.le_trans GZ_9.out hb10.size)
    clear HB9 HX9 W0_9 G0_9 GZ_9 hb10 hA0 hA1
    obtain ⟨hA0, hA1, _, _⟩ := HX10.out.cells
    dsimp only
    go_wp2_with fail
    refine mark_any _ (termL L1 L2 n) 1 _ _ G0_10.out (Nat.le_trans HSM.out (by omega)) (by omega) _ ?_
    intro w11 hv hb
    obtain ⟨kg, hkg⟩ : ∃ kg, kg = 1 + (termL L1 L2 n).length := ⟨_, rfl⟩
    have HKG := Lib.hid hkg
    rw [← hkg]
    have d1 : ¬ ((kg : Int) < 0) := by omega
    have d2 : ((kg : Int) != (kg : Int)) = false := by simp
    have hbel := hb.below (fun g hg => G0_10.out.base g hg) GZ_10.out
    have GM := Lib.hid hv.tx
    have W0_11 := Lib.hid (W0_10.out.butO hb (fun g hg hc => by have h1 := W0U.out g hg; have h2 := G0_10.out.base g hc; have h3 := WG.out; omega))
    have HB11 : Hid (Below L.heap.size L w11) := Lib.hid (HB10.out.trans (hbel.mono LG.out))
    have HX11 := Lib.hid (HX10.out.later hbel (Nat.lt_of_lt_of_le (lt_of_block HBX.out) LG.out))
    clear W0_10 G0_10 GZ_10 HB10 HX10 hv hb hbel hkg hA0 hA1
    obtain ⟨hA0, hA1, _, _⟩ := HX11.out.cells
    dsimp only
    go_wp2_with fail
    refine held_any _ 1 (termL L1 L2 n).length _ GM.out (Nat.le_trans HSM.out (by omega)) (by omega) _ ?_
    intro w12 hb12
    rw [← HKG.out]
    have HB12 := Lib.hid (HB11.out.trans (hb12.mono HB11.out.size))
    have HX12 := Lib.hid (HX11.out.later hb12 (lt_of_block HX11.out))
    have W0_12 := Lib.hid (W0_11.out.later elemT hb12 (Nat.le_refl _))
    have GM_12 := Lib.hid (TxL.later GM.out hb12 (Nat.le_refl _))
    clear HB11 HX11 W0_11 GM hb12 hA0 hA1
    obtain ⟨hA0, hA1, _, _⟩ := HX12.out.cells
    dsimp only
    go_wp2_with fail
    refine toR_any _ L1 L2 w12 (HV.out.later HB12.out (Nat.le_refl _)) HP.out.1 HP.out.2.2.1 _ ?_
    intro v13 w13 hv13 hb13
    have HC := Lib.hid hv13
    obtain ⟨x13, m13, y13, z13, q13, r13, rfl, t1, t2, t3, t4⟩ := hv13.parts
    clear t1 t2 t3 t4
    have HB13 := Lib.hid (HB12.out.trans (hb13.mono HB12.out.size))
    have HX13 := Lib.hid (HX12.out.later hb13 (lt_of_block HX12.out))
    have W0_13 := Lib.hid (W0_12.out.later elemT hb13 (Nat.le_refl _))
    have GM_13 := Lib.hid (TxL.later GM_12.out hb13 (Nat.le_refl _))
    clear HB12 HX12 W0_12 GM_12 hb13 hv13 hA0 hA1
    obtain ⟨hA0, hA1, _, _⟩ := HX13.out.cells
    dsimp only
    go_wp2_with fail
    refine impl_term _ L1 L2 n w13 (HE.out.later (HBL.out.trans (HB13.out.mono HBL.out.size)) (Nat.le_refl _)) (tab_later HTAB.out (HBL.out.trans (HB13.out.mono HBL.out.size)) (Nat.le_refl _)) HC.out HP.out.1 HP.out.2.2.1 HI.out.1 HI.out.2 _ ?_
    intro v14 w14 hv14 hb14
    rw [← HBQ.out]
    obtain ⟨x14, m14, y14, rfl, esh⟩ := hv14.shape
    have H0 := Lib.hid hv14
    have H0U : Hid (∀ g, (Value.slice x14 m14 y14).ownBlock = some g → g < w14.heap.size) := Lib.hid hv14.own_lt
    have H0Z : Hid (w13.heap.size ≤ w14.heap.size) := Lib.hid hb14.size
    have HB14 := Lib.hid (HB13.out.trans (hb14.mono HB13.out.size))
    have HX14 := Lib.hid (HX13.out.later hb14 (lt_of_block HX13.out))
    have W0_14 := Lib.hid (W0_13.out.later elemT hb14 (Nat.le_refl _))
    have GM_14 := Lib.hid (TxL.later GM_13.out hb14 (Nat.le_refl _))
    clear HB13 HX13 W0_13 GM_13 hb14 hv14 esh hA0 hA1 HC
    obtain ⟨hA0, hA1, _, _⟩ := HX14.out.cells
    dsimp only
    go_wp2_with fail
    refine eqT_any _ _ (termL L1 L2 n) (termL L1 L2 n) _ H0.out.tx W0_14.out.tx (Nat.le_trans HSM.out (by omega)) (Nat.le_trans HSM.out (by omega)) _ ?_
    intro w15 hb15
    rw [decide_eq_true rfl]
    have HB15 := Lib.hid (HB14.out.trans (hb15.mono HB14.out.size))
    have HX15 := Lib.hid (HX14.out.later hb15 (lt_of_block HX14.out))
    have W0_15 := Lib.hid (W0_14.out.later elemT hb15 (Nat.le_refl _))
    have GM_15 := Lib.hid (TxL.later GM_14.out hb15 (Nat.le_refl _))
    have H0_15 := Lib.hid (H0.out.later elemT hb15 (Nat.le_refl _))
    have H0Z_15 : Hid (w13.heap.size ≤ w15.heap.size) := Lib.hid (Nat.le_trans H0Z.out hb15.size)
    clear HB14 HX14 W0_14 GM_14 H0 H0Z hb15 hA0 hA1
    obtain ⟨hA0, hA1, _, _⟩ := HX15.out.cells
    dsimp only
    go_wp2_with fail
    refine held_any _ 1 (termL L1 L2 n).length _ GM_15.out (Nat.le_trans HSM.out (by omega)) (by omega) _ ?_
    intro w16 hb16
    rw [← HKG.out]
    have HB16 := Lib.hid (HB15.out.trans (hb16.mono HB15.out.size))
    have HX16 := Lib.hid (HX15.out.later hb16 (lt_of_block HX15.out))
    have W0_16 := Lib.hid (W0_15.out.later elemT hb16 (Nat.le_refl _))
    have GM_16 := Lib.hid (TxL.later GM_15.out hb16 (Nat.le_refl _))
    have H0_16 := Lib.hid (H0_15.out.later elemT hb16 (Nat.le_refl _))
    have H0Z_16 : Hid (w13.heap.size ≤ w16.heap.size) := Lib.hid (Nat.le_trans H0Z_15.out hb16.size)
    clear HB15 HX15 W0_15 GM_15 H0_15 H0Z_15 hb16 hA0 hA1
    obtain ⟨hA0, hA1, _, _⟩ := HX16.out.cells
    clear hA0 hA1
    dsimp only
    go_wp2
    first | go_ret | skip
    exact HR.out _ (HBL.out.trans (HB16.out.mono HBL.out.size))
end Go.Proofs.YtegdcmcfeaohhaaGreatDoor
