/- Contracts of functions of the program and of the model: RecL, RowRec, StepJ, TermI, CmpI, NegQ, SubQ, SignQ, CmpQ, RCmp, IsrI, L3List, IsrS, IsrP, LawIsRecurrenceOf. -/
import Derived.Test.YtegdcmcfeaohhaaGreatDoorPt17
import Derived.Deep.RegionLaw
import Derived.Laws.EntriesVeiled
import Derived.Deep.RegionHeld3
set_option linter.all false
set_option linter.unusedVariables false
set_option linter.unusedSimpArgs false
set_option linter.unnecessarySimpa false
set_option linter.deprecated false
namespace Go.Proofs.YtegdcmcfeaohhaaGreatDoor
open Go Go.RowKit

/-- a store into a cell that holds no text leaves lists of texts as they are -/
theorem TxL.setAt {w : World} {v : Value} {L : List ByteArray} (h : TxL w v L) {b o : Nat} {x : Value} (hx : w.cell? ⟨b, o, none⟩ = some x) (hns : ∀ s, x ≠ .string s) (u : Value) : TxL (w.setCell ⟨b, o, none⟩ u) v L := by
  obtain ⟨ao, cap, hv, hc, hh⟩ := h
  refine ⟨ao, cap, hv, hc, fun i s hi => ?_⟩
  obtain ⟨c, off, cs, h1, h2, h3, h4⟩ := hh i s hi
  refine ⟨c, off, cs, h1, by rw [heap_size_set]; exact h2, fun j y hj => ?_, h4⟩
  have hy := h3 j y hj
  rw [cell?_set]
  split
  · rename_i he
    obtain ⟨rfl, e⟩ := he
    rw [e] at hy
    rw [hx] at hy
    obtain rfl := Option.some.inj hy
    have h4' : cs = [.string s] := h4
    subst h4'
    match j, hj with
    | 0, hj => simp at hj; exact absurd hj.symm (hns s)
    | (k + 1), hj => simp at hj
  · exact hy

set_option maxRecDepth 100000 in
set_option maxHeartbeats 1000000 in
theorem szR_any (v : Value) (L1 L2 : List ByteArray) (w : World) (left : Nat) (h : IsRec w v L1 L2) (hn1 : L1.length ≤ maxLen) (hs1 : ∀ s ∈ L1, s.size ≤ maxLen) (hn2 : L2.length ≤ maxLen) (hs2 : ∀ s ∈ L2, s.size ≤ maxLen) (hl : left ≤ 1048576) (R : Ending → World → Prop)
    (hR : ∀ w', tot L1 + tot L2 ≤ left → Below w.heap.size w w' → R (.returned (.int .i64 ((left - (tot L1 + tot L2) : Nat) : Int))) w') (hR2 : ∀ w', left < tot L1 + tot L2 → Below w.heap.size w w' → R (.returned (.int .i64 (-1))) w') :
    Calls Tryz.prog 33 #[v, .int .i64 (left : Int)] w R := by
  have HR := Lib.hid hR; clear hR
  have HR2 := Lib.hid hR2; clear hR2
  obtain ⟨s1, s2, rfl, h1, h2⟩ := h
  obtain ⟨a1, n1, c1, rfl, h1'⟩ := h1.op
  obtain ⟨a2, n2, c2, rfl, h2'⟩ := h2.op
  obtain ⟨L, hL⟩ : ∃ L, L = w.alloc (.cells #[.slice a1 n1 c1, .slice a2 n2 c2] 33) := ⟨_, rfl⟩
  have HBL : Hid (Below w.heap.size w L) := Lib.hid (by rw [hL]; exact (Below.refl _ _).alloc (Nat.le_refl _) _)
  have HBX : Hid (Box2 L w.heap.size (.slice a1 n1 c1) (.slice a2 n2 c2) 33) := Lib.hid (by rw [hL]; exact Box2.made _ _ _ _)
  have HL := Lib.hid hL
  have H1 := Lib.hid (h1'.later HBL.out (Nat.le_refl _))
  have H2 := Lib.hid (h2'.later HBL.out (Nat.le_refl _))
  have HN := Lib.hid (And.intro hn1 (And.intro hs1 (And.intro hn2 hs2)))
  have HLE := Lib.hid hl
  obtain ⟨hA0, hA1, _, _⟩ := HBX.out.cells
  clear h1 h2 h1' h2' hn1 hs1 hn2 hs2 hL hl
  go_enter Tryz.func33, Tryz.ntmps33
  rw [HL.out] at hA0 hA1
  go_wp2_with fail
  rw [← HL.out] at hA0 hA1 ⊢
  refine szT_any _ L1 _ left H1.out HN.out.1 HN.out.2.1 HLE.out _ ?_ ?_
  · intro ht
    obtain ⟨m, hm⟩ : ∃ m : Nat, left = m + tot L1 := ⟨left - tot L1, by omega⟩
    have e1 : left - tot L1 = m := by omega
    rw [e1]
    have hm0 : ¬ ((m : Int) < 0) := by omega
    have HM := Lib.hid hm
    clear ht hm e1
    dsimp only
    go_wp2_with fail
    refine szT_any _ L2 _ m H2.out HN.out.2.2.1 HN.out.2.2.2 (by have := HM.out; have := HLE.out; omega) _ ?_ ?_
    · intro ht2
      obtain ⟨k, hk⟩ : ∃ k : Nat, m = k + tot L2 := ⟨m - tot L2, by omega⟩
      have e2 : m - tot L2 = k := by omega
      rw [e2]
      have HF := Lib.hid (HR.out L (by have := HM.out; omega) HBL.out)
      have e3 : left - (tot L1 + tot L2) = k := by have := HM.out; omega
      rw [e3] at HF
      have hk0 : ¬ ((k : Int) < 0) := by omega
      clear ht2 hk e2 e3
      dsimp only
      go_wp2
      first | go_ret | skip
      exact HF.out
    · intro ht2
      have HF := Lib.hid (HR2.out L (by have := HM.out; omega) HBL.out)
      clear ht2
      dsimp only
      go_wp2
      first | go_ret | skip
      exact HF.out
  · intro ht
    have HF := Lib.hid (HR2.out L (by omega) HBL.out)
    clear ht
    dsimp only
    go_wp2
    first | go_ret | skip
    exact HF.out

theorem no_str_sl (a : Option Addr) (n c : Nat) : ∀ s, Value.slice a n c ≠ .string s := by intro s h; cases h

set_option maxRecDepth 100000 in
set_option maxHeartbeats 2000000 in
theorem toR_any (v : Value) (L1 L2 : List ByteArray) (w : World) (h : IsRec w v L1 L2) (hn1 : L1.length ≤ 1048576) (hn2 : L2.length ≤ 1048576) (R : Ending → World → Prop)
    (hR : ∀ v' w', IsRec w' v' L1 L2 → Below w.heap.size w w' → R (.returned v') w') :
    Calls Tryz.prog 35 #[v] w R := by
  have HR := Lib.hid hR; clear hR
  obtain ⟨s1, s2, rfl, h1, h2⟩ := h
  obtain ⟨a1, n1, c1, rfl, h1'⟩ := h1.op
  obtain ⟨a2, n2, c2, rfl, h2'⟩ := h2.op
  obtain ⟨L, hL⟩ : ∃ L, L = ((w.alloc (.cells #[.slice a1 n1 c1, .slice a2 n2 c2] 33)).alloc (.cells #[.slice none 0 0, .slice none 0 0] 36)).alloc (.cells #[.slice none 0 0, .slice none 0 0] 36) := ⟨_, rfl⟩
  have HLS : Hid (L.heap.size = w.heap.size + 3) := Lib.hid (by rw [hL]; simp)
  have B0 : Hid (Box2 L w.heap.size (.slice a1 n1 c1) (.slice a2 n2 c2) 33) := Lib.hid (by
    rw [hL]; exact ((Box2.made w _ _ _).later (B := w.heap.size + 1) ((Below.refl _ _).alloc (by simp) _) (by omega)).later (B := w.heap.size + 2) ((Below.refl _ _).alloc (by simp) _) (by omega))
  have B1 : Hid (Box2 L (w.heap.size + 1) (.slice none 0 0) (.slice none 0 0) 36) := Lib.hid (by
    have := (Box2.made (w.alloc (.cells #[.slice a1 n1 c1, .slice a2 n2 c2] 33)) (.slice none 0 0) (.slice none 0 0) 36).later (B := w.heap.size + 2) ((Below.refl _ _).alloc (by simp) (.cells #[.slice none 0 0, .slice none 0 0] 36)) (by simp)
    rw [World.size_alloc, ← hL] at this; exact this)
  have B2 : Hid (Box2 L (w.heap.size + 2) (.slice none 0 0) (.slice none 0 0) 36) := Lib.hid (by
    have := Box2.made ((w.alloc (.cells #[.slice a1 n1 c1, .slice a2 n2 c2] 33)).alloc (.cells #[.slice none 0 0, .slice none 0 0] 36)) (.slice none 0 0) (.slice none 0 0) 36
    rw [World.size_alloc, World.size_alloc, ← hL] at this; exact this)
  have HEXT : Hid (Below w.heap.size w L) := Lib.hid (by rw [hL]; exact (((Below.refl w.heap.size w).alloc (Nat.le_refl _) _).alloc (by simp) _).alloc (by simp; omega) _)
  have H1 := Lib.hid (h1'.later HEXT.out (Nat.le_refl _))
  have H2 := Lib.hid (h2'.later HEXT.out (Nat.le_refl _))
  have HN := Lib.hid (And.intro hn1 hn2)
  have HL := Lib.hid hL
  obtain ⟨hA0, hA1, _, _⟩ := B0.out.cells
  clear h1 h2 h1' h2' hn1 hn2 hL
  go_enter Tryz.func35, Tryz.ntmps35
  rw [HL.out] at hA0 hA1
  go_wp2_with fail
  rw [← HL.out] at hA0 hA1 ⊢
  refine toT_any _ L1 L H1.out HN.out.1 _ ?_
  intro v1 w1 hv1 hb1
  obtain ⟨x1, m1, y1, rfl, hv1'⟩ := hv1.op
  have B0a := Lib.hid (B0.out.later hb1 (lt_of_block B0.out))
  have B1a := Lib.hid (B1.out.later hb1 (lt_of_block B1.out))
  have B2a := Lib.hid (B2.out.later hb1 (lt_of_block B2.out))
  obtain ⟨hC0, hC1, hF0, hF1⟩ := B2a.out.cells
  obtain ⟨W, hW⟩ : ∃ W, W = w1.setCell ⟨w.heap.size + 2, 0, none⟩ (.slice x1 m1 y1) := ⟨_, rfl⟩
  have HW := Lib.hid hW
  have HV1 := Lib.hid (hv1'.setAt hC0 (no_str_sl _ _ _) (.slice x1 m1 y1))
  rw [← hW] at HV1
  have H2a := Lib.hid ((H2.out.later hb1 (Nat.le_refl _)).setAt hC0 (no_str_sl _ _ _) (.slice x1 m1 y1))
  rw [← hW] at H2a
  have HBW : Hid (Below w.heap.size w W) := Lib.hid (by rw [hW]; exact (HEXT.out.trans (hb1.mono HEXT.out.size)).setCell (by simp) _)
  have hlt : w.heap.size + 2 < w1.heap.size := by have := HLS.out; have := hb1.size; omega
  have HWS : Hid (W.heap.size = w1.heap.size) := Lib.hid (by rw [hW]; simp)
  have B2b : Hid (Box2 W (w.heap.size + 2) (.slice x1 m1 y1) (.slice none 0 0) 36) := Lib.hid (by
    rw [hW]
    have := B2a.out
    unfold Box2 at this ⊢
    simp [World.setCell, Array.getElem?_modify, this])
  have B0b : Hid (Box2 W w.heap.size (.slice a1 n1 c1) (.slice a2 n2 c2) 33) := Lib.hid (by
    have := B0a.out
    unfold Box2 at this ⊢
    rw [hW, Below.heap_setCell _ _ _ _ (by simp)]; exact this)
  have B1b : Hid (Box2 W (w.heap.size + 1) (.slice none 0 0) (.slice none 0 0) 36) := Lib.hid (by
    have := B1a.out
    unfold Box2 at this ⊢
    rw [hW, Below.heap_setCell _ _ _ _ (by simp)]; exact this)
  have e1 : ¬ w.heap.size = w.heap.size + 2 := by omega
  have HLT := Lib.hid hlt
  obtain ⟨hD0, hD1, _, _⟩ := B0a.out.cells
  clear hA0 hA1 hv1 hv1' hb1 hW hlt
  dsimp only
  go_wp2_with fail
  rw [← HW.out]
  clear hC0 hC1 hF0 hF1 hD0 hD1
  refine toT_any _ L2 W H2a.out HN.out.2 _ ?_
  intro v2 w2 hv2 hb2
  obtain ⟨x2, m2, y2, rfl, hv2'⟩ := hv2.op
  have B1c := Lib.hid (B1b.out.later hb2 (lt_of_block B1b.out))
  have B2c := Lib.hid (B2b.out.later hb2 (lt_of_block B2b.out))
  have HV1c := Lib.hid (HV1.out.later hb2 (Nat.le_refl _))
  have HV2 := Lib.hid hv2'
  have HB2 := Lib.hid (HBW.out.trans (hb2.mono HBW.out.size))
  obtain ⟨hC0, hC1, hF0, hF1⟩ := B2c.out.cells
  obtain ⟨hR0, hR1, hG0, hG1⟩ := B1c.out.cells
  have e2 : ¬ w.heap.size + 1 = w.heap.size + 2 := by omega
  have e3 : ¬ w.heap.size + 2 = w.heap.size + 1 := by omega
  clear hv2 hv2' hb2
  dsimp only
  go_wp2
  refine bodyPost_ret_at (by simp [results, Tryz.results35, go_sem, hC0, hC1, hF0, hF1, hR0, hR1, hG0, hG1] <;> rfl) rfl ?_
  have T1 := HV1c.out.setAt hC1 (no_str_sl _ _ _) (.slice x2 m2 y2)
  have T2 := HV2.out.setAt hC1 (no_str_sl _ _ _) (.slice x2 m2 y2)
  have k0 : (w2.setCell ⟨w.heap.size + 2, 1, none⟩ (.slice x2 m2 y2)).cell? ⟨w.heap.size + 1, 0, none⟩ = some (.slice none 0 0) := by rw [cell?_set, if_neg (by omega)]; exact hR0
  have k1 : ((w2.setCell ⟨w.heap.size + 2, 1, none⟩ (.slice x2 m2 y2)).setCell ⟨w.heap.size + 1, 0, none⟩ (.slice x1 m1 y1)).cell? ⟨w.heap.size + 1, 1, none⟩ = some (.slice none 0 0) := by
    rw [cell?_set, if_neg (by omega), cell?_set, if_neg (by omega)]; exact hR1
  refine HR.out _ _ ⟨_, _, rfl, (T1.setAt k0 (no_str_sl _ _ _) _).setAt k1 (no_str_sl _ _ _) _, (T2.setAt k0 (no_str_sl _ _ _) _).setAt k1 (no_str_sl _ _ _) _⟩ (((HB2.out.setCell (by simp <;> omega) _).setCell (by simp <;> omega) _).setCell (by simp <;> omega) _)

set_option maxRecDepth 100000 in
set_option maxHeartbeats 2000000 in
theorem eqR_any (va vb : Value) (L1 L2 : List ByteArray) (w : World) (ha : IsRec w va L1 L2) (hb : IsRec w vb L1 L2) (hn1 : L1.length ≤ 281474976710656) (hn2 : L2.length ≤ 281474976710656) (R : Ending → World → Prop)
    (hR : ∀ w', Below w.heap.size w w' → R (.returned (.bool true)) w') :
    Calls Tryz.prog 37 #[va, vb] w R := by
  have HR := Lib.hid hR; clear hR
  obtain ⟨s1, s2, rfl, h1, h2⟩ := ha
  obtain ⟨a1, n1, c1, rfl, h1'⟩ := h1.op
  obtain ⟨a2, n2, c2, rfl, h2'⟩ := h2.op
  obtain ⟨s3, s4, rfl, h3, h4⟩ := hb
  obtain ⟨a3, n3, c3, rfl, h3'⟩ := h3.op
  obtain ⟨a4, n4, c4, rfl, h4'⟩ := h4.op
  obtain ⟨L, hL⟩ : ∃ L, L = (w.alloc (.cells #[.slice a1 n1 c1, .slice a2 n2 c2] 36)).alloc (.cells #[.slice a3 n3 c3, .slice a4 n4 c4] 36) := ⟨_, rfl⟩
  have hb1 : Below (w.heap.size + 1) (w.alloc (.cells #[.slice a1 n1 c1, .slice a2 n2 c2] 36)) L := by rw [hL]; exact (Below.refl _ _).alloc (by simp) _
  have B0 : Hid (Box2 L w.heap.size (.slice a1 n1 c1) (.slice a2 n2 c2) 36) := Lib.hid ((Box2.made w _ _ _).later hb1 (by omega))
  have B1 : Hid (Box2 L (w.heap.size + 1) (.slice a3 n3 c3) (.slice a4 n4 c4) 36) := Lib.hid (by
    have := Box2.made (w.alloc (.cells #[.slice a1 n1 c1, .slice a2 n2 c2] 36)) (.slice a3 n3 c3) (.slice a4 n4 c4) 36
    rw [World.size_alloc, ← hL] at this; exact this)
  have HEXT : Hid (Below w.heap.size w L) := Lib.hid (by rw [hL]; exact ((Below.refl w.heap.size w).alloc (Nat.le_refl _) _).alloc (by simp) _)
  have H1 := Lib.hid (h1'.later HEXT.out (Nat.le_refl _))
  have H2 := Lib.hid (h2'.later HEXT.out (Nat.le_refl _))
  have H3 := Lib.hid (h3'.later HEXT.out (Nat.le_refl _))
  have H4 := Lib.hid (h4'.later HEXT.out (Nat.le_refl _))
  have HN := Lib.hid (And.intro hn1 hn2)
  have HL := Lib.hid hL
  obtain ⟨hA0, hA1, _, _⟩ := B0.out.cells
  obtain ⟨hB0, hB1, _, _⟩ := B1.out.cells
  clear h1 h2 h3 h4 h1' h2' h3' h4' hn1 hn2 hL hb1
  go_enter Tryz.func37, Tryz.ntmps37
  rw [HL.out] at hA0 hA1 hB0 hB1
  go_wp2_with fail
  rw [← HL.out]
  refine eqT_any _ _ L1 L1 L H1.out H3.out HN.out.1 HN.out.1 _ ?_
  intro w1 hb1
  rw [decide_eq_true rfl]
  have HB1 := Lib.hid hb1
  have B0a := Lib.hid (B0.out.later hb1 (lt_of_block B0.out))
  have B1a := Lib.hid (B1.out.later hb1 (lt_of_block B1.out))
  clear hA0 hA1 hB0 hB1 hb1
  obtain ⟨hA0, hA1, _, _⟩ := B0a.out.cells
  obtain ⟨hB0, hB1, _, _⟩ := B1a.out.cells
  dsimp only
  go_wp2_with fail
  refine eqT_any _ _ L2 L2 w1 (H2.out.later HB1.out (Nat.le_refl _)) (H4.out.later HB1.out (Nat.le_refl _)) HN.out.2 HN.out.2 _ ?_
  intro w2 hb2
  rw [decide_eq_true rfl]
  have HB2 := Lib.hid (HEXT.out.trans ((HB1.out.trans (hb2.mono HB1.out.size)).mono HEXT.out.size))
  clear hA0 hA1 hB0 hB1 hb2
  dsimp only
  go_wp2
  first | go_ret | skip
  exact HR.out _ HB2.out
end Go.Proofs.YtegdcmcfeaohhaaGreatDoor

namespace Go.Proofs.YtegdcmcfeaohhaaGreatDoor.EnvLaid
open Go Go.ChangeShapes Go.WideShapes Go.ChangeAt Go.RowKit

theorem cellsRec : Tryz.prog.cellsOf 33 = 2 := by kernel_rfl

set_option maxRecDepth 100000 in
/-- a recurrence that came in -/
theorem open_rec {H : Type} {enc : TypeId × Value → H} {W : World} {r : Reach} {b0 : Nat} {v : Value} {d : DataW H} {ps : List MemPlace}
    (hval : Value.okWide Tryz.prog W r b0 33 v) (h : DataW.Trod enc Tryz.prog W 0 (fun _ => true) true 33 v d ps) :
    ∃ L1 L2, IsRec W v L1 L2 ∧ L1.length ≤ maxLen ∧ (∀ s ∈ L1, s.size ≤ maxLen) ∧ L2.length ≤ maxLen ∧ ∀ s ∈ L2, s.size ≤ maxLen := by
  obtain ⟨cs, rfl, hsz⟩ := okWide_struct Tryz.underlying33 hval
  rw [cellsRec] at hsz
  obtain ⟨x0, x1, rfl⟩ : ∃ x0 x1, cs = #[x0, x1] := by
    obtain ⟨l⟩ := cs
    match l, hsz with
    | [x0, x1], _ => exact ⟨x0, x1, rfl⟩
  obtain ⟨fuel, hf⟩ := h
  obtain ⟨y0, y1, n, _, _, h0, h1⟩ := trod_struct2 Tryz.underlying33 hf
  obtain ⟨L1, p1, p2, p3⟩ := open_textsC (y := y0) (x := x0) (by simpa [Value.cells, cellsStr, show Tryz.prog.cellsOf 22 = 1 by kernel_rfl] using h0)
  obtain ⟨L2, q1, q2, q3⟩ := open_textsC (y := y1) (x := x1) (by simpa [Value.cells, cellsStr, show Tryz.prog.cellsOf 22 = 1 by kernel_rfl] using h1)
  exact ⟨L1, L2, ⟨x0, x1, rfl, p1, q1⟩, p2, p3, q2, q3⟩
end Go.Proofs.YtegdcmcfeaohhaaGreatDoor.EnvLaid

namespace Go.Proofs.YtegdcmcfeaohhaaGreatDoor
open Go Go.RowKit

theorem step_other {w0 w X w9 : World} {o : Option Nat} (hbX : Below w.heap.size w X) (hgr : X.grownBy w9 o) (l x0 x1 x2 : Value) {g : Nat} (hg : g < w.heap.size) (hne : g ≠ w0.heap.size + 1) (ho : o ≠ some g) :
    (stepEnd w9 (w0.heap.size + 1) w.heap.size l x0 x1 x2).heap[g]? = w.heap[g]? := by
  have h9 : w.heap.size ≤ w9.heap.size := Nat.le_trans hbX.size hgr.size
  have b1 : But (w0.heap.size + 1) w9 (w9.setCell ⟨w0.heap.size + 1, 0, none⟩ l) := (But.refl _ _).setCell _ _
  obtain ⟨V, hV⟩ : ∃ V, V = w9.setCell ⟨w0.heap.size + 1, 0, none⟩ l := ⟨_, rfl⟩
  have hVs : V.heap.size = w9.heap.size := by rw [hV]; simp
  have b2 : But w.heap.size V (stepEnd w9 (w0.heap.size + 1) w.heap.size l x0 x1 x2) := by
    unfold stepEnd; rw [← hV]; exact (((But.refl _ _).setCell _ _).setCell _ _).setCell _ _
  rw [← hV] at b1
  rw [b2.block g (by rw [hVs]; omega) (by omega), b1.block g (by omega) hne, hgr.block g (Nat.lt_of_lt_of_le hg hbX.size) (fun e => ho e.symm), hbX.block g hg]

set_option maxRecDepth 100000 in
set_option maxHeartbeats 8000000 in
theorem stepu_any (w0 w : World) (B : Nat) (s1 s2 : Value) (ss cs : List Rat) (n : Nat) (h : StR w0 w B s1 s2 ss cs n) (h1 : RsL w0 s1 ss) (h2 : RsL w0 s2 cs) (hl : ss.length = cs.length) (h8 : cs.length ≤ 8) (hb1 : AllBd 60 ss) (hb2 : AllBd 60 cs) (hn : n < 40) (R : Ending → World → Prop)
    (hR : ∀ v q w', termsQ ss cs (n + 1) = termsQ ss cs n ++ [q] → IsR w' v q → StR w0 w' B s1 s2 ss cs (n + 1) → FrB B (w0.heap.size + 1) w w' → (∀ g, g < w.heap.size → g ≠ w0.heap.size + 1 → (∀ a m c, w.heap[w0.heap.size + 1]? = some (.cells #[.slice a m c] 63 (0, 0)) → (Value.slice a m c).ownBlock ≠ some g) → w'.heap[g]? = w.heap[g]?) → R (.returned v) w') :
    Calls Tryz.prog 124 #[.pointer (some ⟨w0.heap.size + 1, 0, none⟩), .pointer (some ⟨w0.heap.size, 0, none⟩)] w R := by
  have HR := Lib.hid hR; clear hR
  obtain ⟨hB1, hB2, hbx, hb0, a, m, c, hbt, how⟩ := h
  obtain ⟨a1, n1, c1, rfl, hn1, _, hs1⟩ := SlE.open h1
  obtain ⟨a2, n2, c2, rfl, hn2, _, hs2⟩ := SlE.open h2
  obtain ⟨ts, hts⟩ : ∃ ts, ts = termsQ ss cs n := ⟨_, rfl⟩
  have HTL : Hid (ts.length = n) := Lib.hid (by rw [hts, termsQ_len])
  have HTBn : Hid (AllBd 22200 ts) := Lib.hid (by rw [hts]; exact terms_bd hl h8 hb1 hb2 (by omega))
  have HPBn : Hid (ss.length ≤ n → ∀ j, j ≤ cs.length → Bd 22200 (partQ cs ts j)) := Lib.hid (fun hs j hj => by rw [hts]; exact part_bd hl h8 hb1 hb2 (by omega) hs hj)
  have HNX : Hid (∀ q, ss[n]? = some q → termsQ ss cs (n + 1) = ts ++ [q]) := Lib.hid (fun q hq => by rw [hts]; exact termsQ_start hq)
  have HNY : Hid (¬ n < ss.length → termsQ ss cs (n + 1) = ts ++ [partQ cs ts cs.length]) := Lib.hid (fun hq => by rw [hts]; exact termsQ_next hq)
  rw [← hts] at how
  have HTS := Lib.hid hts
  obtain ⟨a9, n9, c9, e9, hnm⟩ := how.shape
  cases e9
  have hmn : m = n := by rw [hnm]; exact HTL.out
  subst hmn
  have HS1 := Lib.hid hs1
  have HS2 := Lib.hid hs2
  have HN := Lib.hid (And.intro hn1 (And.intro hn2 (And.intro hl h8)))
  have HBD := Lib.hid (And.intro hb1 hb2)
  have HNN := Lib.hid hn
  have HBB := Lib.hid (And.intro hB1 hB2)
  have HBX := Lib.hid hbx
  have HB0 := Lib.hid hb0
  have HBT := Lib.hid hbt
  have HOW := Lib.hid how
  have HLT := Lib.hid how.own_lt
  obtain ⟨L, hL⟩ : ∃ L, L = w.alloc (.cells #[.bool false, .slice none 0 0, .slice none 0 0] 70) := ⟨_, rfl⟩
  have HBL : Hid (Below w.heap.size w L) := Lib.hid (by rw [hL]; exact (Below.refl _ _).alloc (Nat.le_refl _) _)
  have HRB : Hid (Box3 L w.heap.size (.bool false) (.slice none 0 0) (.slice none 0 0) 70) := Lib.hid (by rw [hL]; exact Box3.made _ _ _ _ _)
  have HL := Lib.hid hL
  have HLS : Hid (L.heap.size = w.heap.size + 1) := Lib.hid (by rw [hL]; simp)
  have hT : ∀ w', Below w.heap.size w w' → w'.cell? ⟨w0.heap.size + 1, 0, none⟩ = some (.slice a m c) := fun w' hb => by
    have := hb.block (w0.heap.size + 1) (by omega)
    simp only [World.cell?, this, hbt]; rfl
  have HT := Lib.hid hT
  have hA := HT.out L HBL.out
  clear h1 h2 hn1 hn2 hs1 hs2 hl h8 hb1 hb2 hbx hb0 hbt how hT hts hnm
  rw [HL.out] at hA
  go_enter Tryz.func124, Tryz.ntmps124
  go_wp2_with fail
  rw [← HL.out]
  clear hA
  refine ratioOf_any _ 0 _ (IsI.nil _) _ ?_
  intro v2 w2 hr2 hb2
  obtain ⟨m0, a5, n5, c5, a6, n6, c6, hm0, rfl, _, _⟩ := hr2.parts
  have HR2 := Lib.hid hr2
  have HB2 := Lib.hid (HBL.out.trans (hb2.mono HBL.out.size))
  have HX2 := Lib.hid (HBX.out.later HB2.out (lt_of_block HBX.out))
  have HRB2 := Lib.hid (HRB.out.later hb2 (lt_of_block HRB.out))
  have hE1 : ¬ w0.heap.size = w2.heap.size := by have := HB2.out.size; have := HBB.out; omega
  have hE2 : ¬ w0.heap.size + 1 = w2.heap.size := by have := HB2.out.size; have := HBB.out; omega
  have hE3 : ¬ w.heap.size = w2.heap.size := by have := lt_of_block HRB2.out; omega
  have hE4 : ¬ w0.heap.size + 1 = w.heap.size := by have := HBB.out; omega
  have hE5 : ¬ w0.heap.size + 1 = w2.heap.size + 1 := by have := HB2.out.size; have := HBB.out; omega
  have hE6 : ¬ w2.heap.size = w0.heap.size + 1 := fun e => hE2 e.symm
  have hE7 : ¬ w.heap.size = w0.heap.size + 1 := fun e => hE4 e.symm
  have HE := Lib.hid (And.intro hE1 (And.intro hE2 (And.intro hE3 (And.intro hE4 hE5))))
  clear hr2 hm0
  by_cases hns : m < n1
  · obtain ⟨q, hq⟩ : ∃ q, ss[m]? = some q := ⟨_, List.getElem?_eq_getElem (by rw [← HN.out.1]; exact hns)⟩
    have HM2 := Lib.hid (HNX.out q hq)
    obtain ⟨b, off, cc, rfl, hb, hcell, hE⟩ := HS1.out.at m q hq
    obtain ⟨x1, y1, z1, x2, y2, z2, hcs, hi1, hi2⟩ := hE
    obtain ⟨ng, hng⟩ : ∃ ng, ng = decide (q.num < 0) := ⟨_, rfl⟩
    rw [← hng] at hcs
    have hB02 := HB0.out.trans (HB2.out.mono HB0.out.size)
    obtain ⟨V, hV⟩ : ∃ V, V = w2.alloc (.cells #[.bool ng, .slice x1 y1 z1, .slice x2 y2 z2] 70) := ⟨_, rfl⟩
    have hbV : Below w2.heap.size w2 V := by rw [hV]; exact (Below.refl _ _).alloc (Nat.le_refl _) _
    have HV := Lib.hid hV
    have HVS : Hid (V.heap.size = w2.heap.size + 1) := Lib.hid (by rw [hV]; simp)
    have hd0 : (w2.alloc (.cells #[.bool m0, .slice a5 n5 c5, .slice a6 n6 c6] 70)).cell? ⟨b, off + m * 3, none⟩ = some (.bool ng) := by rw [((hB02.trans (((Below.refl w2.heap.size w2).alloc (Nat.le_refl _) _).mono hB02.size))).cell (p := ⟨b, off + m * 3, none⟩) hb]; exact hcell 0 _ (by rw [hcs]; rfl)
    have hd1 : (w2.alloc (.cells #[.bool m0, .slice a5 n5 c5, .slice a6 n6 c6] 70)).cell? ⟨b, off + m * 3 + 1, none⟩ = some (.slice x1 y1 z1) := by rw [((hB02.trans (((Below.refl w2.heap.size w2).alloc (Nat.le_refl _) _).mono hB02.size))).cell (p := ⟨b, off + m * 3 + 1, none⟩) hb]; exact hcell 1 _ (by rw [hcs]; rfl)
    have hd2 : (w2.alloc (.cells #[.bool m0, .slice a5 n5 c5, .slice a6 n6 c6] 70)).cell? ⟨b, off + m * 3 + 2, none⟩ = some (.slice x2 y2 z2) := by rw [((hB02.trans (((Below.refl w2.heap.size w2).alloc (Nat.le_refl _) _).mono hB02.size))).cell (p := ⟨b, off + m * 3 + 2, none⟩) hb]; exact hcell 2 _ (by rw [hcs]; rfl)
    have hbA : Below w2.heap.size w2 (w2.alloc (.cells #[.bool m0, .slice a5 n5 c5, .slice a6 n6 c6] 70)) := (Below.refl _ _).alloc (Nat.le_refl _) _
    obtain ⟨hC0, hC1, _, _⟩ := (HX2.out.later hbA (lt_of_block HX2.out)).cells
    have hT1 := HT.out V (HB2.out.trans (hbV.mono HB2.out.size))
    have HBV := Lib.hid (HB2.out.trans (hbV.mono HB2.out.size))
    have HQV := Lib.hid ((show IsR w0 (.agg #[.bool ng, .slice x1 y1 z1, .slice x2 y2 z2]) q from ⟨_, _, by rw [hng], hi1, hi2⟩).later (HB0.out.trans (HBV.out.mono HB0.out.size)) (Nat.le_refl _))
    have k0 : (0 : Int) ≤ (m : Int) := by omega
    have k1 : (m : Int) < (n1 : Int) := by omega
    have hbb : Below V.heap.size V (V.alloc (.cells #[.bool ng, .slice x1 y1 z1, .slice x2 y2 z2] 70)) := (Below.refl _ _).alloc (Nat.le_refl _) _
    have HBXX := Lib.hid (HBV.out.trans (hbb.mono HBV.out.size))
    have HQX := Lib.hid (HQV.out.later hbb (Nat.le_refl _))
    have HRBX := Lib.hid ((HRB2.out.later hbV (lt_of_block HRB2.out)).later hbb (by have := lt_of_block HRB2.out; have := hbV.size; omega))
    have HTBX : Hid (Box3 (V.alloc (.cells #[.bool ng, .slice x1 y1 z1, .slice x2 y2 z2] 70)) w2.heap.size (.bool ng) (.slice x1 y1 z1) (.slice x2 y2 z2) 70) := Lib.hid (by
      have k := Box3.made w2 (.bool ng) (.slice x1 y1 z1) (.slice x2 y2 z2) 70
      rw [← hV] at k
      exact k.later hbb (lt_of_block k))
    rw [hV] at hT1 HBXX HQX HRBX HTBX
    clear hq hcell hcs hi1 hi2 hng hb hns hb2 hbA hV hbV hB02 hbb
    dsimp only
    have HOWX : Hid (OwE 3 ER 70 ((w2.alloc (.cells #[.bool ng, .slice x1 y1 z1, .slice x2 y2 z2] 70)).alloc (.cells #[.bool ng, .slice x1 y1 z1, .slice x2 y2 z2] 70)) B (.slice a m c) ts) := Lib.hid (HOW.out.later elemR HBXX.out (Nat.le_refl _))
    have HERX : Hid (ER ((w2.alloc (.cells #[.bool ng, .slice x1 y1 z1, .slice x2 y2 z2] 70)).alloc (.cells #[.bool ng, .slice x1 y1 z1, .slice x2 y2 z2] 70)) [.bool ng, .slice x1 y1 z1, .slice x2 y2 z2] q) := Lib.hid (by
      obtain ⟨r1, r2, re, r3, r4⟩ := HQX.out
      simp only [Value.agg.injEq, Array.mk.injEq, List.cons.injEq, and_true] at re
      obtain ⟨e1, rfl, rfl⟩ := re
      exact ⟨_, _, _, _, _, _, by rw [e1], r3, r4⟩)
    have HCX : Hid (∀ j u, ([.bool ng, .slice x1 y1 z1, .slice x2 y2 z2] : List Value)[j]? = some u → ((w2.alloc (.cells #[.bool ng, .slice x1 y1 z1, .slice x2 y2 z2] 70)).alloc (.cells #[.bool ng, .slice x1 y1 z1, .slice x2 y2 z2] 70)).cell? ⟨w2.heap.size + 1, j, none⟩ = some u) := Lib.hid (cells_alloc (w2.alloc (.cells #[.bool ng, .slice x1 y1 z1, .slice x2 y2 z2] 70)) #[.bool ng, .slice x1 y1 z1, .slice x2 y2 z2] _ (w2.heap.size + 1) (by simp))
    have HLK : Hid (ts.length ≤ 100000000) := Lib.hid (by rw [HTL.out]; have := HNN.out; omega)
    go_wp2_with (at_builtin; go_must (refine wpList_pushE elemR (by omega) rfl _ _ 63 rfl 70 56 zeroR Tryz.underlying63 info_ratio rfl zeroR_ints (by omega) B ts HOWX.out HLK.out (Nat.le_trans HBB.out.2 HBXX.out.size) (w2.heap.size + 1) [.bool ng, .slice x1 y1 z1, .slice x2 y2 z2] q rfl HERX.out HCX.out ?_))
    intro ao n9 c9 w9 hown9 hn9 hgr hb9
    have HOW9 : Hid (OwE 3 ER 70 w9 B (.slice ao n9 c9) (termsQ ss cs (m + 1))) := Lib.hid (by rw [HM2.out]; exact hown9)
    have hrb9 := grown_box3 hgr HRBX.out HLT.out
    have htb9 := grown_box3 hgr HTBX.out (fun g hg => by have := HLT.out g hg; have := HB2.out.size; omega)
    have hbt9 : w9.heap[w0.heap.size + 1]? = some (.cells #[.slice a m c] 63 (0, 0)) := by
      rw [hb9.block _ (by have := HBB.out; omega), HBXX.out.block _ (by have := HBB.out; omega)]; exact HBT.out
    have HEND := Lib.hid (step_end HBB.out.1 HBB.out.2 HBX.out HB0.out HBT.out HOWX.out HLT.out HBXX.out HRBX.out hgr hb9 HOW9.out HQX.out rfl rfl)
    unfold stepEnd at HEND
    have HOTH := Lib.hid (fun (g : Nat) (hg : g < w.heap.size) (hne : g ≠ w0.heap.size + 1) (ho : ∀ a m c, w.heap[w0.heap.size + 1]? = some (.cells #[.slice a m c] 63 (0, 0)) → (Value.slice a m c).ownBlock ≠ some g) => step_other HBXX.out hgr (.slice ao n9 c9) (.bool ng) (.slice x1 y1 z1) (.slice x2 y2 z2) hg hne (ho _ _ _ HBT.out))
    unfold stepEnd at HOTH
    obtain ⟨⟨hR0, hR1, hR2⟩, hF0, hF1, hF2⟩ := hrb9.cells
    obtain ⟨⟨hP0, hP1, hP2⟩, _, _, _⟩ := htb9.cells
    obtain ⟨hU0, hU1⟩ := one_cells hbt9
    clear hown9 hn9 hgr hb9 hrb9 htb9 hbt9
    go_wp2
    refine bodyPost_ret_at (by simp [results, Tryz.results124, go_sem, hR0, hR1, hR2, hF0, hF1, hF2, hE3, hE4, hE6, hE7] <;> rfl) rfl ?_
    exact HR.out _ q _ (by rw [← HTS.out]; exact HM2.out) HEND.out.2.1 HEND.out.1 HEND.out.2.2 HOTH.out
  · have HNS := Lib.hid (show ss.length ≤ m by have := HN.out.1; omega)
    have k1 : ¬ (m : Int) < (n1 : Int) := by omega
    have HM2 := Lib.hid (HNY.out (by have := HNS.out; omega))
    have HPB := Lib.hid (HPBn.out HNS.out)
    obtain ⟨W, hW⟩ : ∃ W, W = w2.alloc (.cells #[.bool m0, .slice a5 n5 c5, .slice a6 n6 c6] 70) := ⟨_, rfl⟩
    have HW := Lib.hid hW
    have hbW : Below w2.heap.size w2 W := by rw [hW]; exact (Below.refl _ _).alloc (Nat.le_refl _) _
    obtain ⟨hC0, hC1, _, _⟩ := (HX2.out.later hbW (lt_of_block HX2.out)).cells
    have HST : Hid (StepSum w2 cs ts (.int .i64 0) W) := Lib.hid ⟨0, m0, a5, n5, c5, a6, n6, c6, rfl, Nat.zero_le _, by rw [hW]; exact Box3.made _ _ _ _ _, by rw [partQ]; exact HR2.out.later hbW (Nat.le_refl _), hbW⟩
    rw [hW] at hC0 hC1
    clear hns hb2 hW hbW
    dsimp only
    go_wp2
    rw [← HW.out]
    clear hC0 hC1 HW
    go_loopw [24] (fun i wr => StepSum w2 cs ts i wr) (fun i _ => n2 - (intOf i).toNat)
    case atStart => exact HST.out
    case round =>
      clear HST
      obtain ⟨k, m3, a7, n7, c7, a8, n8, c8, rfl, hk, hbox, hq, hbel⟩ := hrel
      have HBOX := Lib.hid hbox
      have HQQ := Lib.hid hq
      have HBW := Lib.hid hbel
      have HBT2 := Lib.hid (HB2.out.trans (hbel.mono HB2.out.size))
      have hT1 := HT.out wr HBT2.out
      by_cases hkn : k = n2
      · have hk2 : ¬ (k : Int) < (n2 : Int) := by omega
        have hke : k = cs.length := by have := HN.out; omega
        rw [hke] at HQQ
        have hbb : Below wr.heap.size wr (wr.alloc (.cells #[.bool m3, .slice a7 n7 c7, .slice a8 n8 c8] 70)) := (Below.refl _ _).alloc (Nat.le_refl _) _
        have HBXX := Lib.hid (HBT2.out.trans (hbb.mono HBT2.out.size))
        have HQX := Lib.hid (HQQ.out.later hbb (Nat.le_refl _))
        have HRBX := Lib.hid ((HRB2.out.later hbel (lt_of_block HRB2.out)).later hbb (by have := lt_of_block HRB2.out; have := hbel.size; omega))
        have HTBX := Lib.hid (HBOX.out.later hbb (lt_of_block HBOX.out))
        obtain ⟨⟨hS0, hS1, hS2⟩, _, _, _⟩ := hbox.cells
        clear hk hbox hq hbel hbb hkn hke
        have HOWX : Hid (OwE 3 ER 70 (wr.alloc (.cells #[.bool m3, .slice a7 n7 c7, .slice a8 n8 c8] 70)) B (.slice a m c) ts) := Lib.hid (HOW.out.later elemR HBXX.out (Nat.le_refl _))
        have HERX : Hid (ER (wr.alloc (.cells #[.bool m3, .slice a7 n7 c7, .slice a8 n8 c8] 70)) [.bool m3, .slice a7 n7 c7, .slice a8 n8 c8] (partQ cs ts cs.length)) := Lib.hid (by
          obtain ⟨r1, r2, re, r3, r4⟩ := HQX.out
          simp only [Value.agg.injEq, Array.mk.injEq, List.cons.injEq, and_true] at re
          obtain ⟨e1, rfl, rfl⟩ := re
          exact ⟨_, _, _, _, _, _, by rw [e1], r3, r4⟩)
        have HCX : Hid (∀ j u, ([.bool m3, .slice a7 n7 c7, .slice a8 n8 c8] : List Value)[j]? = some u → (wr.alloc (.cells #[.bool m3, .slice a7 n7 c7, .slice a8 n8 c8] 70)).cell? ⟨wr.heap.size, j, none⟩ = some u) := Lib.hid (cells_alloc wr #[.bool m3, .slice a7 n7 c7, .slice a8 n8 c8] _ (wr.heap.size) (by simp))
        have HLK : Hid (ts.length ≤ 100000000) := Lib.hid (by rw [HTL.out]; have := HNN.out; omega)
        go_wp2_with (at_builtin; go_must (refine wpList_pushE elemR (by omega) rfl _ _ 63 rfl 70 56 zeroR Tryz.underlying63 info_ratio rfl zeroR_ints (by omega) B ts HOWX.out HLK.out (Nat.le_trans HBB.out.2 HBXX.out.size) (wr.heap.size) [.bool m3, .slice a7 n7 c7, .slice a8 n8 c8] (partQ cs ts cs.length) rfl HERX.out HCX.out ?_))
        intro ao n9 c9 w9 hown9 hn9 hgr hb9
        have HOW9 : Hid (OwE 3 ER 70 w9 B (.slice ao n9 c9) (termsQ ss cs (m + 1))) := Lib.hid (by rw [HM2.out]; exact hown9)
        have hrb9 := grown_box3 hgr HRBX.out HLT.out
        have htb9 := grown_box3 hgr HTBX.out (fun g hg => by have := HLT.out g hg; have := HB2.out.size; omega)
        have hbt9 : w9.heap[w0.heap.size + 1]? = some (.cells #[.slice a m c] 63 (0, 0)) := by
          rw [hb9.block _ (by have := HBB.out; omega), HBXX.out.block _ (by have := HBB.out; omega)]; exact HBT.out
        have HEND := Lib.hid (step_end HBB.out.1 HBB.out.2 HBX.out HB0.out HBT.out HOWX.out HLT.out HBXX.out HRBX.out hgr hb9 HOW9.out HQX.out rfl rfl)
        unfold stepEnd at HEND
        have HOTH := Lib.hid (fun (g : Nat) (hg : g < w.heap.size) (hne : g ≠ w0.heap.size + 1) (ho : ∀ a m c, w.heap[w0.heap.size + 1]? = some (.cells #[.slice a m c] 63 (0, 0)) → (Value.slice a m c).ownBlock ≠ some g) => step_other HBXX.out hgr (.slice ao n9 c9) (.bool m3) (.slice a7 n7 c7) (.slice a8 n8 c8) hg hne (ho _ _ _ HBT.out))
        unfold stepEnd at HOTH
        obtain ⟨⟨hR0, hR1, hR2⟩, hF0, hF1, hF2⟩ := hrb9.cells
        obtain ⟨⟨hP0, hP1, hP2⟩, _, _, _⟩ := htb9.cells
        obtain ⟨hU0, hU1⟩ := one_cells hbt9
        clear hown9 hn9 hgr hb9 hrb9 htb9 hbt9
        go_wp2
        refine bodyPost_ret_at (by simp [results, Tryz.results124, go_sem, hR0, hR1, hR2, hF0, hF1, hF2, hE3, hE4, hE6, hE7] <;> rfl) rfl ?_
        exact HR.out _ (partQ cs ts cs.length) _ (by rw [← HTS.out]; exact HM2.out) HEND.out.2.1 HEND.out.1 HEND.out.2.2 HOTH.out
      · have hkl : k < cs.length := by have := HN.out; omega
        obtain ⟨q, hq9⟩ : ∃ q, cs[k]? = some q := ⟨_, List.getElem?_eq_getElem hkl⟩
        have hts0 := HTL.out
        obtain ⟨j, hj⟩ : ∃ j, j = m - 1 - k := ⟨_, rfl⟩
        have hjn : j < ts.length := by have := HN.out; have := HNS.out; omega
        obtain ⟨r, hr⟩ : ∃ r, ts[j]? = some r := ⟨_, List.getElem?_eq_getElem hjn⟩
        have HNEW : Hid (partQ cs ts (k + 1) = partQ cs ts k + q * r) := Lib.hid (partQ_succ hq9 (by rw [hts0, ← hj]; exact hr))
        have HBP := Lib.hid (HPB.out k hk)
        have HBQ := Lib.hid (HBD.out.2 k q hq9)
        have HBR := Lib.hid (HTBn.out j r hr)
        obtain ⟨b, off, cc, rfl, hb, hcell, hE⟩ := HS2.out.at k q hq9
        obtain ⟨x1, y1, z1, x2, y2, z2, hcs, hi1, hi2⟩ := hE
        obtain ⟨b2, off2, cs2, rfl, hb2, hcell2, hE2⟩ := HOW.out.sl.at j r hr
        obtain ⟨x3, y3, z3, x4, y4, z4, hcs2, hi3, hi4⟩ := hE2
        obtain ⟨ng, hng⟩ : ∃ ng, ng = decide (q.num < 0) := ⟨_, rfl⟩
        obtain ⟨mg, hmg⟩ : ∃ mg, mg = decide (r.num < 0) := ⟨_, rfl⟩
        rw [← hng] at hcs
        rw [← hmg] at hcs2
        have HB0R := Lib.hid (HB0.out.trans (HBT2.out.mono HB0.out.size))
        have hd0 : wr.cell? ⟨b, off + k * 3, none⟩ = some (.bool ng) := by rw [HB0R.out.cell (p := ⟨b, off + k * 3, none⟩) hb]; exact hcell 0 _ (by rw [hcs]; rfl)
        have hd1 : wr.cell? ⟨b, off + k * 3 + 1, none⟩ = some (.slice x1 y1 z1) := by rw [HB0R.out.cell (p := ⟨b, off + k * 3 + 1, none⟩) hb]; exact hcell 1 _ (by rw [hcs]; rfl)
        have hd2 : wr.cell? ⟨b, off + k * 3 + 2, none⟩ = some (.slice x2 y2 z2) := by rw [HB0R.out.cell (p := ⟨b, off + k * 3 + 2, none⟩) hb]; exact hcell 2 _ (by rw [hcs]; rfl)
        obtain ⟨U, hU⟩ : ∃ U, U = wr.alloc (.cells #[.bool ng, .slice x1 y1 z1, .slice x2 y2 z2] 70) := ⟨_, rfl⟩
        have hbU : Below wr.heap.size wr U := by rw [hU]; exact (Below.refl _ _).alloc (Nat.le_refl _) _
        have HBTU := Lib.hid (HBT2.out.trans (hbU.mono HBT2.out.size))
        have hy0 : U.cell? ⟨b2, off2 + j * 3, none⟩ = some (.bool mg) := by rw [HBTU.out.cell (p := ⟨b2, off2 + j * 3, none⟩) hb2]; exact hcell2 0 _ (by rw [hcs2]; rfl)
        have hy1 : U.cell? ⟨b2, off2 + j * 3 + 1, none⟩ = some (.slice x3 y3 z3) := by rw [HBTU.out.cell (p := ⟨b2, off2 + j * 3 + 1, none⟩) hb2]; exact hcell2 1 _ (by rw [hcs2]; rfl)
        have hy2 : U.cell? ⟨b2, off2 + j * 3 + 2, none⟩ = some (.slice x4 y4 z4) := by rw [HBTU.out.cell (p := ⟨b2, off2 + j * 3 + 2, none⟩) hb2]; exact hcell2 2 _ (by rw [hcs2]; rfl)
        have hT2 := HT.out U HBTU.out
        have hbx2 := Box3.made wr (.bool ng) (.slice x1 y1 z1) (.slice x2 y2 z2) 70
        rw [← hU] at hbx2
        obtain ⟨⟨hv0, hv1, hv2⟩, _, _, _⟩ := hbx2.cells
        have HBOXU := Lib.hid (HBOX.out.later hbU (lt_of_block HBOX.out))
        obtain ⟨⟨hS0, hS1, hS2⟩, _, _, _⟩ := HBOXU.out.cells
        have HXU := Lib.hid (((show IsR w0 (.agg #[.bool ng, .slice x1 y1 z1, .slice x2 y2 z2]) q from ⟨_, _, by rw [hng], hi1, hi2⟩).later HB0R.out (Nat.le_refl _)).later hbU (Nat.le_refl _))
        have HYU := Lib.hid ((show IsR w (.agg #[.bool mg, .slice x3 y3 z3, .slice x4 y4 z4]) r from ⟨_, _, by rw [hmg], hi3, hi4⟩).later HBTU.out (Nat.le_refl _))
        have HQU := Lib.hid (HQQ.out.later hbU (Nat.le_refl _))
        have HGW : Hid (w2.heap.size < U.heap.size) := Lib.hid (lt_of_block HBOXU.out)
        have HBWU := Lib.hid (HBW.out.trans (hbU.mono HBW.out.size))
        have hw2 : IntKind.i64.wrap ((k : Int) + 1) = ((k + 1 : Nat) : Int) := by rw [IntWalk.i64_in _ (by have := HN.out; omega)]; omega
        obtain ⟨nn, hnn⟩ : ∃ nn, nn = (m : Int) - 1 := ⟨_, rfl⟩
        have hw3 : IntKind.i64.wrap ((m : Int) - 1) = nn := by rw [IntWalk.i64_in _ (by have := HNN.out; omega)]; exact hnn.symm
        have hw4 : IntKind.i64.wrap (nn - (k : Int)) = (j : Int) := by have := HNS.out; have := HN.out; rw [IntWalk.i64_in _ (by have := HNN.out; omega)]; omega
        have hk0 : (0 : Int) ≤ (k : Int) := by omega
        have hkn2 : (k : Int) < (n2 : Int) := by have := HN.out; omega
        have hj0 : (0 : Int) ≤ (j : Int) := by omega
        have hj1 : (j : Int) < (m : Int) := by omega
        have HL1 := Lib.hid (HBP.out.len (B := W64) (by rw [W64_eq]; omega))
        have HL2 := Lib.hid (HBQ.out.len (B := W64) (by rw [W64_eq]; omega))
        have HL3 := Lib.hid (HBR.out.len (B := W64) (by rw [W64_eq]; omega))
        have HL4 := Lib.hid ((HBQ.out.mul HBR.out).len (B := W64) (by rw [W64_eq]; omega))
        have HKL := Lib.hid (show k + 1 ≤ cs.length ∧ k < n2 by have := HN.out; omega)
        have HU := Lib.hid hU
        clear hq9 hr hcell hcs hcell2 hcs2 hi1 hi2 hi3 hi4 hng hmg hbel hkn hkl hk hj hjn hnn hbox hq hb hb2 hU hbU hbx2 hts0 hT1
        go_wp2_with fail
        rw [← HU.out]
        clear hd0 hd1 hd2
        go_region_law (first
          | (have hguard := HB5; (try go_simp); go_at_call 125; refine rplus_any _ _ (partQ cs ts k) (q * r) _ (HQU.out.later HB5.out (Nat.le_refl _)) HV5.out (Nat.le_trans HL1.out.1 (by omega)) (Nat.le_trans HL1.out.2 (by omega)) (Nat.le_trans HL4.out.1 (by omega)) (Nat.le_trans HL4.out.2 (by omega)) _ ?_; rw [← HNEW.out]; intro v6 w6 hv6 hb6; obtain ⟨m6, a10, n10, c10, a11, n11, c11, hm6, rfl, _, _⟩ := hv6.parts; have HV6 := Lib.hid hv6; have HB6 := Lib.hid (HB5.out.trans (hb6.mono HB5.out.size)); have k6 := HBOXU.out.later HB6.out HGW.out; obtain ⟨⟨hX0, hX1, hX2⟩, hX3, hX4, hX5⟩ := k6.cells; have HK6 := Lib.hid k6; clear hguard hm6 hv6 hb6 k6; dsimp only)
          | ((try go_simp); go_at_call 105; refine rtimes_any _ _ q r _ (HXU.out.later (by first | exact (Below.refl _ _).drew | exact Below.refl _ _) (Nat.le_refl _)) (HYU.out.later (by first | exact (Below.refl _ _).drew | exact Below.refl _ _) (Nat.le_refl _)) (Nat.le_trans HL2.out.1 (by omega)) (Nat.le_trans HL2.out.2 (by omega)) (Nat.le_trans HL3.out.1 (by omega)) (Nat.le_trans HL3.out.2 (by omega)) _ ?_; intro v5 w5 hv5 hb5; obtain ⟨m5, a12, n12, c12, a13, n13, c13, hm5, rfl, _, _⟩ := hv5.parts; have HV5 := Lib.hid hv5; have HB5 : Hid (Below U.heap.size U w5) := Lib.hid (by first | exact hb5 | exact below_unDrew hb5); have k5 := HBOXU.out.later HB5.out HGW.out; obtain ⟨⟨hW0, hW1, hW2⟩, _, _, _⟩ := k5.cells; clear hm5 hv5 hb5 k5; dsimp only))
        all_goals
          have HNI := Lib.hid (HK6.out.noInt rfl rfl rfl)
          have HREL : Hid (StepSum w2 cs ts (.int .i64 ((k + 1 : Nat) : Int)) (((w6.setCell ⟨w2.heap.size, 0, none⟩ (.bool m6)).setCell ⟨w2.heap.size, 1, none⟩ (.slice a10 n10 c10)).setCell ⟨w2.heap.size, 2, none⟩ (.slice a11 n11 c11))) := Lib.hid
            ⟨k + 1, m6, a10, n10, c10, a11, n11, c11, rfl, HKL.out.1, HK6.out.set012 _ _ _, HV6.out.set3 HNI.out _ _ _ rfl rfl, below_set3 (HBWU.out.trans (HB6.out.mono (Nat.le_of_lt HGW.out))) (Nat.le_refl _) _ _ _⟩
          go_wp2
          go_roundw
          case rel => exact HREL.out
          case measure => simp [intOf]; have := HKL.out; omega
end Go.Proofs.YtegdcmcfeaohhaaGreatDoor

namespace Go.Proofs.YtegdcmcfeaohhaaGreatDoor
open Go Go.RowKit

theorem termsQ_at {ss cs : List Rat} {k : Nat} {q : Rat} (h : termsQ ss cs (k + 1) = termsQ ss cs k ++ [q]) : ∀ d, (termsQ ss cs (k + 1 + d))[k]? = some q
  | 0 => by
    rw [Nat.add_zero, h, List.getElem?_append_right (by rw [termsQ_len]; omega), termsQ_len]; simp
  | d + 1 => by
    have ih := termsQ_at h d
    rw [← Nat.add_assoc]
    by_cases hs : k + 1 + d < ss.length
    · rw [termsQ_start (List.getElem?_eq_getElem hs), List.getElem?_append_left (by rw [termsQ_len]; omega)]; exact ih
    · rw [termsQ_next hs, List.getElem?_append_left (by rw [termsQ_len]; omega)]; exact ih

theorem TArr.noInt {e : TypeId} {w : World} {g : Nat} {L : List ByteArray} (h : TArr e w g L) : NoInt w g := by
  unfold TArr at h
  exact NoInt.of h (by intro u hu; simp at hu; obtain ⟨s, _, rfl⟩ := hu; rfl)

theorem StR.but {w0 w w' : World} {B g : Nat} {s1 s2 : Value} {ss cs : List Rat} {n : Nat} (h : StR w0 w B s1 s2 ss cs n) (hb : But g w w') (hn : NoInt w g) (h1 : g < B) (h2 : w0.heap.size + 1 < g) : StR w0 w' B s1 s2 ss cs n := by
  obtain ⟨k1, k2, k3, k4, a, m, c, k5, k6⟩ := h
  refine ⟨k1, Nat.le_trans k2 hb.size, ?_, k4.trans (hb.below (by omega) k4.size), a, m, c, ?_, k6.but elemR hb hn (fun e => by have := k6.base _ e; omega)⟩
  · have := hb.block w0.heap.size (lt_of_block k3) (by omega)
    unfold Box2 at *; rw [this]; exact k3
  · rw [hb.block _ (Array.getElem?_eq_some_iff.1 k5).1 (by omega)]; exact k5

set_option maxRecDepth 100000 in
set_option maxHeartbeats 2000000 in
theorem steps_any (s1 s2 : Value) (w : World) (R : Ending → World → Prop)
    (hR : ∀ w', Box2 w' w.heap.size s1 s2 97 → w'.heap[w.heap.size + 1]? = some (.cells #[.slice none 0 0] 63 (0, 0)) → Below w.heap.size w w' → w.heap.size + 2 ≤ w'.heap.size →
      R (.returned (.func (.func 124) #[] #[.pointer (some ⟨w.heap.size + 1, 0, none⟩), .pointer (some ⟨w.heap.size, 0, none⟩)])) w')
    (h1 : ∃ a n c, s1 = .slice a n c) (h2 : ∃ a n c, s2 = .slice a n c) :
    Calls Tryz.prog 83 #[.agg #[s1, s2]] w R := by
  obtain ⟨a1, n1, c1, rfl⟩ := h1
  obtain ⟨a2, n2, c2, rfl⟩ := h2
  obtain ⟨L, hL⟩ : ∃ L, L = (w.alloc (.cells #[.slice a1 n1 c1, .slice a2 n2 c2] 97)).alloc (.cells #[.slice none 0 0] 63) := ⟨_, rfl⟩
  have hb1 : Below (w.heap.size + 1) (w.alloc (.cells #[.slice a1 n1 c1, .slice a2 n2 c2] 97)) L := by rw [hL]; exact (Below.refl _ _).alloc (by simp) _
  have HR := Lib.hid (hR L ((Box2.made w _ _ _).later hb1 (by omega)) (by
    rw [hL]
    show (World.alloc _ _).heap[_]? = _
    have : (w.alloc (.cells #[.slice a1 n1 c1, .slice a2 n2 c2] 97)).heap.size = w.heap.size + 1 := by simp
    rw [← this]
    show (Array.push _ _)[_]? = _
    rw [Array.getElem?_push, if_pos rfl]) (by rw [hL]; exact ((Below.refl w.heap.size w).alloc (Nat.le_refl _) _).alloc (by simp) _) (by rw [hL]; simp))
  rw [hL] at HR
  have hmf : ∀ (fn : Fn) (first cap : Array Value) (w : World), (Instr.makeFunc fn first cap).run Tryz.prog w = .ok (.func fn first cap) w := fun _ _ _ _ => rfl
  clear hR hL hb1
  go_enter Tryz.func83, Tryz.ntmps83
  go_wp2
  first | go_ret | skip
  exact HR.out

def TerRel (w wS : World) (B g : Nat) (s1 s2 : Value) (ss cs : List Rat) (c : Nat) (i : Value) (wr : World) : Prop :=
  ∃ k : Nat, i = .int .i64 (k : Int) ∧ k ≤ c ∧ StR wS wr B s1 s2 ss cs k ∧ fitsQ (termsQ ss cs k) = true ∧ TArr 9 wr g (textsQ (termsQ ss cs k) ++ List.replicate (c - k) ByteArray.empty) ∧ Below w.heap.size w wr

set_option maxRecDepth 100000 in
set_option maxHeartbeats 8000000 in
theorem impl_term (v : Value) (L1 L2 : List ByteArray) (n : Int) (w : World) (hE : Env w) (htab : Lib.TabIs Tryz.prog w "internal/strconv.uint64pow10" .u64 Lib.pow10Tab) (h : IsRec w v L1 L2) (hn1 : L1.length ≤ 1048576) (hn2 : L2.length ≤ 1048576) (hi0 : -9223372036854775807 - 1 ≤ n) (hi1 : n ≤ 9223372036854775807) (R : Ending → World → Prop)
    (hR : ∀ v' w', OwE 1 ET 9 w' w.heap.size v' (termL L1 L2 n) → Below w.heap.size w w' → R (.returned (.tuple #[v', .bool (termB L1 L2 n)])) w') :
    Calls Tryz.prog 40 #[v, .int .i64 n] w R := by
  have HR := Lib.hid hR; clear hR
  have HE := Lib.hid hE
  have HTAB := Lib.hid htab
  have HI := Lib.hid (And.intro hi0 hi1)
  have hk := h
  obtain ⟨a1, n1, c1, a2, n2, c2, rfl, e1, e2, h1, h2⟩ := h.parts
  obtain ⟨L, hL⟩ : ∃ L, L = w.alloc (.cells #[.slice a1 n1 c1, .slice a2 n2 c2] 36) := ⟨_, rfl⟩
  have HBL : Hid (Below w.heap.size w L) := Lib.hid (by rw [hL]; exact (Below.refl _ _).alloc (Nat.le_refl _) _)
  have HBX : Hid (Box2 L w.heap.size (.slice a1 n1 c1) (.slice a2 n2 c2) 36) := Lib.hid (by rw [hL]; exact Box2.made _ _ _ _)
  have HL := Lib.hid hL
  have HV := Lib.hid (hk.later HBL.out (Nat.le_refl _))
  have HN := Lib.hid (And.intro hn1 hn2)
  have HFAIL : Hid (∀ w', termB L1 L2 n = false → Below w.heap.size w w' → R (.returned (.tuple #[.slice none 0 0, .bool false])) w') := Lib.hid (fun w' hf hb => by
    have := HR.out (.slice none 0 0) w' (by rw [termL_false hf]; exact OwE.nil _ _ _) hb
    rw [hf] at this; exact this)
  obtain ⟨hA0, hA1, _, _⟩ := HBX.out.cells
  clear hE htab h hk e1 e2 h1 h2 hn1 hn2 hL hi0 hi1
  go_enter Tryz.func40, Tryz.ntmps40
  rw [HL.out] at hA0 hA1
  go_wp2_with fail
  rw [← HL.out]
  refine readseq_any _ L1 L2 L (HE.out.later HBL.out (Nat.le_refl _)) HV.out HN.out.1 HN.out.2 _ ?_ ?_
  rotate_left
  · intro e w2 hrec he hb2
    obtain ⟨t, p, rfl⟩ := he
    have HF := Lib.hid (HFAIL.out (w2.alloc (.cells #[.slice none 0 0, .slice none 0 0] 97)) (by unfold termB; rw [hrec]; rfl))
    have HB2 := Lib.hid (HBL.out.trans (hb2.mono HBL.out.size))
    clear hrec hb2 hA0 hA1
    unfold zeroS
    dsimp only
    go_wp2
    first | go_ret | skip
    exact HF.out (HB2.out.alloc HB2.out.size _)
  intro x1 x2 w2 hrec hx1 hx2 hb2
  have HREC := Lib.hid hrec
  obtain ⟨b1, m1, d1, rfl, hx1'⟩ := SlE.op hx1
  obtain ⟨b2, m2, d2, rfl, hx2'⟩ := SlE.op hx2
  obtain ⟨V, hV⟩ : ∃ V, V = w2.alloc (.cells #[.slice b1 m1 d1, .slice b2 m2 d2] 97) := ⟨_, rfl⟩
  have hbV : Below w2.heap.size w2 V := by rw [hV]; exact (Below.refl _ _).alloc (Nat.le_refl _) _
  have hb2V : Below L.heap.size L V := hb2.trans (hbV.mono hb2.size)
  have HBV : Hid (Below w.heap.size w V) := Lib.hid (HBL.out.trans (hb2V.mono HBL.out.size))
  have HX1V := Lib.hid (SlE.later elemR hx1' hbV (Nat.le_refl _))
  have HX2V := Lib.hid (SlE.later elemR hx2' hbV (Nat.le_refl _))
  have HV2 := Lib.hid hV
  have HK := Lib.hid (recB_four hrec)
  clear hrec hx1 hx2 hx1' hx2' hb2 hbV hb2V hV hA0 hA1
  by_cases hc0 : n < 0
  · have HF := Lib.hid (HFAIL.out V (by unfold termB; rw [decide_eq_false (by omega), Bool.false_and, Bool.and_false]) HBV.out)
    dsimp only
    go_wp2
    rw [← HV2.out]
    first | go_ret | skip
    exact HF.out
  by_cases hc1 : 40 < n
  · have HF := Lib.hid (HFAIL.out V (by unfold termB; rw [decide_eq_false (by omega), Bool.false_and, Bool.and_false]) HBV.out)
    dsimp only
    go_wp2
    rw [← HV2.out]
    first | go_ret | skip
    exact HF.out
  have HTB : Hid (termB L1 L2 n = fitsQ (termsQ (L1.map qOf) (L2.map qOf) n.toNat)) := Lib.hid (by unfold termB; rw [HREC.out, decide_eq_true (by omega)]; rfl)
  obtain ⟨c, rfl⟩ : ∃ c : Nat, n = (c : Int) := ⟨n.toNat, by omega⟩
  have hc40 : c ≤ 40 := by omega
  have HC : Hid (c ≤ 40) := Lib.hid (by omega)
  rw [Int.toNat_natCast] at HTB
  have HTL : Hid (termB L1 L2 (c : Int) = true → termL L1 L2 (c : Int) = textsQ (termsQ (L1.map qOf) (L2.map qOf) c)) := Lib.hid (fun h => by rw [termL_true h, Int.toNat_natCast])
  obtain ⟨ss, hss⟩ : ∃ ss, ss = L1.map qOf := ⟨_, rfl⟩
  obtain ⟨cs, hcs⟩ : ∃ cs, cs = L2.map qOf := ⟨_, rfl⟩
  have HSS : Hid (ss.length = cs.length ∧ cs.length ≤ 8 ∧ AllBd 60 ss ∧ AllBd 60 cs) := Lib.hid (by
    rw [hss, hcs]
    exact ⟨by rw [List.length_map, List.length_map]; exact HK.out.1, by rw [List.length_map]; exact HK.out.2.1, allBd_of HK.out.2.2.1, allBd_of HK.out.2.2.2⟩)
  rw [← hss, ← hcs] at HTB HTL
  rw [← hss] at HX1V
  rw [← hcs] at HX2V
  clear hss hcs
  dsimp only
  go_wp2_with fail
  rw [← HV2.out]
  refine steps_any _ _ V _ ?_ ⟨_, _, _, rfl⟩ ⟨_, _, _, rfl⟩
  intro w3 hq1 hq2 hb3 hs3
  have HB3 := Lib.hid (HBV.out.trans (hb3.mono HBV.out.size))
  have HQ := Lib.hid (And.intro hq1 (And.intro hq2 (And.intro hb3 hs3)))
  clear hq1 hq2 hb3 hs3
  dsimp only
  go_wp2_with (at_make; go_must (refine wpList_maket _ rfl _ 22 rfl 9 16 Tryz.underlying22 info_str (by omega) .i64 _ c rfl (by omega) (by have := HC.out; omega) ?_))
  intro W hA hbW hsW
  have HST : Hid (TerRel w V (w3.heap.size + 1) w3.heap.size (.slice b1 m1 d1) (.slice b2 m2 d2) ss cs c (.int .i64 0) W) := Lib.hid
    ⟨0, rfl, Nat.zero_le _, ⟨by have := HQ.out.2.2.2; omega, hA.lt, HQ.out.1.later hbW (lt_of_block HQ.out.1), HQ.out.2.2.1.trans (hbW.mono HQ.out.2.2.1.size), none, 0, 0, by
      rw [hbW.block _ (by have := HQ.out.2.2.2; omega)]; exact HQ.out.2.1, OwE.nil _ _ _⟩, rfl, by simpa [textsQ, termsQ] using hA, HB3.out.trans (hbW.mono HB3.out.size)⟩
  clear hA hbW hsW
  go_wp2
  go_loopw [34] (fun i wr => TerRel w V (w3.heap.size + 1) w3.heap.size (.slice b1 m1 d1) (.slice b2 m2 d2) ss cs c i wr) (fun i _ => c - (intOf i).toNat)
  case atStart => exact HST.out
  case round =>
    clear HST
    obtain ⟨k, rfl, hk, hst, hfit, hA, hbel⟩ := hrel
    have HB := Lib.hid hbel
    have HFIT := Lib.hid hfit
    have HA := Lib.hid hA
    have HSTR := Lib.hid hst
    by_cases hkn : k = c
    · subst hkn
      have hB := HTB.out
      rw [hfit] at hB
      rw [Nat.sub_self, List.replicate_zero, List.append_nil, ← HTL.out hB] at hA
      have HT := Lib.hid (hA.own w.heap.size k (by rw [HTL.out hB]; unfold textsQ; rw [List.length_map, termsQ_len]) HB3.out.size (by have := HC.out; omega))
      have HF := Lib.hid (HR.out _ wr HT.out HB.out)
      rw [hB] at HF
      have hkk : ¬ ((k : Int) < (k : Int)) := by omega
      clear hst hfit hA hbel hB hk
      go_wp2
      first | go_ret | skip
      exact HF.out
    · have hkl : k < c := by omega
      have hk1 : (k : Int) < (c : Int) := by omega
      have hk0 : (0 : Int) ≤ (k : Int) := by omega
      have hw1 : IntKind.i64.wrap ((k : Int) + 1) = ((k + 1 : Nat) : Int) := by rw [IntWalk.i64_in _ (by omega)]; omega
      have HKL := Lib.hid hkl
      clear hst hfit hA hbel hk hkn
      go_wp2_with fail
      refine step_any V wr (w3.heap.size + 1) _ _ ss cs k HSTR.out HX1V.out HX2V.out HSS.out.1 HSS.out.2.1 HSS.out.2.2.1 HSS.out.2.2.2 (by have := HC.out; omega) _ ?_
      intro v6 q w6 hq hv6 hst6 hfr
      have HQQ := Lib.hid hq
      have HBV6 : Hid (Below w.heap.size w w6) := Lib.hid (HB.out.trans (hfr.below (by have := HB3.out.size; omega) (by have := HBV.out.size; omega)))
      have hgt : V.heap.size + 1 < w3.heap.size := by have := HQ.out.2.2.2; omega
      have HGT := Lib.hid hgt
      have HA6 : Hid (TArr 9 w6 w3.heap.size (textsQ (termsQ ss cs k) ++ List.replicate (c - k) ByteArray.empty)) := Lib.hid (by
        have h9 := HA.out
        have := hfr.block w3.heap.size (by omega) (by omega)
        unfold TArr at *
        rw [this]; exact h9)
      have HST6 := Lib.hid hst6
      have HV6 := Lib.hid hv6
      clear hq hv6 hst6 hfr hgt
      dsimp only
      go_wp2_with fail
      refine rtext_any _ q _ HV6.out (tab_later HTAB.out HBV6.out (Nat.le_refl _)) _ ?_ ?_
      · intro w7 hf hb7
        obtain ⟨T, hT⟩ : ∃ T : ByteArray, T = ⟨(textQ q).toArray⟩ := ⟨_, rfl⟩
        rw [← hT]
        have hfit2 : Hid (fitsQ (termsQ ss cs (k + 1)) = true) := Lib.hid (by
          have := HFIT.out
          rw [HQQ.out]
          unfold fitsQ at this ⊢
          rw [List.all_append, this]
          simp only [List.all_cons, List.all_nil, Bool.and_true, Bool.true_and]
          exact few_dec hf)
        have hA1 := HA6.out.later hb7 HA6.out.lt
        have hlt : (textsQ (termsQ ss cs k)).length = k := by unfold textsQ; rw [List.length_map, termsQ_len]
        have hc2 := hA1.cell k ByteArray.empty (by rw [List.getElem?_append_right (by omega), hlt, Nat.sub_self, List.getElem?_replicate, if_pos (by omega)])
        have hf2 := hA1.frozen k
        have hA2 := hA1.set k T
        have e9 : (textsQ (termsQ ss cs k) ++ List.replicate (c - k) ByteArray.empty).set k T = textsQ (termsQ ss cs (k + 1)) ++ List.replicate (c - (k + 1)) ByteArray.empty := by
          have e : c - k = (c - (k + 1)) + 1 := by have := HKL.out; omega
          rw [e, List.replicate_succ, List.set_append_right _ _ (by omega), hlt, Nat.sub_self, List.set_cons_zero, hT, HQQ.out]
          unfold textsQ
          simp
        rw [e9] at hA2
        have HA2 := Lib.hid hA2
        have HST7 := Lib.hid ((HST6.out.later hb7).but ((But.refl w3.heap.size w7).setCell k (.string T)) hA1.noInt (by omega) HGT.out)
        have HB1 := Lib.hid (HBV6.out.trans (hb7.mono HBV6.out.size))
        have HB3S := Lib.hid HB3.out.size
        clear hf hb7 hT hA1 hA2 hlt e9
        dsimp only
        go_wp2
        go_roundw
        case rel => exact ⟨k + 1, by first | rfl | go_num, HKL.out, HST7.out, hfit2.out, HA2.out, HB1.out.setCell HB3S.out _⟩
        case measure => simp [intOf]; have := HKL.out; omega
      · intro w7 hf hb7
        have hB : termB L1 L2 (c : Int) = false := by
          rw [HTB.out]
          have hat := termsQ_at HQQ.out (c - (k + 1))
          rw [show k + 1 + (c - (k + 1)) = c by have := HKL.out; omega] at hat
          exact fitsQ_not hat (few_not hf)
        have HF := Lib.hid (HFAIL.out w7 hB (HBV6.out.trans (hb7.mono HBV6.out.size)))
        clear hf hb7 hB
        dsimp only
        go_wp2
        first | go_ret | skip
        exact HF.out

theorem term_small (L1 L2 : List ByteArray) (n : Int) : (termL L1 L2 n).length ≤ 1000 := by
  cases h : termB L1 L2 n
  · rw [termL_false h]; simp
  · rw [termL_true h]
    unfold termB at h
    rw [Bool.and_eq_true, Bool.and_eq_true] at h
    have := of_decide_eq_true h.2.1
    unfold textsQ
    rw [List.length_map, termsQ_len]
    omega
end Go.Proofs.YtegdcmcfeaohhaaGreatDoor

namespace Go.Proofs.YtegdcmcfeaohhaaGreatDoor
open Go Go.RowKit

/-- how two integers compare -/
def cmpZ (a b : Int) : Int := if a < b then -1 else if b < a then 1 else 0

set_option maxRecDepth 100000 in
set_option maxHeartbeats 2000000 in
theorem icmp_any (va vb : Value) (a b : Int) (w : World) (ha : IsI w va a) (hb : IsI w vb b) (hla : (dig W64 a.natAbs).length ≤ 100000000) (hlb : (dig W64 b.natAbs).length ≤ 100000000) (R : Ending → World → Prop)
    (hR : ∀ w', Below w.heap.size w w' → R (.returned (.int .i64 (cmpZ a b))) w') :
    Calls Tryz.prog 132 #[va, vb] w R := by
  have HR := Lib.hid hR; clear hR
  obtain ⟨na, a1, n1, c1, hna, rfl, hn1⟩ := ha.parts
  obtain ⟨nb, a2, n2, c2, hnb, rfl, hn2⟩ := hb.parts
  obtain ⟨L, hL⟩ : ∃ L, L = (w.alloc (.cells #[.bool na, .slice a1 n1 c1] 68)).alloc (.cells #[.bool nb, .slice a2 n2 c2] 68) := ⟨_, rfl⟩
  have hb1 : Below (w.heap.size + 1) (w.alloc (.cells #[.bool na, .slice a1 n1 c1] 68)) L := by rw [hL]; exact (Below.refl _ _).alloc (by simp) _
  have B0 : Box2 L w.heap.size (.bool na) (.slice a1 n1 c1) 68 := (Box2.made w _ _ _).later hb1 (by omega)
  have B1 : Box2 L (w.heap.size + 1) (.bool nb) (.slice a2 n2 c2) 68 := by
    have := Box2.made (w.alloc (.cells #[.bool na, .slice a1 n1 c1] 68)) (.bool nb) (.slice a2 n2 c2) 68
    rw [World.size_alloc, ← hL] at this; exact this
  have HEXT : Hid (Below w.heap.size w L) := Lib.hid (by rw [hL]; exact ((Below.refl w.heap.size w).alloc (Nat.le_refl _) _).alloc (by simp) _)
  have HL := Lib.hid hL
  have Y1 := Lib.hid (hn1.later HEXT.out (Nat.le_refl _))
  have Y2 := Lib.hid (hn2.later HEXT.out (Nat.le_refl _))
  have HLN := Lib.hid (And.intro hla hlb)
  have HNA := Lib.hid hna
  have HNB := Lib.hid hnb
  obtain ⟨hA0, hA1, _, _⟩ := B0.cells
  obtain ⟨hB0, hB1, _, _⟩ := B1.cells
  clear hna hnb ha hb hn1 hn2 hla hlb hb1 B0 B1 hL
  cases na <;> cases nb
  · have h1 : ¬ a < 0 := of_decide_eq_false HNA.out.symm
    have h2 : ¬ b < 0 := of_decide_eq_false HNB.out.symm
    have hc : cmpN a.natAbs b.natAbs = cmpZ a b := by unfold cmpN cmpZ; repeat' split <;> try omega
    have HC := Lib.hid hc
    clear h1 h2 hc
    go_enter Tryz.func132, Tryz.ntmps132
    rw [HL.out] at hA0 hA1 hB0 hB1
    go_wp2_with fail
    rw [← HL.out]
    refine ncmp_any _ _ _ _ _ Y1.out Y2.out (Nat.le_trans HLN.out.1 (by omega)) (Nat.le_trans HLN.out.2 (by omega)) _ ?_
    intro w1 hb1 _
    rw [HC.out]
    have HB := Lib.hid (HEXT.out.trans (hb1.mono HEXT.out.size))
    clear hb1 hA0 hA1 hB0 hB1
    dsimp only
    go_wp2
    first | go_ret | skip
    exact HR.out _ HB.out
  · have h1 : ¬ a < 0 := of_decide_eq_false HNA.out.symm
    have h2 : b < 0 := of_decide_eq_true HNB.out.symm
    have hc : cmpZ a b = 1 := by unfold cmpZ; repeat' split <;> try omega
    rw [hc] at HR
    clear h1 h2 hc
    go_enter Tryz.func132, Tryz.ntmps132
    rw [HL.out] at hA0 hA1 hB0 hB1
    go_wp2
    rw [← HL.out]
    first | go_ret | skip
    exact HR.out _ HEXT.out
  · have h1 : a < 0 := of_decide_eq_true HNA.out.symm
    have h2 : ¬ b < 0 := of_decide_eq_false HNB.out.symm
    have hc : cmpZ a b = -1 := by unfold cmpZ; repeat' split <;> try omega
    rw [hc] at HR
    clear h1 h2 hc
    go_enter Tryz.func132, Tryz.ntmps132
    rw [HL.out] at hA0 hA1 hB0 hB1
    go_wp2
    rw [← HL.out]
    first | go_ret | skip
    exact HR.out _ HEXT.out
  · have h1 : a < 0 := of_decide_eq_true HNA.out.symm
    have h2 : b < 0 := of_decide_eq_true HNB.out.symm
    have hc : cmpN b.natAbs a.natAbs = cmpZ a b := by unfold cmpN cmpZ; repeat' split <;> try omega
    have HC := Lib.hid hc
    clear h1 h2 hc
    go_enter Tryz.func132, Tryz.ntmps132
    rw [HL.out] at hA0 hA1 hB0 hB1
    go_wp2_with fail
    rw [← HL.out]
    refine ncmp_any _ _ _ _ _ Y2.out Y1.out (Nat.le_trans HLN.out.2 (by omega)) (Nat.le_trans HLN.out.1 (by omega)) _ ?_
    intro w1 hb1 _
    rw [HC.out]
    have HB := Lib.hid (HEXT.out.trans (hb1.mono HEXT.out.size))
    clear hb1 hA0 hA1 hB0 hB1
    dsimp only
    go_wp2
    first | go_ret | skip
    exact HR.out _ HB.out
end Go.Proofs.YtegdcmcfeaohhaaGreatDoor

namespace Go.Proofs.YtegdcmcfeaohhaaGreatDoor
open Go Go.RowKit

theorem num_neg_q (q : Rat) : (-q).num = -q.num := rfl
theorem den_neg_q (q : Rat) : (-q).den = q.den := rfl

theorem neg_end (w L wC : World) (g : Nat) (q : Rat) (n : Bool) (a1 : Option Addr) (n1 c1 : Nat) (a2 : Option Addr) (n2 c2 : Nat)
    (d2 : Box4 wC (g + 1) (.bool false) (.slice none 0 0) (.bool false) (.slice none 0 0) 58)
    (hz : IsZ wC (.agg #[.bool n, .slice a1 n1 c1]) (-q.num)) (hd : IsZ L (.agg #[.bool false, .slice a2 n2 c2]) (q.den : Int)) (hb : Below g w L) (hbC : Below L.drew.heap.size L.drew wC) (hgW : g ≤ L.heap.size) :
    QBox g w (g + 1) (-q) ((((wC.setCell ⟨g + 1, 0, none⟩ (.bool n)).setCell ⟨g + 1, 1, none⟩ (.slice a1 n1 c1)).setCell ⟨g + 1, 2, none⟩ (.bool false)).setCell ⟨g + 1, 3, none⟩ (.slice a2 n2 c2)) := by
  have hn := d2.noInt rfl rfl rfl rfl
  obtain ⟨s1, e1, h1⟩ := hz
  simp at e1
  obtain ⟨e1, rfl⟩ := e1
  have t4 := (Sl.drew hd.ofNat).later hbC (Nat.le_refl _)
  refine ⟨_, _, _, d2.set4 _ _ _ _, ?_, ?_, ?_, ((((hb.trans ((below_ofDrew hbC).mono hgW)).setCell (by simp <;> omega) _).setCell (by simp <;> omega) _).setCell (by simp <;> omega) _).setCell (by simp <;> omega) _⟩
  · rw [e1]; simp [num_neg_q]
  · exact h1.set4 hn _ _ _ _ rfl rfl rfl
  · exact t4.set4 hn _ _ _ _ rfl rfl rfl

set_option maxRecDepth 100000 in
set_option maxHeartbeats 1000000 in
theorem negQ_any (va : Value) (a : Rat) (w : World) (ha : IsQ w va a) (hla : (dig 10000 a.num.natAbs).length ≤ 1000000)
    (R : Ending → World → Prop) (hR : ∀ v w', IsQ w' v (-a) → Below w.heap.size w w' → R (.returned v) w') :
    Calls Tryz.prog 75 #[va] w R := by
  have HR := Lib.hid hR; clear hR
  obtain ⟨na, a1, n1, c1, a2, n2, c2, rfl, hz1, hz2⟩ := ha.parts
  clear ha
  obtain ⟨L, hL⟩ : ∃ L, L = (w.alloc (.cells #[.bool na, .slice a1 n1 c1, .bool false, .slice a2 n2 c2] 58)).alloc (.cells #[.bool false, .slice none 0 0, .bool false, .slice none 0 0] 58) := ⟨_, rfl⟩
  have hLs : L.heap.size = w.heap.size + 2 := by rw [hL]; simp
  have B0 : Box4 L w.heap.size (.bool na) (.slice a1 n1 c1) (.bool false) (.slice a2 n2 c2) 58 := by
    rw [hL]; exact (Box4.made w _ _ _ _ _).later (B := w.heap.size + 1) ((Below.refl _ _).alloc (by simp) _) (by omega)
  have B2 : Box4 L (w.heap.size + 1) (.bool false) (.slice none 0 0) (.bool false) (.slice none 0 0) 58 := by
    rw [hL]; have := Box4.made (w.alloc (.cells #[.bool na, .slice a1 n1 c1, .bool false, .slice a2 n2 c2] 58)) (.bool false) (.slice none 0 0) (.bool false) (.slice none 0 0) 58; simpa using this
  have HEXT : Below w.heap.size w L := by rw [hL]; exact ((Below.refl w.heap.size w).alloc (Nat.le_refl _) _).alloc (by simp) _
  have HL := Lib.hid hL
  have y1 := (hz1.later HEXT (Nat.le_refl _))
  have y2 := (hz2.later HEXT (Nat.le_refl _))
  clear hL hz1 hz2
  go_enter Tryz.func75, Tryz.ntmps75
  go_wp2_with fail
  rw [← HL.out]
  obtain ⟨⟨hA0, hA1, hA2, hA3⟩, _, _, _, _⟩ := B0.cells
  have hk0 : w.heap.size < L.heap.size := by omega
  have hk2 : w.heap.size + 1 < L.heap.size := by omega
  have HLN := Lib.hid hla
  clear hla
  go_cut [] (fun wx => QBox w.heap.size w (w.heap.size + 1) (-a) wx)
  case first =>
    go_region_law (first
      | (go_simp; go_at_call 117; refine zneg_any _ a.num _ y1.drew ?_ _ ?_; exact Nat.le_trans HLN.out (by omega); intro v1 w1 hv1 hb1; obtain ⟨bn, b1, m1, d1, rfl, hv2⟩ := hv1.openB; have e0 := B0.later (below_ofDrew hb1) hk0; have e2 := B2.later (below_ofDrew hb1) hk2; obtain ⟨⟨hC0, hC1, hC2, hC3⟩, _, _, _, _⟩ := e0.cells; obtain ⟨⟨hR0, hR1, hR2, hR3⟩, hR4, hR5, hR6, hR7⟩ := e2.cells; dsimp only))
    all_goals (go_wp2_with fail; go_meet; exact neg_end w L w1 w.heap.size a bn b1 m1 d1 a2 n2 c2 e2 hv2 y2 HEXT hb1 (by omega))
  case rest =>
    clear hA0 hA1 hA2 hA3
    obtain ⟨b1, x1, x2, hbx, he, ht1, ht2, hbl⟩ := hcut
    obtain ⟨⟨hR0, hR1, hR2, hR3⟩, _, _, _, _⟩ := hbx.cells
    go_wp2
    refine bodyPost_ret_at (by simp [results, Tryz.results75, go_sem, hR0, hR1, hR2, hR3] <;> rfl) rfl ?_
    exact HR.out _ _ ⟨x1, x2, by rw [he], ht1, ht2⟩ hbl
end Go.Proofs.YtegdcmcfeaohhaaGreatDoor

namespace Go.Proofs.YtegdcmcfeaohhaaGreatDoor
open Go Go.RowKit

theorem IsQ.drew {w : World} {v : Value} {q : Rat} (h : IsQ w v q) : IsQ w.drew v q := h

set_option maxRecDepth 100000 in
set_option maxHeartbeats 1000000 in
theorem subQ_any (va vb : Value) (a b : Rat) (w : World) (ha : IsQ w va a) (hb : IsQ w vb b) (hla : (dig 10000 a.num.natAbs).length ≤ 400000) (hla2 : (dig 10000 a.den).length ≤ 400000)
    (hlb : (dig 10000 b.num.natAbs).length ≤ 400000) (hlb2 : (dig 10000 b.den).length ≤ 400000)
    (R : Ending → World → Prop) (hR : ∀ v w', IsQ w' v (a - b) → Below w.heap.size w w' → R (.returned v) w') :
    Calls Tryz.prog 129 #[va, vb] w R := by
  have HR := Lib.hid hR; clear hR
  obtain ⟨na, a1, n1, c1, a2, n2, c2, rfl, _, _⟩ := ha.parts
  obtain ⟨nb, a3, n3, c3, a4, n4, c4, rfl, _, _⟩ := hb.parts
  obtain ⟨L, hL⟩ : ∃ L, L = ((w.alloc (.cells #[.bool na, .slice a1 n1 c1, .bool false, .slice a2 n2 c2] 58)).alloc (.cells #[.bool nb, .slice a3 n3 c3, .bool false, .slice a4 n4 c4] 58)).alloc (.cells #[.bool false, .slice none 0 0, .bool false, .slice none 0 0] 58) := ⟨_, rfl⟩
  have hLs : L.heap.size = w.heap.size + 3 := by rw [hL]; simp
  have B0 : Box4 L w.heap.size (.bool na) (.slice a1 n1 c1) (.bool false) (.slice a2 n2 c2) 58 := by
    rw [hL]; exact ((Box4.made w _ _ _ _ _).later (B := w.heap.size + 1) ((Below.refl _ _).alloc (by simp) _) (by omega)).later (B := w.heap.size + 2) ((Below.refl _ _).alloc (by simp) _) (by omega)
  have B1 : Box4 L (w.heap.size + 1) (.bool nb) (.slice a3 n3 c3) (.bool false) (.slice a4 n4 c4) 58 := by
    rw [hL]; have := (Box4.made (w.alloc (.cells #[.bool na, .slice a1 n1 c1, .bool false, .slice a2 n2 c2] 58)) (.bool nb) (.slice a3 n3 c3) (.bool false) (.slice a4 n4 c4) 58).later (B := w.heap.size + 2) ((Below.refl _ _).alloc (by simp) (.cells #[.bool false, .slice none 0 0, .bool false, .slice none 0 0] 58)) (by simp); simpa using this
  have B2 : Box4 L (w.heap.size + 2) (.bool false) (.slice none 0 0) (.bool false) (.slice none 0 0) 58 := by
    rw [hL]; have := Box4.made ((w.alloc (.cells #[.bool na, .slice a1 n1 c1, .bool false, .slice a2 n2 c2] 58)).alloc (.cells #[.bool nb, .slice a3 n3 c3, .bool false, .slice a4 n4 c4] 58)) (.bool false) (.slice none 0 0) (.bool false) (.slice none 0 0) 58; simpa using this
  have HEXT : Below w.heap.size w L := by rw [hL]; exact (((Below.refl w.heap.size w).alloc (Nat.le_refl _) _).alloc (by simp) _).alloc (by simp; omega) _
  have HL := Lib.hid hL
  have y1 := (ha.later HEXT (Nat.le_refl _))
  have y2 := (hb.later HEXT (Nat.le_refl _))
  clear hL ha hb
  have HLN := Lib.hid (And.intro hla (And.intro hla2 (And.intro hlb hlb2)))
  clear hla hlb hla2 hlb2
  go_enter Tryz.func129, Tryz.ntmps129
  go_wp2_with fail
  rw [← HL.out]
  obtain ⟨⟨hA0, hA1, hA2, hA3⟩, _, _, _, _⟩ := B0.cells
  obtain ⟨⟨hB0, hB1, hB2, hB3⟩, _, _, _, _⟩ := B1.cells
  have hk0 : w.heap.size < L.heap.size := by omega
  have hk1 : w.heap.size + 1 < L.heap.size := by omega
  have hk2 : w.heap.size + 2 < L.heap.size := by omega
  go_cut [] (fun wx => QBox w.heap.size w (w.heap.size + 1 + 1) (a - b) wx)
  case first =>
    go_region_law (first
      | (have hguard := hb1; go_simp; go_at_call 96; refine addQ_any (.agg #[.bool na, .slice a1 n1 c1, .bool false, .slice a2 n2 c2]) v1 a (-b) _ (y1.later hq1 (Nat.le_refl _)) hv1 HLN.out.1 HLN.out.2.1 (by rw [num_neg_q, Int.natAbs_neg]; exact HLN.out.2.2.1) HLN.out.2.2.2 _ ?_; intro v2 w2 hv2 hb2; obtain ⟨n5, a5, m5, c5, a6, m6, c6, rfl, _, _⟩ := hv2.parts; have bb : Below L.heap.size L w2 := hq1.trans (hb2.mono hq1.size); have d2 := B2.later bb hk2; obtain ⟨⟨hR0, hR1, hR2, hR3⟩, hR4, hR5, hR6, hR7⟩ := d2.cells; clear hguard; dsimp only)
      | (go_simp; go_at_call 75; refine negQ_any (.agg #[.bool nb, .slice a3 n3 c3, .bool false, .slice a4 n4 c4]) b _ y2.drew (Nat.le_trans HLN.out.2.2.1 (by omega)) _ ?_; intro v1 w1 hv1 hb1; have hq1 : Below L.heap.size L w1 := below_ofDrew hb1; obtain ⟨⟨hC0, hC1, hC2, hC3⟩, _, _, _, _⟩ := (B0.later hq1 hk0).cells; dsimp only))
    all_goals (go_wp2_with fail; go_meet; exact q_end w L w2 w.heap.size _ _ _ _ _ _ _ _ _ d2 (by rw [Rat.sub_eq_add_neg]; exact hv2) HEXT bb (by omega))
  case rest =>
    clear hA0 hA1 hA2 hA3 hB0 hB1 hB2 hB3
    obtain ⟨b1, x1, x2, hbx, he, ht1, ht2, hbl⟩ := hcut
    obtain ⟨⟨hR0, hR1, hR2, hR3⟩, _, _, _, _⟩ := hbx.cells
    go_wp2
    refine bodyPost_ret_at (by simp [results, Tryz.results129, go_sem, hR0, hR1, hR2, hR3] <;> rfl) rfl ?_
    exact HR.out _ _ ⟨x1, x2, by rw [he], ht1, ht2⟩ hbl
end Go.Proofs.YtegdcmcfeaohhaaGreatDoor

namespace Go.Proofs.YtegdcmcfeaohhaaGreatDoor
open Go Go.RowKit

set_option maxRecDepth 100000 in
theorem signQ_any (v : Value) (q : Rat) (w : World) (hq : IsQ w v q) (R : Ending → World → Prop)
    (hR : ∀ w', Below w.heap.size w w' → R (.returned (.int .i64 q.num.sign)) w') :
    Calls Tryz.prog 128 #[v] w R := by
  have HR := Lib.hid hR; clear hR
  obtain ⟨a1, n1, c1, a2, n2, c2, rfl, e1, _, _, _⟩ := hq.open
  have hz := num_len_zero q n1 e1
  clear hq e1
  by_cases h0 : n1 = 0
  · have h1 : q.num = 0 := Rat.num_eq_zero.2 (hz.1 h0)
    rw [h1] at HR ⊢
    subst h0
    clear hz h1
    go_enter Tryz.func128, Tryz.ntmps128
    go_wp2
    first | go_ret | skip
    exact HR.out _ ((Below.refl _ _).alloc (Nat.le_refl _) _)
  · have hne : q.num ≠ 0 := fun h => h0 (hz.2 (Rat.num_eq_zero.1 h))
    have e : (((n1 : Nat) : Int) == 0) = false := by simp; omega
    rcases Int.lt_or_gt_of_ne hne with h | h
    · rw [Int.sign_eq_neg_one_of_neg h] at HR
      rw [decide_eq_true h]
      clear hz hne h
      go_enter Tryz.func128, Tryz.ntmps128
      go_wp2
      first | go_ret | skip
      exact HR.out _ ((Below.refl _ _).alloc (Nat.le_refl _) _)
    · rw [Int.sign_eq_one_of_pos h] at HR
      rw [decide_eq_false (by omega : ¬ q.num < 0)]
      clear hz hne h
      go_enter Tryz.func128, Tryz.ntmps128
      go_wp2
      first | go_ret | skip
      exact HR.out _ ((Below.refl _ _).alloc (Nat.le_refl _) _)
end Go.Proofs.YtegdcmcfeaohhaaGreatDoor

namespace Go.Proofs.YtegdcmcfeaohhaaGreatDoor
open Go Go.RowKit

set_option maxRecDepth 100000 in
theorem cmpQ_any (va vb : Value) (a b : Rat) (w : World) (ha : IsQ w va a) (hb : IsQ w vb b) (hla : (dig 10000 a.num.natAbs).length ≤ 400000) (hla2 : (dig 10000 a.den).length ≤ 400000)
    (hlb : (dig 10000 b.num.natAbs).length ≤ 400000) (hlb2 : (dig 10000 b.den).length ≤ 400000)
    (R : Ending → World → Prop) (hR : ∀ w', Below w.heap.size w w' → R (.returned (.int .i64 (a - b).num.sign)) w') :
    Calls Tryz.prog 86 #[va, vb] w R := by
  have HR := Lib.hid hR; clear hR
  obtain ⟨na, a1, n1, c1, a2, n2, c2, rfl, _, _⟩ := ha.parts
  obtain ⟨nb, a3, n3, c3, a4, n4, c4, rfl, _, _⟩ := hb.parts
  obtain ⟨L, hL⟩ : ∃ L, L = (w.alloc (.cells #[.bool na, .slice a1 n1 c1, .bool false, .slice a2 n2 c2] 58)).alloc (.cells #[.bool nb, .slice a3 n3 c3, .bool false, .slice a4 n4 c4] 58) := ⟨_, rfl⟩
  have HEXT : Below w.heap.size w L := by rw [hL]; exact ((Below.refl w.heap.size w).alloc (Nat.le_refl _) _).alloc (by simp) _
  have HL := Lib.hid hL
  have y1 := (ha.later HEXT (Nat.le_refl _))
  have y2 := (hb.later HEXT (Nat.le_refl _))
  clear hL ha hb
  go_enter Tryz.func86, Tryz.ntmps86
  go_wp2_with fail
  rw [← HL.out]
  refine subQ_any _ _ a b L y1 y2 hla hla2 hlb hlb2 _ ?_
  intro v1 w1 hv1 hb1
  dsimp only
  go_wp2_with fail
  refine signQ_any v1 (a - b) w1 hv1 _ ?_
  intro w2 hb2
  dsimp only
  go_wp2
  first | go_ret | skip
  exact HR.out _ (HEXT.trans ((hb1.mono HEXT.size).trans (hb2.mono (Nat.le_trans HEXT.size hb1.size))))
end Go.Proofs.YtegdcmcfeaohhaaGreatDoor

namespace Go.Proofs.YtegdcmcfeaohhaaGreatDoor
open Go Go.RowKit

theorem cmp_rat (a b : Rat) : (a - b).num.sign = cmpZ (a.num * (b.den : Int)) (b.num * (a.den : Int)) := by
  have h1 : 0 ≤ (a - b).num ↔ b.num * (a.den : Int) ≤ a.num * (b.den : Int) := by
    rw [Rat.num_nonneg, ← Rat.le_iff_sub_nonneg, Rat.le_iff]
  have h2 : (a - b).num ≤ 0 ↔ a.num * (b.den : Int) ≤ b.num * (a.den : Int) := by
    have e : (b - a).num = -(a - b).num := by rw [← Rat.neg_sub, Rat.neg_num]
    rw [← Rat.le_iff, Rat.le_iff_sub_nonneg, ← Rat.num_nonneg, e]
    omega
  unfold cmpZ
  generalize (a - b).num = n at *
  generalize a.num * (b.den : Int) = x at *
  generalize b.num * (a.den : Int) = y at *
  rcases Int.lt_trichotomy n 0 with h | h | h
  · rw [Int.sign_eq_neg_one_of_neg h, if_pos (by omega)]
  · subst h; rw [if_neg (by omega), if_neg (by omega)]; rfl
  · rw [Int.sign_eq_one_of_pos h, if_neg (by omega), if_pos (by omega)]

set_option maxRecDepth 100000 in
set_option maxHeartbeats 4000000 in
theorem rcmp_any (va vb : Value) (a b : Rat) (w : World) (ha : IsR w va a) (hb : IsR w vb b) (hla : (dig W64 a.num.natAbs).length ≤ 1000000) (hla2 : (dig W64 a.den).length ≤ 1000000)
    (hlb : (dig W64 b.num.natAbs).length ≤ 1000000) (hlb2 : (dig W64 b.den).length ≤ 1000000) (R : Ending → World → Prop)
    (hR : ∀ w', Below w.heap.size w w' → R (.returned (.int .i64 (cmpZ (a.num * (b.den : Int)) (b.num * (a.den : Int))))) w') :
    Calls Tryz.prog 90 #[va, vb] w R := by
  have HR := Lib.hid hR; clear hR
  obtain ⟨na, a1, n1, c1, a2, n2, c2, hna, rfl, hn1, hn2⟩ := ha.parts
  obtain ⟨nb, a3, n3, c3, a4, n4, c4, hnb, rfl, hn3, hn4⟩ := hb.parts
  obtain ⟨L, hL⟩ : ∃ L, L = (w.alloc (.cells #[.bool na, .slice a1 n1 c1, .slice a2 n2 c2] 70)).alloc (.cells #[.bool nb, .slice a3 n3 c3, .slice a4 n4 c4] 70) := ⟨_, rfl⟩
  have hb1 : Below (w.heap.size + 1) (w.alloc (.cells #[.bool na, .slice a1 n1 c1, .slice a2 n2 c2] 70)) L := by rw [hL]; exact (Below.refl _ _).alloc (by simp) _
  have B0 : Box3 L w.heap.size (.bool na) (.slice a1 n1 c1) (.slice a2 n2 c2) 70 := (Box3.made w _ _ _ _).later hb1 (by omega)
  have B1 : Box3 L (w.heap.size + 1) (.bool nb) (.slice a3 n3 c3) (.slice a4 n4 c4) 70 := by
    have := Box3.made (w.alloc (.cells #[.bool na, .slice a1 n1 c1, .slice a2 n2 c2] 70)) (.bool nb) (.slice a3 n3 c3) (.slice a4 n4 c4) 70
    rw [World.size_alloc, ← hL] at this; exact this
  have HEXT : Hid (Below w.heap.size w L) := Lib.hid (by rw [hL]; exact ((Below.refl w.heap.size w).alloc (Nat.le_refl _) _).alloc (by simp) _)
  have hLs : L.heap.size = w.heap.size + 2 := by rw [hL]; simp
  have HL := Lib.hid hL
  have HLS := Lib.hid hLs
  have X1 : Hid (IsI L (.agg #[.bool na, .slice a1 n1 c1]) a.num) := Lib.hid (IsI.mk hna (hn1.later HEXT.out (Nat.le_refl _)))
  have X2 := Lib.hid (hn2.later HEXT.out (Nat.le_refl _))
  have X3 : Hid (IsI L (.agg #[.bool nb, .slice a3 n3 c3]) b.num) := Lib.hid (IsI.mk hnb (hn3.later HEXT.out (Nat.le_refl _)))
  have X4 := Lib.hid (hn4.later HEXT.out (Nat.le_refl _))
  have HLN := Lib.hid (And.intro hla (And.intro hla2 (And.intro hlb hlb2)))
  have HP1 : Hid ((dig W64 (a.num * (b.den : Int)).natAbs).length ≤ 2000000) := Lib.hid (by rw [Int.natAbs_mul, Int.natAbs_natCast]; exact mul_limbs _ _ _ _ hla hlb2)
  have HP2 : Hid ((dig W64 (b.num * (a.den : Int)).natAbs).length ≤ 2000000) := Lib.hid (by rw [Int.natAbs_mul, Int.natAbs_natCast]; exact mul_limbs _ _ _ _ hlb hla2)
  have HSOF : Hid (∀ w', Below (w.heap.size + 2) L w' → (Below (w.heap.size + 2) L w' ∧ (w'.cell? ⟨w.heap.size, 0, none⟩ = some (.bool na) ∧ w'.cell? ⟨w.heap.size, 1, none⟩ = some (.slice a1 n1 c1) ∧ w'.cell? ⟨w.heap.size, 2, none⟩ = some (.slice a2 n2 c2)) ∧
      (w'.cell? ⟨w.heap.size + 1, 0, none⟩ = some (.bool nb) ∧ w'.cell? ⟨w.heap.size + 1, 1, none⟩ = some (.slice a3 n3 c3) ∧ w'.cell? ⟨w.heap.size + 1, 2, none⟩ = some (.slice a4 n4 c4)))) :=
    Lib.hid fun w' hb => ⟨hb, (B0.later hb (by omega)).cells.1, (B1.later hb (by omega)).cells.1⟩
  clear hna hnb ha hb hn1 hn2 hn3 hn4 hla hlb hla2 hlb2 hb1 B0 B1 hL hLs
  go_enter Tryz.func90, Tryz.ntmps90
  go_wp2_with fail
  rw [← HL.out]
  go_region_held3 (fun w' => Below (w.heap.size + 2) L w' ∧ (w'.cell? ⟨w.heap.size, 0, none⟩ = some (.bool na) ∧ w'.cell? ⟨w.heap.size, 1, none⟩ = some (.slice a1 n1 c1) ∧ w'.cell? ⟨w.heap.size, 2, none⟩ = some (.slice a2 n2 c2)) ∧
      (w'.cell? ⟨w.heap.size + 1, 0, none⟩ = some (.bool nb) ∧ w'.cell? ⟨w.heap.size + 1, 1, none⟩ = some (.slice a3 n3 c3) ∧ w'.cell? ⟨w.heap.size + 1, 2, none⟩ = some (.slice a4 n4 c4)))
    (first
      | exact HSOF.out _ HQ3.out
      | exact HSOF.out _ HQ2.out
      | exact HSOF.out _ HQ1.out
      | exact HSOF.out _ (Below.refl _ _).drew)
    (first
      | (go_at_call 132; refine icmp_any v1 v2 (a.num * (b.den : Int)) (b.num * (a.den : Int)) _ (HV1.out.later HB2.out (Nat.le_refl _)) HV2.out (Nat.le_trans HP1.out (by omega)) (Nat.le_trans HP2.out (by omega)) _ ?_; intro w3 hb3; have HQ3 := Lib.hid (HQ2.out.trans (hb3.mono (Nat.le_trans (Nat.le_of_eq HLS.out.symm) HQ2.out.size))); clear hb3; dsimp only)
      | (have hguard := HQ1; go_at_call 131; refine scaled_any _ _ b.num a.den _ (X3.out.later HT1.out (Nat.le_refl _)) (X2.out.later HT1.out (Nat.le_refl _)) (Nat.le_trans HLN.out.2.2.1 (by omega)) (Nat.le_trans HLN.out.2.1 (by omega)) _ ?_; intro v2 w2 hv2 hb2; have HV2 := Lib.hid hv2; have HB2 := Lib.hid hb2; have HQ2 : Hid (Below (w.heap.size + 2) L w2) := Lib.hid (HQ1.out.trans (hb2.mono (Nat.le_trans (Nat.le_of_eq HLS.out.symm) HQ1.out.size))); clear hguard hv2 hb2; dsimp only)
      | (go_at_call 131; refine scaled_any _ _ a.num b.den _ (X1.out.later (Below.refl _ _).drew (Nat.le_refl _)) (X4.out.later (Below.refl _ _).drew (Nat.le_refl _)) (Nat.le_trans HLN.out.1 (by omega)) (Nat.le_trans HLN.out.2.2.2 (by omega)) _ ?_; intro v1 w1 hv1 hb1; have HV1 := Lib.hid hv1; have HT1 : Hid (Below L.heap.size L w1) := Lib.hid (below_unDrew hb1); have HQ1 : Hid (Below (w.heap.size + 2) L w1) := Lib.hid (by rw [← HLS.out]; exact HT1.out); clear hv1 hb1; dsimp only))
  all_goals
    go_wp2
    first | go_ret | skip
    exact HR.out _ (HEXT.out.trans (HQ3.out.mono (by omega)))
end Go.Proofs.YtegdcmcfeaohhaaGreatDoor

namespace Go.Proofs.YtegdcmcfeaohhaaGreatDoor
open Go Go.RowKit

theorem cmpZ_zero (a b : Int) : cmpZ a b = 0 ↔ a = b := by unfold cmpZ; split <;> (try split) <;> omega
theorem cmp_eq (x q : Rat) : cmpZ (x.num * (q.den : Int)) (q.num * (x.den : Int)) = 0 ↔ x = q := by
  rw [← cmp_rat, Int.sign_eq_zero_iff_zero, Rat.num_eq_zero]
  constructor
  · intro h
    have h2 : x - q + q = 0 + q := by rw [h]
    rwa [Rat.sub_add_cancel, Rat.zero_add] at h2
  · rintro rfl; exact Rat.sub_self

def nextV (w0 : World) : Value := .func (.func 124) #[] #[.pointer (some ⟨w0.heap.size + 1, 0, none⟩), .pointer (some ⟨w0.heap.size, 0, none⟩)]

set_option maxRecDepth 100000 in
set_option maxHeartbeats 8000000 in
theorem clo_any (w0 w : World) (B bn : Nat) (s1 s2 : Value) (ss cs : List Rat) (k : Nat) (vx : Value) (x : Rat) (h : StR w0 w B s1 s2 ss cs k) (h1 : RsL w0 s1 ss) (h2 : RsL w0 s2 cs) (hl : ss.length = cs.length) (h8 : cs.length ≤ 8) (hb1 : AllBd 60 ss) (hb2 : AllBd 60 cs) (hk : k < 40)
    (hbn : w.heap[bn]? = some (.cells #[nextV w0] 104 (0, 0))) (hx : IsR w0 vx x) (hxb : Bd 60 x) (R : Ending → World → Prop)
    (hR : ∀ q w', termsQ ss cs (k + 1) = termsQ ss cs k ++ [q] → StR w0 w' B s1 s2 ss cs (k + 1) → FrB B (w0.heap.size + 1) w w' → R (.returned (.bool (decide (x ≠ q)))) w') :
    Calls Tryz.prog 89 #[vx, .pointer (some ⟨bn, 0, none⟩)] w R := by
  have HR := Lib.hid hR; clear hR
  obtain ⟨nx, a1, n1, c1, a2, n2, c2, hnx, rfl, t1, t2⟩ := hx.parts
  obtain ⟨L, hL⟩ : ∃ L, L = w.alloc (.cells #[.bool nx, .slice a1 n1 c1, .slice a2 n2 c2] 70) := ⟨_, rfl⟩
  have hbL : Below w.heap.size w L := by rw [hL]; exact (Below.refl _ _).alloc (Nat.le_refl _) _
  have HBX : Hid (Box3 L w.heap.size (.bool nx) (.slice a1 n1 c1) (.slice a2 n2 c2) 70) := Lib.hid (by rw [hL]; exact Box3.made _ _ _ _ _)
  have HBL := Lib.hid hbL
  have HST := Lib.hid (h.later hbL)
  have HSZ : Hid (w0.heap.size + 2 ≤ B ∧ B ≤ w.heap.size) := Lib.hid ⟨h.1, h.2.1⟩
  have HOWN : Hid (∀ a m c, L.heap[w0.heap.size + 1]? = some (.cells #[.slice a m c] 63 (0, 0)) → (Value.slice a m c).ownBlock ≠ some w.heap.size) := Lib.hid (by
    intro a m c hc e
    obtain ⟨k1, k2, k3, k4, a', m', c', k5, k6⟩ := h
    rw [hbL.block _ (Array.getElem?_eq_some_iff.1 k5).1, k5] at hc
    simp only [Option.some.injEq, Obj.cells.injEq, and_true, Array.mk.injEq, List.cons.injEq] at hc
    rw [← hc] at e
    have := k6.own_lt _ e
    omega)
  have HRS := Lib.hid (And.intro h1 h2)
  have HBD := Lib.hid (And.intro hl (And.intro h8 (And.intro hb1 hb2)))
  have HK := Lib.hid hk
  have HX := Lib.hid hx
  have HXB := Lib.hid hxb
  have HXL := Lib.hid (hxb.len (B := W64) (by rw [W64_eq]; omega))
  have hn : L.cell? ⟨bn, 0, none⟩ = some (nextV w0) := (one_cells (w := L) (b := bn) (by rw [hbL.block _ (Array.getElem?_eq_some_iff.1 hbn).1]; exact hbn)).1
  have hlt : bn < w.heap.size := (Array.getElem?_eq_some_iff.1 hbn).1
  obtain ⟨⟨hA0, hA1, hA2⟩, _, _, _⟩ := HBX.out.cells
  have HL := Lib.hid hL
  unfold nextV at hn
  rw [hL] at hA0 hA1 hA2 hn
  clear h h1 h2 hl h8 hb1 hb2 hk hbn hx hxb hnx t1 t2 hL hbL
  go_enter Tryz.func89, Tryz.ntmps89
  go_wp2_with fail
  rw [HL.out.symm] at hA0 hA1 hA2 hn
  rw [← HL.out]
  go_region_law (first
    | (have hguard := HFR5; (try go_simp); go_at_call 90; refine rcmp_any _ _ x q _ HX5.out HV5.out (Nat.le_trans HXL.out.1 (by omega)) (Nat.le_trans HXL.out.2 (by omega)) (Nat.le_trans HQL.out.1 (by omega)) (Nat.le_trans HQL.out.2 (by omega)) _ ?_; intro w6 hb6; obtain ⟨z, hz⟩ : ∃ z, z = cmpZ (x.num * (q.den : Int)) (q.num * (x.den : Int)) := ⟨_, rfl⟩; rw [← hz]; have HZ := Lib.hid hz; have HB6 := Lib.hid hb6; clear hguard hz hb6; dsimp only)
    | ((try go_simp); go_at_call 124; refine stepu_any w0 _ B _ _ ss cs k (HST.out.later (by first | exact (Below.refl _ _).drew | exact Below.refl _ _)) HRS.out.1 HRS.out.2 HBD.out.1 HBD.out.2.1 HBD.out.2.2.1 HBD.out.2.2.2 HK.out _ ?_; intro v5 q w5 hq hv5 hst5 hfr5 hoth5; obtain ⟨m5, a5, n5, c5, a6, n6, c6, hm5, rfl, _, _⟩ := hv5.parts; have HV5 := Lib.hid hv5; have HQ5 := Lib.hid hq; have HST5 := Lib.hid hst5; have HFR5 : Hid (FrB B (w0.heap.size + 1) L w5) := Lib.hid (by first | exact hfr5 | exact (FrB.of (Below.refl _ _).drew).trans hfr5); have HBX5 : Hid (Box3 w5 w.heap.size (.bool nx) (.slice a1 n1 c1) (.slice a2 n2 c2) 70) := Lib.hid (by have k9 := hoth5 w.heap.size (lt_of_block HBX.out) (by have := HSZ.out; omega) HOWN.out; unfold Box3; rw [k9]; exact HBX.out); have HX5 := Lib.hid (HX.out.later hst5.2.2.2.1 (Nat.le_refl _)); have HQB : Hid (Bd 22200 q) := Lib.hid (terms_bd HBD.out.1 HBD.out.2.1 HBD.out.2.2.1 HBD.out.2.2.2 (n := k + 1) (by have := HK.out; omega) k q (by rw [hq, List.getElem?_append_right (by rw [termsQ_len]; omega), termsQ_len]; simp)); have HQL := Lib.hid (HQB.out.len (B := W64) (by rw [W64_eq]; omega)); obtain ⟨⟨hS0, hS1, hS2⟩, _, _, _⟩ := HBX5.out.cells; clear hm5 hv5 hq hst5 hfr5 hoth5; dsimp only))
  all_goals
    have HFRB : Hid (FrB B (w0.heap.size + 1) w w6) := Lib.hid (((FrB.of (HBL.out.mono HSZ.out.2)).trans HFR5.out).trans (FrB.of (HB6.out.mono (Nat.le_trans HST5.out.2.1 (Nat.le_refl _)))))
    have HFIN := Lib.hid (HR.out q w6 HQ5.out (HST5.out.later HB6.out) HFRB.out)
    by_cases hz0 : z = 0
    · rw [decide_eq_false (by rw [ne_eq, Classical.not_not, ← cmp_eq, ← HZ.out]; exact hz0)] at HFIN
      subst hz0
      go_wp2
      first | go_ret | skip
      exact HFIN.out
    · have hzz : true = (z != 0) := by simp [hz0]
      rw [decide_eq_true (by rw [ne_eq, ← cmp_eq, ← HZ.out]; exact hz0), hzz] at HFIN
      go_wp2
      first | go_ret | skip
      exact HFIN.out

def IdxRel (w0 w : World) (B : Nat) (s1 s2 : Value) (ss cs xs : List Rat) (i : Value) (wr : World) : Prop :=
  ∃ k : Nat, i = .int .i64 (k : Int) ∧ k ≤ xs.length ∧ StR w0 wr B s1 s2 ss cs k ∧ termsQ ss cs k = xs.take k ∧ FrB B (w0.heap.size + 1) w wr

set_option maxRecDepth 100000 in
set_option maxHeartbeats 8000000 in
theorem idx_any (w0 w : World) (B bn : Nat) (s1 s2 v : Value) (ss cs xs : List Rat) (h : StR w0 w B s1 s2 ss cs 0) (h1 : RsL w0 s1 ss) (h2 : RsL w0 s2 cs) (hl : ss.length = cs.length) (h8 : cs.length ≤ 8) (hb1 : AllBd 60 ss) (hb2 : AllBd 60 cs)
    (hbn : w.heap[bn]? = some (.cells #[nextV w0] 104 (0, 0))) (hbB : bn < B) (hbt : w0.heap.size + 1 < bn) (hv : RsL w0 v xs) (hn : xs.length ≤ 40) (hxs : AllBd 60 xs) (R : Ending → World → Prop)
    (hR : ∀ (z : Int) w', ((z = -1 ∧ xs = termsQ ss cs xs.length) ∨ (0 ≤ z ∧ xs ≠ termsQ ss cs xs.length)) → FrB B (w0.heap.size + 1) w w' → R (.returned (.int .i64 z)) w') :
    Calls Tryz.prog 130 #[v, .func (.func 89) #[] #[.pointer (some ⟨bn, 0, none⟩)]] w R := by
  have HR := Lib.hid hR; clear hR
  obtain ⟨ao, n, cap, rfl, hnl, hc, hh⟩ := SlE.open hv
  have HH := Lib.hid hh
  have HN := Lib.hid (And.intro hnl hn)
  have HRS := Lib.hid (And.intro h1 h2)
  have HBD := Lib.hid (And.intro hl (And.intro h8 (And.intro hb1 (And.intro hb2 hxs))))
  have HBN := Lib.hid (And.intro hbn (And.intro hbB hbt))
  have HST : Hid (IdxRel w0 w B s1 s2 ss cs xs (.int .i64 0) w) := Lib.hid ⟨0, rfl, Nat.zero_le _, h, rfl, FrB.of (Below.refl _ _)⟩
  clear h h1 h2 hl h8 hb1 hb2 hbn hbB hbt hv hn hxs hnl hc hh
  go_enter Tryz.func130, Tryz.ntmps130
  go_wp2
  go_loopw [8] (fun i wr => IdxRel w0 w B s1 s2 ss cs xs i wr) (fun i _ => n - (intOf i).toNat)
  case atStart => exact HST.out
  case round =>
    clear HST
    obtain ⟨k, rfl, hk, hst, hq, hfr⟩ := hrel
    have HSTR := Lib.hid hst
    have HQ := Lib.hid hq
    have HFR := Lib.hid hfr
    by_cases hkn : k = n
    · have hk2 : ¬ (k : Int) < (n : Int) := by omega
      have HF := Lib.hid (HR.out (-1) wr (.inl ⟨rfl, by
        have e : k = xs.length := by rw [hkn]; exact HN.out.1
        rw [← e, hq, e, List.take_length]⟩) hfr)
      clear hk hst hq hfr hkn
      go_wp2
      first | go_ret | skip
      exact HF.out
    · have hkl : k < n := by have := HN.out.1; omega
      obtain ⟨x, hx⟩ : ∃ x, xs[k]? = some x := ⟨_, List.getElem?_eq_getElem (by rw [← HN.out.1]; exact hkl)⟩
      have HX := Lib.hid hx
      have HXB := Lib.hid (HBD.out.2.2.2.2 k x hx)
      obtain ⟨b, off, cc, rfl, hb, hcell, hE⟩ := HH.out.at k x hx
      obtain ⟨x1, y1, z1, x2, y2, z2, hcs, hi1, hi2⟩ := hE
      obtain ⟨ng, hng⟩ : ∃ ng, ng = decide (x.num < 0) := ⟨_, rfl⟩
      rw [← hng] at hcs
      have hbel := hst.2.2.2.1
      have hd0 : wr.cell? ⟨b, off + k * 3, none⟩ = some (.bool ng) := by rw [hbel.cell (p := ⟨b, off + k * 3, none⟩) hb]; exact hcell 0 _ (by rw [hcs]; rfl)
      have hd1 : wr.cell? ⟨b, off + k * 3 + 1, none⟩ = some (.slice x1 y1 z1) := by rw [hbel.cell (p := ⟨b, off + k * 3 + 1, none⟩) hb]; exact hcell 1 _ (by rw [hcs]; rfl)
      have hd2 : wr.cell? ⟨b, off + k * 3 + 2, none⟩ = some (.slice x2 y2 z2) := by rw [hbel.cell (p := ⟨b, off + k * 3 + 2, none⟩) hb]; exact hcell 2 _ (by rw [hcs]; rfl)
      have HXR := Lib.hid (show IsR w0 (.agg #[.bool ng, .slice x1 y1 z1, .slice x2 y2 z2]) x from ⟨_, _, by rw [hng], hi1, hi2⟩)
      have hk0 : (0 : Int) ≤ (k : Int) := by omega
      have hk1 : (k : Int) < (n : Int) := by omega
      have hw1 : IntKind.i64.wrap ((k : Int) + 1) = ((k + 1 : Nat) : Int) := by rw [IntWalk.i64_in _ (by have := HN.out; omega)]; omega
      have HKL := Lib.hid hkl
      have HCN : Hid (wr.heap[bn]? = some (.cells #[nextV w0] 104 (0, 0))) := Lib.hid (by rw [hfr.block bn HBN.out.2.1 (by have := HBN.out.2.2; omega)]; exact HBN.out.1)
      clear hx hcell hcs hi1 hi2 hng hb hk hst hq hfr hkn hkl hbel
      go_wp2_with fail
      refine clo_any w0 wr B bn s1 s2 ss cs k _ x HSTR.out HRS.out.1 HRS.out.2 HBD.out.1 HBD.out.2.1 HBD.out.2.2.1 HBD.out.2.2.2.1 (by have := HN.out; have := HKL.out; omega) HCN.out HXR.out HXB.out _ ?_
      intro q w6 hq6 hst6 hfr6
      have HFR6 := Lib.hid (HFR.out.trans hfr6)
      by_cases hxq : x = q
      · subst hxq
        have HREL : Hid (IdxRel w0 w B s1 s2 ss cs xs (.int .i64 ((k + 1 : Nat) : Int)) w6) := Lib.hid ⟨k + 1, rfl, by have := HN.out; have := HKL.out; omega, hst6, by
          rw [hq6, HQ.out, List.take_add_one, HX.out]; rfl, HFR6.out⟩
        rw [decide_eq_false (by simp)]
        clear hq6 hst6 hfr6 hd0 hd1 hd2
        dsimp only
        go_wp2
        go_roundw
        case rel => exact HREL.out
        case measure => simp [intOf]; have := HKL.out; omega
      · have HF := Lib.hid (HR.out (k : Int) w6 (.inr ⟨by omega, fun e => hxq (by
          have hat := termsQ_at hq6 (xs.length - (k + 1))
          rw [show k + 1 + (xs.length - (k + 1)) = xs.length by have := HN.out; have := HKL.out; omega, ← e, HX.out] at hat
          exact Option.some.inj hat)⟩) HFR6.out)
        rw [decide_eq_true hxq]
        clear hq6 hst6 hfr6 hd0 hd1 hd2 hxq
        dsimp only
        go_wp2
        first | go_ret | skip
        exact HF.out

set_option maxRecDepth 100000 in
set_option maxHeartbeats 2000000 in
theorem cont_any (w0 w : World) (B bn : Nat) (s1 s2 v : Value) (ss cs xs : List Rat) (h : StR w0 w B s1 s2 ss cs 0) (h1 : RsL w0 s1 ss) (h2 : RsL w0 s2 cs) (hl : ss.length = cs.length) (h8 : cs.length ≤ 8) (hb1 : AllBd 60 ss) (hb2 : AllBd 60 cs)
    (hbn : w.heap[bn]? = some (.cells #[nextV w0] 104 (0, 0))) (hbB : bn < B) (hbt : w0.heap.size + 1 < bn) (hv : RsL w0 v xs) (hn : xs.length ≤ 40) (hxs : AllBd 60 xs) (R : Ending → World → Prop)
    (hR : ∀ w', FrB B (w0.heap.size + 1) w w' → R (.returned (.bool (decide (xs ≠ termsQ ss cs xs.length)))) w') :
    Calls Tryz.prog 88 #[v, .func (.func 89) #[] #[.pointer (some ⟨bn, 0, none⟩)]] w R := by
  have HR := Lib.hid hR; clear hR
  have HA := Lib.hid (idx_any w0 w B bn s1 s2 v ss cs xs h h1 h2 hl h8 hb1 hb2 hbn hbB hbt hv hn hxs)
  obtain ⟨ao, n, cap, rfl, hnl, hc, hh⟩ := SlE.open hv
  clear h h1 h2 hl h8 hb1 hb2 hbn hbB hbt hv hn hxs hnl hc hh
  go_enter Tryz.func88, Tryz.ntmps88
  go_wp2_with fail
  refine HA.out _ ?_
  intro z w6 hz hfr
  have HF := Lib.hid (HR.out w6 hfr)
  rcases hz with ⟨rfl, he⟩ | ⟨hz, he⟩
  · rw [decide_eq_false (by simpa using he)] at HF
    clear he hfr
    dsimp only
    go_wp2
    first | go_ret | skip
    exact HF.out
  · rw [decide_eq_true he] at HF
    clear he hfr
    dsimp only
    go_wp2
    first | go_ret | skip
    exact HF.out
end Go.Proofs.YtegdcmcfeaohhaaGreatDoor

namespace Go.Proofs.YtegdcmcfeaohhaaGreatDoor
open Go Go.RowKit

set_option maxRecDepth 100000 in
set_option maxHeartbeats 1000000 in
theorem l03list_any (v : Value) (L : List ByteArray) (w : World) (h : TxL w v L) (hn : L.length ≤ 1048576) (hs : ∀ s ∈ L, s.size ≤ 1048576) (R : Ending → World → Prop)
    (hR : ∀ w', Below w.heap.size w w' → R (.returned (.bool (decide (L.length ≤ 40) && L.all isNum))) w') :
    Calls Tryz.prog 85 #[v] w R := by
  have HR := Lib.hid hR; clear hR
  obtain ⟨ao, n, cap, rfl, hnl, hc, hh⟩ := h.open
  have HH := Lib.hid hh
  have HN := Lib.hid hnl
  have HS := Lib.hid hs
  have HNN := Lib.hid hn
  clear h hh hs hn
  by_cases h40 : n ≤ 40
  · have e1 : ((n : Int) ≤ 40) := by omega
    rw [decide_eq_true (show L.length ≤ 40 by omega), Bool.true_and] at HR
    clear h40 hnl hc
    go_enter Tryz.func85, Tryz.ntmps85
    go_wp2_with fail
    refine all_any _ L _ HH.out HNN.out HS.out _ ?_
    intro w1 hb1
    obtain ⟨x, hx⟩ : ∃ x, x = L.all isNum := ⟨_, rfl⟩
    rw [← hx] at HR ⊢
    have HB := Lib.hid hb1
    clear hb1 hx
    dsimp only
    go_wp2
    first | go_ret | skip
    exact HR.out _ HB.out
  · have e1 : ¬ ((n : Int) ≤ 40) := by omega
    rw [decide_eq_false (show ¬ L.length ≤ 40 by omega), Bool.false_and] at HR
    clear h40 hnl hc
    go_enter Tryz.func85, Tryz.ntmps85
    go_wp2
    first | go_ret | skip
    exact HR.out _ (Below.refl _ _)
end Go.Proofs.YtegdcmcfeaohhaaGreatDoor

namespace Go.Proofs.YtegdcmcfeaohhaaGreatDoor
open Go Go.RowKit

/-- whether texts are the first terms of a recurrence -/
noncomputable def isrB (L1 L2 L3 : List ByteArray) : Bool := recB L1 L2 && ((decide (L3.length ≤ 40) && L3.all isNum) && decide (L3.map qOf = termsQ (L1.map qOf) (L2.map qOf) L3.length))

theorem sub_sign (a b : Rat) : (a - b).num.sign = 0 ↔ a = b := by
  rw [Int.sign_eq_zero_iff_zero, Rat.num_eq_zero]
  constructor
  · intro h
    have h2 : a - b + b = 0 + b := by rw [h]
    rwa [Rat.sub_add_cancel, Rat.zero_add] at h2
  · rintro rfl; exact Rat.sub_self

def IsrRel (w : World) (n : Nat) (ts xs : List Rat) (i : Value) (wr : World) : Prop :=
  ∃ k : Nat, i = .int .i64 (k : Int) ∧ k ≤ n ∧ ts.take k = xs.take k ∧ Below w.heap.size w wr

set_option maxRecDepth 100000 in
set_option maxHeartbeats 8000000 in
theorem spec_isr (v vt : Value) (L1 L2 L3 : List ByteArray) (w : World) (h : IsRec w v L1 L2) (hn1 : L1.length ≤ 1048576) (hs1 : ∀ s ∈ L1, s.size ≤ 1048576) (hn2 : L2.length ≤ 1048576) (hs2 : ∀ s ∈ L2, s.size ≤ 1048576)
    (ht : TxL w vt L3) (hn3 : L3.length ≤ 1048576) (hs3 : ∀ s ∈ L3, s.size ≤ 1048576) (R : Ending → World → Prop)
    (hR : ∀ w', Below w.heap.size w w' → R (.returned (.bool (isrB L1 L2 L3))) w') :
    Calls Tryz.prog 41 #[v, vt] w R := by
  have HR := Lib.hid hR; clear hR
  obtain ⟨a1, n1, c1, a2, n2, c2, rfl, e1, e2, h1, h2⟩ := h.parts
  obtain ⟨a3, n3, c3, rfl, e3, _, h3⟩ := ht.open
  obtain ⟨L, hL⟩ : ∃ L, L = w.alloc (.cells #[.slice a1 n1 c1, .slice a2 n2 c2] 36) := ⟨_, rfl⟩
  have HBL : Hid (Below w.heap.size w L) := Lib.hid (by rw [hL]; exact (Below.refl _ _).alloc (Nat.le_refl _) _)
  have HBX : Hid (Box2 L w.heap.size (.slice a1 n1 c1) (.slice a2 n2 c2) 36) := Lib.hid (by rw [hL]; exact Box2.made _ _ _ _)
  have HL := Lib.hid hL
  have H1 := Lib.hid (h1.later HBL.out (Nat.le_refl _))
  have H2 := Lib.hid (h2.later HBL.out (Nat.le_refl _))
  have H3 := Lib.hid (TxL.later h3 HBL.out (Nat.le_refl _))
  have HH := Lib.hid (And.intro hn1 (And.intro hs1 (And.intro hn2 hs2)))
  have HH3 := Lib.hid (And.intro hn3 hs3)
  have HE := Lib.hid (And.intro e1 (And.intro e2 e3))
  clear h e1 e2 e3 h1 h2 h3 ht hn1 hs1 hn2 hs2 hn3 hs3 hL
  go_enter Tryz.func41, Tryz.ntmps41
  go_wp2_with fail
  rw [← HL.out]
  refine l03is_any _ n1 n2 c1 c2 a1 a2 L1 L2 L HBX.out HE.out.1 HE.out.2.1 H1.out H2.out HH.out.1 HH.out.2.1 HH.out.2.2.1 HH.out.2.2.2 _ ?_
  intro w1 hb1
  have HB1 := Lib.hid (HBL.out.trans (hb1.mono HBL.out.size))
  have HX1 := Lib.hid (HBX.out.later hb1 (lt_of_block HBX.out))
  have H11 := Lib.hid (TxL.later H1.out hb1 (Nat.le_refl _))
  have H21 := Lib.hid (TxL.later H2.out hb1 (Nat.le_refl _))
  have H31 := Lib.hid (TxL.later H3.out hb1 (Nat.le_refl _))
  clear hb1
  cases hrec : recB L1 L2 with
  | false =>
    have HF := Lib.hid (HR.out w1 HB1.out)
    rw [show isrB L1 L2 L3 = false by unfold isrB; rw [hrec]; rfl] at HF
    clear hrec
    dsimp only
    go_wp2
    first | go_ret | skip
    exact HF.out
  | true =>
  have HREC := Lib.hid hrec
  clear hrec
  dsimp only
  go_wp2_with fail
  refine l03list_any _ L3 w1 H31.out HH3.out.1 HH3.out.2 _ ?_
  intro w2 hb2
  have HB2 := Lib.hid (HB1.out.trans (hb2.mono HB1.out.size))
  have HX2 := Lib.hid (HX1.out.later hb2 (lt_of_block HX1.out))
  have H12 := Lib.hid (TxL.later H11.out hb2 (Nat.le_refl _))
  have H22 := Lib.hid (TxL.later H21.out hb2 (Nat.le_refl _))
  have H32 := Lib.hid (TxL.later H31.out hb2 (Nat.le_refl _))
  clear hb2
  cases hlist : (decide (L3.length ≤ 40) && L3.all isNum) with
  | false =>
    have HF := Lib.hid (HR.out w2 HB2.out)
    rw [show isrB L1 L2 L3 = false by unfold isrB; rw [hlist, Bool.false_and, Bool.and_false]] at HF
    clear hlist
    dsimp only
    go_wp2
    first | go_ret | skip
    exact HF.out
  | true =>
  have HLL : Hid (L3.length ≤ 40 ∧ L3.all isNum = true) := Lib.hid (by
    rw [Bool.and_eq_true] at hlist
    exact ⟨of_decide_eq_true hlist.1, hlist.2⟩)
  have HISR : Hid (isrB L1 L2 L3 = decide (L3.map qOf = termsQ (L1.map qOf) (L2.map qOf) L3.length)) := Lib.hid (by
    unfold isrB; rw [HREC.out, hlist]; rfl)
  have HN3 : Hid (n3 ≤ 40) := Lib.hid (by rw [HE.out.2.2]; exact HLL.out.1)
  clear hlist
  dsimp only
  go_wp2_with fail
  refine l03terms_any _ n1 n2 c1 c2 a1 a2 L1 L2 n3 w2 HX2.out H12.out H22.out HREC.out HN3.out _ ?_
  intro v4 w4 hv4 hb4
  obtain ⟨a4, n4, c4, rfl, e4⟩ := hv4.shape
  obtain ⟨ts, hts⟩ : ∃ ts, ts = termsQ (L1.map qOf) (L2.map qOf) n3 := ⟨_, rfl⟩
  obtain ⟨xs, hxs⟩ : ∃ xs, xs = L3.map qOf := ⟨_, rfl⟩
  have HTB : Hid (AllBd 22200 ts) := Lib.hid (by
    have k := recB_four HREC.out
    rw [hts]
    exact terms_bd (by rw [List.length_map, List.length_map]; exact k.1) (by rw [List.length_map]; exact k.2.1) (allBd_of k.2.2.1) (allBd_of k.2.2.2) HN3.out)
  have HXB : Hid (AllBd 60 xs) := Lib.hid (by rw [hxs]; exact allBd_of HLL.out.2)
  rw [← HE.out.2.2, ← hts, ← hxs] at HISR
  rw [← hts] at hv4 e4
  have HLN : Hid (n4 = n3 ∧ ts.length = n3 ∧ xs.length = n3) := Lib.hid ⟨by rw [e4, hts, termsQ_len], by rw [hts, termsQ_len], by rw [hxs, List.length_map]; exact HE.out.2.2.symm⟩
  have HXS := Lib.hid hxs
  have HV4 := Lib.hid hv4.sl
  have HB4 := Lib.hid (HB2.out.trans (hb4.mono HB2.out.size))
  have H34 := Lib.hid (TxL.later H32.out hb4 (Nat.le_refl _))
  have HST : Hid (IsrRel w4 n3 ts xs (.int .i64 0) w4) := Lib.hid ⟨0, rfl, Nat.zero_le _, rfl, Below.refl _ _⟩
  clear hv4 hb4 e4 hts hxs
  dsimp only
  go_wp2
  go_loopw [6] (fun i wr => IsrRel w4 n3 ts xs i wr) (fun i _ => n3 - (intOf i).toNat)
  case atStart => exact HST.out
  case round =>
    clear HST
    obtain ⟨k, rfl, hk, htk, hbel⟩ := hrel
    have HTK := Lib.hid htk
    have HBE := Lib.hid hbel
    by_cases hkn : k = n3
    · have hk2 : ¬ (k : Int) < (n3 : Int) := by omega
      have he : xs = ts := by
        have k1 : ts.take k = ts := List.take_of_length_le (by have := HLN.out; omega)
        have k2 : xs.take k = xs := List.take_of_length_le (by have := HLN.out; omega)
        rw [← k1, ← k2, htk]
      have HF := Lib.hid (HR.out wr (HB4.out.trans (hbel.mono HB4.out.size)))
      rw [HISR.out, decide_eq_true he] at HF
      clear hk htk hbel hkn he
      go_wp2
      first | go_ret | skip
      exact HF.out
    · have hkl : k < n3 := by omega
      have hk0 : (0 : Int) ≤ (k : Int) := by omega
      have hk1 : (k : Int) < (n3 : Int) := by omega
      have hk4 : (k : Int) < (n4 : Int) := by have := HLN.out.1; omega
      have hw1 : IntKind.i64.wrap ((k : Int) + 1) = ((k + 1 : Nat) : Int) := by rw [IntWalk.i64_in _ (by have := HN3.out; omega)]; omega
      obtain ⟨s, hs⟩ : ∃ s, L3[k]? = some s := ⟨_, List.getElem?_eq_getElem (by rw [← HE.out.2.2]; exact hkl)⟩
      obtain ⟨t, ht⟩ : ∃ t, ts[k]? = some t := ⟨_, List.getElem?_eq_getElem (by have := HLN.out; omega)⟩
      have hxk : xs[k]? = some (qOf s) := by rw [HXS.out, List.getElem?_map, hs]; rfl
      have HSN : Hid (numO s.data.toList = some (qOf s)) := Lib.hid (isNum_some (List.all_eq_true.1 HLL.out.2 s (List.mem_of_getElem? hs)))
      have HTT := Lib.hid (And.intro ht hxk)
      have HL1 := Lib.hid ((HTB.out k t ht).len (B := 10000) (by omega))
      have HL2 := Lib.hid ((HXB.out k _ hxk).len (B := 10000) (by omega))
      obtain ⟨b, off, rfl, hb, hcell⟩ := TxL.at H34.out k s hs
      have hc0 : wr.cell? ⟨b, off + k, none⟩ = some (.string s) := by rw [hbel.cell (p := ⟨b, off + k, none⟩) hb]; exact hcell
      obtain ⟨b2, off2, cc, rfl, hb2, hcell2, hE⟩ := HV4.out.at k t ht
      obtain ⟨x1, y1, z1, x2, y2, z2, hcs, hi1⟩ := hE
      obtain ⟨ng, hng⟩ : ∃ ng, ng = decide (t.num < 0) := ⟨_, rfl⟩
      rw [← hng] at hcs hi1
      have hd0 : wr.cell? ⟨b2, off2 + k * 4, none⟩ = some (.bool ng) := by rw [hbel.cell (p := ⟨b2, off2 + k * 4, none⟩) hb2]; exact hcell2 0 _ (by rw [hcs]; rfl)
      have hd1 : wr.cell? ⟨b2, off2 + k * 4 + 1, none⟩ = some (.slice x1 y1 z1) := by rw [hbel.cell (p := ⟨b2, off2 + k * 4 + 1, none⟩) hb2]; exact hcell2 1 _ (by rw [hcs]; rfl)
      have hd2 : wr.cell? ⟨b2, off2 + k * 4 + 2, none⟩ = some (.bool false) := by rw [hbel.cell (p := ⟨b2, off2 + k * 4 + 2, none⟩) hb2]; exact hcell2 2 _ (by rw [hcs]; rfl)
      have hd3 : wr.cell? ⟨b2, off2 + k * 4 + 3, none⟩ = some (.slice x2 y2 z2) := by rw [hbel.cell (p := ⟨b2, off2 + k * 4 + 3, none⟩) hb2]; exact hcell2 3 _ (by rw [hcs]; rfl)
      have HTQ := Lib.hid (hi1.later hbel (Nat.le_refl _))
      have HBB : Hid (b2 < wr.heap.size) := Lib.hid (Nat.lt_of_lt_of_le hb2 hbel.size)
      have HKL := Lib.hid hkl
      have HD := Lib.hid (And.intro hd0 (And.intro hd1 (And.intro hd2 hd3)))
      clear hs ht hxk hcell hcell2 hcs hi1 hng hb hb2 hk htk hbel hkn hkl
      go_wp2_with fail
      go_region_law (first
        | (have hguard := HB5; (try go_simp); go_at_call 86; refine cmpQ_any _ _ t (qOf s) _ (HTQ.out.later HB5.out (Nat.le_refl _)) HV5.out (Nat.le_trans HL1.out.1 (by omega)) (Nat.le_trans HL1.out.2 (by omega)) (Nat.le_trans HL2.out.1 (by omega)) (Nat.le_trans HL2.out.2 (by omega)) _ ?_; intro w6 hb6; obtain ⟨z, hz⟩ : ∃ z, z = (t - qOf s).num.sign := ⟨_, rfl⟩; rw [← hz]; have HZ := Lib.hid hz; have HB6 := Lib.hid (HB5.out.trans (hb6.mono HB5.out.size)); clear hguard hz hb6; dsimp only)
        | ((try go_simp); go_at_call 76; refine ofq_any s (qOf s) _ HSN.out _ ?_; intro v5 w5 hv5 hb5; obtain ⟨m5, a5, n5, k5, a6, n6, k6, rfl, _, _⟩ := hv5.parts; have HV5 := Lib.hid hv5; have HB5 : Hid (Below wr.heap.size wr w5) := Lib.hid (by first | exact hb5 | exact below_unDrew hb5); have hy0 := (HB5.out.cell (p := ⟨b2, off2 + k * 4, none⟩) HBB.out).trans HD.out.1; have hy1 := (HB5.out.cell (p := ⟨b2, off2 + k * 4 + 1, none⟩) HBB.out).trans HD.out.2.1; have hy2 := (HB5.out.cell (p := ⟨b2, off2 + k * 4 + 2, none⟩) HBB.out).trans HD.out.2.2.1; have hy3 := (HB5.out.cell (p := ⟨b2, off2 + k * 4 + 3, none⟩) HBB.out).trans HD.out.2.2.2; clear hv5 hb5; dsimp only))
      all_goals
        have HBW := Lib.hid (HBE.out.trans (HB6.out.mono HBE.out.size))
        by_cases hz0 : z = 0
        · have hte : t = qOf s := (sub_sign _ _).1 (by rw [← HZ.out]; exact hz0)
          have HREL : Hid (IsrRel w4 n3 ts xs (.int .i64 ((k + 1 : Nat) : Int)) w6) := Lib.hid ⟨k + 1, rfl, HKL.out, by rw [List.take_add_one, List.take_add_one, HTK.out, HTT.out.1, HTT.out.2, hte], HBW.out⟩
          subst hz0
          clear hte
          go_wp2
          go_roundw
          case rel => exact HREL.out
          case measure => simp [intOf]; have := HKL.out; omega
        · have hzz : (z != 0) = true := by simp [hz0]
          have HF := Lib.hid (HR.out w6 (HB4.out.trans (HBW.out.mono HB4.out.size)))
          rw [HISR.out, decide_eq_false (fun e => hz0 (by
            rw [HZ.out]
            refine (sub_sign _ _).2 ?_
            have k1 := HTT.out.1
            rw [← e, HTT.out.2] at k1
            exact (Option.some.inj k1).symm))] at HF
          go_wp2
          first | go_ret | skip
          exact HF.out
end Go.Proofs.YtegdcmcfeaohhaaGreatDoor

namespace Go.Proofs.YtegdcmcfeaohhaaGreatDoor
open Go Go.RowKit

set_option maxRecDepth 100000 in
set_option maxHeartbeats 2000000 in
theorem rtl_any (v : Value) (L : List ByteArray) (w : World) (hE : Env w) (h : TxL w v L) (hn : L.length ≤ 1048576) (R : Ending → World → Prop)
    (hR : ∀ v' w', L.length ≤ 40 → L.all isNum = true → RsL w' v' (L.map qOf) → Below w.heap.size w w' → R (.returned (.tuple #[v', .nilIface])) w')
    (hR2 : ∀ e w', (decide (L.length ≤ 40) && L.all isNum) = false → ErrV e → Below w.heap.size w w' → R (.returned (.tuple #[.slice none 0 0, e])) w') :
    Calls Tryz.prog 87 #[v] w R := by
  have HR := Lib.hid hR; clear hR
  have HR2 := Lib.hid hR2; clear hR2
  have HE := Lib.hid hE
  obtain ⟨ao, n, cap, rfl, hnl, hc, hh⟩ := h.open
  have HH := Lib.hid hh
  have HN := Lib.hid hnl
  have HNN := Lib.hid hn
  by_cases h40 : n ≤ 40
  · have e1 : ¬ ((40 : Int) < (n : Int)) := by omega
    have H40 : Hid (L.length ≤ 40) := Lib.hid (by omega)
    clear h hnl hh hn h40 hE hc
    go_enter Tryz.func87, Tryz.ntmps87
    go_wp2_with fail
    refine readrs_any _ L w HE.out HH.out HNN.out _ ?_ ?_
    · intro v' w' h1 h2 h3 h4
      obtain ⟨a5, n5, c5, rfl, h3'⟩ := SlE.op h3
      have HF := Lib.hid (HR.out _ w' H40.out h2 h3' h4)
      clear h1 h2 h3 h3' h4
      dsimp only
      go_wp2
      first | go_ret | skip
      exact HF.out
    · intro e w' h1 he h4
      obtain ⟨t, p, rfl⟩ := he
      have hf : (decide (L.length ≤ 40) && L.all isNum) = false := by
        rw [decide_eq_true (show L.length ≤ 60 by have := H40.out; omega), Bool.true_and] at h1
        rw [h1, Bool.and_false]
      have HF := Lib.hid (HR2.out _ w' hf ⟨t, p, rfl⟩ h4)
      clear h1 hf h4
      dsimp only
      go_wp2
      first | go_ret | skip
      exact HF.out
  · have e1 : ((40 : Int) < (n : Int)) := by omega
    have hf : (decide (L.length ≤ 40) && L.all isNum) = false := by rw [← HN.out, decide_eq_false h40, Bool.false_and]
    have HF := Lib.hid (fun p w' => HR2.out (.iface 239 (.pointer (some p))) w' hf ⟨_, _, rfl⟩)
    obtain ⟨⟨pg, hpg⟩, ⟨pf, hpf⟩, _⟩ := hE
    clear h hnl hh hn h40 hf hc
    go_enter Tryz.func87, Tryz.ntmps87
    go_wp2
    go_quiet (fail)
    go_wp2
    first | go_ret | skip
    exact HF.out _ _ (below_draws (Below.refl _ _) _)

set_option maxRecDepth 100000 in
set_option maxHeartbeats 8000000 in
theorem impl_isr (v vt : Value) (L1 L2 L3 : List ByteArray) (w : World) (hE : Env w) (h : IsRec w v L1 L2) (hn1 : L1.length ≤ 1048576) (hn2 : L2.length ≤ 1048576) (ht : TxL w vt L3) (hn3 : L3.length ≤ 1048576) (R : Ending → World → Prop)
    (hR : ∀ w', Below w.heap.size w w' → R (.returned (.bool (isrB L1 L2 L3))) w') :
    Calls Tryz.prog 42 #[v, vt] w R := by
  have HR := Lib.hid hR; clear hR
  have HE := Lib.hid hE
  have hk := h
  obtain ⟨a1, n1, c1, a2, n2, c2, rfl, e1, e2, h1, h2⟩ := h.parts
  obtain ⟨a3, n3, c3, rfl, h3⟩ := ht.op
  obtain ⟨L, hL⟩ : ∃ L, L = w.alloc (.cells #[.slice a1 n1 c1, .slice a2 n2 c2] 36) := ⟨_, rfl⟩
  have HBL : Hid (Below w.heap.size w L) := Lib.hid (by rw [hL]; exact (Below.refl _ _).alloc (Nat.le_refl _) _)
  have HBX : Hid (Box2 L w.heap.size (.slice a1 n1 c1) (.slice a2 n2 c2) 36) := Lib.hid (by rw [hL]; exact Box2.made _ _ _ _)
  have HL := Lib.hid hL
  have HV := Lib.hid (hk.later HBL.out (Nat.le_refl _))
  have H3 := Lib.hid (TxL.later h3 HBL.out (Nat.le_refl _))
  have HN := Lib.hid (And.intro hn1 (And.intro hn2 hn3))
  obtain ⟨hA0, hA1, _, _⟩ := HBX.out.cells
  clear hE h hk e1 e2 h1 h2 h3 ht hn1 hn2 hn3 hL
  go_enter Tryz.func42, Tryz.ntmps42
  rw [HL.out] at hA0 hA1
  go_wp2_with fail
  rw [← HL.out]
  refine readseq_any _ L1 L2 L (HE.out.later HBL.out (Nat.le_refl _)) HV.out HN.out.1 HN.out.2.1 _ ?_ ?_
  rotate_left
  · intro e w2 hrec he hb2
    obtain ⟨t, p, rfl⟩ := he
    have HB2 := Lib.hid (HBL.out.trans (hb2.mono HBL.out.size))
    have HF := Lib.hid (HR.out (w2.alloc (.cells #[.slice none 0 0, .slice none 0 0] 97)) (HB2.out.alloc HB2.out.size _))
    rw [show isrB L1 L2 L3 = false by unfold isrB; rw [hrec]; rfl] at HF
    clear hrec hb2 hA0 hA1
    unfold zeroS
    dsimp only
    go_wp2
    first | go_ret | skip
    exact HF.out
  intro x1 x2 w2 hrec hx1 hx2 hb2
  have HREC := Lib.hid hrec
  obtain ⟨b1, m1, d1, rfl, hx1'⟩ := SlE.op hx1
  obtain ⟨b2, m2, d2, rfl, hx2'⟩ := SlE.op hx2
  obtain ⟨V, hV⟩ : ∃ V, V = w2.alloc (.cells #[.slice b1 m1 d1, .slice b2 m2 d2] 97) := ⟨_, rfl⟩
  have hbV : Below w2.heap.size w2 V := by rw [hV]; exact (Below.refl _ _).alloc (Nat.le_refl _) _
  have hb2V : Below L.heap.size L V := hb2.trans (hbV.mono hb2.size)
  have HBV : Hid (Below w.heap.size w V) := Lib.hid (HBL.out.trans (hb2V.mono HBL.out.size))
  have HX1V := Lib.hid (SlE.later elemR hx1' hbV (Nat.le_refl _))
  have HX2V := Lib.hid (SlE.later elemR hx2' hbV (Nat.le_refl _))
  have HBS : Hid (Box2 V w2.heap.size (.slice b1 m1 d1) (.slice b2 m2 d2) 97) := Lib.hid (by rw [hV]; exact Box2.made _ _ _ _)
  have H3V := Lib.hid (TxL.later H3.out hb2V (Nat.le_refl _))
  have HV2 := Lib.hid hV
  have HK := Lib.hid (recB_four hrec)
  clear hrec hx1 hx2 hx1' hx2' hb2 hbV hb2V hV hA0 hA1
  dsimp only
  go_wp2_with fail
  rw [← HV2.out]
  refine rtl_any _ L3 V (HE.out.later HBV.out (Nat.le_refl _)) H3V.out HN.out.2.2 _ ?_ ?_
  rotate_left
  · intro e w3 hl he hb3
    obtain ⟨t, p, rfl⟩ := he
    have HF := Lib.hid (HR.out w3 (HBV.out.trans (hb3.mono HBV.out.size)))
    rw [show isrB L1 L2 L3 = false by unfold isrB; rw [hl, Bool.false_and, Bool.and_false]] at HF
    clear hl hb3
    dsimp only
    go_wp2
    first | go_ret | skip
    exact HF.out
  intro v3 w3 hl40 hall hv3 hb3
  obtain ⟨b4, m4, d4, rfl, hv3'⟩ := SlE.op hv3
  have HISR : Hid (isrB L1 L2 L3 = decide (L3.map qOf = termsQ (L1.map qOf) (L2.map qOf) L3.length)) := Lib.hid (by
    unfold isrB; rw [HREC.out, hall, decide_eq_true hl40]; rfl)
  have HBD : Hid ((L1.map qOf).length = (L2.map qOf).length ∧ (L2.map qOf).length ≤ 8 ∧ AllBd 60 (L1.map qOf) ∧ AllBd 60 (L2.map qOf) ∧ AllBd 60 (L3.map qOf) ∧ (L3.map qOf).length ≤ 40) := Lib.hid
    ⟨by rw [List.length_map, List.length_map]; exact HK.out.1, by rw [List.length_map]; exact HK.out.2.1, allBd_of HK.out.2.2.1, allBd_of HK.out.2.2.2, allBd_of hall, by rw [List.length_map]; exact hl40⟩
  have HXS := Lib.hid hv3'
  have HX13 := Lib.hid (SlE.later elemR HX1V.out hb3 (Nat.le_refl _))
  have HX23 := Lib.hid (SlE.later elemR HX2V.out hb3 (Nat.le_refl _))
  have HBS3 := Lib.hid (HBS.out.later hb3 (lt_of_block HBS.out))
  have HB3 := Lib.hid (HBV.out.trans (hb3.mono HBV.out.size))
  obtain ⟨hC0, hC1, _, _⟩ := HBS3.out.cells
  clear hl40 hall hv3 hv3' hb3
  dsimp only
  go_wp2_with fail
  refine steps_any _ _ w3 _ ?_ ⟨_, _, _, rfl⟩ ⟨_, _, _, rfl⟩
  intro w4 hq1 hq2 hb4 hs4
  obtain ⟨W, hW⟩ : ∃ W, W = w4.alloc (.cells #[nextV w3] 104) := ⟨_, rfl⟩
  have hbW : Below w4.heap.size w4 W := by rw [hW]; exact (Below.refl _ _).alloc (Nat.le_refl _) _
  have HW := Lib.hid hW
  have HWN : Hid (W.heap[w4.heap.size]? = some (.cells #[nextV w3] 104 (0, 0))) := Lib.hid (by
    rw [hW]
    show (Array.push _ _)[_]? = _
    rw [Array.getElem?_push, if_pos rfl])
  have HST : Hid (StR w3 W (w4.heap.size + 1) (.slice b1 m1 d1) (.slice b2 m2 d2) (L1.map qOf) (L2.map qOf) 0) := Lib.hid
    ⟨by omega, by rw [hW]; simp, hq1.later hbW (lt_of_block hq1), hb4.trans (hbW.mono hb4.size), none, 0, 0, by rw [hbW.block _ (by omega)]; exact hq2, OwE.nil _ _ _⟩
  have HS4 := Lib.hid hs4
  have HBW := Lib.hid (HB3.out.trans ((hb4.trans (hbW.mono hb4.size)).mono HB3.out.size))
  have hmf : ∀ (fn : Fn) (first cap : Array Value) (w : World), (Instr.makeFunc fn first cap).run Tryz.prog w = .ok (.func fn first cap) w := fun _ _ _ _ => rfl
  unfold nextV at HW
  clear hq1 hq2 hb4 hs4 hW hbW hC0 hC1
  dsimp only
  go_wp2_with fail
  rw [← HW.out]
  refine cont_any w3 W (w4.heap.size + 1) w4.heap.size _ _ _ (L1.map qOf) (L2.map qOf) (L3.map qOf) HST.out HX13.out HX23.out HBD.out.1 HBD.out.2.1 HBD.out.2.2.1 HBD.out.2.2.2.1 HWN.out (by omega) (by have := HS4.out; omega) HXS.out HBD.out.2.2.2.2.2 HBD.out.2.2.2.2.1 _ ?_
  intro w5 hfr
  have HF := Lib.hid (HR.out w5 (HBW.out.trans (hfr.below (by have := HB3.out.size; have := HS4.out; omega) (by have := HB3.out.size; omega))))
  rw [HISR.out] at HF
  clear hfr
  by_cases he : L3.map qOf = termsQ (L1.map qOf) (L2.map qOf) L3.length
  · rw [decide_eq_true he] at HF
    rw [decide_eq_false (by rw [List.length_map]; simpa using he)]
    clear he
    dsimp only
    go_wp2
    first | go_ret | skip
    exact HF.out
  · rw [decide_eq_false he] at HF
    rw [decide_eq_true (by rw [List.length_map]; exact he)]
    clear he
    dsimp only
    go_wp2
    first | go_ret | skip
    exact HF.out
end Go.Proofs.YtegdcmcfeaohhaaGreatDoor

namespace Go.Proofs.YtegdcmcfeaohhaaGreatDoor
open Go Go.RowKit

set_option maxRecDepth 100000 in
set_option maxHeartbeats 8000000 in
theorem law_isRecurrenceOf (v : Value) (L1 L2 : List ByteArray) (vt : Value) (L3 : List ByteArray) (w : World) (hE : Env w) (h : IsRec w v L1 L2) (hn1 : L1.length ≤ maxLen) (hs1 : ∀ s ∈ L1, s.size ≤ maxLen) (hn2 : L2.length ≤ maxLen) (hs2 : ∀ s ∈ L2, s.size ≤ maxLen) (ht : TxL w vt L3) (hn3 : L3.length ≤ maxLen) (hs3 : ∀ s ∈ L3, s.size ≤ maxLen) (R : Ending → World → Prop)
    (hR : ∀ w', Below w.heap.size w w' → R (.returned (.bool true)) w') :
    Calls Tryz.prog 12 #[v, vt] w R := by
  have HR := Lib.hid hR; clear hR
  have HE := Lib.hid hE; clear hE
  have h9 := h
  obtain ⟨s1, s2, rfl, h1, h2⟩ := h9
  obtain ⟨a1, n1, c1, rfl, h1'⟩ := h1.op
  obtain ⟨a2, n2, c2, rfl, h2'⟩ := h2.op
  obtain ⟨a3, n3, c3, rfl, h3⟩ := ht.op
  obtain ⟨L, hL⟩ : ∃ L, L = w.alloc (.cells #[.slice a1 n1 c1, .slice a2 n2 c2] 33) := ⟨_, rfl⟩
  have HBL : Hid (Below w.heap.size w L) := Lib.hid (by rw [hL]; exact (Below.refl _ _).alloc (Nat.le_refl _) _)
  have HBX : Hid (Box2 L w.heap.size (.slice a1 n1 c1) (.slice a2 n2 c2) 33) := Lib.hid (by rw [hL]; exact Box2.made _ _ _ _)
  have HL := Lib.hid hL
  have HV := Lib.hid (h.later HBL.out (Nat.le_refl _))
  have HT := Lib.hid (TxL.later h3 HBL.out (Nat.le_refl _))
  have HN := Lib.hid (And.intro hn1 (And.intro hs1 (And.intro hn2 hs2)))
  have HN3 := Lib.hid (And.intro hn3 hs3)
  obtain ⟨hA0, hA1, _, _⟩ := HBX.out.cells
  clear h h1 h2 h1' h2' h3 ht hn1 hs1 hn2 hs2 hn3 hs3 hL
  go_enter Tryz.func12, Tryz.ntmps12
  rw [HL.out] at hA0 hA1
  go_wp2_with fail
  rw [← HL.out]
  refine szR_any _ L1 L2 L 1048576 HV.out HN.out.1 HN.out.2.1 HN.out.2.2.1 HN.out.2.2.2 (by omega) _ ?_ ?_
  rotate_left
  · intro w1 _ hb1
    have HF := Lib.hid (HR.out w1 (HBL.out.trans (hb1.mono HBL.out.size)))
    clear hb1 hA0 hA1
    dsimp only
    go_wp2
    first | go_ret | skip
    exact HF.out
  intro w1 ht hb1
  obtain ⟨p1, p2⟩ := sizes_each (L := L1) (by omega)
  obtain ⟨p3, p4⟩ := sizes_each (L := L2) (by omega)
  have HP := Lib.hid (And.intro p1 (And.intro p2 (And.intro p3 p4)))
  obtain ⟨m, hm⟩ : ∃ m : Nat, m = 1048576 - (tot L1 + tot L2) := ⟨_, rfl⟩
  rw [← hm]
  have hm0 : ¬ ((m : Int) < 0) := by omega
  have HM : Hid (m ≤ 1048576) := Lib.hid (by omega)
  have HB1 : Hid (Below L.heap.size L w1) := Lib.hid hb1
  have HX1 := Lib.hid (HBX.out.later hb1 (lt_of_block HBX.out))
  have HT1 := Lib.hid (TxL.later HT.out hb1 (Nat.le_refl _))
  clear hm ht p1 p2 p3 p4 hb1 hA0 hA1
  obtain ⟨hA0, hA1, _, _⟩ := HX1.out.cells
  dsimp only
  go_wp2_with fail
  refine szT_any _ L3 w1 m HT1.out HN3.out.1 HN3.out.2 HM.out _ ?_ ?_
  rotate_left
  · intro ht
    have HF := Lib.hid (HR.out w1 (HBL.out.trans (HB1.out.mono HBL.out.size)))
    clear ht hA0 hA1
    dsimp only
    go_wp2
    first | go_ret | skip
    exact HF.out
  intro ht
  obtain ⟨p5, p6⟩ := sizes_each (L := L3) (by have := HM.out; omega)
  have HP3 := Lib.hid (And.intro p5 p6)
  obtain ⟨m2, hm2⟩ : ∃ m2 : Nat, m2 = m - tot L3 := ⟨_, rfl⟩
  rw [← hm2]
  have hm20 : ¬ ((m2 : Int) < 0) := by omega
  clear hm2 ht p5 p6 hm0
  dsimp only
  go_wp2_with fail
  refine toR_any _ L1 L2 w1 (HV.out.later HB1.out (Nat.le_refl _)) HP.out.1 HP.out.2.2.1 _ ?_
  intro v2 w2 hv2 hb2
  have HV2 := Lib.hid hv2
  obtain ⟨x1, m1, y1, x2, m4, y2, rfl, q1, q2, q3, q4⟩ := hv2.parts
  have HB2 := Lib.hid (HB1.out.trans (hb2.mono HB1.out.size))
  have HX2 := Lib.hid (HX1.out.later hb2 (lt_of_block HX1.out))
  have HT2 := Lib.hid (TxL.later HT1.out hb2 (Nat.le_refl _))
  clear hv2 q1 q2 q3 q4 hb2 hA0 hA1 hm20
  obtain ⟨hA0, hA1, _, _⟩ := HX2.out.cells
  dsimp only
  go_wp2_with fail
  refine toT_any _ L3 w2 HT2.out HP3.out.1 _ ?_
  intro v3 w3 hv3 hb3
  obtain ⟨a4, n4, c4, rfl, hv3'⟩ := hv3.op
  have HS3 := Lib.hid hv3'
  have HV23 := Lib.hid (HV2.out.later hb3 (Nat.le_refl _))
  have HB3 := Lib.hid (HB2.out.trans (hb3.mono HB2.out.size))
  have HX3 := Lib.hid (HX2.out.later hb3 (lt_of_block HX2.out))
  clear hv3 hv3' hb3 hA0 hA1
  obtain ⟨hA0, hA1, _, _⟩ := HX3.out.cells
  dsimp only
  go_wp2_with fail
  refine spec_isr _ _ L1 L2 L3 w3 HV23.out HP.out.1 HP.out.2.1 HP.out.2.2.1 HP.out.2.2.2 HS3.out HP3.out.1 HP3.out.2 _ ?_
  intro w4 hb4
  obtain ⟨x, hx⟩ : ∃ x, x = isrB L1 L2 L3 := ⟨_, rfl⟩
  have HX := Lib.hid hx
  rw [← hx]
  have HB4 := Lib.hid (HB3.out.trans (hb4.mono HB3.out.size))
  have HX4 := Lib.hid (HX3.out.later hb4 (lt_of_block HX3.out))
  clear hx hb4 hA0 hA1
  obtain ⟨hA0, hA1, _, _⟩ := HX4.out.cells
  dsimp only
  go_wp2_with fail
  refine toR_any _ L1 L2 w4 (HV.out.later HB4.out (Nat.le_refl _)) HP.out.1 HP.out.2.2.1 _ ?_
  intro v5 w5 hv5 hb5
  obtain ⟨x3, m3, y3, x4, m5, y4, rfl, q1, q2, q3, q4⟩ := hv5.parts
  obtain ⟨W, hW⟩ : ∃ W, W = w5.alloc (.cells #[.slice x3 m3 y3, .slice x4 m5 y4] 36) := ⟨_, rfl⟩
  have hbW : Below w5.heap.size w5 W := by rw [hW]; exact (Below.refl _ _).alloc (Nat.le_refl _) _
  have B5 : Hid (Box2 W w5.heap.size (.slice x3 m3 y3) (.slice x4 m5 y4) 36) := Lib.hid (by rw [hW]; exact Box2.made _ _ _ _)
  have HV5 := Lib.hid (hv5.later hbW (Nat.le_refl _))
  have hb5W : Below w4.heap.size w4 W := hb5.trans (hbW.mono hb5.size)
  have HB5 := Lib.hid (HB4.out.trans (hb5W.mono HB4.out.size))
  have HX5 := Lib.hid (HX4.out.later hb5W (lt_of_block HX4.out))
  have HT5 := Lib.hid (TxL.later HT.out HB5.out (Nat.le_refl _))
  have HW := Lib.hid hW
  clear hv5 q1 q2 q3 q4 hb5 hbW hb5W hW hA0 hA1
  dsimp only
  go_wp2_with fail
  rw [← HW.out]
  obtain ⟨hA0, hA1, _, _⟩ := HX5.out.cells
  obtain ⟨hC0, hC1, _, _⟩ := B5.out.cells
  refine toT_any _ L3 W HT5.out HP3.out.1 _ ?_
  intro v6 w6 hv6 hb6
  obtain ⟨a5, n5, c5, rfl, hv6'⟩ := hv6.op
  have HS6 := Lib.hid hv6'
  have HV6 := Lib.hid (HV5.out.later hb6 (Nat.le_refl _))
  have HB6 := Lib.hid (HB5.out.trans (hb6.mono HB5.out.size))
  have HX6 := Lib.hid (HX5.out.later hb6 (lt_of_block HX5.out))
  have B6 := Lib.hid (B5.out.later hb6 (lt_of_block B5.out))
  clear hv6 hv6' hb6 hA0 hA1 hC0 hC1
  obtain ⟨hA0, hA1, _, _⟩ := HX6.out.cells
  obtain ⟨hC0, hC1, _, _⟩ := B6.out.cells
  dsimp only
  go_wp2_with fail
  refine impl_isr _ _ L1 L2 L3 w6 (HE.out.later (HBL.out.trans (HB6.out.mono HBL.out.size)) (Nat.le_refl _)) HV6.out HP.out.1 HP.out.2.2.1 HS6.out HP3.out.1 _ ?_
  intro w7 hb7
  rw [← HX.out]
  have HB7 := Lib.hid (HB6.out.trans (hb7.mono HB6.out.size))
  have HX7 := Lib.hid (HX6.out.later hb7 (lt_of_block HX6.out))
  have B7 := Lib.hid (B6.out.later hb7 (lt_of_block B6.out))
  have HV7 := Lib.hid (HV6.out.later hb7 (Nat.le_refl _))
  have HS7 := Lib.hid (TxL.later HS6.out hb7 (Nat.le_refl _))
  have hxx : (x != x) = false := by cases x <;> rfl
  have HSOF : Hid (∀ w', Below w7.heap.size w7 w' → (Below w7.heap.size w7 w' ∧ (w'.cell? ⟨w.heap.size, 0, none⟩ = some (.slice a1 n1 c1) ∧ w'.cell? ⟨w.heap.size, 1, none⟩ = some (.slice a2 n2 c2)) ∧ (w'.cell? ⟨w5.heap.size, 0, none⟩ = some (.slice x3 m3 y3) ∧ w'.cell? ⟨w5.heap.size, 1, none⟩ = some (.slice x4 m5 y4)))) :=
    Lib.hid fun w' hb => ⟨hb, ⟨(HX7.out.later hb (lt_of_block HX7.out)).cells.1, (HX7.out.later hb (lt_of_block HX7.out)).cells.2.1⟩, ⟨(B7.out.later hb (lt_of_block B7.out)).cells.1, (B7.out.later hb (lt_of_block B7.out)).cells.2.1⟩⟩
  have HVL := Lib.hid (HV.out.later HB7.out (Nat.le_refl _))
  have HLEN : Hid (L1.length ≤ 281474976710656 ∧ L2.length ≤ 281474976710656) := Lib.hid (by have := HP.out.1; have := HP.out.2.2.1; omega)
  clear hb7 hA0 hA1 hC0 hC1
  obtain ⟨hA0, hA1, _, _⟩ := HX7.out.cells
  obtain ⟨hC0, hC1, _, _⟩ := B7.out.cells
  dsimp only
  go_wp2_with fail
  first
    | (go_region_held3 (fun w' => Below w7.heap.size w7 w' ∧ (w'.cell? ⟨w.heap.size, 0, none⟩ = some (.slice a1 n1 c1) ∧ w'.cell? ⟨w.heap.size, 1, none⟩ = some (.slice a2 n2 c2)) ∧ (w'.cell? ⟨w5.heap.size, 0, none⟩ = some (.slice x3 m3 y3) ∧ w'.cell? ⟨w5.heap.size, 1, none⟩ = some (.slice x4 m5 y4)))
        (first
          | exact HSOF.out _ HQ2.out
          | exact HSOF.out _ HQ1.out
          | exact HSOF.out _ (Below.refl _ _).drew)
        (first
          | (go_at_call 37; refine eqR_any _ _ L1 L2 _ (HV7.out.later HQ1.out (Nat.le_refl _)) HV8.out HLEN.out.1 HLEN.out.2 _ ?_; intro w9 hb9; have HQ2 : Hid (Below w7.heap.size w7 w9) := Lib.hid (HQ1.out.trans (hb9.mono HQ1.out.size)); clear hb9; dsimp only)
          | (go_at_call 35; refine toR_any _ L1 L2 _ (HVL.out.later (Below.refl _ _).drew (Nat.le_refl _)) HP.out.1 HP.out.2.2.1 _ ?_; intro v8 w8 hv8 hb8; have HV8 := Lib.hid hv8; have HQ1 : Hid (Below w7.heap.size w7 w8) := Lib.hid ⟨hb8.os, hb8.tape, hb8.output, hb8.size, hb8.block⟩; clear hv8 hb8; dsimp only)))
    | fail
  all_goals
    have HB9 := Lib.hid (HB7.out.trans (HQ2.out.mono HB7.out.size))
    have HS9 := Lib.hid (TxL.later HS7.out HQ2.out (Nat.le_refl _))
    have HT9 := Lib.hid (TxL.later HT.out HB9.out (Nat.le_refl _))
    clear hA0 hA1 hC0 hC1
    go_wp2_with fail
    refine toT_any _ L3 w9 HT9.out HP3.out.1 _ ?_
    intro v10 w10 hv10 hb10
    obtain ⟨a6, n6, c6, rfl, hv10'⟩ := hv10.op
    have HT10 := Lib.hid hv10'
    have HS10 := Lib.hid (TxL.later HS9.out hb10 (Nat.le_refl _))
    have HB10 := Lib.hid (HB9.out.trans (hb10.mono HB9.out.size))
    clear hv10 hv10' hb10
    dsimp only
    go_wp2_with fail
    refine eqT_any _ _ L3 L3 w10 HS10.out HT10.out (by have := HP3.out.1; omega) (by have := HP3.out.1; omega) _ ?_
    intro w11 hb11
    rw [decide_eq_true rfl]
    have HF := Lib.hid (HR.out w11 (HBL.out.trans ((HB10.out.trans (hb11.mono HB10.out.size)).mono HBL.out.size)))
    clear hb11
    dsimp only
    go_wp2
    first | go_ret | skip
    exact HF.out
end Go.Proofs.YtegdcmcfeaohhaaGreatDoor
