/- Contracts of functions of the program and of the model: RecV, RecW, RecL, RowRec, RevR, ConI, NegQ, PofI, RrO, ToRO, LawPolyOf. -/
import Derived.Test.YtegdcmcfeaohhaaGreatDoorPv13
import Derived.Deep.RegionHeld3
set_option linter.all false
set_option linter.unusedVariables false
set_option linter.unusedSimpArgs false
set_option linter.unnecessarySimpa false
set_option linter.deprecated false
namespace Go.Proofs.YtegdcmcfeaohhaaGreatDoor
open Go Go.RowKit

/-- whether two lists of texts are those of a recurrence -/
noncomputable def recB (L1 L2 : List ByteArray) : Bool := decide (L1.length = L2.length) && (decide (L1.length ≤ 8) && (L1.all isNum && L2.all isNum))

/-- a value of the program's type of recurrences -/
def IsRec (w : World) (v : Value) (L1 L2 : List ByteArray) : Prop := ∃ s1 s2, v = .agg #[s1, s2] ∧ TxL w s1 L1 ∧ TxL w s2 L2

theorem IsRec.later {w w' : World} {v : Value} {L1 L2 : List ByteArray} {B : Nat} (h : IsRec w v L1 L2) (hb : Below B w w') (hB : w.heap.size ≤ B) : IsRec w' v L1 L2 := by
  obtain ⟨s1, s2, e, h1, h2⟩ := h; exact ⟨s1, s2, e, h1.later hb hB, h2.later hb hB⟩
theorem IsRec.parts {w : World} {v : Value} {L1 L2 : List ByteArray} (h : IsRec w v L1 L2) : ∃ a1 n1 c1 a2 n2 c2, v = .agg #[.slice a1 n1 c1, .slice a2 n2 c2] ∧ n1 = L1.length ∧ n2 = L2.length ∧ TxL w (.slice a1 n1 c1) L1 ∧ TxL w (.slice a2 n2 c2) L2 := by
  obtain ⟨s1, s2, rfl, h1, h2⟩ := h
  obtain ⟨a1, n1, c1, rfl, e1, _, h1'⟩ := h1.open
  obtain ⟨a2, n2, c2, rfl, e2, _, h2'⟩ := h2.open
  exact ⟨a1, n1, c1, a2, n2, c2, rfl, e1, e2, h1', h2'⟩

set_option maxRecDepth 100000 in
set_option maxHeartbeats 8000000 in
theorem l03is_any (b n1 n2 c1 c2 : Nat) (a1 a2 : Option Addr) (L1 L2 : List ByteArray) (w : World) (hbx : Box2 w b (.slice a1 n1 c1) (.slice a2 n2 c2) 36) (e1 : n1 = L1.length) (e2 : n2 = L2.length)
    (h1 : TxL w (.slice a1 n1 c1) L1) (h2 : TxL w (.slice a2 n2 c2) L2) (hn1 : L1.length ≤ 1048576) (hs1 : ∀ s ∈ L1, s.size ≤ 1048576) (hn2 : L2.length ≤ 1048576) (hs2 : ∀ s ∈ L2, s.size ≤ 1048576) (R : Ending → World → Prop)
    (hR : ∀ w', Below w.heap.size w w' → R (.returned (.bool (recB L1 L2))) w') :
    Calls Tryz.prog 73 #[.pointer (some ⟨b, 0, none⟩)] w R := by
  have HR := Lib.hid hR; clear hR
  have HSOF : Hid (∀ w', Below w.heap.size w w' → (Below w.heap.size w w' ∧ w'.cell? ⟨b, 0, none⟩ = some (.slice a1 n1 c1) ∧ w'.cell? ⟨b, 1, none⟩ = some (.slice a2 n2 c2))) :=
    Lib.hid fun w' hb => ⟨hb, (hbx.later hb (lt_of_block hbx)).cells.1, (hbx.later hb (lt_of_block hbx)).cells.2.1⟩
  have H1 := Lib.hid h1
  have H2 := Lib.hid h2
  have HB1 := Lib.hid (And.intro hn1 hs1)
  have HB2 := Lib.hid (And.intro hn2 hs2)
  have E1 := Lib.hid e1
  have E2 := Lib.hid e2
  clear hbx e1 e2 h1 h2 hn1 hs1 hn2 hs2
  by_cases hne : n1 = n2
  · have e0 : ((n1 : Int) == (n2 : Int)) = true := by simp [hne]
    by_cases h8 : n1 ≤ 8
    · have e8 : ((n1 : Int) ≤ 8) := by omega
      have hrec : recB L1 L2 = (L1.all isNum && L2.all isNum) := by unfold recB; rw [← E1.out, ← E2.out, decide_eq_true hne, decide_eq_true h8]; rfl
      rw [hrec] at HR
      clear hne h8 hrec
      cases hall : L1.all isNum with
      | false =>
        rw [hall, Bool.false_and] at HR
        have HALL := Lib.hid hall
        clear hall
        obtain ⟨_, hT0, hT1⟩ := HSOF.out w (Below.refl _ _)
        go_enter Tryz.func73, Tryz.ntmps73
        go_wp2_with fail
        first
          | (go_region_law (first
          | (go_simp; go_at_call 114; refine all_any _ L1 _ (H1.out.later (Below.refl _ _).drew (Nat.le_refl _)) HB1.out.1 HB1.out.2 _ ?_; intro w1 hb1; rw [HALL.out]; obtain ⟨HQ1, hU0, hU1⟩ := HSOF.out w1 ⟨hb1.os, hb1.tape, hb1.output, hb1.size, hb1.block⟩; clear hb1; dsimp only)))
          | fail
        all_goals
          go_wp2
          first | go_ret | skip
          exact HR.out _ HQ1
      | true =>
        rw [hall, Bool.true_and] at HR
        have HALL := Lib.hid hall
        clear hall
        obtain ⟨x, hx⟩ : ∃ x, x = L2.all isNum := ⟨_, rfl⟩
        rw [← hx] at HR
        have HX := Lib.hid hx
        clear hx
        go_enter Tryz.func73, Tryz.ntmps73
        go_wp2_with fail
        first
          | (go_region_held3 (fun w' => Below w.heap.size w w' ∧ w'.cell? ⟨b, 0, none⟩ = some (.slice a1 n1 c1) ∧ w'.cell? ⟨b, 1, none⟩ = some (.slice a2 n2 c2))
              (first
                | exact HSOF.out _ HQ2.out
                | exact HSOF.out _ HQ1.out
                | exact HSOF.out _ (Below.refl _ _).drew)
              (first
                | (have hguard := HQ1; go_at_call 114; refine all_any _ L2 _ (H2.out.later HQ1.out (Nat.le_refl _)) HB2.out.1 HB2.out.2 _ ?_; intro w2 hb2; rw [← HX.out]; have HQ2 : Hid (Below w.heap.size w w2) := Lib.hid (HQ1.out.trans (hb2.mono HQ1.out.size)); clear hb2 hguard; dsimp only)
                | (go_at_call 114; refine all_any _ L1 _ (H1.out.later (Below.refl _ _).drew (Nat.le_refl _)) HB1.out.1 HB1.out.2 _ ?_; intro w1 hb1; rw [HALL.out]; have HQ1 : Hid (Below w.heap.size w w1) := Lib.hid ⟨hb1.os, hb1.tape, hb1.output, hb1.size, hb1.block⟩; clear hb1; dsimp only)))
          | fail
        all_goals
          go_wp2
          first | go_ret | skip
          exact HR.out _ HQ2.out
    · have e8 : decide ((n1 : Int) ≤ 8) = false := decide_eq_false (by omega)
      have hrec : recB L1 L2 = false := by unfold recB; rw [← E1.out, decide_eq_false h8]; simp
      rw [hrec] at HR
      clear hne h8 hrec
      obtain ⟨_, hT0, hT1⟩ := HSOF.out w (Below.refl _ _)
      go_enter Tryz.func73, Tryz.ntmps73
      go_wp2_with fail
      go_quiet (fail)
      all_goals
        go_wp2
        first | go_ret | skip
        exact HR.out _ (below_draws (Below.refl _ _) _)
  · have e0 : ((n1 : Int) == (n2 : Int)) = false := by simp; omega
    have hrec : recB L1 L2 = false := by unfold recB; rw [← E1.out, ← E2.out, decide_eq_false hne]; rfl
    rw [hrec] at HR
    clear hne hrec
    obtain ⟨_, hT0, hT1⟩ := HSOF.out w (Below.refl _ _)
    go_enter Tryz.func73, Tryz.ntmps73
    go_wp2_with fail
    go_quiet (fail)
    all_goals
      go_wp2
      first | go_ret | skip
      exact HR.out _ (below_draws (Below.refl _ _) _)
end Go.Proofs.YtegdcmcfeaohhaaGreatDoor

namespace Go.Proofs.YtegdcmcfeaohhaaGreatDoor
open Go Go.RowKit

/-- the zero value of the program's type of sequences -/
def zeroS : Value := .agg #[.slice none 0 0, .slice none 0 0]

set_option maxRecDepth 100000 in
set_option maxHeartbeats 4000000 in
theorem readseq_any (v : Value) (L1 L2 : List ByteArray) (w : World) (hE : Env w) (h : IsRec w v L1 L2) (hn1 : L1.length ≤ 1048576) (hn2 : L2.length ≤ 1048576) (R : Ending → World → Prop)
    (hR : ∀ v1 v2 w', recB L1 L2 = true → RsL w' v1 (L1.map qOf) → RsL w' v2 (L2.map qOf) → Below w.heap.size w w' → R (.returned (.tuple #[.agg #[v1, v2], .nilIface])) w')
    (hR2 : ∀ e w', recB L1 L2 = false → ErrV e → Below w.heap.size w w' → R (.returned (.tuple #[zeroS, e])) w') :
    Calls Tryz.prog 77 #[v] w R := by
  have HR := Lib.hid hR; clear hR
  have HR2 := Lib.hid hR2; clear hR2
  obtain ⟨a1, n1, c1, a2, n2, c2, rfl, e1, e2, h1, h2⟩ := h.parts
  obtain ⟨L, hL⟩ : ∃ L, L = (w.alloc (.cells #[.slice a1 n1 c1, .slice a2 n2 c2] 36)).alloc (.cells #[.slice none 0 0, .slice none 0 0] 97) := ⟨_, rfl⟩
  have hb1 : Below (w.heap.size + 1) (w.alloc (.cells #[.slice a1 n1 c1, .slice a2 n2 c2] 36)) L := by rw [hL]; exact (Below.refl _ _).alloc (by simp) _
  have B0 : Hid (Box2 L w.heap.size (.slice a1 n1 c1) (.slice a2 n2 c2) 36) := Lib.hid ((Box2.made w _ _ _).later hb1 (by omega))
  have B1 : Hid (Box2 L (w.heap.size + 1) (.slice none 0 0) (.slice none 0 0) 97) := Lib.hid (by
    have := Box2.made (w.alloc (.cells #[.slice a1 n1 c1, .slice a2 n2 c2] 36)) (.slice none 0 0) (.slice none 0 0) 97
    rw [World.size_alloc, ← hL] at this; exact this)
  have HEXT : Hid (Below w.heap.size w L) := Lib.hid (by rw [hL]; exact ((Below.refl w.heap.size w).alloc (Nat.le_refl _) _).alloc (by simp) _)
  have HLS : Hid (L.heap.size = w.heap.size + 2) := Lib.hid (by rw [hL]; simp)
  have HL := Lib.hid hL
  have H1 := Lib.hid (h1.later HEXT.out (Nat.le_refl _))
  have H2 := Lib.hid (h2.later HEXT.out (Nat.le_refl _))
  have HN := Lib.hid (And.intro hn1 hn2)
  have E1 := Lib.hid e1
  have E2 := Lib.hid e2
  have HE := Lib.hid hE
  have HEL := Lib.hid (hE.later HEXT.out (Nat.le_refl _))
  obtain ⟨hA0, hA1, _, _⟩ := B0.out.cells
  obtain ⟨hR0, hR1, hF0, hF1⟩ := B1.out.cells
  clear h e1 e2 h1 h2 hn1 hn2 hL hb1 hE
  by_cases hok : n1 = n2 ∧ n1 ≤ 8
  · have e0 : ((n1 : Int) != (n2 : Int)) = false := by simp [hok.1]
    have e8 : ¬ ((8 : Int) < (n1 : Int)) := by omega
    have HOK := Lib.hid (show decide (L1.length = L2.length) = true ∧ decide (L1.length ≤ 8) = true by rw [← E1.out, ← E2.out]; exact ⟨decide_eq_true hok.1, decide_eq_true hok.2⟩)
    have H8 := Lib.hid hok.2
    clear hok
    go_enter Tryz.func77, Tryz.ntmps77
    rw [HL.out] at hA0 hA1
    go_wp2_with fail
    rw [← HL.out]
    refine readrs_own _ L1 L HEL.out H1.out HN.out.1 _ ?_ ?_
    · intro v1 w1 _ hall1 ho1 hb1
      have HB1 := Lib.hid hb1
      have HALL1 := Lib.hid hall1
      have HO1 := Lib.hid ho1
      obtain ⟨a3, n3, c3, rfl, hn3⟩ := ho1.shape
      have B0' := Lib.hid (B0.out.later hb1 (lt_of_block B0.out))
      clear hb1 hall1 ho1 hn3 hA0 hA1
      obtain ⟨hA0, hA1, _, _⟩ := B0'.out.cells
      dsimp only
      go_wp2_with fail
      refine readrs_own _ L2 w1 (HEL.out.later HB1.out (Nat.le_refl _)) (H2.out.later HB1.out (Nat.le_refl _)) HN.out.2 _ ?_ ?_
      · intro v2 w2 _ hall2 ho2 hb2
        have HB2 := Lib.hid (HB1.out.trans (hb2.mono HB1.out.size))
        have B1' := Lib.hid (B1.out.later HB2.out (lt_of_block B1.out))
        have HO1' := Lib.hid (HO1.out.later elemR hb2 (Nat.le_refl _))
        have HO2 := Lib.hid ho2
        obtain ⟨a4, n4, c4, rfl, hn4⟩ := ho2.shape
        have HREC : Hid (recB L1 L2 = true) := Lib.hid (by unfold recB; rw [HOK.out.1, HOK.out.2, HALL1.out, hall2]; rfl)
        have hlt1 : w.heap.size + 1 < L.heap.size := by have := HLS.out; omega
        have hlt2 : w.heap.size + 1 < w1.heap.size := by have := HLS.out; have := HB1.out.size; omega
        have HLT := Lib.hid (And.intro hlt1 hlt2)
        clear hb2 hall2 ho2 hn4 hA0 hA1 hR0 hR1 hF0 hF1 hlt1 hlt2
        obtain ⟨hR0, hR1, hF0, hF1⟩ := B1'.out.cells
        dsimp only
        go_wp2
        refine bodyPost_ret_at (by simp [results, Tryz.results77, go_sem, hR0, hR1, hF0, hF1] <;> rfl) rfl ?_
        have n0 := B1'.out.noInt rfl rfl
        refine HR.out _ _ _ HREC.out (OwE.sl (OwE.setOld elemR (OwE.setOld elemR HO1'.out HLT.out.1 n0 _ _) HLT.out.1 (n0.set _ _ rfl) _ _)) (OwE.sl (OwE.setOld elemR (OwE.setOld elemR HO2.out HLT.out.2 n0 _ _) HLT.out.2 (n0.set _ _ rfl) _ _)) (below_set2 (HEXT.out.trans (HB2.out.mono HEXT.out.size)) (by omega) _ _)
      · intro e w2 hf he hb2
        obtain ⟨t', p, rfl⟩ := he
        have HB2 := Lib.hid (HB1.out.trans (hb2.mono HB1.out.size))
        have B1' := Lib.hid (B1.out.later HB2.out (lt_of_block B1.out))
        have HREC : Hid (recB L1 L2 = false) := Lib.hid (by
          have h60 : decide (L2.length ≤ 60) = true := decide_eq_true (by have := of_decide_eq_true HOK.out.1; have := of_decide_eq_true HOK.out.2; omega)
          rw [h60, Bool.true_and] at hf
          unfold recB; rw [HOK.out.1, HOK.out.2, HALL1.out, hf]; rfl)
        clear hb2 hf hA0 hA1 hR0 hR1 hF0 hF1
        obtain ⟨hR0, hR1, hF0, hF1⟩ := B1'.out.cells
        dsimp only
        go_wp2
        refine bodyPost_ret_at (by simp [results, Tryz.results77, go_sem, hR0, hR1, hF0, hF1] <;> rfl) rfl ?_
        exact HR2.out _ _ HREC.out ⟨_, _, rfl⟩ (below_set2 (HEXT.out.trans (HB2.out.mono HEXT.out.size)) (by omega) _ _)
    · intro e w1 hf he hb1
      obtain ⟨t', p, rfl⟩ := he
      have HB1 := Lib.hid hb1
      have B1' := Lib.hid (B1.out.later hb1 (lt_of_block B1.out))
      have HREC : Hid (recB L1 L2 = false) := Lib.hid (by
        have h60 : decide (L1.length ≤ 60) = true := decide_eq_true (by have := of_decide_eq_true HOK.out.2; omega)
        rw [h60, Bool.true_and] at hf
        unfold recB; rw [HOK.out.1, HOK.out.2, hf]; rfl)
      clear hb1 hf hA0 hA1 hR0 hR1 hF0 hF1
      obtain ⟨hR0, hR1, hF0, hF1⟩ := B1'.out.cells
      dsimp only
      go_wp2
      refine bodyPost_ret_at (by simp [results, Tryz.results77, go_sem, hR0, hR1, hF0, hF1] <;> rfl) rfl ?_
      exact HR2.out _ _ HREC.out ⟨_, _, rfl⟩ (below_set2 (HEXT.out.trans (HB1.out.mono HEXT.out.size)) (by omega) _ _)
  · have HREC : Hid (recB L1 L2 = false) := Lib.hid (by
      unfold recB; rw [← E1.out, ← E2.out]
      by_cases hA : n1 = n2
      · rw [decide_eq_false (show ¬ n1 ≤ 8 from fun h => hok ⟨hA, h⟩)]; simp
      · rw [decide_eq_false hA]; rfl)
    obtain ⟨_, ⟨pf, hpf⟩, _⟩ := HEL.out
    have hne1 : ¬ 0 = w.heap.size + 1 := by
      obtain ⟨_, ⟨pf2, hpf2⟩, _⟩ := HE.out
      have := lt_of_cell hpf2
      omega
    have hne2 : ¬ w.heap.size + 1 = 0 := fun h => hne1 h.symm
    by_cases h8 : n1 ≤ 8
    · have e8 : ¬ ((8 : Int) < (n1 : Int)) := by omega
      have e0 : ((n1 : Int) != (n2 : Int)) = true := by simp; omega
      clear hok h8
      go_enter Tryz.func77, Tryz.ntmps77
      rw [HL.out] at hA0 hA1
      go_wp2
      rw [← HL.out]
      go_region
      all_goals
        go_wp2
        refine bodyPost_ret_at (by simp [results, Tryz.results77, go_sem, hR0, hR1, hF0, hF1] <;> rfl) rfl ?_
        first | exact HR2.out _ _ HREC.out ⟨_, _, rfl⟩ (below_set2 HEXT.out (by omega) _ _).drew | exact HR2.out _ _ HREC.out ⟨_, _, rfl⟩ (below_set2 HEXT.out (by omega) _ _)
    · have e8 : ((8 : Int) < (n1 : Int)) := by omega
      clear hok h8
      go_enter Tryz.func77, Tryz.ntmps77
      rw [HL.out] at hA0 hA1
      go_wp2
      rw [← HL.out]
      go_region
      all_goals
        go_wp2
        refine bodyPost_ret_at (by simp [results, Tryz.results77, go_sem, hR0, hR1, hF0, hF1] <;> rfl) rfl ?_
        first | exact HR2.out _ _ HREC.out ⟨_, _, rfl⟩ (below_set2 HEXT.out (by omega) _ _).drew | exact HR2.out _ _ HREC.out ⟨_, _, rfl⟩ (below_set2 HEXT.out (by omega) _ _)
end Go.Proofs.YtegdcmcfeaohhaaGreatDoor

namespace Go.Proofs.YtegdcmcfeaohhaaGreatDoor
open Go Go.RowKit

/-- a store into a cell that holds no text leaves lists of texts as they are -/
theorem TxL.setAt {w : World} {v : Value} {L : List ByteArray} (h : TxL w v L) {b o : Nat} {x : Value} (hx : w.cell? ⟨b, o, none⟩ = some x) (hns : ∀ s, x ≠ .string s) (u : Value) : TxL (w.setCell ⟨b, o, none⟩ u) v L := by
  obtain ⟨ao, cap, hv, hc, hh⟩ := h
  refine ⟨ao, cap, hv, hc, fun i s hi => ?_⟩
  obtain ⟨c, off, cs, h1, h2, h3, h4⟩ := hh i s hi
  refine ⟨c, off, cs, h1, by rw [heap_size_set]; exact h2, fun j y hj => ?_, h4⟩
  have hy := h3 j y hj
  rw [cell?_set]
  split
  · rename_i he
    obtain ⟨rfl, e⟩ := he
    rw [e] at hy
    rw [hx] at hy
    obtain rfl := Option.some.inj hy
    have h4' : cs = [.string s] := h4
    subst h4'
    match j, hj with
    | 0, hj => simp at hj; exact absurd hj.symm (hns s)
    | (k + 1), hj => simp at hj
  · exact hy

set_option maxRecDepth 100000 in
set_option maxHeartbeats 1000000 in
theorem szR_any (v : Value) (L1 L2 : List ByteArray) (w : World) (left : Nat) (h : IsRec w v L1 L2) (hn1 : L1.length ≤ maxLen) (hs1 : ∀ s ∈ L1, s.size ≤ maxLen) (hn2 : L2.length ≤ maxLen) (hs2 : ∀ s ∈ L2, s.size ≤ maxLen) (hl : left ≤ 1048576) (R : Ending → World → Prop)
    (hR : ∀ w', tot L1 + tot L2 ≤ left → Below w.heap.size w w' → R (.returned (.int .i64 ((left - (tot L1 + tot L2) : Nat) : Int))) w') (hR2 : ∀ w', left < tot L1 + tot L2 → Below w.heap.size w w' → R (.returned (.int .i64 (-1))) w') :
    Calls Tryz.prog 33 #[v, .int .i64 (left : Int)] w R := by
  have HR := Lib.hid hR; clear hR
  have HR2 := Lib.hid hR2; clear hR2
  obtain ⟨s1, s2, rfl, h1, h2⟩ := h
  obtain ⟨a1, n1, c1, rfl, h1'⟩ := h1.op
  obtain ⟨a2, n2, c2, rfl, h2'⟩ := h2.op
  obtain ⟨L, hL⟩ : ∃ L, L = w.alloc (.cells #[.slice a1 n1 c1, .slice a2 n2 c2] 33) := ⟨_, rfl⟩
  have HBL : Hid (Below w.heap.size w L) := Lib.hid (by rw [hL]; exact (Below.refl _ _).alloc (Nat.le_refl _) _)
  have HBX : Hid (Box2 L w.heap.size (.slice a1 n1 c1) (.slice a2 n2 c2) 33) := Lib.hid (by rw [hL]; exact Box2.made _ _ _ _)
  have HL := Lib.hid hL
  have H1 := Lib.hid (h1'.later HBL.out (Nat.le_refl _))
  have H2 := Lib.hid (h2'.later HBL.out (Nat.le_refl _))
  have HN := Lib.hid (And.intro hn1 (And.intro hs1 (And.intro hn2 hs2)))
  have HLE := Lib.hid hl
  obtain ⟨hA0, hA1, _, _⟩ := HBX.out.cells
  clear h1 h2 h1' h2' hn1 hs1 hn2 hs2 hL hl
  go_enter Tryz.func33, Tryz.ntmps33
  rw [HL.out] at hA0 hA1
  go_wp2_with fail
  rw [← HL.out] at hA0 hA1 ⊢
  refine szT_any _ L1 _ left H1.out HN.out.1 HN.out.2.1 HLE.out _ ?_ ?_
  · intro ht
    obtain ⟨m, hm⟩ : ∃ m : Nat, left = m + tot L1 := ⟨left - tot L1, by omega⟩
    have e1 : left - tot L1 = m := by omega
    rw [e1]
    have hm0 : ¬ ((m : Int) < 0) := by omega
    have HM := Lib.hid hm
    clear ht hm e1
    dsimp only
    go_wp2_with fail
    refine szT_any _ L2 _ m H2.out HN.out.2.2.1 HN.out.2.2.2 (by have := HM.out; have := HLE.out; omega) _ ?_ ?_
    · intro ht2
      obtain ⟨k, hk⟩ : ∃ k : Nat, m = k + tot L2 := ⟨m - tot L2, by omega⟩
      have e2 : m - tot L2 = k := by omega
      rw [e2]
      have HF := Lib.hid (HR.out L (by have := HM.out; omega) HBL.out)
      have e3 : left - (tot L1 + tot L2) = k := by have := HM.out; omega
      rw [e3] at HF
      have hk0 : ¬ ((k : Int) < 0) := by omega
      clear ht2 hk e2 e3
      dsimp only
      go_wp2
      first | go_ret | skip
      exact HF.out
    · intro ht2
      have HF := Lib.hid (HR2.out L (by have := HM.out; omega) HBL.out)
      clear ht2
      dsimp only
      go_wp2
      first | go_ret | skip
      exact HF.out
  · intro ht
    have HF := Lib.hid (HR2.out L (by omega) HBL.out)
    clear ht
    dsimp only
    go_wp2
    first | go_ret | skip
    exact HF.out

theorem no_str_sl (a : Option Addr) (n c : Nat) : ∀ s, Value.slice a n c ≠ .string s := by intro s h; cases h

set_option maxRecDepth 100000 in
set_option maxHeartbeats 2000000 in
theorem toR_any (v : Value) (L1 L2 : List ByteArray) (w : World) (h : IsRec w v L1 L2) (hn1 : L1.length ≤ 1048576) (hn2 : L2.length ≤ 1048576) (R : Ending → World → Prop)
    (hR : ∀ v' w', IsRec w' v' L1 L2 → Below w.heap.size w w' → R (.returned v') w') :
    Calls Tryz.prog 35 #[v] w R := by
  have HR := Lib.hid hR; clear hR
  obtain ⟨s1, s2, rfl, h1, h2⟩ := h
  obtain ⟨a1, n1, c1, rfl, h1'⟩ := h1.op
  obtain ⟨a2, n2, c2, rfl, h2'⟩ := h2.op
  obtain ⟨L, hL⟩ : ∃ L, L = ((w.alloc (.cells #[.slice a1 n1 c1, .slice a2 n2 c2] 33)).alloc (.cells #[.slice none 0 0, .slice none 0 0] 36)).alloc (.cells #[.slice none 0 0, .slice none 0 0] 36) := ⟨_, rfl⟩
  have HLS : Hid (L.heap.size = w.heap.size + 3) := Lib.hid (by rw [hL]; simp)
  have B0 : Hid (Box2 L w.heap.size (.slice a1 n1 c1) (.slice a2 n2 c2) 33) := Lib.hid (by
    rw [hL]; exact ((Box2.made w _ _ _).later (B := w.heap.size + 1) ((Below.refl _ _).alloc (by simp) _) (by omega)).later (B := w.heap.size + 2) ((Below.refl _ _).alloc (by simp) _) (by omega))
  have B1 : Hid (Box2 L (w.heap.size + 1) (.slice none 0 0) (.slice none 0 0) 36) := Lib.hid (by
    have := (Box2.made (w.alloc (.cells #[.slice a1 n1 c1, .slice a2 n2 c2] 33)) (.slice none 0 0) (.slice none 0 0) 36).later (B := w.heap.size + 2) ((Below.refl _ _).alloc (by simp) (.cells #[.slice none 0 0, .slice none 0 0] 36)) (by simp)
    rw [World.size_alloc, ← hL] at this; exact this)
  have B2 : Hid (Box2 L (w.heap.size + 2) (.slice none 0 0) (.slice none 0 0) 36) := Lib.hid (by
    have := Box2.made ((w.alloc (.cells #[.slice a1 n1 c1, .slice a2 n2 c2] 33)).alloc (.cells #[.slice none 0 0, .slice none 0 0] 36)) (.slice none 0 0) (.slice none 0 0) 36
    rw [World.size_alloc, World.size_alloc, ← hL] at this; exact this)
  have HEXT : Hid (Below w.heap.size w L) := Lib.hid (by rw [hL]; exact (((Below.refl w.heap.size w).alloc (Nat.le_refl _) _).alloc (by simp) _).alloc (by simp; omega) _)
  have H1 := Lib.hid (h1'.later HEXT.out (Nat.le_refl _))
  have H2 := Lib.hid (h2'.later HEXT.out (Nat.le_refl _))
  have HN := Lib.hid (And.intro hn1 hn2)
  have HL := Lib.hid hL
  obtain ⟨hA0, hA1, _, _⟩ := B0.out.cells
  clear h1 h2 h1' h2' hn1 hn2 hL
  go_enter Tryz.func35, Tryz.ntmps35
  rw [HL.out] at hA0 hA1
  go_wp2_with fail
  rw [← HL.out] at hA0 hA1 ⊢
  refine toT_any _ L1 L H1.out HN.out.1 _ ?_
  intro v1 w1 hv1 hb1
  obtain ⟨x1, m1, y1, rfl, hv1'⟩ := hv1.op
  have B0a := Lib.hid (B0.out.later hb1 (lt_of_block B0.out))
  have B1a := Lib.hid (B1.out.later hb1 (lt_of_block B1.out))
  have B2a := Lib.hid (B2.out.later hb1 (lt_of_block B2.out))
  obtain ⟨hC0, hC1, hF0, hF1⟩ := B2a.out.cells
  obtain ⟨W, hW⟩ : ∃ W, W = w1.setCell ⟨w.heap.size + 2, 0, none⟩ (.slice x1 m1 y1) := ⟨_, rfl⟩
  have HW := Lib.hid hW
  have HV1 := Lib.hid (hv1'.setAt hC0 (no_str_sl _ _ _) (.slice x1 m1 y1))
  rw [← hW] at HV1
  have H2a := Lib.hid ((H2.out.later hb1 (Nat.le_refl _)).setAt hC0 (no_str_sl _ _ _) (.slice x1 m1 y1))
  rw [← hW] at H2a
  have HBW : Hid (Below w.heap.size w W) := Lib.hid (by rw [hW]; exact (HEXT.out.trans (hb1.mono HEXT.out.size)).setCell (by simp) _)
  have hlt : w.heap.size + 2 < w1.heap.size := by have := HLS.out; have := hb1.size; omega
  have HWS : Hid (W.heap.size = w1.heap.size) := Lib.hid (by rw [hW]; simp)
  have B2b : Hid (Box2 W (w.heap.size + 2) (.slice x1 m1 y1) (.slice none 0 0) 36) := Lib.hid (by
    rw [hW]
    have := B2a.out
    unfold Box2 at this ⊢
    simp [World.setCell, Array.getElem?_modify, this])
  have B0b : Hid (Box2 W w.heap.size (.slice a1 n1 c1) (.slice a2 n2 c2) 33) := Lib.hid (by
    have := B0a.out
    unfold Box2 at this ⊢
    rw [hW, Below.heap_setCell _ _ _ _ (by simp)]; exact this)
  have B1b : Hid (Box2 W (w.heap.size + 1) (.slice none 0 0) (.slice none 0 0) 36) := Lib.hid (by
    have := B1a.out
    unfold Box2 at this ⊢
    rw [hW, Below.heap_setCell _ _ _ _ (by simp)]; exact this)
  have e1 : ¬ w.heap.size = w.heap.size + 2 := by omega
  have HLT := Lib.hid hlt
  obtain ⟨hD0, hD1, _, _⟩ := B0a.out.cells
  clear hA0 hA1 hv1 hv1' hb1 hW hlt
  dsimp only
  go_wp2_with fail
  rw [← HW.out]
  clear hC0 hC1 hF0 hF1 hD0 hD1
  refine toT_any _ L2 W H2a.out HN.out.2 _ ?_
  intro v2 w2 hv2 hb2
  obtain ⟨x2, m2, y2, rfl, hv2'⟩ := hv2.op
  have B1c := Lib.hid (B1b.out.later hb2 (lt_of_block B1b.out))
  have B2c := Lib.hid (B2b.out.later hb2 (lt_of_block B2b.out))
  have HV1c := Lib.hid (HV1.out.later hb2 (Nat.le_refl _))
  have HV2 := Lib.hid hv2'
  have HB2 := Lib.hid (HBW.out.trans (hb2.mono HBW.out.size))
  obtain ⟨hC0, hC1, hF0, hF1⟩ := B2c.out.cells
  obtain ⟨hR0, hR1, hG0, hG1⟩ := B1c.out.cells
  have e2 : ¬ w.heap.size + 1 = w.heap.size + 2 := by omega
  have e3 : ¬ w.heap.size + 2 = w.heap.size + 1 := by omega
  clear hv2 hv2' hb2
  dsimp only
  go_wp2
  refine bodyPost_ret_at (by simp [results, Tryz.results35, go_sem, hC0, hC1, hF0, hF1, hR0, hR1, hG0, hG1] <;> rfl) rfl ?_
  have T1 := HV1c.out.setAt hC1 (no_str_sl _ _ _) (.slice x2 m2 y2)
  have T2 := HV2.out.setAt hC1 (no_str_sl _ _ _) (.slice x2 m2 y2)
  have k0 : (w2.setCell ⟨w.heap.size + 2, 1, none⟩ (.slice x2 m2 y2)).cell? ⟨w.heap.size + 1, 0, none⟩ = some (.slice none 0 0) := by rw [cell?_set, if_neg (by omega)]; exact hR0
  have k1 : ((w2.setCell ⟨w.heap.size + 2, 1, none⟩ (.slice x2 m2 y2)).setCell ⟨w.heap.size + 1, 0, none⟩ (.slice x1 m1 y1)).cell? ⟨w.heap.size + 1, 1, none⟩ = some (.slice none 0 0) := by
    rw [cell?_set, if_neg (by omega), cell?_set, if_neg (by omega)]; exact hR1
  refine HR.out _ _ ⟨_, _, rfl, (T1.setAt k0 (no_str_sl _ _ _) _).setAt k1 (no_str_sl _ _ _) _, (T2.setAt k0 (no_str_sl _ _ _) _).setAt k1 (no_str_sl _ _ _) _⟩ (((HB2.out.setCell (by simp <;> omega) _).setCell (by simp <;> omega) _).setCell (by simp <;> omega) _)

set_option maxRecDepth 100000 in
set_option maxHeartbeats 2000000 in
theorem eqR_any (va vb : Value) (L1 L2 : List ByteArray) (w : World) (ha : IsRec w va L1 L2) (hb : IsRec w vb L1 L2) (hn1 : L1.length ≤ 281474976710656) (hn2 : L2.length ≤ 281474976710656) (R : Ending → World → Prop)
    (hR : ∀ w', Below w.heap.size w w' → R (.returned (.bool true)) w') :
    Calls Tryz.prog 37 #[va, vb] w R := by
  have HR := Lib.hid hR; clear hR
  obtain ⟨s1, s2, rfl, h1, h2⟩ := ha
  obtain ⟨a1, n1, c1, rfl, h1'⟩ := h1.op
  obtain ⟨a2, n2, c2, rfl, h2'⟩ := h2.op
  obtain ⟨s3, s4, rfl, h3, h4⟩ := hb
  obtain ⟨a3, n3, c3, rfl, h3'⟩ := h3.op
  obtain ⟨a4, n4, c4, rfl, h4'⟩ := h4.op
  obtain ⟨L, hL⟩ : ∃ L, L = (w.alloc (.cells #[.slice a1 n1 c1, .slice a2 n2 c2] 36)).alloc (.cells #[.slice a3 n3 c3, .slice a4 n4 c4] 36) := ⟨_, rfl⟩
  have hb1 : Below (w.heap.size + 1) (w.alloc (.cells #[.slice a1 n1 c1, .slice a2 n2 c2] 36)) L := by rw [hL]; exact (Below.refl _ _).alloc (by simp) _
  have B0 : Hid (Box2 L w.heap.size (.slice a1 n1 c1) (.slice a2 n2 c2) 36) := Lib.hid ((Box2.made w _ _ _).later hb1 (by omega))
  have B1 : Hid (Box2 L (w.heap.size + 1) (.slice a3 n3 c3) (.slice a4 n4 c4) 36) := Lib.hid (by
    have := Box2.made (w.alloc (.cells #[.slice a1 n1 c1, .slice a2 n2 c2] 36)) (.slice a3 n3 c3) (.slice a4 n4 c4) 36
    rw [World.size_alloc, ← hL] at this; exact this)
  have HEXT : Hid (Below w.heap.size w L) := Lib.hid (by rw [hL]; exact ((Below.refl w.heap.size w).alloc (Nat.le_refl _) _).alloc (by simp) _)
  have H1 := Lib.hid (h1'.later HEXT.out (Nat.le_refl _))
  have H2 := Lib.hid (h2'.later HEXT.out (Nat.le_refl _))
  have H3 := Lib.hid (h3'.later HEXT.out (Nat.le_refl _))
  have H4 := Lib.hid (h4'.later HEXT.out (Nat.le_refl _))
  have HN := Lib.hid (And.intro hn1 hn2)
  have HL := Lib.hid hL
  obtain ⟨hA0, hA1, _, _⟩ := B0.out.cells
  obtain ⟨hB0, hB1, _, _⟩ := B1.out.cells
  clear h1 h2 h3 h4 h1' h2' h3' h4' hn1 hn2 hL hb1
  go_enter Tryz.func37, Tryz.ntmps37
  rw [HL.out] at hA0 hA1 hB0 hB1
  go_wp2_with fail
  rw [← HL.out]
  refine eqT_any _ _ L1 L1 L H1.out H3.out HN.out.1 HN.out.1 _ ?_
  intro w1 hb1
  rw [decide_eq_true rfl]
  have HB1 := Lib.hid hb1
  have B0a := Lib.hid (B0.out.later hb1 (lt_of_block B0.out))
  have B1a := Lib.hid (B1.out.later hb1 (lt_of_block B1.out))
  clear hA0 hA1 hB0 hB1 hb1
  obtain ⟨hA0, hA1, _, _⟩ := B0a.out.cells
  obtain ⟨hB0, hB1, _, _⟩ := B1a.out.cells
  dsimp only
  go_wp2_with fail
  refine eqT_any _ _ L2 L2 w1 (H2.out.later HB1.out (Nat.le_refl _)) (H4.out.later HB1.out (Nat.le_refl _)) HN.out.2 HN.out.2 _ ?_
  intro w2 hb2
  rw [decide_eq_true rfl]
  have HB2 := Lib.hid (HEXT.out.trans ((HB1.out.trans (hb2.mono HB1.out.size)).mono HEXT.out.size))
  clear hA0 hA1 hB0 hB1 hb2
  dsimp only
  go_wp2
  first | go_ret | skip
  exact HR.out _ HB2.out
end Go.Proofs.YtegdcmcfeaohhaaGreatDoor

namespace Go.Proofs.YtegdcmcfeaohhaaGreatDoor.EnvLaid
open Go Go.ChangeShapes Go.WideShapes Go.ChangeAt Go.RowKit

theorem cellsRec : Tryz.prog.cellsOf 33 = 2 := by kernel_rfl

set_option maxRecDepth 100000 in
/-- a recurrence that came in -/
theorem open_rec {H : Type} {enc : TypeId × Value → H} {W : World} {r : Reach} {b0 : Nat} {v : Value} {d : DataW H} {ps : List MemPlace}
    (hval : Value.okWide Tryz.prog W r b0 33 v) (h : DataW.Trod enc Tryz.prog W 0 (fun _ => true) true 33 v d ps) :
    ∃ L1 L2, IsRec W v L1 L2 ∧ L1.length ≤ maxLen ∧ (∀ s ∈ L1, s.size ≤ maxLen) ∧ L2.length ≤ maxLen ∧ ∀ s ∈ L2, s.size ≤ maxLen := by
  obtain ⟨cs, rfl, hsz⟩ := okWide_struct Tryz.underlying33 hval
  rw [cellsRec] at hsz
  obtain ⟨x0, x1, rfl⟩ : ∃ x0 x1, cs = #[x0, x1] := by
    obtain ⟨l⟩ := cs
    match l, hsz with
    | [x0, x1], _ => exact ⟨x0, x1, rfl⟩
  obtain ⟨fuel, hf⟩ := h
  obtain ⟨y0, y1, n, _, _, h0, h1⟩ := trod_struct2 Tryz.underlying33 hf
  obtain ⟨L1, p1, p2, p3⟩ := open_textsC (y := y0) (x := x0) (by simpa [Value.cells, cellsStr, show Tryz.prog.cellsOf 22 = 1 by kernel_rfl] using h0)
  obtain ⟨L2, q1, q2, q3⟩ := open_textsC (y := y1) (x := x1) (by simpa [Value.cells, cellsStr, show Tryz.prog.cellsOf 22 = 1 by kernel_rfl] using h1)
  exact ⟨L1, L2, ⟨x0, x1, rfl, p1, q1⟩, p2, p3, q2, q3⟩
end Go.Proofs.YtegdcmcfeaohhaaGreatDoor.EnvLaid

namespace Go.Proofs.YtegdcmcfeaohhaaGreatDoor
open Go Go.RowKit

def RevRRel (w : World) (g n cap : Nat) (xs : List Rat) (iv jv : Value) (wr : World) : Prop :=
  ∃ k : Nat, iv = .int .i64 (k : Int) ∧ jv = .int .i64 ((n : Int) - 1 - (k : Int)) ∧ 2 * k ≤ n ∧ Bo3 ER 70 wr g cap (revSt xs k) ∧ ButO (some g) w wr

set_option maxRecDepth 100000 in
set_option maxHeartbeats 4000000 in
theorem revR_any (v : Value) (xs : List Rat) (B : Nat) (w : World) (h : OwE 3 ER 70 w B v xs) (hB : B ≤ w.heap.size) (hl : xs.length ≤ 60) (R : Ending → World → Prop)
    (hR : ∀ w', OwE 3 ER 70 w' B v xs.reverse → Below B w w' → R (.returned (.tuple #[])) w') :
    Calls Tryz.prog 79 #[v] w R := by
  have HR := Lib.hid hR; clear hR
  by_cases hne : xs = []
  · subst hne
    obtain ⟨a0, n0, c0, rfl, hn0⟩ := h.shape
    have hn00 : n0 = 0 := by simpa using hn0
    subst hn00
    have HF := Lib.hid (HR.out w h (Below.refl _ _))
    clear h hn0 hl
    go_enter Tryz.func79, Tryz.ntmps79
    go_wp2
    go_loopw [2, 3] (fun iv jv wr => iv = .int .i64 0 ∧ jv = .int .i64 (-1) ∧ wr = w) (fun _ _ _ => 0)
    case atStart => exact ⟨rfl, rfl, rfl⟩
    case round =>
      obtain ⟨rfl, rfl, rfl⟩ := hrel
      go_wp2
      refine bodyPost_end (v := .tuple #[]) (by first | rfl | (simp [results, Tryz.results79, go_sem] <;> rfl)) rfl ?_
      exact HF.out
  · obtain ⟨g, cap, rfl, hBg, hbo⟩ := h.bo3 hne
    obtain ⟨n, hn⟩ : ∃ n, n = xs.length := ⟨_, rfl⟩
    rw [← hn] at HR ⊢
    have HN := Lib.hid hn
    have HBG := Lib.hid hBg
    have hn0 : 0 < n := by rw [hn]; exact List.length_pos_iff.2 hne
    have HST : Hid (RevRRel w g n cap xs (.int .i64 0) (.int .i64 ((n : Int) - 1 - ((0 : Nat) : Int))) w) := Lib.hid ⟨0, rfl, rfl, by omega, hbo, ButO.refl _ _⟩
    have hw0 : IntKind.i64.wrap ((n : Int) - 1) = (n : Int) - 1 := IntWalk.i64_in _ (by omega)
    have hs0 : (n : Int) - 1 - ((0 : Nat) : Int) = (n : Int) - 1 := by omega
    rw [hs0] at HST
    have HLN := Lib.hid (show n ≤ 60 ∧ 0 < n by omega)
    clear h hl hne hBg hbo hn hs0 hn0
    go_enter Tryz.func79, Tryz.ntmps79
    go_wp2
    clear hw0
    go_loopw [2, 3] (fun iv jv wr => RevRRel w g n cap xs iv jv wr) (fun iv _ _ => n - (intOf iv).toNat)
    case atStart => exact HST.out
    case round =>
      clear HST
      obtain ⟨k, rfl, rfl, hk, hbo, hbut⟩ := hrel
      have HBO := Lib.hid hbo
      have HBU := Lib.hid hbut
      by_cases hlt : (k : Int) < (n : Int) - 1 - (k : Int)
      · obtain ⟨m, hm⟩ : ∃ m, m = n - 1 - k := ⟨_, rfl⟩
        have hmi : (n : Int) - 1 - (k : Int) = (m : Int) := by omega
        rw [hmi] at hlt ⊢
        have HMM := Lib.hid (show m = n - 1 - k ∧ k < m ∧ m < n by omega)
        have hlk : k < (revSt xs k).length := by rw [revSt_len, ← HN.out]; omega
        have hlm : m < (revSt xs k).length := by rw [revSt_len, ← HN.out]; omega
        obtain ⟨p, hp⟩ : ∃ p, (revSt xs k)[k]? = some p := ⟨_, List.getElem?_eq_getElem hlk⟩
        obtain ⟨q, hq⟩ : ∃ q, (revSt xs k)[m]? = some q := ⟨_, List.getElem?_eq_getElem hlm⟩
        obtain ⟨u0, u1, u2, hu0, hu1, hu2, hux⟩ := hbo.cells hlk
        obtain ⟨v0, v1, v2, hv0, hv1, hv2, hvx⟩ := hbo.cells hlm
        have HUX := Lib.hid (hux p hp)
        have HVX := Lib.hid (hvx q hq)
        obtain ⟨y1, y2, y3, y4, y5, y6, hcu, _, _⟩ := hux p hp
        obtain ⟨z1, z2, z3, z4, z5, z6, hcv, _, _⟩ := hvx q hq
        obtain ⟨pg, hpg⟩ : ∃ pg, pg = decide (p.num < 0) := ⟨_, rfl⟩
        obtain ⟨qg, hqg⟩ : ∃ qg, qg = decide (q.num < 0) := ⟨_, rfl⟩
        rw [← hpg] at hcu
        rw [← hqg] at hcv
        cases hcu
        cases hcv
        have HNEW : Hid (revSt xs (k + 1) = ((revSt xs k).set k q).set m p) := Lib.hid (by
          rw [revSt, ← HN.out, ← HMM.out.1, atQ_some hp, atQ_some hq])
        have hf := fun o => hbo.frozen o
        have hf0 := hf (k * 3)
        have hf1 := hf (k * 3 + 1)
        have hf2 := hf (k * 3 + 2)
        have hf3 := hf (m * 3)
        have hf4 := hf (m * 3 + 1)
        have hf5 := hf (m * 3 + 2)
        have d1 : ¬ m * 3 = k * 3 := by omega
        have d2 : ¬ m * 3 = k * 3 + 1 := by omega
        have d3 : ¬ m * 3 = k * 3 + 2 := by omega
        have d4 : ¬ m * 3 + 1 = k * 3 := by omega
        have d5 : ¬ m * 3 + 1 = k * 3 + 1 := by omega
        have d6 : ¬ m * 3 + 1 = k * 3 + 2 := by omega
        have d7 : ¬ m * 3 + 2 = k * 3 := by omega
        have d8 : ¬ m * 3 + 2 = k * 3 + 1 := by omega
        have d9 : ¬ m * 3 + 2 = k * 3 + 2 := by omega
        have hk0 : (0 : Int) ≤ (k : Int) := by omega
        have hm0 : (0 : Int) ≤ (m : Int) := by omega
        have hkn : (k : Int) < (n : Int) := by omega
        have hmn : (m : Int) < (n : Int) := by omega
        have hw1 : IntKind.i64.wrap ((k : Int) + 1) = ((k + 1 : Nat) : Int) := by rw [IntWalk.i64_in _ (by have := HLN.out; omega)]; omega
        obtain ⟨jj, hjj⟩ : ∃ jj, jj = (m : Int) - 1 := ⟨_, rfl⟩
        have hw2 : IntKind.i64.wrap ((m : Int) - 1) = jj := by rw [IntWalk.i64_in _ (by have := HLN.out; omega)]; exact hjj.symm
        have HJJ := Lib.hid hjj
        have HLT : Hid (k < m ∧ m < n ∧ m = n - 1 - k) := Lib.hid (by omega)
        clear hk hbo hbut hm hmi hlk hlm hp hq hux hvx hpg hqg hf hjj
        have b1 := HBO.out
        have b2 := b1.set elemR (i := k) (by rw [revSt_len, ← HN.out]; have := HLT.out; omega) HVX.out
        have c3 := elemR.keep HUX.out (puts3_but wr g k (.bool qg) (.slice z1 z2 z3) (.slice z4 z5 z6)) b1.noInt
        have b3 := b2.set elemR (i := m) (by rw [List.length_set, revSt_len, ← HN.out]; have := HLT.out; omega) c3
        rw [← HNEW.out] at b3
        have HB3 := Lib.hid (b3.later elemR (Below.refl _ _).drew (Nat.le_refl _))
        have HBU3 : Hid (ButO (some g) w (World.drew (puts3 (puts3 wr g k (.bool qg) (.slice z1 z2 z3) (.slice z4 z5 z6)) g m (.bool pg) (.slice y1 y2 y3) (.slice y4 y5 y6)))) := Lib.hid (HBU.out.trans (((((((ButO.set _ _ _).trans (ButO.set _ _ _)).trans (ButO.set _ _ _)).trans (ButO.set _ _ _)).trans (ButO.set _ _ _)).trans (ButO.set _ _ _)).trans (ButO.of (Below.refl _ _).drew)))
        have HREL : Hid (RevRRel w g n cap xs (.int .i64 ((k + 1 : Nat) : Int)) (.int .i64 jj) (World.drew (puts3 (puts3 wr g k (.bool qg) (.slice z1 z2 z3) (.slice z4 z5 z6)) g m (.bool pg) (.slice y1 y2 y3) (.slice y4 y5 y6)))) := Lib.hid
          ⟨k + 1, rfl, by rw [HJJ.out]; congr 1; have := HLT.out; omega, by have := HLT.out; omega, HB3.out, HBU3.out⟩
        unfold puts3 at HREL
        clear b1 b2 c3 b3 HB3 HBU3
        go_wp2
        go_region_law (fail)
        all_goals
          go_wp2
          go_roundw
          case rel => exact HREL.out
          case measure => simp [intOf]; have := HLT.out; omega
      · have hfin : revSt xs k = xs.reverse := revSt_all xs (by rw [← HN.out]; exact hk) (by rw [← HN.out]; omega)
        rw [hfin] at hbo
        have hown := hbo.own HBG.out
        rw [List.length_reverse, ← HN.out] at hown
        have HF := Lib.hid (HR.out wr hown (hbut.below (fun g' e => by obtain rfl := Option.some.inj e; exact HBG.out) hB))
        clear hk hbo hbut hfin hown
        go_wp2
        refine bodyPost_end (v := .tuple #[]) (by first | rfl | (simp [results, Tryz.results79, go_sem] <;> rfl)) rfl ?_
        exact HF.out
end Go.Proofs.YtegdcmcfeaohhaaGreatDoor

namespace Go.Proofs.YtegdcmcfeaohhaaGreatDoor
open Go Go.RowKit

/-- the connection of a recurrence -/
def conP (cs : List Rat) : List Rat := 1 :: cs.map fun q => -q
theorem conP_take {cs : List Rat} {k : Nat} {q : Rat} (h : cs[k]? = some q) : conP (cs.take (k + 1)) = conP (cs.take k) ++ [-q] := by
  unfold conP; rw [List.take_add_one, h]; simp
theorem conP_len (cs : List Rat) : (conP cs).length = cs.length + 1 := by unfold conP; simp
theorem few_neg {q : Rat} (h : few q) : few (-q) := by
  unfold few at *
  rw [Rat.neg_num, Rat.neg_den, Int.natAbs_neg]; exact h
theorem few_one : few 1 := by
  have h1 : (1 : Rat).num = 1 := rfl
  have h2 : (1 : Rat).den = 1 := rfl
  unfold few
  rw [h1, h2]
  constructor
  · rw [show (1 : Int).natAbs = 1 from rfl, decs, if_neg (by omega), dig_small (by omega) (by omega)]; simp
  · rw [decs, if_neg (by omega), dig_small (by omega) (by omega)]; simp
theorem few_qOf {L : List ByteArray} (hall : L.all isNum = true) {q : Rat} (h : q ∈ L.map qOf) : few q := by
  obtain ⟨s, hs, rfl⟩ := List.mem_map.1 h
  exact numO_few (isNum_some (List.all_eq_true.1 hall s hs))
theorem fits_con {L : List ByteArray} (hall : L.all isNum = true) : fitsQ (conP (L.map qOf)).reverse = true := by
  unfold fitsQ
  rw [List.all_eq_true]
  intro q hq
  refine few_dec ?_
  rw [List.mem_reverse] at hq
  unfold conP at hq
  rcases List.mem_cons.1 hq with rfl | hq
  · exact few_one
  · obtain ⟨p, hp, rfl⟩ := List.mem_map.1 hq
    exact few_neg (few_qOf hall hp)
theorem OwE.one3 {α : Type} {E : World → List Value → α → Prop} (hE : Elem 3 E) (e : TypeId) {w : World} {B : Nat} {c0 c1 c2 : Value} {x : α} (hc : E w [c0, c1, c2] x) (hB : B ≤ w.heap.size) :
    OwE 3 E e (w.alloc (.cells #[c0, c1, c2] e)) B (.slice (some ⟨w.heap.size, 0, none⟩) 1 1) [x] := by
  refine .inr ⟨w.heap.size, 1, #[c0, c1, c2], rfl, hB, ?_, Nat.le_refl _, by simp only [maxLen]; omega, rfl, fun u hu => hE.ints hc u (by simpa using hu), fun i y hi => ?_⟩
  · show (w.heap.push _)[_]? = _
    simp
  · obtain rfl : i = 0 := by have := (List.getElem?_eq_some_iff.1 hi).1; simpa using this
    cases hi
    exact hE.below hc ((Below.refl _ _).alloc (Nat.le_refl _) _) (Nat.le_refl _)

def ConRel (w : World) (cs : List Rat) (v i : Value) (wr : World) : Prop :=
  ∃ k : Nat, i = .int .i64 (k : Int) ∧ k ≤ cs.length ∧ OwE 3 ER 70 wr w.heap.size v (conP (cs.take k)) ∧ Below w.heap.size w wr

set_option maxRecDepth 100000 in
set_option maxHeartbeats 4000000 in
theorem conI_any (v1 v2 : Value) (ss cs : List Rat) (w : World) (h1 : RsL w v1 ss) (h2 : RsL w v2 cs) (hl : cs.length ≤ 60) (R : Ending → World → Prop)
    (hR : ∀ v' w', OwE 3 ER 70 w' w.heap.size v' (conP cs) → Below w.heap.size w w' → R (.returned v') w') :
    Calls Tryz.prog 78 #[.agg #[v1, v2]] w R := by
  have HR := Lib.hid hR; clear hR
  obtain ⟨a1, n1, c1, rfl, h1'⟩ := SlE.op h1
  obtain ⟨a2, n2, c2, rfl, hn2, _, h2'⟩ := SlE.open h2
  have HN := Lib.hid hn2
  have hnl : n2 ≤ 60 := by omega
  obtain ⟨L, hL⟩ : ∃ L, L = w.alloc (.cells #[.slice a1 n1 c1, .slice a2 n2 c2] 97) := ⟨_, rfl⟩
  have HBL : Hid (Below w.heap.size w L) := Lib.hid (by rw [hL]; exact (Below.refl _ _).alloc (Nat.le_refl _) _)
  have HBX : Hid (Box2 L w.heap.size (.slice a1 n1 c1) (.slice a2 n2 c2) 97) := Lib.hid (by rw [hL]; exact Box2.made _ _ _ _)
  have HL := Lib.hid hL
  have H2 := Lib.hid (SlE.later elemR h2' HBL.out (Nat.le_refl _))
  clear h1 h2 h1' h2' hn2 hl hL
  go_enter Tryz.func78, Tryz.ntmps78
  go_wp2_with fail
  rw [← HL.out]
  refine sint_any 1 (by rw [W64_eq]; omega) _ _ ?_
  intro v3 w3 hv3 hb3
  obtain ⟨s3, e3, hs3⟩ := hv3
  have hv3k : IsI w3 v3 ((1 : Nat) : Int) := ⟨s3, e3, hs3⟩
  obtain ⟨x3, y3, z3, rfl, _⟩ := hs3.op
  obtain ⟨nb3, hnb3⟩ : ∃ nb, nb = decide (((1 : Nat) : Int) < 0) := ⟨_, rfl⟩
  rw [← hnb3] at e3
  subst e3
  have HV3 := Lib.hid hv3k
  have HB3 := Lib.hid hb3
  clear hb3 hv3k hs3 hnb3
  dsimp only
  go_wp2_with fail
  refine ratioOf_any _ ((1 : Nat) : Int) _ HV3.out _ ?_
  intro v4 w4 hv4 hb4
  obtain ⟨m4, a5, n5, c5, a6, n6, c6, hm4, rfl, _, _⟩ := hv4.parts
  have HER := Lib.hid (ER.of hv4)
  have HB4 := Lib.hid (HB3.out.trans (hb4.mono HB3.out.size))
  obtain ⟨W, hW⟩ : ∃ W, W = w4.alloc (.cells #[.bool m4, .slice a5 n5 c5, .slice a6 n6 c6] 70) := ⟨_, rfl⟩
  have hbW : Below w4.heap.size w4 W := by rw [hW]; exact (Below.refl _ _).alloc (Nat.le_refl _) _
  have HST : Hid (ConRel L cs (.slice (some ⟨w4.heap.size, 0, none⟩) 1 1) (.int .i64 0) W) := Lib.hid ⟨0, rfl, Nat.zero_le _, by rw [hW]; exact OwE.one3 elemR _ HER.out HB4.out.size, HB4.out.trans (hbW.mono HB4.out.size)⟩
  have HXW := Lib.hid (HBX.out.later (HB4.out.trans (hbW.mono HB4.out.size)) (lt_of_block HBX.out))
  obtain ⟨hA0, hA1, _, _⟩ := HXW.out.cells
  have HW := Lib.hid hW
  rw [hW] at hA0 hA1
  clear hm4 hv4 hb4 hbW hW
  dsimp only
  go_wp2
  rw [← HW.out]
  clear hA0 hA1 HW
  go_loopw [3, 12] (fun v i wr => ConRel L cs v i wr) (fun _ i _ => n2 - (intOf i).toNat)
  case atStart => exact HST.out
  case round =>
    clear HST
    obtain ⟨k, rfl, hk, hown, hbel⟩ := hrel
    have HBE := Lib.hid hbel
    have HOWN := Lib.hid hown
    obtain ⟨a7, n7, c7, rfl, hn7⟩ := hown.shape
    clear hown hn7
    by_cases hkn : k = n2
    · have he : cs.take k = cs := by rw [hkn, HN.out, List.take_length]
      rw [he] at HOWN
      have c9 : ¬ ((k : Int) < (n2 : Int)) := by omega
      have HF := Lib.hid (HR.out _ wr (HOWN.out.mono HBL.out.size) (HBL.out.trans (HBE.out.mono HBL.out.size)))
      clear he hbel hkn hk
      go_wp2
      first | go_ret | skip
      exact HF.out
    · have hkl : k < n2 := by have := HN.out; omega
      obtain ⟨q, hq⟩ : ∃ q, cs[k]? = some q := ⟨_, List.getElem?_eq_getElem (by rw [← HN.out]; exact hkl)⟩
      have HTK := Lib.hid (conP_take hq)
      have HLK : Hid ((conP (cs.take k)).length ≤ 100000000) := Lib.hid (by rw [conP_len, List.length_take]; omega)
      obtain ⟨b, off, cc, rfl, hb, hcell, hE⟩ := H2.out.at k q hq
      obtain ⟨x1, y1, z1, x2, y2, z2, hcs, hi1, hi2⟩ := hE
      obtain ⟨ng, hng⟩ : ∃ ng, ng = decide (q.num < 0) := ⟨_, rfl⟩
      rw [← hng] at hcs
      have hd0 : wr.cell? ⟨b, off + k * 3, none⟩ = some (.bool ng) := by rw [hbel.cell (p := ⟨b, off + k * 3, none⟩) hb]; exact hcell 0 _ (by rw [hcs]; rfl)
      have hd1 : wr.cell? ⟨b, off + k * 3 + 1, none⟩ = some (.slice x1 y1 z1) := by rw [hbel.cell (p := ⟨b, off + k * 3 + 1, none⟩) hb]; exact hcell 1 _ (by rw [hcs]; rfl)
      have hd2 : wr.cell? ⟨b, off + k * 3 + 2, none⟩ = some (.slice x2 y2 z2) := by rw [hbel.cell (p := ⟨b, off + k * 3 + 2, none⟩) hb]; exact hcell 2 _ (by rw [hcs]; rfl)
      have HQR := Lib.hid ((show IsR L (.agg #[.bool ng, .slice x1 y1 z1, .slice x2 y2 z2]) q from ⟨_, _, by rw [hng], hi1, hi2⟩).later hbel (Nat.le_refl _))
      obtain ⟨V, hV⟩ : ∃ V, V = wr.alloc (.cells #[.bool ng, .slice x1 y1 z1, .slice x2 y2 z2] 70) := ⟨_, rfl⟩
      have hbV : Below wr.heap.size wr V := by rw [hV]; exact (Below.refl _ _).alloc (Nat.le_refl _) _
      have HBV : Hid (Below L.heap.size L V) := Lib.hid (HBE.out.trans (hbV.mono HBE.out.size))
      have HQV := Lib.hid (HQR.out.later hbV (Nat.le_refl _))
      have HOWV := Lib.hid (HOWN.out.later elemR hbV (Nat.le_refl _))
      have HV := Lib.hid hV
      have hw1 : IntKind.i64.wrap ((k : Int) + 1) = ((k + 1 : Nat) : Int) := by rw [IntWalk.i64_in _ (by omega)]; omega
      have hk0 : (0 : Int) ≤ (k : Int) := by omega
      have hkn2 : (k : Int) < (n2 : Int) := by omega
      have HKL := Lib.hid (show k + 1 ≤ cs.length ∧ k < n2 by have := HN.out; omega)
      clear hq hcell hcs hi1 hi2 hng hkn hbel hb hkl hk hV hbV
      go_wp2_with fail
      rw [← HV.out]
      refine rneg_any _ q _ HQV.out _ ?_
      intro v6 w6 hv6 hb6
      obtain ⟨m6, a10, n10, c10, a11, n11, c11, hm6, rfl, _, _⟩ := hv6.parts
      have HER6 := Lib.hid (ER.of hv6)
      have HB6 := Lib.hid (HBV.out.trans (hb6.mono HBV.out.size))
      have HOW6 := Lib.hid (HOWV.out.later elemR hb6 (Nat.le_refl _))
      clear hm6 hv6 hb6 hd0 hd1 hd2
      dsimp only
      go_wp2_with (at_builtin; go_must (refine wpList_pushE elemR (by omega) rfl _ _ 63 rfl 70 56 zeroR Tryz.underlying63 info_ratio rfl zeroR_ints (by omega) L.heap.size _ (HOW6.out.alloc elemR _) HLK.out (by have := HB6.out.size; simp; omega) w6.heap.size [.bool m6, .slice a10 n10 c10, .slice a11 n11 c11] (-q) rfl (elemR.below HER6.out ((Below.refl _ _).alloc (Nat.le_refl _) _) (Nat.le_refl _)) (cells_alloc _ #[.bool m6, .slice a10 n10 c10, .slice a11 n11 c11] _ _ rfl) ?_))
      intro ao n9 c9 w9 hown9 hn9 hgr hb9
      have HOW9 : Hid (OwE 3 ER 70 w9 L.heap.size (.slice ao n9 c9) (conP (cs.take (k + 1)))) := Lib.hid (by rw [HTK.out]; exact hown9)
      have HB9 : Hid (Below L.heap.size L w9) := Lib.hid ((HB6.out.alloc HB6.out.size _).trans hb9)
      clear hown9 hn9 hgr hb9
      go_wp2
      go_roundw
      case rel => exact ⟨k + 1, by first | rfl | go_num, HKL.out.1, HOW9.out, HB9.out⟩
      case measure => simp [intOf]; have := HKL.out; omega
end Go.Proofs.YtegdcmcfeaohhaaGreatDoor

namespace Go.Proofs.YtegdcmcfeaohhaaGreatDoor
open Go Go.RowKit

theorem num_neg_q (q : Rat) : (-q).num = -q.num := rfl
theorem den_neg_q (q : Rat) : (-q).den = q.den := rfl

theorem neg_end (w L wC : World) (g : Nat) (q : Rat) (n : Bool) (a1 : Option Addr) (n1 c1 : Nat) (a2 : Option Addr) (n2 c2 : Nat)
    (d2 : Box4 wC (g + 1) (.bool false) (.slice none 0 0) (.bool false) (.slice none 0 0) 58)
    (hz : IsZ wC (.agg #[.bool n, .slice a1 n1 c1]) (-q.num)) (hd : IsZ L (.agg #[.bool false, .slice a2 n2 c2]) (q.den : Int)) (hb : Below g w L) (hbC : Below L.drew.heap.size L.drew wC) (hgW : g ≤ L.heap.size) :
    QBox g w (g + 1) (-q) ((((wC.setCell ⟨g + 1, 0, none⟩ (.bool n)).setCell ⟨g + 1, 1, none⟩ (.slice a1 n1 c1)).setCell ⟨g + 1, 2, none⟩ (.bool false)).setCell ⟨g + 1, 3, none⟩ (.slice a2 n2 c2)) := by
  have hn := d2.noInt rfl rfl rfl rfl
  obtain ⟨s1, e1, h1⟩ := hz
  simp at e1
  obtain ⟨e1, rfl⟩ := e1
  have t4 := (Sl.drew hd.ofNat).later hbC (Nat.le_refl _)
  refine ⟨_, _, _, d2.set4 _ _ _ _, ?_, ?_, ?_, ((((hb.trans ((below_ofDrew hbC).mono hgW)).setCell (by simp <;> omega) _).setCell (by simp <;> omega) _).setCell (by simp <;> omega) _).setCell (by simp <;> omega) _⟩
  · rw [e1]; simp [num_neg_q]
  · exact h1.set4 hn _ _ _ _ rfl rfl rfl
  · exact t4.set4 hn _ _ _ _ rfl rfl rfl

set_option maxRecDepth 100000 in
set_option maxHeartbeats 1000000 in
theorem negQ_any (va : Value) (a : Rat) (w : World) (ha : IsQ w va a) (hla : (dig 10000 a.num.natAbs).length ≤ 1000000)
    (R : Ending → World → Prop) (hR : ∀ v w', IsQ w' v (-a) → Below w.heap.size w w' → R (.returned v) w') :
    Calls Tryz.prog 75 #[va] w R := by
  have HR := Lib.hid hR; clear hR
  obtain ⟨na, a1, n1, c1, a2, n2, c2, rfl, hz1, hz2⟩ := ha.parts
  clear ha
  obtain ⟨L, hL⟩ : ∃ L, L = (w.alloc (.cells #[.bool na, .slice a1 n1 c1, .bool false, .slice a2 n2 c2] 58)).alloc (.cells #[.bool false, .slice none 0 0, .bool false, .slice none 0 0] 58) := ⟨_, rfl⟩
  have hLs : L.heap.size = w.heap.size + 2 := by rw [hL]; simp
  have B0 : Box4 L w.heap.size (.bool na) (.slice a1 n1 c1) (.bool false) (.slice a2 n2 c2) 58 := by
    rw [hL]; exact (Box4.made w _ _ _ _ _).later (B := w.heap.size + 1) ((Below.refl _ _).alloc (by simp) _) (by omega)
  have B2 : Box4 L (w.heap.size + 1) (.bool false) (.slice none 0 0) (.bool false) (.slice none 0 0) 58 := by
    rw [hL]; have := Box4.made (w.alloc (.cells #[.bool na, .slice a1 n1 c1, .bool false, .slice a2 n2 c2] 58)) (.bool false) (.slice none 0 0) (.bool false) (.slice none 0 0) 58; simpa using this
  have HEXT : Below w.heap.size w L := by rw [hL]; exact ((Below.refl w.heap.size w).alloc (Nat.le_refl _) _).alloc (by simp) _
  have HL := Lib.hid hL
  have y1 := (hz1.later HEXT (Nat.le_refl _))
  have y2 := (hz2.later HEXT (Nat.le_refl _))
  clear hL hz1 hz2
  go_enter Tryz.func75, Tryz.ntmps75
  go_wp2_with fail
  rw [← HL.out]
  obtain ⟨⟨hA0, hA1, hA2, hA3⟩, _, _, _, _⟩ := B0.cells
  have hk0 : w.heap.size < L.heap.size := by omega
  have hk2 : w.heap.size + 1 < L.heap.size := by omega
  have HLN := Lib.hid hla
  clear hla
  go_cut [] (fun wx => QBox w.heap.size w (w.heap.size + 1) (-a) wx)
  case first =>
    go_region_law (first
      | (go_simp; go_at_call 117; refine zneg_any _ a.num _ y1.drew ?_ _ ?_; exact Nat.le_trans HLN.out (by omega); intro v1 w1 hv1 hb1; obtain ⟨bn, b1, m1, d1, rfl, hv2⟩ := hv1.openB; have e0 := B0.later (below_ofDrew hb1) hk0; have e2 := B2.later (below_ofDrew hb1) hk2; obtain ⟨⟨hC0, hC1, hC2, hC3⟩, _, _, _, _⟩ := e0.cells; obtain ⟨⟨hR0, hR1, hR2, hR3⟩, hR4, hR5, hR6, hR7⟩ := e2.cells; dsimp only))
    all_goals (go_wp2_with fail; go_meet; exact neg_end w L w1 w.heap.size a bn b1 m1 d1 a2 n2 c2 e2 hv2 y2 HEXT hb1 (by omega))
  case rest =>
    clear hA0 hA1 hA2 hA3
    obtain ⟨b1, x1, x2, hbx, he, ht1, ht2, hbl⟩ := hcut
    obtain ⟨⟨hR0, hR1, hR2, hR3⟩, _, _, _, _⟩ := hbx.cells
    go_wp2
    refine bodyPost_ret_at (by simp [results, Tryz.results75, go_sem, hR0, hR1, hR2, hR3] <;> rfl) rfl ?_
    exact HR.out _ _ ⟨x1, x2, by rw [he], ht1, ht2⟩ hbl
end Go.Proofs.YtegdcmcfeaohhaaGreatDoor

namespace Go.Proofs.YtegdcmcfeaohhaaGreatDoor
open Go Go.RowKit

/-- the characteristic polynomial of a recurrence of texts -/
noncomputable def pofL (L1 L2 : List ByteArray) : List ByteArray := if recB L1 L2 = true then textsQ (conP (L2.map qOf)).reverse else []
theorem pofL_true {L1 L2 : List ByteArray} (h : recB L1 L2 = true) : pofL L1 L2 = textsQ (conP (L2.map qOf)).reverse := by unfold pofL; rw [if_pos h]
theorem pofL_false {L1 L2 : List ByteArray} (h : recB L1 L2 = false) : pofL L1 L2 = [] := by unfold pofL; rw [if_neg (by rw [h]; decide)]
/-- whether there is one -/
noncomputable def pofB (L1 L2 : List ByteArray) : Bool := recB L1 L2
theorem recB_parts {L1 L2 : List ByteArray} (h : recB L1 L2 = true) : L1.length = L2.length ∧ L2.length ≤ 8 ∧ L1.all isNum = true ∧ L2.all isNum = true := by
  unfold recB at h
  rw [Bool.and_eq_true, Bool.and_eq_true, Bool.and_eq_true] at h
  obtain ⟨k1, k2, k3, k4⟩ := h
  have k1 := of_decide_eq_true k1
  have k2 := of_decide_eq_true k2
  exact ⟨k1, by omega, k3, k4⟩
theorem pof_small (L1 L2 : List ByteArray) : (pofL L1 L2).length ≤ 60 := by
  cases h : recB L1 L2
  · rw [pofL_false h]; simp
  · rw [pofL_true h]
    have := (recB_parts h).2.1
    unfold textsQ
    rw [List.length_map, List.length_reverse, conP_len, List.length_map]; omega
theorem cof_con {L1 L2 : List ByteArray} (h : recB L1 L2 = true) : cofB (conP (L2.map qOf)).reverse = true := by
  obtain ⟨_, h2, _, h4⟩ := recB_parts h
  unfold cofB
  rw [fits_con h4, decide_eq_true (by rw [List.length_reverse, conP_len, List.length_map]; omega)]; rfl

set_option maxRecDepth 100000 in
set_option maxHeartbeats 4000000 in
theorem impl_pof (v : Value) (L1 L2 : List ByteArray) (w : World) (hE : Env w) (htab : Lib.TabIs Tryz.prog w "internal/strconv.uint64pow10" .u64 Lib.pow10Tab) (h : IsRec w v L1 L2) (hn1 : L1.length ≤ 1048576) (hn2 : L2.length ≤ 1048576) (R : Ending → World → Prop)
    (hR : ∀ v' w', OwE 1 ET 9 w' w.heap.size v' (pofL L1 L2) → Below w.heap.size w w' → R (.returned (.tuple #[v', .bool (recB L1 L2)])) w') :
    Calls Tryz.prog 36 #[v] w R := by
  have HR := Lib.hid hR; clear hR
  have HE := Lib.hid hE
  have HTAB := Lib.hid htab
  have hk := h
  obtain ⟨a1, n1, c1, a2, n2, c2, rfl, e1, e2, h1, h2⟩ := h.parts
  obtain ⟨L, hL⟩ : ∃ L, L = w.alloc (.cells #[.slice a1 n1 c1, .slice a2 n2 c2] 36) := ⟨_, rfl⟩
  have HBL : Hid (Below w.heap.size w L) := Lib.hid (by rw [hL]; exact (Below.refl _ _).alloc (Nat.le_refl _) _)
  have HBX : Hid (Box2 L w.heap.size (.slice a1 n1 c1) (.slice a2 n2 c2) 36) := Lib.hid (by rw [hL]; exact Box2.made _ _ _ _)
  have HL := Lib.hid hL
  have HV := Lib.hid (hk.later HBL.out (Nat.le_refl _))
  have HN := Lib.hid (And.intro hn1 hn2)
  obtain ⟨hA0, hA1, _, _⟩ := HBX.out.cells
  clear hE htab h hk e1 e2 h1 h2 hn1 hn2 hL
  go_enter Tryz.func36, Tryz.ntmps36
  rw [HL.out] at hA0 hA1
  go_wp2_with fail
  rw [← HL.out]
  refine readseq_any _ L1 L2 L (HE.out.later HBL.out (Nat.le_refl _)) HV.out HN.out.1 HN.out.2 _ ?_ ?_
  · intro x1 x2 w2 hrec hx1 hx2 hb2
    have HREC := Lib.hid hrec
    obtain ⟨b1, m1, d1, rfl, hx1'⟩ := SlE.op hx1
    obtain ⟨b2, m2, d2, rfl, hx2'⟩ := SlE.op hx2
    have hq8 := (recB_parts hrec).2.1
    have HQ8 : Hid ((L2.map qOf).length ≤ 60) := Lib.hid (by rw [List.length_map]; omega)
    have HX1 := Lib.hid hx1'
    have HX2 := Lib.hid hx2'
    obtain ⟨V, hV⟩ : ∃ V, V = w2.alloc (.cells #[.slice b1 m1 d1, .slice b2 m2 d2] 97) := ⟨_, rfl⟩
    have hbV : Below w2.heap.size w2 V := by rw [hV]; exact (Below.refl _ _).alloc (Nat.le_refl _) _
    have hb2V : Below L.heap.size L V := hb2.trans (hbV.mono hb2.size)
    have HBV : Hid (Below w.heap.size w V) := Lib.hid (HBL.out.trans (hb2V.mono HBL.out.size))
    have HX1V := Lib.hid (SlE.later elemR hx1' hbV (Nat.le_refl _))
    have HX2V := Lib.hid (SlE.later elemR hx2' hbV (Nat.le_refl _))
    have HV2 := Lib.hid hV
    clear hrec hx1 hx2 hx1' hx2' hb2 hbV hb2V hV hA0 hA1 hq8
    dsimp only
    go_wp2_with fail
    rw [← HV2.out]
    refine conI_any _ _ (L1.map qOf) (L2.map qOf) V HX1V.out HX2V.out HQ8.out _ ?_
    intro v3 w3 hv3 hb3
    obtain ⟨a3, n3, c3, rfl, e3⟩ := hv3.shape
    clear e3
    have HV3 := Lib.hid hv3
    have HZ3 := Lib.hid hb3.size
    have HB3 := Lib.hid (HBV.out.trans (hb3.mono HBV.out.size))
    have HQL : Hid ((conP (L2.map qOf)).length ≤ 60) := Lib.hid (by rw [conP_len, List.length_map]; have := (recB_parts HREC.out).2.1; omega)
    clear hv3 hb3
    dsimp only
    go_wp2_with fail
    refine revR_any _ (conP (L2.map qOf)) V.heap.size _ HV3.out HZ3.out HQL.out _ ?_
    intro w4 hv4 hb4
    have HV4 := Lib.hid hv4.sl
    have HB4 := Lib.hid (HB3.out.trans (hb4.mono HBV.out.size))
    clear hv4 hb4
    dsimp only
    go_wp2_with fail
    refine cof_any _ _ _ (tab_later HTAB.out HB4.out (Nat.le_refl _)) HV4.out _ ?_
    intro v5 w5 hv5 hb5
    obtain ⟨a5, n5, c5, rfl, e5⟩ := hv5.shape
    clear e5
    have hl : cofL (conP (L2.map qOf)).reverse = pofL L1 L2 := by rw [pofL_true HREC.out, cofL_true (cof_con HREC.out)]
    rw [hl] at hv5
    have HF := Lib.hid (HR.out (.slice a5 n5 c5) w5 (hv5.mono HB4.out.size) (HB4.out.trans (hb5.mono HB4.out.size)))
    rw [HREC.out] at HF
    rw [cof_con HREC.out]
    clear hv5 hb5 hl
    dsimp only
    go_wp2
    first | go_ret | skip
    exact HF.out
  · intro e w2 hrec he hb2
    obtain ⟨t, p, rfl⟩ := he
    have HF := Lib.hid (fun w' hb => HR.out (.slice none 0 0) w' (by rw [pofL_false hrec]; exact OwE.nil _ _ _) hb)
    rw [hrec] at HF
    have HB2 := Lib.hid (HBL.out.trans (hb2.mono HBL.out.size))
    clear hrec hb2 hA0 hA1
    unfold zeroS
    dsimp only
    go_wp2
    first | go_ret | skip
    exact HF.out _ (HB2.out.alloc HB2.out.size _)

def PofSRel (w : World) (cs : List Rat) (v i : Value) (wr : World) : Prop :=
  ∃ (k : Nat) (ii : Int), i = .int .i64 ii ∧ ii = (cs.length : Int) - 1 - (k : Int) ∧ k ≤ cs.length ∧ OwE 1 ET 9 wr w.heap.size v (textsQ ((cs.map fun q => -q).reverse.take k)) ∧ Below w.heap.size w wr

theorem textQ_one : textQ 1 = [49] := by
  have h1 : (1 : Rat).num = 1 := rfl
  have h2 : (1 : Rat).den = 1 := rfl
  unfold textQ
  rw [h1, h2]
  simp [decs, dig_small]
  rfl

set_option maxRecDepth 100000 in
set_option maxHeartbeats 4000000 in
theorem spec_pof (v : Value) (L1 L2 : List ByteArray) (w : World) (h : IsRec w v L1 L2) (hn1 : L1.length ≤ 1048576) (hs1 : ∀ s ∈ L1, s.size ≤ 1048576) (hn2 : L2.length ≤ 1048576) (hs2 : ∀ s ∈ L2, s.size ≤ 1048576) (R : Ending → World → Prop)
    (hR : ∀ v' w', OwE 1 ET 9 w' w.heap.size v' (pofL L1 L2) → Below w.heap.size w w' → R (.returned (.tuple #[v', .bool (recB L1 L2)])) w') :
    Calls Tryz.prog 34 #[v] w R := by
  have HR := Lib.hid hR; clear hR
  obtain ⟨a1, n1, c1, a2, n2, c2, rfl, e1, e2, h1, h2⟩ := h.parts
  obtain ⟨L, hL⟩ : ∃ L, L = w.alloc (.cells #[.slice a1 n1 c1, .slice a2 n2 c2] 36) := ⟨_, rfl⟩
  have HBL : Hid (Below w.heap.size w L) := Lib.hid (by rw [hL]; exact (Below.refl _ _).alloc (Nat.le_refl _) _)
  have HBX : Hid (Box2 L w.heap.size (.slice a1 n1 c1) (.slice a2 n2 c2) 36) := Lib.hid (by rw [hL]; exact Box2.made _ _ _ _)
  have HL := Lib.hid hL
  have H1 := Lib.hid (h1.later HBL.out (Nat.le_refl _))
  have H2 := Lib.hid (h2.later HBL.out (Nat.le_refl _))
  have HH := Lib.hid (And.intro hn1 (And.intro hs1 (And.intro hn2 hs2)))
  have HE := Lib.hid (And.intro e1 e2)
  clear h e1 e2 h1 h2 hn1 hs1 hn2 hs2 hL
  go_enter Tryz.func34, Tryz.ntmps34
  go_wp2_with fail
  rw [← HL.out]
  refine l03is_any _ n1 n2 c1 c2 a1 a2 L1 L2 L HBX.out HE.out.1 HE.out.2 H1.out H2.out HH.out.1 HH.out.2.1 HH.out.2.2.1 HH.out.2.2.2 _ ?_
  intro w1 hb1
  have HB1 := Lib.hid (HBL.out.trans (hb1.mono HBL.out.size))
  have HX1 := Lib.hid (HBX.out.later hb1 (lt_of_block HBX.out))
  have H2a := Lib.hid (TxL.later H2.out hb1 (Nat.le_refl _))
  obtain ⟨hA0, hA1, _, _⟩ := HX1.out.cells
  clear hb1
  cases hrec : recB L1 L2 with
  | false =>
    have HF := Lib.hid (HR.out (.slice none 0 0) w1 (by rw [pofL_false hrec]; exact OwE.nil _ _ _) HB1.out)
    rw [hrec] at HF
    clear hrec hA0 hA1
    dsimp only
    go_wp2
    first | go_ret | skip
    exact HF.out
  | true =>
  have HREC := Lib.hid hrec
  obtain ⟨_, hq8, _, hall⟩ := recB_parts hrec
  have HALL := Lib.hid hall
  have hn8 : n2 ≤ 8 := by have := HE.out.2; omega
  have HQN : Hid ((L2.map qOf).length = n2) := Lib.hid (by rw [List.length_map]; exact HE.out.2.symm)
  have HLW : Hid (w.heap.size < w1.heap.size) := Lib.hid (lt_of_block HX1.out)
  have HST : Hid (PofSRel w1 (L2.map qOf) (.slice (some ⟨w1.heap.size, 0, none⟩) 0 0) (.int .i64 ((n2 : Int) - 1)) (w1.alloc (.cells #[] 9))) := Lib.hid ⟨0, _, rfl, by rw [HQN.out]; simp, Nat.zero_le _, OwE.lit _ _ _ (Nat.le_refl _), (Below.refl _ _).alloc (Nat.le_refl _) _⟩
  have hw0 : IntKind.i64.wrap ((n2 : Int) - 1) = (n2 : Int) - 1 := IntWalk.i64_in _ (by omega)
  have hA2 := ((HX1.out.later ((Below.refl w1.heap.size w1).alloc (Nat.le_refl _) (.cells #[] 9)) (lt_of_block HX1.out)).cells).2.1
  have e8 : ¬ w.heap.size = w1.heap.size := by have := HLW.out; omega
  clear hrec hq8 hall
  dsimp only
  go_wp2
  clear hw0 hA0 hA1 hA2 e8
  go_loopw [4, 5] (fun v i wr => PofSRel w1 (L2.map qOf) v i wr) (fun _ i _ => (intOf i + 1).toNat)
  case atStart => exact HST.out
  case round =>
  clear HST
  obtain ⟨k, ii, rfl, hii, hk, hown, hbel⟩ := hrel
  have HBE := Lib.hid hbel
  have HOWN := Lib.hid hown
  obtain ⟨a5, n5, c5, rfl, hn5⟩ := hown.shape
  clear hown hn5
  have HXR := Lib.hid (HX1.out.later hbel (lt_of_block HX1.out))
  obtain ⟨hA0, hA1, _, _⟩ := HXR.out.cells
  by_cases hkn : k < n2
  · obtain ⟨j, hj⟩ : ∃ j, j = n2 - 1 - k := ⟨_, rfl⟩
    obtain rfl : ii = (j : Int) := by rw [HQN.out] at hii; omega
    obtain ⟨s, hs⟩ : ∃ s, L2[j]? = some s := ⟨_, List.getElem?_eq_getElem (by have := HE.out.2; omega)⟩
    have HS := Lib.hid (isNum_at HALL.out hs)
    have HM2 : Hid (textsQ (((L2.map qOf).map fun q => -q).reverse.take (k + 1)) = textsQ (((L2.map qOf).map fun q => -q).reverse.take k) ++ [⟨(textQ (-qOf s)).toArray⟩]) := Lib.hid (by
      unfold textsQ
      rw [List.take_add_one, List.getElem?_reverse (by rw [List.length_map, HQN.out]; omega), List.length_map, show (L2.map qOf).length - 1 - k = j by rw [HQN.out]; omega, List.getElem?_map, List.getElem?_map, hs]
      simp)
    have HLK : Hid ((textsQ (((L2.map qOf).map fun q => -q).reverse.take k)).length ≤ 100000000) := Lib.hid (by unfold textsQ; rw [List.length_map, List.length_take, List.length_reverse, List.length_map, HQN.out]; omega)
    obtain ⟨q, hq⟩ : ∃ q, q = qOf s := ⟨_, rfl⟩
    rw [← hq] at HS HM2
    have HBD := Lib.hid (Bd.of (numO_few HS.out))
    obtain ⟨b, off, rfl, hb, hcell⟩ := TxL.at H2a.out j s hs
    rw [← hbel.cell (p := ⟨b, off + j, none⟩) hb] at hcell
    obtain ⟨jj, hjj⟩ : ∃ jj, jj = (j : Int) - 1 := ⟨_, rfl⟩
    have hw1 : IntKind.i64.wrap ((j : Int) - 1) = jj := by rw [IntWalk.i64_in _ (by omega)]; exact hjj.symm
    have HJJ : Hid (jj = ((L2.map qOf).length : Int) - 1 - ((k + 1 : Nat) : Int)) := Lib.hid (by rw [HQN.out]; omega)
    have hj0 : (0 : Int) ≤ (j : Int) := by omega
    have hj1 : (j : Int) < (n2 : Int) := by omega
    have HKL := Lib.hid hkn
    have HJ := Lib.hid (show jj + 1 = (j : Int) by omega)
    have HLQ := Lib.hid (HBD.out.len (B := 10000) (by omega))
    have HLN := Lib.hid (HBD.out.neg.len (B := 10000) (by omega))
    clear hs hkn hbel hb hk hj hii hjj hq
    go_wp2_with fail
    refine ofq_any s q _ HS.out _ ?_
    intro v3 w3 hq3 hb3
    obtain ⟨m3, x5, y5, z5, x6, y6, z6, rfl, _, _⟩ := hq3.parts
    have HQ3 := Lib.hid hq3
    have HB3 := Lib.hid (HBE.out.trans (hb3.mono HBE.out.size))
    have HOW3 := Lib.hid (HOWN.out.later elemT hb3 (Nat.le_refl _))
    clear hq3 hb3 hcell hA0 hA1
    dsimp only
    go_wp2_with fail
    refine negQ_any _ q _ HQ3.out (Nat.le_trans HLQ.out.1 (by omega)) _ ?_
    intro v4 w4 hq4 hb4
    obtain ⟨m4, x7, y7, z7, x8, y8, z8, rfl, _, _⟩ := hq4.parts
    have HQ4 := Lib.hid hq4
    have HB4 := Lib.hid (HB3.out.trans (hb4.mono HB3.out.size))
    have HOW4 := Lib.hid (HOW3.out.later elemT hb4 (Nat.le_refl _))
    clear hq4 hb4
    dsimp only
    go_wp2_with fail
    refine text_any _ (-q) _ HQ4.out (Nat.le_trans HLN.out.1 (by omega)) (Nat.le_trans HLN.out.2 (by omega)) _ ?_
    intro w5 hb5
    obtain ⟨T, hT⟩ : ∃ T : ByteArray, T = ⟨(textQ (-q)).toArray⟩ := ⟨_, rfl⟩
    rw [← hT] at HM2 ⊢
    have HB5 := Lib.hid (HB4.out.trans (hb5.mono HB4.out.size))
    have HOW5 := Lib.hid (HOW4.out.later elemT hb5 (Nat.le_refl _))
    clear hb5 hT
    dsimp only
    go_wp2_with (at_builtin; go_must (refine wpList_pushE elemT (by omega) rfl _ _ 22 rfl 9 16 (.string ByteArray.empty) Tryz.underlying22 info_str rfl (by intro u hu; simp [Value.cells] at hu; subst hu; rfl) (by omega) w1.heap.size _ (HOW5.out.alloc elemT _) HLK.out (by have := HB5.out.size; simp; omega) w5.heap.size [.string T] T rfl rfl (cells_alloc _ #[.string T] _ _ rfl) ?_))
    intro ao n9 c9 w9 hown9 hn9 hgr hb9
    have HOW9 : Hid (OwE 1 ET 9 w9 w1.heap.size (.slice ao n9 c9) (textsQ (((L2.map qOf).map fun q => -q).reverse.take (k + 1)))) := Lib.hid (by rw [HM2.out, List.map_map]; exact hown9)
    have HB9 : Hid (Below w1.heap.size w1 w9) := Lib.hid ((HB5.out.alloc HB5.out.size _).trans hb9)
    clear hown9 hn9 hgr hb9
    go_wp2
    go_roundw
    case rel => exact ⟨k + 1, _, rfl, HJJ.out, by rw [HQN.out]; exact HKL.out, HOW9.out, HB9.out⟩
    case measure => simp [intOf]; have := HJ.out; omega
  · obtain rfl : ii = -1 := by rw [HQN.out] at hii hk; omega
    have he : ((L2.map qOf).map fun q => -q).reverse.take k = ((L2.map qOf).map fun q => -q).reverse := List.take_of_length_le (by rw [List.length_reverse, List.length_map, HQN.out]; omega)
    rw [he] at HOWN
    have HEND : Hid (textsQ ((L2.map qOf).map fun q => -q).reverse ++ [⟨#[49]⟩] = pofL L1 L2) := Lib.hid (by
      rw [pofL_true HREC.out]
      unfold conP textsQ
      rw [List.reverse_cons, List.map_append]
      simp [textQ_one])
    have HLK : Hid ((textsQ ((L2.map qOf).map fun q => -q).reverse).length ≤ 100000000) := Lib.hid (by unfold textsQ; rw [List.length_map, List.length_reverse, List.length_map, HQN.out]; omega)
    have HB6 := Lib.hid (HB1.out.trans (HBE.out.mono HB1.out.size))
    clear he hbel hkn hk hii hA0 hA1
    go_wp2_with (at_builtin; go_must (refine wpList_pushE elemT (by omega) rfl _ _ 22 rfl 9 16 (.string ByteArray.empty) Tryz.underlying22 info_str rfl (by intro u hu; simp [Value.cells] at hu; subst hu; rfl) (by omega) w1.heap.size _ (HOWN.out.alloc elemT _) HLK.out (by have := HBE.out.size; simp; omega) wr.heap.size [.string ⟨#[49]⟩] ⟨#[49]⟩ rfl rfl (cells_alloc _ #[.string ⟨#[49]⟩] _ _ rfl) ?_))
    intro ao n9 c9 w9 hown9 hn9 hgr hb9
    rw [← List.map_map, HEND.out] at hown9
    have hfin : Below w.heap.size w w9 := HB1.out.trans (((HBE.out.alloc HBE.out.size _).trans hb9).mono HB1.out.size)
    have HF := Lib.hid (HR.out _ w9 (hown9.mono HB1.out.size) hfin)
    rw [HREC.out] at HF
    clear hown9 hn9 hgr hb9 hfin
    go_wp2
    first | go_ret | skip
    exact HF.out
end Go.Proofs.YtegdcmcfeaohhaaGreatDoor

namespace Go.Proofs.YtegdcmcfeaohhaaGreatDoor
open Go Go.RowKit

/-- a value of the program's type of recurrences whose lists are own, in different blocks -/
def OwR (w : World) (B : Nat) (v : Value) (L1 L2 : List ByteArray) : Prop :=
  ∃ s1 s2 M, v = .agg #[s1, s2] ∧ OwE 1 ET 9 w B s1 L1 ∧ OwE 1 ET 9 w M s2 L2 ∧ B ≤ M ∧ M ≤ w.heap.size ∧ ∀ g, s1.ownBlock = some g → g < M

theorem OwR.rec {w : World} {B : Nat} {v : Value} {L1 L2 : List ByteArray} (h : OwR w B v L1 L2) : IsRec w v L1 L2 := by
  obtain ⟨s1, s2, M, rfl, h1, h2, _⟩ := h
  exact ⟨s1, s2, rfl, h1.tx, h2.tx⟩

/-- the blocks of a recurrence's lists -/
def rcBlock (v : Value) (g : Nat) : Prop := match v with
  | .agg #[s1, s2] => s1.ownBlock = some g ∨ s2.ownBlock = some g
  | _ => False

theorem ButO.both {a b c d : World} {o1 o2 : Option Nat} {B : Nat} (h1 : Below a.heap.size a b) (h2 : ButO o1 b c) (h3 : ButO o2 c d) (k1 : ∀ g, o1 = some g → B ≤ g) (k2 : ∀ g, o2 = some g → B ≤ g) (hB : B ≤ a.heap.size) : Below B a d :=
  ((h1.mono hB).trans (h2.below k1 (Nat.le_trans hB h1.size))).trans (h3.below k2 (Nat.le_trans hB (Nat.le_trans h1.size h2.size)))

set_option maxRecDepth 100000 in
set_option maxHeartbeats 2000000 in
theorem markRO_any (s1 s2 : Value) (L1 L2 : List ByteArray) (k0 : Nat) (B : Nat) (w : World) (h : OwR w B (.agg #[s1, s2]) L1 L2) (hn1 : L1.length ≤ 2000000) (hn2 : L2.length ≤ 2000000) (hk : k0 ≤ 1000000) (R : Ending → World → Prop)
    (hR : ∀ w' La wm, Below w.heap.size w La → ButO s1.ownBlock La wm → ButO s2.ownBlock wm w' → R (.returned (.int .i64 ((k0 + L1.length + L2.length : Nat) : Int))) w') :
    Calls Tryz.prog 38 #[.agg #[s1, s2], .int .i64 (k0 : Int)] w R := by
  have HR := Lib.hid hR; clear hR
  obtain ⟨t1, t2, M, ev, h1, h2, h3, h4, h5⟩ := h
  simp only [Value.agg.injEq, Array.mk.injEq, List.cons.injEq, and_true] at ev
  obtain ⟨rfl, rfl⟩ := ev
  obtain ⟨a1, n1, c1, rfl, e1⟩ := h1.shape
  obtain ⟨a2, n2, c2, rfl, e2⟩ := h2.shape
  obtain ⟨L, hL⟩ : ∃ L, L = w.alloc (.cells #[.slice a1 n1 c1, .slice a2 n2 c2] 36) := ⟨_, rfl⟩
  have HBL : Hid (Below w.heap.size w L) := Lib.hid (by rw [hL]; exact (Below.refl _ _).alloc (Nat.le_refl _) _)
  have B0 : Hid (Box2 L w.heap.size (.slice a1 n1 c1) (.slice a2 n2 c2) 36) := Lib.hid (by rw [hL]; exact Box2.made _ _ _ _)
  have HL := Lib.hid hL
  have HO1 := Lib.hid h1.own_lt
  have HO2 := Lib.hid h2.own_lt
  have H1 := Lib.hid (h1.later elemT HBL.out (Nat.le_refl _))
  have H2 := Lib.hid (h2.later elemT HBL.out (Nat.le_refl _))
  have HM := Lib.hid (And.intro h3 (And.intro h4 h5))
  have HN := Lib.hid (And.intro hn1 (And.intro hn2 hk))
  obtain ⟨hA0, hA1, _, _⟩ := B0.out.cells
  clear h1 h2 h3 h4 h5 e1 e2 hn1 hn2 hk hL
  go_enter Tryz.func38, Tryz.ntmps38
  rw [HL.out] at hA0 hA1
  go_wp2_with fail
  rw [← HL.out]
  refine mark_any _ L1 k0 B L H1.out (by have := HN.out.1; omega) (by have := HN.out.2.2; omega) _ ?_
  intro w1 hv1 hb1
  have B1 : Hid (Box2 w1 w.heap.size (.slice a1 n1 c1) (.slice a2 n2 c2) 36) := Lib.hid (by
    have k := hb1.block w.heap.size (lt_of_block B0.out) (fun e => by have := HO1.out _ e; omega)
    have := B0.out
    unfold Box2 at *
    rw [k]; exact this)
  have H2b := Lib.hid (H2.out.butO hb1 (fun g hg e => by have k1 := HM.out.2.2 g e; have k2 := H2.out.base g hg; omega))
  have HB1 := Lib.hid hb1
  obtain ⟨k1, hk1⟩ : ∃ k1, k1 = k0 + L1.length := ⟨_, rfl⟩
  rw [← hk1] at HR ⊢
  have HK1 : Hid (k1 ≤ 1000000000) := Lib.hid (by have := HN.out; omega)
  clear hv1 hb1 hk1 hA0 hA1
  obtain ⟨hA0, hA1, _, _⟩ := B1.out.cells
  dsimp only
  go_wp2_with fail
  refine mark_any _ L2 k1 M w1 H2b.out (by have := HN.out.2.1; omega) HK1.out _ ?_
  intro w2 hv2 hb2
  have HF := Lib.hid (HR.out w2 L w1 HBL.out HB1.out hb2)
  clear hv2 hb2 hA0 hA1
  dsimp only
  go_wp2
  first | go_ret | skip
  exact HF.out
end Go.Proofs.YtegdcmcfeaohhaaGreatDoor

namespace Go.Proofs.YtegdcmcfeaohhaaGreatDoor
open Go Go.RowKit

theorem OwR.later0 {w w' : World} {B : Nat} {v : Value} {L1 L2 : List ByteArray} (h : OwR w B v L1 L2) (hb : Below w.heap.size w w') : OwR w' B v L1 L2 := by
  obtain ⟨s1, s2, M, rfl, h1, h2, h3, h4, h5⟩ := h
  exact ⟨s1, s2, M, rfl, h1.later elemT hb (Nat.le_refl _), h2.later elemT hb (Nat.le_refl _), h3, Nat.le_trans h4 hb.size, h5⟩

set_option maxRecDepth 100000 in
set_option maxHeartbeats 2000000 in
theorem toR_own (v : Value) (L1 L2 : List ByteArray) (w : World) (h : IsRec w v L1 L2) (hn1 : L1.length ≤ 1048576) (hn2 : L2.length ≤ 1048576) (R : Ending → World → Prop)
    (hR : ∀ v' w', OwR w' w.heap.size v' L1 L2 → (∀ g, rcBlock v' g → g < w'.heap.size) → Below w.heap.size w w' → R (.returned v') w') :
    Calls Tryz.prog 35 #[v] w R := by
  have HR := Lib.hid hR; clear hR
  obtain ⟨s1, s2, rfl, h1, h2⟩ := h
  obtain ⟨a1, n1, c1, rfl, h1'⟩ := h1.op
  obtain ⟨a2, n2, c2, rfl, h2'⟩ := h2.op
  obtain ⟨L, hL⟩ : ∃ L, L = ((w.alloc (.cells #[.slice a1 n1 c1, .slice a2 n2 c2] 33)).alloc (.cells #[.slice none 0 0, .slice none 0 0] 36)).alloc (.cells #[.slice none 0 0, .slice none 0 0] 36) := ⟨_, rfl⟩
  have HLS : Hid (L.heap.size = w.heap.size + 3) := Lib.hid (by rw [hL]; simp)
  have B0 : Hid (Box2 L w.heap.size (.slice a1 n1 c1) (.slice a2 n2 c2) 33) := Lib.hid (by
    rw [hL]; exact ((Box2.made w _ _ _).later (B := w.heap.size + 1) ((Below.refl _ _).alloc (by simp) _) (by omega)).later (B := w.heap.size + 2) ((Below.refl _ _).alloc (by simp) _) (by omega))
  have B1 : Hid (Box2 L (w.heap.size + 1) (.slice none 0 0) (.slice none 0 0) 36) := Lib.hid (by
    have := (Box2.made (w.alloc (.cells #[.slice a1 n1 c1, .slice a2 n2 c2] 33)) (.slice none 0 0) (.slice none 0 0) 36).later (B := w.heap.size + 2) ((Below.refl _ _).alloc (by simp) (.cells #[.slice none 0 0, .slice none 0 0] 36)) (by simp)
    rw [World.size_alloc, ← hL] at this; exact this)
  have B2 : Hid (Box2 L (w.heap.size + 2) (.slice none 0 0) (.slice none 0 0) 36) := Lib.hid (by
    have := Box2.made ((w.alloc (.cells #[.slice a1 n1 c1, .slice a2 n2 c2] 33)).alloc (.cells #[.slice none 0 0, .slice none 0 0] 36)) (.slice none 0 0) (.slice none 0 0) 36
    rw [World.size_alloc, World.size_alloc, ← hL] at this; exact this)
  have HEXT : Hid (Below w.heap.size w L) := Lib.hid (by rw [hL]; exact (((Below.refl w.heap.size w).alloc (Nat.le_refl _) _).alloc (by simp) _).alloc (by simp; omega) _)
  have H1 := Lib.hid (h1'.later HEXT.out (Nat.le_refl _))
  have H2 := Lib.hid (h2'.later HEXT.out (Nat.le_refl _))
  have HN := Lib.hid (And.intro hn1 hn2)
  have HL := Lib.hid hL
  obtain ⟨hA0, hA1, _, _⟩ := B0.out.cells
  clear h1 h2 h1' h2' hn1 hn2 hL
  go_enter Tryz.func35, Tryz.ntmps35
  rw [HL.out] at hA0 hA1
  go_wp2_with fail
  rw [← HL.out] at hA0 hA1 ⊢
  refine toT_own _ L1 L H1.out HN.out.1 _ ?_
  intro v1 w1 hv1 hb1
  obtain ⟨x1, m1, y1, rfl, ex1⟩ := hv1.shape
  clear ex1
  have HOL := Lib.hid hv1.own_lt
  have B0a := Lib.hid (B0.out.later hb1 (lt_of_block B0.out))
  have B1a := Lib.hid (B1.out.later hb1 (lt_of_block B1.out))
  have B2a := Lib.hid (B2.out.later hb1 (lt_of_block B2.out))
  obtain ⟨hC0, hC1, hF0, hF1⟩ := B2a.out.cells
  obtain ⟨W, hW⟩ : ∃ W, W = w1.setCell ⟨w.heap.size + 2, 0, none⟩ (.slice x1 m1 y1) := ⟨_, rfl⟩
  have HW := Lib.hid hW
  have HV1 := Lib.hid (hv1.setOld elemT (b := w.heap.size + 2) (by rw [HLS.out]; omega) (B2a.out.noInt rfl rfl) 0 (.slice x1 m1 y1))
  rw [← hW] at HV1
  have H2a := Lib.hid ((H2.out.later hb1 (Nat.le_refl _)).setAt hC0 (no_str_sl _ _ _) (.slice x1 m1 y1))
  rw [← hW] at H2a
  have HBW : Hid (Below w.heap.size w W) := Lib.hid (by rw [hW]; exact (HEXT.out.trans (hb1.mono HEXT.out.size)).setCell (by simp) _)
  have hlt : w.heap.size + 2 < w1.heap.size := by have := HLS.out; have := hb1.size; omega
  have HWS : Hid (W.heap.size = w1.heap.size) := Lib.hid (by rw [hW]; simp)
  have B2b : Hid (Box2 W (w.heap.size + 2) (.slice x1 m1 y1) (.slice none 0 0) 36) := Lib.hid (by
    rw [hW]
    have := B2a.out
    unfold Box2 at this ⊢
    simp [World.setCell, Array.getElem?_modify, this])
  have B0b : Hid (Box2 W w.heap.size (.slice a1 n1 c1) (.slice a2 n2 c2) 33) := Lib.hid (by
    have := B0a.out
    unfold Box2 at this ⊢
    rw [hW, Below.heap_setCell _ _ _ _ (by simp)]; exact this)
  have B1b : Hid (Box2 W (w.heap.size + 1) (.slice none 0 0) (.slice none 0 0) 36) := Lib.hid (by
    have := B1a.out
    unfold Box2 at this ⊢
    rw [hW, Below.heap_setCell _ _ _ _ (by simp)]; exact this)
  have e1 : ¬ w.heap.size = w.heap.size + 2 := by omega
  have HLT := Lib.hid hlt
  obtain ⟨hD0, hD1, _, _⟩ := B0a.out.cells
  have HZ1 : Hid (w.heap.size ≤ L.heap.size ∧ L.heap.size ≤ W.heap.size) := Lib.hid ⟨HEXT.out.size, by rw [HWS.out]; exact hb1.size⟩
  clear hA0 hA1 hv1 hb1 hW hlt
  dsimp only
  go_wp2_with fail
  rw [← HW.out]
  clear hC0 hC1 hF0 hF1 hD0 hD1
  refine toT_own _ L2 W H2a.out HN.out.2 _ ?_
  intro v2 w2 hv2 hb2
  obtain ⟨x2, m2, y2, rfl, ex2⟩ := hv2.shape
  clear ex2
  have HOL2 := Lib.hid hv2.own_lt
  have B1c := Lib.hid (B1b.out.later hb2 (lt_of_block B1b.out))
  have B2c := Lib.hid (B2b.out.later hb2 (lt_of_block B2b.out))
  have HV1c := Lib.hid (HV1.out.later elemT hb2 (Nat.le_refl _))
  have HV2 := Lib.hid hv2
  have HZ2 : Hid (W.heap.size ≤ w2.heap.size) := Lib.hid hb2.size
  have HB2 := Lib.hid (HBW.out.trans (hb2.mono HBW.out.size))
  obtain ⟨hC0, hC1, hF0, hF1⟩ := B2c.out.cells
  obtain ⟨hR0, hR1, hG0, hG1⟩ := B1c.out.cells
  have e2 : ¬ w.heap.size + 1 = w.heap.size + 2 := by omega
  have e3 : ¬ w.heap.size + 2 = w.heap.size + 1 := by omega
  clear hv2 hb2
  dsimp only
  go_wp2
  refine bodyPost_ret_at (by simp [results, Tryz.results35, go_sem, hC0, hC1, hF0, hF1, hR0, hR1, hG0, hG1] <;> rfl) rfl ?_
  have n2 := B2c.out.noInt rfl rfl
  have n1 := B1c.out.noInt rfl rfl
  have T1 := HV1c.out.setOld elemT (b := w.heap.size + 2) (by rw [HLS.out]; omega) n2 1 (.slice x2 m2 y2)
  have T2 := HV2.out.setOld elemT (b := w.heap.size + 2) (by have := HZ1.out.2; have := HLS.out; omega) n2 1 (.slice x2 m2 y2)
  have nn : ∀ (wz : World) (o : Nat) (u : Value), NoInt wz (w.heap.size + 1) → notInt u = true → ∀ b, NoInt (wz.setCell ⟨b, o, none⟩ u) (w.heap.size + 1) := by
    intro wz o u hz hu b o' u' h'
    rw [cell?_set] at h'
    split at h'
    · rw [Option.map_eq_some_iff] at h'
      obtain ⟨_, _, rfl⟩ := h'
      exact hu
    · exact hz _ _ h'
  have k0 := nn _ 1 (.slice x2 m2 y2) n1 rfl (w.heap.size + 2)
  have T3 := T1.setOld elemT (b := w.heap.size + 1) (by rw [HLS.out]; omega) k0 0 (.slice x1 m1 y1)
  have T4 := T2.setOld elemT (b := w.heap.size + 1) (by have := HZ1.out.2; have := HLS.out; omega) k0 0 (.slice x1 m1 y1)
  have k1 := nn _ 0 (.slice x1 m1 y1) k0 rfl (w.heap.size + 1)
  have T5 := T3.setOld elemT (b := w.heap.size + 1) (by rw [HLS.out]; omega) k1 1 (.slice x2 m2 y2)
  have T6 := T4.setOld elemT (b := w.heap.size + 1) (by have := HZ1.out.2; have := HLS.out; omega) k1 1 (.slice x2 m2 y2)
  refine HR.out _ _ ⟨_, _, W.heap.size, rfl, T5.mono HZ1.out.1, T6, Nat.le_trans HZ1.out.1 HZ1.out.2, ?_, fun g hg => by have := HOL.out g hg; rw [HWS.out]; exact this⟩ ?_ (((HB2.out.setCell (by simp <;> omega) _).setCell (by simp <;> omega) _).setCell (by simp <;> omega) _)
  · simp; exact HZ2.out
  · intro g hg
    simp
    rcases hg with hg | hg
    · have := HOL.out g hg; have h8 := HZ2.out; have h9 := HWS.out; omega
    · exact HOL2.out g hg
end Go.Proofs.YtegdcmcfeaohhaaGreatDoor

namespace Go.Proofs.YtegdcmcfeaohhaaGreatDoor
open Go Go.RowKit

set_option maxRecDepth 100000 in
set_option maxHeartbeats 8000000 in
theorem law_polyOf (v : Value) (L1 L2 : List ByteArray) (w : World) (hE : Env w) (htab : Lib.TabIs Tryz.prog w "internal/strconv.uint64pow10" .u64 Lib.pow10Tab) (h : IsRec w v L1 L2) (hn1 : L1.length ≤ maxLen) (hs1 : ∀ s ∈ L1, s.size ≤ maxLen) (hn2 : L2.length ≤ maxLen) (hs2 : ∀ s ∈ L2, s.size ≤ maxLen) (R : Ending → World → Prop)
    (hR : ∀ w', Below w.heap.size w w' → R (.returned (.bool true)) w') :
    Calls Tryz.prog 10 #[v] w R := by
  have HR := Lib.hid hR; clear hR
  have HE := Lib.hid hE; clear hE
  have HTAB := Lib.hid htab; clear htab
  have h9 := h
  obtain ⟨s1, s2, rfl, h1, h2⟩ := h9
  obtain ⟨a1, n1, c1, rfl, h1'⟩ := h1.op
  obtain ⟨a2, n2, c2, rfl, h2'⟩ := h2.op
  obtain ⟨L, hL⟩ : ∃ L, L = w.alloc (.cells #[.slice a1 n1 c1, .slice a2 n2 c2] 33) := ⟨_, rfl⟩
  have HBL : Hid (Below w.heap.size w L) := Lib.hid (by rw [hL]; exact (Below.refl _ _).alloc (Nat.le_refl _) _)
  have HBX : Hid (Box2 L w.heap.size (.slice a1 n1 c1) (.slice a2 n2 c2) 33) := Lib.hid (by rw [hL]; exact Box2.made _ _ _ _)
  have HL := Lib.hid hL
  have HV := Lib.hid (h.later HBL.out (Nat.le_refl _))
  have HN := Lib.hid (And.intro hn1 (And.intro hs1 (And.intro hn2 hs2)))
  have HSM := Lib.hid (pof_small L1 L2)
  obtain ⟨bq, hbq⟩ : ∃ bq, bq = recB L1 L2 := ⟨_, rfl⟩
  have HBQ := Lib.hid hbq
  have cbq : (bq != bq) = false := by cases bq <;> rfl
  obtain ⟨hA0, hA1, _, _⟩ := HBX.out.cells
  clear h h1 h2 h1' h2' hn1 hs1 hn2 hs2 hL hbq
  go_enter Tryz.func10, Tryz.ntmps10
  rw [HL.out] at hA0 hA1
  go_wp2_with fail
  rw [← HL.out]
  refine szR_any _ L1 L2 L 1048576 HV.out HN.out.1 HN.out.2.1 HN.out.2.2.1 HN.out.2.2.2 (by omega) _ ?_ ?_
  rotate_left
  · intro w1 _ hb1
    have HF := Lib.hid (HR.out w1 (HBL.out.trans (hb1.mono HBL.out.size)))
    clear hb1 hA0 hA1
    dsimp only
    go_wp2
    first | go_ret | skip
    exact HF.out
  intro w1 ht hb1
  obtain ⟨p1, p2⟩ := sizes_each (L := L1) (by omega)
  obtain ⟨p3, p4⟩ := sizes_each (L := L2) (by omega)
  have HP := Lib.hid (And.intro p1 (And.intro p2 (And.intro p3 p4)))
  obtain ⟨m, hm⟩ : ∃ m : Nat, m = 1048576 - (tot L1 + tot L2) := ⟨_, rfl⟩
  rw [← hm]
  have hm0 : ¬ ((m : Int) < 0) := by omega
  have HB1 : Hid (Below L.heap.size L w1) := Lib.hid hb1
  have HX1 := Lib.hid (HBX.out.later hb1 (lt_of_block HBX.out))
  clear hm ht p1 p2 p3 p4 hb1 hA0 hA1
  obtain ⟨hA0, hA1, _, _⟩ := HX1.out.cells
  dsimp only
  go_wp2_with fail
  refine toR_any _ L1 L2 w1 (HV.out.later HB1.out (Nat.le_refl _)) HP.out.1 HP.out.2.2.1 _ ?_
  intro v2 w2 hv2 hb2
  have SC := Lib.hid hv2
  obtain ⟨x2, m2, y2, z2, q2, r2, rfl, t1, t2, t3, t4⟩ := hv2.parts
  clear t1 t2 t3 t4
  have HB2 := Lib.hid (HB1.out.trans (hb2.mono HB1.out.size))
  have HX2 := Lib.hid (HX1.out.later hb2 (lt_of_block HX1.out))
  clear HB1 HX1 hb2 hv2 hA0 hA1
  obtain ⟨hA0, hA1, _, _⟩ := HX2.out.cells
  dsimp only
  go_wp2_with fail
  refine spec_pof _ L1 L2 w2 SC.out HP.out.1 HP.out.2.1 HP.out.2.2.1 HP.out.2.2.2 _ ?_
  intro v3 w3 hv3 hb3
  rw [← HBQ.out]
  obtain ⟨x3, m3, y3, rfl, esh⟩ := hv3.shape
  have W0 := Lib.hid hv3
  have W0U : Hid (∀ g, (Value.slice x3 m3 y3).ownBlock = some g → g < w3.heap.size) := Lib.hid hv3.own_lt
  have W0Z : Hid (w2.heap.size ≤ w3.heap.size) := Lib.hid hb3.size
  have HB3 := Lib.hid (HB2.out.trans (hb3.mono HB2.out.size))
  have HX3 := Lib.hid (HX2.out.later hb3 (lt_of_block HX2.out))
  clear HB2 HX2 hb3 hv3 esh hA0 hA1 SC
  obtain ⟨hA0, hA1, _, _⟩ := HX3.out.cells
  dsimp only
  go_wp2_with fail
  refine toR_own _ L1 L2 w3 (HV.out.later HB3.out (Nat.le_refl _)) HP.out.1 HP.out.2.2.1 _ ?_
  intro v4 w40 hv4 hlt4 hb4
  have ho4 := hv4
  obtain ⟨t1, t2, M, rfl, o1, o2, oM1, oM2, oM3⟩ := ho4
  obtain ⟨xa, ma, ya, rfl, exa⟩ := o1.shape
  obtain ⟨xb, mb, yb, rfl, exb⟩ := o2.shape
  clear o1 o2 oM1 oM2 oM3 exa exb
  obtain ⟨w4, hW⟩ : ∃ W, W = w40.alloc (.cells #[.slice xa ma ya, .slice xb mb yb] 36) := ⟨_, rfl⟩
  have hbW : Below w40.heap.size w40 w4 := by rw [hW]; exact (Below.refl _ _).alloc (Nat.le_refl _) _
  have XB : Hid (Box2 w4 w40.heap.size (.slice xa ma ya) (.slice xb mb yb) 36) := Lib.hid (by rw [hW]; exact Box2.made _ _ _ _)
  have X0 := Lib.hid (OwR.later0 hv4 hbW)
  have X0U : Hid (∀ g, rcBlock (.agg #[.slice xa ma ya, .slice xb mb yb]) g → g < w40.heap.size) := Lib.hid hlt4
  have hbb : Below w3.heap.size w3 w4 := hb4.trans (hbW.mono hb4.size)
  have X0Z : Hid (w3.heap.size ≤ w4.heap.size) := Lib.hid hbb.size
  have X0E : Hid (w40.heap.size ≤ w4.heap.size) := Lib.hid hbW.size
  have WX : Hid (w3.heap.size ≤ w3.heap.size ∧ w.heap.size < w3.heap.size) := Lib.hid ⟨Nat.le_refl _, lt_of_block HX3.out⟩
  have LX : Hid (L.heap.size ≤ w3.heap.size) := Lib.hid HB3.out.size
  have HW := Lib.hid hW
  have HB4 := Lib.hid (HB3.out.trans (hbb.mono HB3.out.size))
  have HX4 := Lib.hid (HX3.out.later hbb (lt_of_block HX3.out))
  have W0_4 := Lib.hid (W0.out.later elemT hbb (Nat.le_refl _))
  have W0Z_4 : Hid (w2.heap.size ≤ w4.heap.size) := Lib.hid (Nat.le_trans W0Z.out hbb.size)
  clear HB3 HX3 W0 W0Z hbb hv4 hlt4 hb4 hbW hW hA0 hA1
  obtain ⟨hA0, hA1, _, _⟩ := HX4.out.cells
  obtain ⟨hC0, hC1, _, _⟩ := XB.out.cells
  rw [HW.out] at hA0 hA1 hC0 hC1
  dsimp only
  go_wp2_with fail
  rw [← HW.out]
  have XR := Lib.hid X0.out.rec
  refine impl_pof _ L1 L2 w4 (HE.out.later (HBL.out.trans (HB4.out.mono HBL.out.size)) (Nat.le_refl _)) (tab_later HTAB.out (HBL.out.trans (HB4.out.mono HBL.out.size)) (Nat.le_refl _)) XR.out HP.out.1 HP.out.2.2.1 _ ?_
  intro v5 w5 hv5 hb5
  rw [← HBQ.out]
  obtain ⟨x5, m5, y5, rfl, esh⟩ := hv5.shape
  have G0 := Lib.hid hv5
  have GZ : Hid (w4.heap.size ≤ w5.heap.size) := Lib.hid hb5.size
  have XG : Hid (w40.heap.size ≤ w4.heap.size) := X0E
  have WG : Hid (w3.heap.size ≤ w4.heap.size) := Lib.hid (Nat.le_trans WX.out.1 X0Z.out)
  have LG : Hid (L.heap.size ≤ w4.heap.size) := Lib.hid (Nat.le_trans LX.out X0Z.out)
  have HB5 := Lib.hid (HB4.out.trans (hb5.mono HB4.out.size))
  have HX5 := Lib.hid (HX4.out.later hb5 (lt_of_block HX4.out))
  have W0_5 := Lib.hid (W0_4.out.later elemT hb5 (Nat.le_refl _))
  have W0Z_5 : Hid (w2.heap.size ≤ w5.heap.size) := Lib.hid (Nat.le_trans W0Z_4.out hb5.size)
  have X0_5 := Lib.hid (OwR.later0 X0.out hb5)
  have XB_5 := Lib.hid (XB.out.later hb5 (lt_of_block XB.out))
  have X0Z_5 : Hid (w3.heap.size ≤ w5.heap.size) := Lib.hid (Nat.le_trans X0Z.out hb5.size)
  have XR_5 := Lib.hid (IsRec.later XR.out hb5 (Nat.le_refl _))
  clear HB4 HX4 W0_4 W0Z_4 X0 XB X0Z XR hb5 hv5 esh hA0 hA1 hC0 hC1
  obtain ⟨hA0, hA1, _, _⟩ := HX5.out.cells
  dsimp only
  go_wp2_with fail
  refine eqT_any _ _ (pofL L1 L2) (pofL L1 L2) _ G0.out.tx W0_5.out.tx (Nat.le_trans HSM.out (by omega)) (Nat.le_trans HSM.out (by omega)) _ ?_
  intro w6 hb6
  rw [decide_eq_true rfl]
  have HB6 := Lib.hid (HB5.out.trans (hb6.mono HB5.out.size))
  have HX6 := Lib.hid (HX5.out.later hb6 (lt_of_block HX5.out))
  have W0_6 := Lib.hid (W0_5.out.later elemT hb6 (Nat.le_refl _))
  have W0Z_6 : Hid (w2.heap.size ≤ w6.heap.size) := Lib.hid (Nat.le_trans W0Z_5.out hb6.size)
  have X0_6 := Lib.hid (OwR.later0 X0_5.out hb6)
  have XB_6 := Lib.hid (XB_5.out.later hb6 (lt_of_block XB_5.out))
  have X0Z_6 : Hid (w3.heap.size ≤ w6.heap.size) := Lib.hid (Nat.le_trans X0Z_5.out hb6.size)
  have XR_6 := Lib.hid (IsRec.later XR_5.out hb6 (Nat.le_refl _))
  have G0_6 := Lib.hid (G0.out.later elemT hb6 (Nat.le_refl _))
  have GZ_6 : Hid (w4.heap.size ≤ w6.heap.size) := Lib.hid (Nat.le_trans GZ.out hb6.size)
  clear HB5 HX5 W0_5 W0Z_5 X0_5 XB_5 X0Z_5 XR_5 G0 GZ hb6 hA0 hA1
  obtain ⟨hA0, hA1, _, _⟩ := HX6.out.cells
  have HSOF : Hid (∀ w', Below w6.heap.size w6 w' → (Below w6.heap.size w6 w' ∧ (w'.cell? ⟨w.heap.size, 0, none⟩ = some (.slice a1 n1 c1) ∧ w'.cell? ⟨w.heap.size, 1, none⟩ = some (.slice a2 n2 c2)) ∧ (w'.cell? ⟨w40.heap.size, 0, none⟩ = some (.slice xa ma ya) ∧ w'.cell? ⟨w40.heap.size, 1, none⟩ = some (.slice xb mb yb)))) :=
    Lib.hid fun w' hb => ⟨hb, ⟨(HX6.out.later hb (lt_of_block HX6.out)).cells.1, (HX6.out.later hb (lt_of_block HX6.out)).cells.2.1⟩, ⟨(XB_6.out.later hb (lt_of_block XB_6.out)).cells.1, (XB_6.out.later hb (lt_of_block XB_6.out)).cells.2.1⟩⟩
  have HVL := Lib.hid (HV.out.later HB6.out (Nat.le_refl _))
  have HLEN : Hid (L1.length ≤ 281474976710656 ∧ L2.length ≤ 281474976710656) := Lib.hid (by have := HP.out.1; have := HP.out.2.2.1; omega)
  obtain ⟨hC0, hC1, _, _⟩ := XB_6.out.cells
  dsimp only
  go_wp2_with fail
  first
    | (go_region_held3 (fun w' => Below w6.heap.size w6 w' ∧ (w'.cell? ⟨w.heap.size, 0, none⟩ = some (.slice a1 n1 c1) ∧ w'.cell? ⟨w.heap.size, 1, none⟩ = some (.slice a2 n2 c2)) ∧ (w'.cell? ⟨w40.heap.size, 0, none⟩ = some (.slice xa ma ya) ∧ w'.cell? ⟨w40.heap.size, 1, none⟩ = some (.slice xb mb yb)))
        (first
          | exact HSOF.out _ HQ2.out
          | exact HSOF.out _ HQ1.out
          | exact HSOF.out _ (Below.refl _ _).drew)
        (first
          | (go_at_call 37; refine eqR_any _ _ L1 L2 _ (XR_6.out.later HQ1.out (Nat.le_refl _)) HV6.out HLEN.out.1 HLEN.out.2 _ ?_; intro w8 hb7; have HQ2 : Hid (Below w6.heap.size w6 w8) := Lib.hid (HQ1.out.trans (hb7.mono HQ1.out.size)); clear hb7; dsimp only)
          | (go_at_call 35; refine toR_any _ L1 L2 _ (HVL.out.later (Below.refl _ _).drew (Nat.le_refl _)) HP.out.1 HP.out.2.2.1 _ ?_; intro v6 w7 hv6 hb6; have HV6 := Lib.hid hv6; have HQ1 : Hid (Below w6.heap.size w6 w7) := Lib.hid ⟨hb6.os, hb6.tape, hb6.output, hb6.size, hb6.block⟩; clear hv6 hb6; dsimp only)))
    | fail
  all_goals
    have hbr := HQ2.out
    have HB8 := Lib.hid (HB6.out.trans (hbr.mono HB6.out.size))
    have HX8 := Lib.hid (HX6.out.later hbr (lt_of_block HX6.out))
    have W0_8 := Lib.hid (W0_6.out.later elemT hbr (Nat.le_refl _))
    have W0Z_8 : Hid (w2.heap.size ≤ w8.heap.size) := Lib.hid (Nat.le_trans W0Z_6.out hbr.size)
    have X0_8 := Lib.hid (OwR.later0 X0_6.out hbr)
    have XB_8 := Lib.hid (XB_6.out.later hbr (lt_of_block XB_6.out))
    have X0Z_8 : Hid (w3.heap.size ≤ w8.heap.size) := Lib.hid (Nat.le_trans X0Z_6.out hbr.size)
    have XR_8 := Lib.hid (IsRec.later XR_6.out hbr (Nat.le_refl _))
    have G0_8 := Lib.hid (G0_6.out.later elemT hbr (Nat.le_refl _))
    have GZ_8 : Hid (w4.heap.size ≤ w8.heap.size) := Lib.hid (Nat.le_trans GZ_6.out hbr.size)
    clear HB6 HX6 W0_6 W0Z_6 X0_6 XB_6 X0Z_6 XR_6 G0_6 GZ_6 hbr hA0 hA1 hC0 hC1
    obtain ⟨hA0, hA1, _, _⟩ := HX8.out.cells
    obtain ⟨hC0, hC1, _, _⟩ := XB_8.out.cells
    go_wp2_with fail
    refine markRO_any _ _ L1 L2 1 w3.heap.size w8 X0_8.out (Nat.le_trans HP.out.1 (by omega)) (Nat.le_trans HP.out.2.2.1 (by omega)) (by omega) _ ?_
    intro w9 La wm hm1 hm2 hm3
    obtain ⟨k0, hk0⟩ : ∃ k0, k0 = 1 + L1.length + L2.length := ⟨_, rfl⟩
    rw [← hk0]
    have d0 : ¬ ((k0 : Int) < 0) := by omega
    obtain ⟨t1, t2, M, ev, q1, q2, q3, q4, q5⟩ := X0_8.out
    simp only [Value.agg.injEq, Array.mk.injEq, List.cons.injEq, and_true] at ev
    obtain ⟨rfl, rfl⟩ := ev
    have hB1 : ∀ g, (Value.slice xa ma ya).ownBlock = some g → w3.heap.size ≤ g := fun g hg => q1.base g hg
    have hB2 : ∀ g, (Value.slice xb mb yb).ownBlock = some g → w3.heap.size ≤ g := fun g hg => Nat.le_trans q3 (q2.base g hg)
    have hbel : Below w3.heap.size w8 w9 := ButO.both hm1 hm2 hm3 hB1 hB2 X0Z_8.out
    have W0_9 := Lib.hid (((W0_8.out.later elemT hm1 (Nat.le_refl _)).butO hm2 (fun g hg hc => by have h1 := W0U.out g hg; have h2 := hB1 g hc; have h3 := WX.out.1; omega)).butO hm3 (fun g hg hc => by have h1 := W0U.out g hg; have h2 := hB2 g hc; have h3 := WX.out.1; omega))
    have G0_9 := Lib.hid (((G0_8.out.later elemT hm1 (Nat.le_refl _)).butO hm2 (fun g hg hc => by have h1 := G0_8.out.base g hg; have h2 := X0U.out g (.inl hc); have h3 := XG.out; omega)).butO hm3 (fun g hg hc => by have h1 := G0_8.out.base g hg; have h2 := X0U.out g (.inr hc); have h3 := XG.out; omega))
    have GZ_9 : Hid (w4.heap.size ≤ w9.heap.size) := Lib.hid (Nat.le_trans GZ_8.out (Nat.le_trans hm1.size (Nat.le_trans hm2.size hm3.size)))
    have HB9 : Hid (Below L.heap.size L w9) := Lib.hid (HB8.out.trans (hbel.mono LX.out))
    have HX9 := Lib.hid (HX8.out.later hbel WX.out.2)
    clear W0_8 W0Z_8 X0_8 XB_8 X0Z_8 XR_8 G0_8 GZ_8 HB8 HX8 hm1 hm2 hm3 hk0 hbel hB1 hB2 q1 q2 q3 q4 q5 hA0 hA1 hC0 hC1
    obtain ⟨hA0, hA1, _, _⟩ := HX9.out.cells
    dsimp only
    go_wp2_with fail
    refine eqT_any _ _ (pofL L1 L2) (pofL L1 L2) _ G0_9.out.tx W0_9.out.tx (Nat.le_trans HSM.out (by omega)) (Nat.le_trans HSM.out (by omega)) _ ?_
    intro w10 hb10
    rw [decide_eq_true rfl]
    have HB10 := Lib.hid (HB9.out.trans (hb10.mono HB9.out.size))
    have HX10 := Lib.hid (HX9.out.later hb10 (lt_of_block HX9.out))
    have W0_10 := Lib.hid (W0_9.out.later elemT hb10 (Nat.le_refl _))
    have G0_10 := Lib.hid (G0_9.out.later elemT hb10 (Nat.le_refl _))
    have GZ_10 : Hid (w4.heap.size ≤ w10.heap.size) := Lib.hid (Nat.le_trans GZ_9.out hb10.size)
    clear HB9 HX9 W0_9 G0_9 GZ_9 hb10 hA0 hA1
    obtain ⟨hA0, hA1, _, _⟩ := HX10.out.cells
    dsimp only
    go_wp2_with fail
    refine mark_any _ (pofL L1 L2) 1 _ _ G0_10.out (Nat.le_trans HSM.out (by omega)) (by omega) _ ?_
    intro w11 hv hb
    obtain ⟨kg, hkg⟩ : ∃ kg, kg = 1 + (pofL L1 L2).length := ⟨_, rfl⟩
    have HKG := Lib.hid hkg
    rw [← hkg]
    have d1 : ¬ ((kg : Int) < 0) := by omega
    have d2 : ((kg : Int) != (kg : Int)) = false := by simp
    have hbel := hb.below (fun g hg => G0_10.out.base g hg) GZ_10.out
    have GM := Lib.hid hv.tx
    have W0_11 := Lib.hid (W0_10.out.butO hb (fun g hg hc => by have h1 := W0U.out g hg; have h2 := G0_10.out.base g hc; have h3 := WG.out; omega))
    have HB11 : Hid (Below L.heap.size L w11) := Lib.hid (HB10.out.trans (hbel.mono LG.out))
    have HX11 := Lib.hid (HX10.out.later hbel (Nat.lt_of_lt_of_le (lt_of_block HBX.out) LG.out))
    clear W0_10 G0_10 GZ_10 HB10 HX10 hv hb hbel hkg hA0 hA1
    obtain ⟨hA0, hA1, _, _⟩ := HX11.out.cells
    dsimp only
    go_wp2_with fail
    refine held_any _ 1 (pofL L1 L2).length _ GM.out (Nat.le_trans HSM.out (by omega)) (by omega) _ ?_
    intro w12 hb12
    rw [← HKG.out]
    have HB12 := Lib.hid (HB11.out.trans (hb12.mono HB11.out.size))
    have HX12 := Lib.hid (HX11.out.later hb12 (lt_of_block HX11.out))
    have W0_12 := Lib.hid (W0_11.out.later elemT hb12 (Nat.le_refl _))
    have GM_12 := Lib.hid (TxL.later GM.out hb12 (Nat.le_refl _))
    clear HB11 HX11 W0_11 GM hb12 hA0 hA1
    obtain ⟨hA0, hA1, _, _⟩ := HX12.out.cells
    dsimp only
    go_wp2_with fail
    refine toR_any _ L1 L2 w12 (HV.out.later HB12.out (Nat.le_refl _)) HP.out.1 HP.out.2.2.1 _ ?_
    intro v13 w13 hv13 hb13
    have HC := Lib.hid hv13
    obtain ⟨x13, m13, y13, z13, q13, r13, rfl, t1, t2, t3, t4⟩ := hv13.parts
    clear t1 t2 t3 t4
    have HB13 := Lib.hid (HB12.out.trans (hb13.mono HB12.out.size))
    have HX13 := Lib.hid (HX12.out.later hb13 (lt_of_block HX12.out))
    have W0_13 := Lib.hid (W0_12.out.later elemT hb13 (Nat.le_refl _))
    have GM_13 := Lib.hid (TxL.later GM_12.out hb13 (Nat.le_refl _))
    clear HB12 HX12 W0_12 GM_12 hb13 hv13 hA0 hA1
    obtain ⟨hA0, hA1, _, _⟩ := HX13.out.cells
    dsimp only
    go_wp2_with fail
    refine impl_pof _ L1 L2 w13 (HE.out.later (HBL.out.trans (HB13.out.mono HBL.out.size)) (Nat.le_refl _)) (tab_later HTAB.out (HBL.out.trans (HB13.out.mono HBL.out.size)) (Nat.le_refl _)) HC.out HP.out.1 HP.out.2.2.1 _ ?_
    intro v14 w14 hv14 hb14
    rw [← HBQ.out]
    obtain ⟨x14, m14, y14, rfl, esh⟩ := hv14.shape
    have H0 := Lib.hid hv14
    have H0U : Hid (∀ g, (Value.slice x14 m14 y14).ownBlock = some g → g < w14.heap.size) := Lib.hid hv14.own_lt
    have H0Z : Hid (w13.heap.size ≤ w14.heap.size) := Lib.hid hb14.size
    have HB14 := Lib.hid (HB13.out.trans (hb14.mono HB13.out.size))
    have HX14 := Lib.hid (HX13.out.later hb14 (lt_of_block HX13.out))
    have W0_14 := Lib.hid (W0_13.out.later elemT hb14 (Nat.le_refl _))
    have GM_14 := Lib.hid (TxL.later GM_13.out hb14 (Nat.le_refl _))
    clear HB13 HX13 W0_13 GM_13 hb14 hv14 esh hA0 hA1 HC
    obtain ⟨hA0, hA1, _, _⟩ := HX14.out.cells
    dsimp only
    go_wp2_with fail
    refine eqT_any _ _ (pofL L1 L2) (pofL L1 L2) _ H0.out.tx W0_14.out.tx (Nat.le_trans HSM.out (by omega)) (Nat.le_trans HSM.out (by omega)) _ ?_
    intro w15 hb15
    rw [decide_eq_true rfl]
    have HB15 := Lib.hid (HB14.out.trans (hb15.mono HB14.out.size))
    have HX15 := Lib.hid (HX14.out.later hb15 (lt_of_block HX14.out))
    have W0_15 := Lib.hid (W0_14.out.later elemT hb15 (Nat.le_refl _))
    have GM_15 := Lib.hid (TxL.later GM_14.out hb15 (Nat.le_refl _))
    have H0_15 := Lib.hid (H0.out.later elemT hb15 (Nat.le_refl _))
    have H0Z_15 : Hid (w13.heap.size ≤ w15.heap.size) := Lib.hid (Nat.le_trans H0Z.out hb15.size)
    clear HB14 HX14 W0_14 GM_14 H0 H0Z hb15 hA0 hA1
    obtain ⟨hA0, hA1, _, _⟩ := HX15.out.cells
    dsimp only
    go_wp2_with fail
    refine held_any _ 1 (pofL L1 L2).length _ GM_15.out (Nat.le_trans HSM.out (by omega)) (by omega) _ ?_
    intro w16 hb16
    rw [← HKG.out]
    have HB16 := Lib.hid (HB15.out.trans (hb16.mono HB15.out.size))
    have HX16 := Lib.hid (HX15.out.later hb16 (lt_of_block HX15.out))
    have W0_16 := Lib.hid (W0_15.out.later elemT hb16 (Nat.le_refl _))
    have GM_16 := Lib.hid (TxL.later GM_15.out hb16 (Nat.le_refl _))
    have H0_16 := Lib.hid (H0_15.out.later elemT hb16 (Nat.le_refl _))
    have H0Z_16 : Hid (w13.heap.size ≤ w16.heap.size) := Lib.hid (Nat.le_trans H0Z_15.out hb16.size)
    clear HB15 HX15 W0_15 GM_15 H0_15 H0Z_15 hb16 hA0 hA1
    obtain ⟨hA0, hA1, _, _⟩ := HX16.out.cells
    clear hA0 hA1
    dsimp only
    go_wp2
    first | go_ret | skip
    exact HR.out _ (HBL.out.trans (HB16.out.mono HBL.out.size))
end Go.Proofs.YtegdcmcfeaohhaaGreatDoor
