/- Contracts of functions of the program and of the model: RecV, RecW, RecL, RowRec, LawRec. -/
import Derived.Test.YtpncfhfjnnpgdaaDoorPk7
import Derived.Deep.RegionHeld3
set_option linter.all false
set_option linter.unusedVariables false
set_option linter.unusedSimpArgs false
set_option linter.unnecessarySimpa false
set_option linter.deprecated false
namespace Go.Proofs.YtpncfhfjnnpgdaaDoor
open Go Go.RowKit

/-- whether two lists of texts are those of a recurrence -/
noncomputable def recB (L1 L2 : List ByteArray) : Bool := decide (L1.length = L2.length) && (decide (L1.length ≤ 8) && (L1.all isNum && L2.all isNum))

/-- a value of the program's type of recurrences -/
def IsRec (w : World) (v : Value) (L1 L2 : List ByteArray) : Prop := ∃ s1 s2, v = .agg #[s1, s2] ∧ TxL w s1 L1 ∧ TxL w s2 L2

theorem IsRec.later {w w' : World} {v : Value} {L1 L2 : List ByteArray} {B : Nat} (h : IsRec w v L1 L2) (hb : Below B w w') (hB : w.heap.size ≤ B) : IsRec w' v L1 L2 := by
  obtain ⟨s1, s2, e, h1, h2⟩ := h; exact ⟨s1, s2, e, h1.later hb hB, h2.later hb hB⟩
theorem IsRec.parts {w : World} {v : Value} {L1 L2 : List ByteArray} (h : IsRec w v L1 L2) : ∃ a1 n1 c1 a2 n2 c2, v = .agg #[.slice a1 n1 c1, .slice a2 n2 c2] ∧ n1 = L1.length ∧ n2 = L2.length ∧ TxL w (.slice a1 n1 c1) L1 ∧ TxL w (.slice a2 n2 c2) L2 := by
  obtain ⟨s1, s2, rfl, h1, h2⟩ := h
  obtain ⟨a1, n1, c1, rfl, e1, _, h1'⟩ := h1.open
  obtain ⟨a2, n2, c2, rfl, e2, _, h2'⟩ := h2.open
  exact ⟨a1, n1, c1, a2, n2, c2, rfl, e1, e2, h1', h2'⟩

set_option maxRecDepth 100000 in
set_option maxHeartbeats 8000000 in
theorem l03is_any (b n1 n2 c1 c2 : Nat) (a1 a2 : Option Addr) (L1 L2 : List ByteArray) (w : World) (hbx : Box2 w b (.slice a1 n1 c1) (.slice a2 n2 c2) 40) (e1 : n1 = L1.length) (e2 : n2 = L2.length)
    (h1 : TxL w (.slice a1 n1 c1) L1) (h2 : TxL w (.slice a2 n2 c2) L2) (hn1 : L1.length ≤ 1048576) (hs1 : ∀ s ∈ L1, s.size ≤ 1048576) (hn2 : L2.length ≤ 1048576) (hs2 : ∀ s ∈ L2, s.size ≤ 1048576) (R : Ending → World → Prop)
    (hR : ∀ w', Below w.heap.size w w' → R (.returned (.bool (recB L1 L2))) w') :
    Calls Tryd.prog 57 #[.pointer (some ⟨b, 0, none⟩)] w R := by
  have HR := Lib.hid hR; clear hR
  have HSOF : Hid (∀ w', Below w.heap.size w w' → (Below w.heap.size w w' ∧ w'.cell? ⟨b, 0, none⟩ = some (.slice a1 n1 c1) ∧ w'.cell? ⟨b, 1, none⟩ = some (.slice a2 n2 c2))) :=
    Lib.hid fun w' hb => ⟨hb, (hbx.later hb (lt_of_block hbx)).cells.1, (hbx.later hb (lt_of_block hbx)).cells.2.1⟩
  have H1 := Lib.hid h1
  have H2 := Lib.hid h2
  have HB1 := Lib.hid (And.intro hn1 hs1)
  have HB2 := Lib.hid (And.intro hn2 hs2)
  have E1 := Lib.hid e1
  have E2 := Lib.hid e2
  clear hbx e1 e2 h1 h2 hn1 hs1 hn2 hs2
  by_cases hne : n1 = n2
  · have e0 : ((n1 : Int) == (n2 : Int)) = true := by simp [hne]
    by_cases h8 : n1 ≤ 8
    · have e8 : ((n1 : Int) ≤ 8) := by omega
      have hrec : recB L1 L2 = (L1.all isNum && L2.all isNum) := by unfold recB; rw [← E1.out, ← E2.out, decide_eq_true hne, decide_eq_true h8]; rfl
      rw [hrec] at HR
      clear hne h8 hrec
      cases hall : L1.all isNum with
      | false =>
        rw [hall, Bool.false_and] at HR
        have HALL := Lib.hid hall
        clear hall
        obtain ⟨_, hT0, hT1⟩ := HSOF.out w (Below.refl _ _)
        go_enter Tryd.func57, Tryd.ntmps57
        go_wp2_with fail
        first
          | (go_region_law (first
          | (go_simp; go_at_call 71; refine all_any _ L1 _ (H1.out.later (Below.refl _ _).drew (Nat.le_refl _)) HB1.out.1 HB1.out.2 _ ?_; intro w1 hb1; rw [HALL.out]; obtain ⟨HQ1, hU0, hU1⟩ := HSOF.out w1 ⟨hb1.os, hb1.tape, hb1.output, hb1.size, hb1.block⟩; clear hb1; dsimp only)))
          | fail
        all_goals
          go_wp2
          first | go_ret | skip
          exact HR.out _ HQ1
      | true =>
        rw [hall, Bool.true_and] at HR
        have HALL := Lib.hid hall
        clear hall
        obtain ⟨x, hx⟩ : ∃ x, x = L2.all isNum := ⟨_, rfl⟩
        rw [← hx] at HR
        have HX := Lib.hid hx
        clear hx
        go_enter Tryd.func57, Tryd.ntmps57
        go_wp2_with fail
        first
          | (go_region_held3 (fun w' => Below w.heap.size w w' ∧ w'.cell? ⟨b, 0, none⟩ = some (.slice a1 n1 c1) ∧ w'.cell? ⟨b, 1, none⟩ = some (.slice a2 n2 c2))
              (first
                | exact HSOF.out _ HQ2.out
                | exact HSOF.out _ HQ1.out
                | exact HSOF.out _ (Below.refl _ _).drew)
              (first
                | (have hguard := HQ1; go_at_call 71; refine all_any _ L2 _ (H2.out.later HQ1.out (Nat.le_refl _)) HB2.out.1 HB2.out.2 _ ?_; intro w2 hb2; rw [← HX.out]; have HQ2 : Hid (Below w.heap.size w w2) := Lib.hid (HQ1.out.trans (hb2.mono HQ1.out.size)); clear hb2 hguard; dsimp only)
                | (go_at_call 71; refine all_any _ L1 _ (H1.out.later (Below.refl _ _).drew (Nat.le_refl _)) HB1.out.1 HB1.out.2 _ ?_; intro w1 hb1; rw [HALL.out]; have HQ1 : Hid (Below w.heap.size w w1) := Lib.hid ⟨hb1.os, hb1.tape, hb1.output, hb1.size, hb1.block⟩; clear hb1; dsimp only)))
          | fail
        all_goals
          go_wp2
          first | go_ret | skip
          exact HR.out _ HQ2.out
    · have e8 : decide ((n1 : Int) ≤ 8) = false := decide_eq_false (by omega)
      have hrec : recB L1 L2 = false := by unfold recB; rw [← E1.out, decide_eq_false h8]; simp
      rw [hrec] at HR
      clear hne h8 hrec
      obtain ⟨_, hT0, hT1⟩ := HSOF.out w (Below.refl _ _)
      go_enter Tryd.func57, Tryd.ntmps57
      go_wp2_with fail
      go_quiet (fail)
      all_goals
        go_wp2
        first | go_ret | skip
        exact HR.out _ (below_draws (Below.refl _ _) _)
  · have e0 : ((n1 : Int) == (n2 : Int)) = false := by simp; omega
    have hrec : recB L1 L2 = false := by unfold recB; rw [← E1.out, ← E2.out, decide_eq_false hne]; rfl
    rw [hrec] at HR
    clear hne hrec
    obtain ⟨_, hT0, hT1⟩ := HSOF.out w (Below.refl _ _)
    go_enter Tryd.func57, Tryd.ntmps57
    go_wp2_with fail
    go_quiet (fail)
    all_goals
      go_wp2
      first | go_ret | skip
      exact HR.out _ (below_draws (Below.refl _ _) _)
end Go.Proofs.YtpncfhfjnnpgdaaDoor

namespace Go.Proofs.YtpncfhfjnnpgdaaDoor
open Go Go.RowKit

set_option maxRecDepth 100000 in
set_option maxHeartbeats 1000000 in
theorem spec_validRec (v : Value) (L1 L2 : List ByteArray) (w : World) (h : IsRec w v L1 L2) (hn1 : L1.length ≤ 1048576) (hs1 : ∀ s ∈ L1, s.size ≤ 1048576) (hn2 : L2.length ≤ 1048576) (hs2 : ∀ s ∈ L2, s.size ≤ 1048576) (R : Ending → World → Prop)
    (hR : ∀ w', Below w.heap.size w w' → R (.returned (.bool (recB L1 L2))) w') :
    Calls Tryd.prog 32 #[v] w R := by
  have HR := Lib.hid hR; clear hR
  obtain ⟨a1, n1, c1, a2, n2, c2, rfl, e1, e2, h1, h2⟩ := h.parts
  obtain ⟨L, hL⟩ : ∃ L, L = w.alloc (.cells #[.slice a1 n1 c1, .slice a2 n2 c2] 40) := ⟨_, rfl⟩
  have HBL : Hid (Below w.heap.size w L) := Lib.hid (by rw [hL]; exact (Below.refl _ _).alloc (Nat.le_refl _) _)
  have HBX : Hid (Box2 L w.heap.size (.slice a1 n1 c1) (.slice a2 n2 c2) 40) := Lib.hid (by rw [hL]; exact Box2.made _ _ _ _)
  have HL := Lib.hid hL
  have H1 := Lib.hid (h1.later HBL.out (Nat.le_refl _))
  have H2 := Lib.hid (h2.later HBL.out (Nat.le_refl _))
  have HH := Lib.hid (And.intro hn1 (And.intro hs1 (And.intro hn2 hs2)))
  have HE := Lib.hid (And.intro e1 e2)
  clear h e1 e2 h1 h2 hn1 hs1 hn2 hs2 hL
  go_enter Tryd.func32, Tryd.ntmps32
  go_wp2_with fail
  rw [← HL.out]
  refine l03is_any _ n1 n2 c1 c2 a1 a2 L1 L2 L HBX.out HE.out.1 HE.out.2 H1.out H2.out HH.out.1 HH.out.2.1 HH.out.2.2.1 HH.out.2.2.2 _ ?_
  intro w1 hb1
  obtain ⟨x, hx⟩ : ∃ x, x = recB L1 L2 := ⟨_, rfl⟩
  rw [← hx] at HR ⊢
  have HB := Lib.hid (HBL.out.trans (hb1.mono HBL.out.size))
  clear hb1 hx
  dsimp only
  go_wp2
  first | go_ret | skip
  exact HR.out _ HB.out

/-- the zero value of the program's type of sequences -/
def zeroS : Value := .agg #[.slice none 0 0, .slice none 0 0]

set_option maxRecDepth 100000 in
set_option maxHeartbeats 4000000 in
theorem readseq_any (v : Value) (L1 L2 : List ByteArray) (w : World) (hE : Env w) (h : IsRec w v L1 L2) (hn1 : L1.length ≤ 1048576) (hn2 : L2.length ≤ 1048576) (R : Ending → World → Prop)
    (hR : ∀ v1 v2 w', recB L1 L2 = true → RsL w' v1 (L1.map qOf) → RsL w' v2 (L2.map qOf) → Below w.heap.size w w' → R (.returned (.tuple #[.agg #[v1, v2], .nilIface])) w')
    (hR2 : ∀ e w', recB L1 L2 = false → ErrV e → Below w.heap.size w w' → R (.returned (.tuple #[zeroS, e])) w') :
    Calls Tryd.prog 58 #[v] w R := by
  have HR := Lib.hid hR; clear hR
  have HR2 := Lib.hid hR2; clear hR2
  obtain ⟨a1, n1, c1, a2, n2, c2, rfl, e1, e2, h1, h2⟩ := h.parts
  obtain ⟨L, hL⟩ : ∃ L, L = (w.alloc (.cells #[.slice a1 n1 c1, .slice a2 n2 c2] 40)).alloc (.cells #[.slice none 0 0, .slice none 0 0] 86) := ⟨_, rfl⟩
  have hb1 : Below (w.heap.size + 1) (w.alloc (.cells #[.slice a1 n1 c1, .slice a2 n2 c2] 40)) L := by rw [hL]; exact (Below.refl _ _).alloc (by simp) _
  have B0 : Hid (Box2 L w.heap.size (.slice a1 n1 c1) (.slice a2 n2 c2) 40) := Lib.hid ((Box2.made w _ _ _).later hb1 (by omega))
  have B1 : Hid (Box2 L (w.heap.size + 1) (.slice none 0 0) (.slice none 0 0) 86) := Lib.hid (by
    have := Box2.made (w.alloc (.cells #[.slice a1 n1 c1, .slice a2 n2 c2] 40)) (.slice none 0 0) (.slice none 0 0) 86
    rw [World.size_alloc, ← hL] at this; exact this)
  have HEXT : Hid (Below w.heap.size w L) := Lib.hid (by rw [hL]; exact ((Below.refl w.heap.size w).alloc (Nat.le_refl _) _).alloc (by simp) _)
  have HLS : Hid (L.heap.size = w.heap.size + 2) := Lib.hid (by rw [hL]; simp)
  have HL := Lib.hid hL
  have H1 := Lib.hid (h1.later HEXT.out (Nat.le_refl _))
  have H2 := Lib.hid (h2.later HEXT.out (Nat.le_refl _))
  have HN := Lib.hid (And.intro hn1 hn2)
  have E1 := Lib.hid e1
  have E2 := Lib.hid e2
  have HE := Lib.hid hE
  have HEL := Lib.hid (hE.later HEXT.out (Nat.le_refl _))
  obtain ⟨hA0, hA1, _, _⟩ := B0.out.cells
  obtain ⟨hR0, hR1, hF0, hF1⟩ := B1.out.cells
  clear h e1 e2 h1 h2 hn1 hn2 hL hb1 hE
  by_cases hok : n1 = n2 ∧ n1 ≤ 8
  · have e0 : ((n1 : Int) != (n2 : Int)) = false := by simp [hok.1]
    have e8 : ¬ ((8 : Int) < (n1 : Int)) := by omega
    have HOK := Lib.hid (show decide (L1.length = L2.length) = true ∧ decide (L1.length ≤ 8) = true by rw [← E1.out, ← E2.out]; exact ⟨decide_eq_true hok.1, decide_eq_true hok.2⟩)
    have H8 := Lib.hid hok.2
    clear hok
    go_enter Tryd.func58, Tryd.ntmps58
    rw [HL.out] at hA0 hA1
    go_wp2_with fail
    rw [← HL.out]
    refine readrs_own _ L1 L HEL.out H1.out HN.out.1 _ ?_ ?_
    · intro v1 w1 _ hall1 ho1 hb1
      have HB1 := Lib.hid hb1
      have HALL1 := Lib.hid hall1
      have HO1 := Lib.hid ho1
      obtain ⟨a3, n3, c3, rfl, hn3⟩ := ho1.shape
      have B0' := Lib.hid (B0.out.later hb1 (lt_of_block B0.out))
      clear hb1 hall1 ho1 hn3 hA0 hA1
      obtain ⟨hA0, hA1, _, _⟩ := B0'.out.cells
      dsimp only
      go_wp2_with fail
      refine readrs_own _ L2 w1 (HEL.out.later HB1.out (Nat.le_refl _)) (H2.out.later HB1.out (Nat.le_refl _)) HN.out.2 _ ?_ ?_
      · intro v2 w2 _ hall2 ho2 hb2
        have HB2 := Lib.hid (HB1.out.trans (hb2.mono HB1.out.size))
        have B1' := Lib.hid (B1.out.later HB2.out (lt_of_block B1.out))
        have HO1' := Lib.hid (HO1.out.later elemR hb2 (Nat.le_refl _))
        have HO2 := Lib.hid ho2
        obtain ⟨a4, n4, c4, rfl, hn4⟩ := ho2.shape
        have HREC : Hid (recB L1 L2 = true) := Lib.hid (by unfold recB; rw [HOK.out.1, HOK.out.2, HALL1.out, hall2]; rfl)
        have hlt1 : w.heap.size + 1 < L.heap.size := by have := HLS.out; omega
        have hlt2 : w.heap.size + 1 < w1.heap.size := by have := HLS.out; have := HB1.out.size; omega
        have HLT := Lib.hid (And.intro hlt1 hlt2)
        clear hb2 hall2 ho2 hn4 hA0 hA1 hR0 hR1 hF0 hF1 hlt1 hlt2
        obtain ⟨hR0, hR1, hF0, hF1⟩ := B1'.out.cells
        dsimp only
        go_wp2
        refine bodyPost_ret_at (by simp [results, Tryd.results58, go_sem, hR0, hR1, hF0, hF1] <;> rfl) rfl ?_
        have n0 := B1'.out.noInt rfl rfl
        refine HR.out _ _ _ HREC.out (OwE.sl (OwE.setOld elemR (OwE.setOld elemR HO1'.out HLT.out.1 n0 _ _) HLT.out.1 (n0.set _ _ rfl) _ _)) (OwE.sl (OwE.setOld elemR (OwE.setOld elemR HO2.out HLT.out.2 n0 _ _) HLT.out.2 (n0.set _ _ rfl) _ _)) (below_set2 (HEXT.out.trans (HB2.out.mono HEXT.out.size)) (by omega) _ _)
      · intro e w2 hf he hb2
        obtain ⟨t', p, rfl⟩ := he
        have HB2 := Lib.hid (HB1.out.trans (hb2.mono HB1.out.size))
        have B1' := Lib.hid (B1.out.later HB2.out (lt_of_block B1.out))
        have HREC : Hid (recB L1 L2 = false) := Lib.hid (by
          have h60 : decide (L2.length ≤ 60) = true := decide_eq_true (by have := of_decide_eq_true HOK.out.1; have := of_decide_eq_true HOK.out.2; omega)
          rw [h60, Bool.true_and] at hf
          unfold recB; rw [HOK.out.1, HOK.out.2, HALL1.out, hf]; rfl)
        clear hb2 hf hA0 hA1 hR0 hR1 hF0 hF1
        obtain ⟨hR0, hR1, hF0, hF1⟩ := B1'.out.cells
        dsimp only
        go_wp2
        refine bodyPost_ret_at (by simp [results, Tryd.results58, go_sem, hR0, hR1, hF0, hF1] <;> rfl) rfl ?_
        exact HR2.out _ _ HREC.out ⟨_, _, rfl⟩ (below_set2 (HEXT.out.trans (HB2.out.mono HEXT.out.size)) (by omega) _ _)
    · intro e w1 hf he hb1
      obtain ⟨t', p, rfl⟩ := he
      have HB1 := Lib.hid hb1
      have B1' := Lib.hid (B1.out.later hb1 (lt_of_block B1.out))
      have HREC : Hid (recB L1 L2 = false) := Lib.hid (by
        have h60 : decide (L1.length ≤ 60) = true := decide_eq_true (by have := of_decide_eq_true HOK.out.2; omega)
        rw [h60, Bool.true_and] at hf
        unfold recB; rw [HOK.out.1, HOK.out.2, hf]; rfl)
      clear hb1 hf hA0 hA1 hR0 hR1 hF0 hF1
      obtain ⟨hR0, hR1, hF0, hF1⟩ := B1'.out.cells
      dsimp only
      go_wp2
      refine bodyPost_ret_at (by simp [results, Tryd.results58, go_sem, hR0, hR1, hF0, hF1] <;> rfl) rfl ?_
      exact HR2.out _ _ HREC.out ⟨_, _, rfl⟩ (below_set2 (HEXT.out.trans (HB1.out.mono HEXT.out.size)) (by omega) _ _)
  · have HREC : Hid (recB L1 L2 = false) := Lib.hid (by
      unfold recB; rw [← E1.out, ← E2.out]
      by_cases hA : n1 = n2
      · rw [decide_eq_false (show ¬ n1 ≤ 8 from fun h => hok ⟨hA, h⟩)]; simp
      · rw [decide_eq_false hA]; rfl)
    obtain ⟨_, ⟨pf, hpf⟩, _⟩ := HEL.out
    have hne1 : ¬ 0 = w.heap.size + 1 := by
      obtain ⟨_, ⟨pf2, hpf2⟩, _⟩ := HE.out
      have := lt_of_cell hpf2
      omega
    have hne2 : ¬ w.heap.size + 1 = 0 := fun h => hne1 h.symm
    by_cases h8 : n1 ≤ 8
    · have e8 : ¬ ((8 : Int) < (n1 : Int)) := by omega
      have e0 : ((n1 : Int) != (n2 : Int)) = true := by simp; omega
      clear hok h8
      go_enter Tryd.func58, Tryd.ntmps58
      rw [HL.out] at hA0 hA1
      go_wp2
      rw [← HL.out]
      go_region
      all_goals
        go_wp2
        refine bodyPost_ret_at (by simp [results, Tryd.results58, go_sem, hR0, hR1, hF0, hF1] <;> rfl) rfl ?_
        first | exact HR2.out _ _ HREC.out ⟨_, _, rfl⟩ (below_set2 HEXT.out (by omega) _ _).drew | exact HR2.out _ _ HREC.out ⟨_, _, rfl⟩ (below_set2 HEXT.out (by omega) _ _)
    · have e8 : ((8 : Int) < (n1 : Int)) := by omega
      clear hok h8
      go_enter Tryd.func58, Tryd.ntmps58
      rw [HL.out] at hA0 hA1
      go_wp2
      rw [← HL.out]
      go_region
      all_goals
        go_wp2
        refine bodyPost_ret_at (by simp [results, Tryd.results58, go_sem, hR0, hR1, hF0, hF1] <;> rfl) rfl ?_
        first | exact HR2.out _ _ HREC.out ⟨_, _, rfl⟩ (below_set2 HEXT.out (by omega) _ _).drew | exact HR2.out _ _ HREC.out ⟨_, _, rfl⟩ (below_set2 HEXT.out (by omega) _ _)
end Go.Proofs.YtpncfhfjnnpgdaaDoor

namespace Go.Proofs.YtpncfhfjnnpgdaaDoor
open Go Go.RowKit

/-- a store into a cell that holds no text leaves lists of texts as they are -/
theorem TxL.setAt {w : World} {v : Value} {L : List ByteArray} (h : TxL w v L) {b o : Nat} {x : Value} (hx : w.cell? ⟨b, o, none⟩ = some x) (hns : ∀ s, x ≠ .string s) (u : Value) : TxL (w.setCell ⟨b, o, none⟩ u) v L := by
  obtain ⟨ao, cap, hv, hc, hh⟩ := h
  refine ⟨ao, cap, hv, hc, fun i s hi => ?_⟩
  obtain ⟨c, off, cs, h1, h2, h3, h4⟩ := hh i s hi
  refine ⟨c, off, cs, h1, by rw [heap_size_set]; exact h2, fun j y hj => ?_, h4⟩
  have hy := h3 j y hj
  rw [cell?_set]
  split
  · rename_i he
    obtain ⟨rfl, e⟩ := he
    rw [e] at hy
    rw [hx] at hy
    obtain rfl := Option.some.inj hy
    have h4' : cs = [.string s] := h4
    subst h4'
    match j, hj with
    | 0, hj => simp at hj; exact absurd hj.symm (hns s)
    | (k + 1), hj => simp at hj
  · exact hy

set_option maxRecDepth 100000 in
set_option maxHeartbeats 1000000 in
theorem szR_any (v : Value) (L1 L2 : List ByteArray) (w : World) (left : Nat) (h : IsRec w v L1 L2) (hn1 : L1.length ≤ maxLen) (hs1 : ∀ s ∈ L1, s.size ≤ maxLen) (hn2 : L2.length ≤ maxLen) (hs2 : ∀ s ∈ L2, s.size ≤ maxLen) (hl : left ≤ 1048576) (R : Ending → World → Prop)
    (hR : ∀ w', tot L1 + tot L2 ≤ left → Below w.heap.size w w' → R (.returned (.int .i64 ((left - (tot L1 + tot L2) : Nat) : Int))) w') (hR2 : ∀ w', left < tot L1 + tot L2 → Below w.heap.size w w' → R (.returned (.int .i64 (-1))) w') :
    Calls Tryd.prog 31 #[v, .int .i64 (left : Int)] w R := by
  have HR := Lib.hid hR; clear hR
  have HR2 := Lib.hid hR2; clear hR2
  obtain ⟨s1, s2, rfl, h1, h2⟩ := h
  obtain ⟨a1, n1, c1, rfl, h1'⟩ := h1.op
  obtain ⟨a2, n2, c2, rfl, h2'⟩ := h2.op
  obtain ⟨L, hL⟩ : ∃ L, L = w.alloc (.cells #[.slice a1 n1 c1, .slice a2 n2 c2] 37) := ⟨_, rfl⟩
  have HBL : Hid (Below w.heap.size w L) := Lib.hid (by rw [hL]; exact (Below.refl _ _).alloc (Nat.le_refl _) _)
  have HBX : Hid (Box2 L w.heap.size (.slice a1 n1 c1) (.slice a2 n2 c2) 37) := Lib.hid (by rw [hL]; exact Box2.made _ _ _ _)
  have HL := Lib.hid hL
  have H1 := Lib.hid (h1'.later HBL.out (Nat.le_refl _))
  have H2 := Lib.hid (h2'.later HBL.out (Nat.le_refl _))
  have HN := Lib.hid (And.intro hn1 (And.intro hs1 (And.intro hn2 hs2)))
  have HLE := Lib.hid hl
  obtain ⟨hA0, hA1, _, _⟩ := HBX.out.cells
  clear h1 h2 h1' h2' hn1 hs1 hn2 hs2 hL hl
  go_enter Tryd.func31, Tryd.ntmps31
  rw [HL.out] at hA0 hA1
  go_wp2_with fail
  rw [← HL.out] at hA0 hA1 ⊢
  refine szT_any _ L1 _ left H1.out HN.out.1 HN.out.2.1 HLE.out _ ?_ ?_
  · intro ht
    obtain ⟨m, hm⟩ : ∃ m : Nat, left = m + tot L1 := ⟨left - tot L1, by omega⟩
    have e1 : left - tot L1 = m := by omega
    rw [e1]
    have hm0 : ¬ ((m : Int) < 0) := by omega
    have HM := Lib.hid hm
    clear ht hm e1
    dsimp only
    go_wp2_with fail
    refine szT_any _ L2 _ m H2.out HN.out.2.2.1 HN.out.2.2.2 (by have := HM.out; have := HLE.out; omega) _ ?_ ?_
    · intro ht2
      obtain ⟨k, hk⟩ : ∃ k : Nat, m = k + tot L2 := ⟨m - tot L2, by omega⟩
      have e2 : m - tot L2 = k := by omega
      rw [e2]
      have HF := Lib.hid (HR.out L (by have := HM.out; omega) HBL.out)
      have e3 : left - (tot L1 + tot L2) = k := by have := HM.out; omega
      rw [e3] at HF
      have hk0 : ¬ ((k : Int) < 0) := by omega
      clear ht2 hk e2 e3
      dsimp only
      go_wp2
      first | go_ret | skip
      exact HF.out
    · intro ht2
      have HF := Lib.hid (HR2.out L (by have := HM.out; omega) HBL.out)
      clear ht2
      dsimp only
      go_wp2
      first | go_ret | skip
      exact HF.out
  · intro ht
    have HF := Lib.hid (HR2.out L (by omega) HBL.out)
    clear ht
    dsimp only
    go_wp2
    first | go_ret | skip
    exact HF.out

theorem no_str_sl (a : Option Addr) (n c : Nat) : ∀ s, Value.slice a n c ≠ .string s := by intro s h; cases h

set_option maxRecDepth 100000 in
set_option maxHeartbeats 2000000 in
theorem toR_any (v : Value) (L1 L2 : List ByteArray) (w : World) (h : IsRec w v L1 L2) (hn1 : L1.length ≤ 1048576) (hn2 : L2.length ≤ 1048576) (R : Ending → World → Prop)
    (hR : ∀ v' w', IsRec w' v' L1 L2 → Below w.heap.size w w' → R (.returned v') w') :
    Calls Tryd.prog 33 #[v] w R := by
  have HR := Lib.hid hR; clear hR
  obtain ⟨s1, s2, rfl, h1, h2⟩ := h
  obtain ⟨a1, n1, c1, rfl, h1'⟩ := h1.op
  obtain ⟨a2, n2, c2, rfl, h2'⟩ := h2.op
  obtain ⟨L, hL⟩ : ∃ L, L = ((w.alloc (.cells #[.slice a1 n1 c1, .slice a2 n2 c2] 37)).alloc (.cells #[.slice none 0 0, .slice none 0 0] 40)).alloc (.cells #[.slice none 0 0, .slice none 0 0] 40) := ⟨_, rfl⟩
  have HLS : Hid (L.heap.size = w.heap.size + 3) := Lib.hid (by rw [hL]; simp)
  have B0 : Hid (Box2 L w.heap.size (.slice a1 n1 c1) (.slice a2 n2 c2) 37) := Lib.hid (by
    rw [hL]; exact ((Box2.made w _ _ _).later (B := w.heap.size + 1) ((Below.refl _ _).alloc (by simp) _) (by omega)).later (B := w.heap.size + 2) ((Below.refl _ _).alloc (by simp) _) (by omega))
  have B1 : Hid (Box2 L (w.heap.size + 1) (.slice none 0 0) (.slice none 0 0) 40) := Lib.hid (by
    have := (Box2.made (w.alloc (.cells #[.slice a1 n1 c1, .slice a2 n2 c2] 37)) (.slice none 0 0) (.slice none 0 0) 40).later (B := w.heap.size + 2) ((Below.refl _ _).alloc (by simp) (.cells #[.slice none 0 0, .slice none 0 0] 40)) (by simp)
    rw [World.size_alloc, ← hL] at this; exact this)
  have B2 : Hid (Box2 L (w.heap.size + 2) (.slice none 0 0) (.slice none 0 0) 40) := Lib.hid (by
    have := Box2.made ((w.alloc (.cells #[.slice a1 n1 c1, .slice a2 n2 c2] 37)).alloc (.cells #[.slice none 0 0, .slice none 0 0] 40)) (.slice none 0 0) (.slice none 0 0) 40
    rw [World.size_alloc, World.size_alloc, ← hL] at this; exact this)
  have HEXT : Hid (Below w.heap.size w L) := Lib.hid (by rw [hL]; exact (((Below.refl w.heap.size w).alloc (Nat.le_refl _) _).alloc (by simp) _).alloc (by simp; omega) _)
  have H1 := Lib.hid (h1'.later HEXT.out (Nat.le_refl _))
  have H2 := Lib.hid (h2'.later HEXT.out (Nat.le_refl _))
  have HN := Lib.hid (And.intro hn1 hn2)
  have HL := Lib.hid hL
  obtain ⟨hA0, hA1, _, _⟩ := B0.out.cells
  clear h1 h2 h1' h2' hn1 hn2 hL
  go_enter Tryd.func33, Tryd.ntmps33
  rw [HL.out] at hA0 hA1
  go_wp2_with fail
  rw [← HL.out] at hA0 hA1 ⊢
  refine toT_any _ L1 L H1.out HN.out.1 _ ?_
  intro v1 w1 hv1 hb1
  obtain ⟨x1, m1, y1, rfl, hv1'⟩ := hv1.op
  have B0a := Lib.hid (B0.out.later hb1 (lt_of_block B0.out))
  have B1a := Lib.hid (B1.out.later hb1 (lt_of_block B1.out))
  have B2a := Lib.hid (B2.out.later hb1 (lt_of_block B2.out))
  obtain ⟨hC0, hC1, hF0, hF1⟩ := B2a.out.cells
  obtain ⟨W, hW⟩ : ∃ W, W = w1.setCell ⟨w.heap.size + 2, 0, none⟩ (.slice x1 m1 y1) := ⟨_, rfl⟩
  have HW := Lib.hid hW
  have HV1 := Lib.hid (hv1'.setAt hC0 (no_str_sl _ _ _) (.slice x1 m1 y1))
  rw [← hW] at HV1
  have H2a := Lib.hid ((H2.out.later hb1 (Nat.le_refl _)).setAt hC0 (no_str_sl _ _ _) (.slice x1 m1 y1))
  rw [← hW] at H2a
  have HBW : Hid (Below w.heap.size w W) := Lib.hid (by rw [hW]; exact (HEXT.out.trans (hb1.mono HEXT.out.size)).setCell (by simp) _)
  have hlt : w.heap.size + 2 < w1.heap.size := by have := HLS.out; have := hb1.size; omega
  have HWS : Hid (W.heap.size = w1.heap.size) := Lib.hid (by rw [hW]; simp)
  have B2b : Hid (Box2 W (w.heap.size + 2) (.slice x1 m1 y1) (.slice none 0 0) 40) := Lib.hid (by
    rw [hW]
    have := B2a.out
    unfold Box2 at this ⊢
    simp [World.setCell, Array.getElem?_modify, this])
  have B0b : Hid (Box2 W w.heap.size (.slice a1 n1 c1) (.slice a2 n2 c2) 37) := Lib.hid (by
    have := B0a.out
    unfold Box2 at this ⊢
    rw [hW, Below.heap_setCell _ _ _ _ (by simp)]; exact this)
  have B1b : Hid (Box2 W (w.heap.size + 1) (.slice none 0 0) (.slice none 0 0) 40) := Lib.hid (by
    have := B1a.out
    unfold Box2 at this ⊢
    rw [hW, Below.heap_setCell _ _ _ _ (by simp)]; exact this)
  have e1 : ¬ w.heap.size = w.heap.size + 2 := by omega
  have HLT := Lib.hid hlt
  obtain ⟨hD0, hD1, _, _⟩ := B0a.out.cells
  clear hA0 hA1 hv1 hv1' hb1 hW hlt
  dsimp only
  go_wp2_with fail
  rw [← HW.out]
  clear hC0 hC1 hF0 hF1 hD0 hD1
  refine toT_any _ L2 W H2a.out HN.out.2 _ ?_
  intro v2 w2 hv2 hb2
  obtain ⟨x2, m2, y2, rfl, hv2'⟩ := hv2.op
  have B1c := Lib.hid (B1b.out.later hb2 (lt_of_block B1b.out))
  have B2c := Lib.hid (B2b.out.later hb2 (lt_of_block B2b.out))
  have HV1c := Lib.hid (HV1.out.later hb2 (Nat.le_refl _))
  have HV2 := Lib.hid hv2'
  have HB2 := Lib.hid (HBW.out.trans (hb2.mono HBW.out.size))
  obtain ⟨hC0, hC1, hF0, hF1⟩ := B2c.out.cells
  obtain ⟨hR0, hR1, hG0, hG1⟩ := B1c.out.cells
  have e2 : ¬ w.heap.size + 1 = w.heap.size + 2 := by omega
  have e3 : ¬ w.heap.size + 2 = w.heap.size + 1 := by omega
  clear hv2 hv2' hb2
  dsimp only
  go_wp2
  refine bodyPost_ret_at (by simp [results, Tryd.results33, go_sem, hC0, hC1, hF0, hF1, hR0, hR1, hG0, hG1] <;> rfl) rfl ?_
  have T1 := HV1c.out.setAt hC1 (no_str_sl _ _ _) (.slice x2 m2 y2)
  have T2 := HV2.out.setAt hC1 (no_str_sl _ _ _) (.slice x2 m2 y2)
  have k0 : (w2.setCell ⟨w.heap.size + 2, 1, none⟩ (.slice x2 m2 y2)).cell? ⟨w.heap.size + 1, 0, none⟩ = some (.slice none 0 0) := by rw [cell?_set, if_neg (by omega)]; exact hR0
  have k1 : ((w2.setCell ⟨w.heap.size + 2, 1, none⟩ (.slice x2 m2 y2)).setCell ⟨w.heap.size + 1, 0, none⟩ (.slice x1 m1 y1)).cell? ⟨w.heap.size + 1, 1, none⟩ = some (.slice none 0 0) := by
    rw [cell?_set, if_neg (by omega), cell?_set, if_neg (by omega)]; exact hR1
  refine HR.out _ _ ⟨_, _, rfl, (T1.setAt k0 (no_str_sl _ _ _) _).setAt k1 (no_str_sl _ _ _) _, (T2.setAt k0 (no_str_sl _ _ _) _).setAt k1 (no_str_sl _ _ _) _⟩ (((HB2.out.setCell (by simp <;> omega) _).setCell (by simp <;> omega) _).setCell (by simp <;> omega) _)

set_option maxRecDepth 100000 in
set_option maxHeartbeats 2000000 in
theorem eqR_any (va vb : Value) (L1 L2 : List ByteArray) (w : World) (ha : IsRec w va L1 L2) (hb : IsRec w vb L1 L2) (hn1 : L1.length ≤ 281474976710656) (hn2 : L2.length ≤ 281474976710656) (R : Ending → World → Prop)
    (hR : ∀ w', Below w.heap.size w w' → R (.returned (.bool true)) w') :
    Calls Tryd.prog 35 #[va, vb] w R := by
  have HR := Lib.hid hR; clear hR
  obtain ⟨s1, s2, rfl, h1, h2⟩ := ha
  obtain ⟨a1, n1, c1, rfl, h1'⟩ := h1.op
  obtain ⟨a2, n2, c2, rfl, h2'⟩ := h2.op
  obtain ⟨s3, s4, rfl, h3, h4⟩ := hb
  obtain ⟨a3, n3, c3, rfl, h3'⟩ := h3.op
  obtain ⟨a4, n4, c4, rfl, h4'⟩ := h4.op
  obtain ⟨L, hL⟩ : ∃ L, L = (w.alloc (.cells #[.slice a1 n1 c1, .slice a2 n2 c2] 40)).alloc (.cells #[.slice a3 n3 c3, .slice a4 n4 c4] 40) := ⟨_, rfl⟩
  have hb1 : Below (w.heap.size + 1) (w.alloc (.cells #[.slice a1 n1 c1, .slice a2 n2 c2] 40)) L := by rw [hL]; exact (Below.refl _ _).alloc (by simp) _
  have B0 : Hid (Box2 L w.heap.size (.slice a1 n1 c1) (.slice a2 n2 c2) 40) := Lib.hid ((Box2.made w _ _ _).later hb1 (by omega))
  have B1 : Hid (Box2 L (w.heap.size + 1) (.slice a3 n3 c3) (.slice a4 n4 c4) 40) := Lib.hid (by
    have := Box2.made (w.alloc (.cells #[.slice a1 n1 c1, .slice a2 n2 c2] 40)) (.slice a3 n3 c3) (.slice a4 n4 c4) 40
    rw [World.size_alloc, ← hL] at this; exact this)
  have HEXT : Hid (Below w.heap.size w L) := Lib.hid (by rw [hL]; exact ((Below.refl w.heap.size w).alloc (Nat.le_refl _) _).alloc (by simp) _)
  have H1 := Lib.hid (h1'.later HEXT.out (Nat.le_refl _))
  have H2 := Lib.hid (h2'.later HEXT.out (Nat.le_refl _))
  have H3 := Lib.hid (h3'.later HEXT.out (Nat.le_refl _))
  have H4 := Lib.hid (h4'.later HEXT.out (Nat.le_refl _))
  have HN := Lib.hid (And.intro hn1 hn2)
  have HL := Lib.hid hL
  obtain ⟨hA0, hA1, _, _⟩ := B0.out.cells
  obtain ⟨hB0, hB1, _, _⟩ := B1.out.cells
  clear h1 h2 h3 h4 h1' h2' h3' h4' hn1 hn2 hL hb1
  go_enter Tryd.func35, Tryd.ntmps35
  rw [HL.out] at hA0 hA1 hB0 hB1
  go_wp2_with fail
  rw [← HL.out]
  refine eqT_any _ _ L1 L1 L H1.out H3.out HN.out.1 HN.out.1 _ ?_
  intro w1 hb1
  rw [decide_eq_true rfl]
  have HB1 := Lib.hid hb1
  have B0a := Lib.hid (B0.out.later hb1 (lt_of_block B0.out))
  have B1a := Lib.hid (B1.out.later hb1 (lt_of_block B1.out))
  clear hA0 hA1 hB0 hB1 hb1
  obtain ⟨hA0, hA1, _, _⟩ := B0a.out.cells
  obtain ⟨hB0, hB1, _, _⟩ := B1a.out.cells
  dsimp only
  go_wp2_with fail
  refine eqT_any _ _ L2 L2 w1 (H2.out.later HB1.out (Nat.le_refl _)) (H4.out.later HB1.out (Nat.le_refl _)) HN.out.2 HN.out.2 _ ?_
  intro w2 hb2
  rw [decide_eq_true rfl]
  have HB2 := Lib.hid (HEXT.out.trans ((HB1.out.trans (hb2.mono HB1.out.size)).mono HEXT.out.size))
  clear hA0 hA1 hB0 hB1 hb2
  dsimp only
  go_wp2
  first | go_ret | skip
  exact HR.out _ HB2.out
end Go.Proofs.YtpncfhfjnnpgdaaDoor

namespace Go.Proofs.YtpncfhfjnnpgdaaDoor.EnvLaid
open Go Go.ChangeShapes Go.WideShapes Go.ChangeAt Go.RowKit

theorem cellsRec : Tryd.prog.cellsOf 37 = 2 := by kernel_rfl

set_option maxRecDepth 100000 in
/-- a recurrence that came in -/
theorem open_rec {H : Type} {enc : TypeId × Value → H} {W : World} {r : Reach} {b0 : Nat} {v : Value} {d : DataW H} {ps : List MemPlace}
    (hval : Value.okWide Tryd.prog W r b0 37 v) (h : DataW.Trod enc Tryd.prog W 0 (fun _ => true) true 37 v d ps) :
    ∃ L1 L2, IsRec W v L1 L2 ∧ L1.length ≤ maxLen ∧ (∀ s ∈ L1, s.size ≤ maxLen) ∧ L2.length ≤ maxLen ∧ ∀ s ∈ L2, s.size ≤ maxLen := by
  obtain ⟨cs, rfl, hsz⟩ := okWide_struct Tryd.underlying37 hval
  rw [cellsRec] at hsz
  obtain ⟨x0, x1, rfl⟩ : ∃ x0 x1, cs = #[x0, x1] := by
    obtain ⟨l⟩ := cs
    match l, hsz with
    | [x0, x1], _ => exact ⟨x0, x1, rfl⟩
  obtain ⟨fuel, hf⟩ := h
  obtain ⟨y0, y1, n, _, _, h0, h1⟩ := trod_struct2 Tryd.underlying37 hf
  obtain ⟨L1, p1, p2, p3⟩ := open_textsC (y := y0) (x := x0) (by simpa [Value.cells, cellsStr, show Tryd.prog.cellsOf 23 = 1 by kernel_rfl] using h0)
  obtain ⟨L2, q1, q2, q3⟩ := open_textsC (y := y1) (x := x1) (by simpa [Value.cells, cellsStr, show Tryd.prog.cellsOf 23 = 1 by kernel_rfl] using h1)
  exact ⟨L1, L2, ⟨x0, x1, rfl, p1, q1⟩, p2, p3, q2, q3⟩
end Go.Proofs.YtpncfhfjnnpgdaaDoor.EnvLaid

namespace Go.Proofs.YtpncfhfjnnpgdaaDoor
open Go Go.RowKit

set_option maxRecDepth 100000 in
set_option maxHeartbeats 1000000 in
theorem impl_validRec (v : Value) (L1 L2 : List ByteArray) (w : World) (hE : Env w) (h : IsRec w v L1 L2) (hn1 : L1.length ≤ 1048576) (hn2 : L2.length ≤ 1048576) (R : Ending → World → Prop)
    (hR : ∀ w', Below w.heap.size w w' → R (.returned (.bool (recB L1 L2))) w') :
    Calls Tryd.prog 34 #[v] w R := by
  have HR := Lib.hid hR; clear hR
  have HE := Lib.hid hE; clear hE
  have h9 := h
  obtain ⟨s1, s2, rfl, h1, h2⟩ := h9
  obtain ⟨a1, n1, c1, rfl, h1'⟩ := h1.op
  obtain ⟨a2, n2, c2, rfl, h2'⟩ := h2.op
  obtain ⟨L, hL⟩ : ∃ L, L = w.alloc (.cells #[.slice a1 n1 c1, .slice a2 n2 c2] 40) := ⟨_, rfl⟩
  have HBL : Hid (Below w.heap.size w L) := Lib.hid (by rw [hL]; exact (Below.refl _ _).alloc (Nat.le_refl _) _)
  have HBX : Hid (Box2 L w.heap.size (.slice a1 n1 c1) (.slice a2 n2 c2) 40) := Lib.hid (by rw [hL]; exact Box2.made _ _ _ _)
  have HL := Lib.hid hL
  have HV := Lib.hid (h.later HBL.out (Nat.le_refl _))
  have HN := Lib.hid (And.intro hn1 hn2)
  obtain ⟨hA0, hA1, _, _⟩ := HBX.out.cells
  clear h h1 h2 h1' h2' hn1 hn2 hL
  go_enter Tryd.func34, Tryd.ntmps34
  rw [HL.out] at hA0 hA1
  go_wp2_with fail
  rw [← HL.out]
  refine readseq_any _ L1 L2 L (HE.out.later HBL.out (Nat.le_refl _)) HV.out HN.out.1 HN.out.2 _ ?_ ?_
  · intro v1 v2 w1 ht hv1 hv2 hb1
    rw [ht] at HR
    obtain ⟨x1, m1, y1, rfl, hv1'⟩ := SlE.op hv1
    obtain ⟨x2, m2, y2, rfl, hv2'⟩ := SlE.op hv2
    have HB := Lib.hid (HBL.out.trans (hb1.mono HBL.out.size))
    clear ht hv1 hv2 hv1' hv2' hb1 hA0 hA1
    dsimp only
    go_wp2
    first | go_ret | skip
    exact HR.out _ (HB.out.alloc HB.out.size _)
  · intro e w1 ht he hb1
    rw [ht] at HR
    obtain ⟨t, p, rfl⟩ := he
    have HB := Lib.hid (HBL.out.trans (hb1.mono HBL.out.size))
    clear ht hb1 hA0 hA1
    unfold zeroS
    dsimp only
    go_wp2
    first | go_ret | skip
    exact HR.out _ (HB.out.alloc HB.out.size _)

set_option maxRecDepth 100000 in
set_option maxHeartbeats 8000000 in
theorem law_validRecurrence (v : Value) (L1 L2 : List ByteArray) (w : World) (hE : Env w) (h : IsRec w v L1 L2) (hn1 : L1.length ≤ maxLen) (hs1 : ∀ s ∈ L1, s.size ≤ maxLen) (hn2 : L2.length ≤ maxLen) (hs2 : ∀ s ∈ L2, s.size ≤ maxLen) (R : Ending → World → Prop)
    (hR : ∀ w', Below w.heap.size w w' → R (.returned (.bool true)) w') :
    Calls Tryd.prog 11 #[v] w R := by
  have HR := Lib.hid hR; clear hR
  have HE := Lib.hid hE; clear hE
  have h9 := h
  obtain ⟨s1, s2, rfl, h1, h2⟩ := h9
  obtain ⟨a1, n1, c1, rfl, h1'⟩ := h1.op
  obtain ⟨a2, n2, c2, rfl, h2'⟩ := h2.op
  obtain ⟨L, hL⟩ : ∃ L, L = w.alloc (.cells #[.slice a1 n1 c1, .slice a2 n2 c2] 37) := ⟨_, rfl⟩
  have HBL : Hid (Below w.heap.size w L) := Lib.hid (by rw [hL]; exact (Below.refl _ _).alloc (Nat.le_refl _) _)
  have HBX : Hid (Box2 L w.heap.size (.slice a1 n1 c1) (.slice a2 n2 c2) 37) := Lib.hid (by rw [hL]; exact Box2.made _ _ _ _)
  have HL := Lib.hid hL
  have HV := Lib.hid (h.later HBL.out (Nat.le_refl _))
  have HN := Lib.hid (And.intro hn1 (And.intro hs1 (And.intro hn2 hs2)))
  obtain ⟨hA0, hA1, _, _⟩ := HBX.out.cells
  clear h h1 h2 h1' h2' hn1 hs1 hn2 hs2 hL
  go_enter Tryd.func11, Tryd.ntmps11
  rw [HL.out] at hA0 hA1
  go_wp2_with fail
  rw [← HL.out]
  refine szR_any _ L1 L2 L 1048576 HV.out HN.out.1 HN.out.2.1 HN.out.2.2.1 HN.out.2.2.2 (by omega) _ ?_ ?_
  · intro w1 ht hb1
    obtain ⟨p1, p2⟩ := sizes_each (L := L1) (by omega)
    obtain ⟨p3, p4⟩ := sizes_each (L := L2) (by omega)
    have HP := Lib.hid (And.intro p1 (And.intro p2 (And.intro p3 p4)))
    obtain ⟨m, hm⟩ : ∃ m : Nat, m = 1048576 - (tot L1 + tot L2) := ⟨_, rfl⟩
    rw [← hm]
    have hm0 : ¬ ((m : Int) < 0) := by omega
    have HB1 : Hid (Below L.heap.size L w1) := Lib.hid hb1
    have HX1 := Lib.hid (HBX.out.later hb1 (lt_of_block HBX.out))
    clear hm ht p1 p2 p3 p4 hb1 hA0 hA1
    obtain ⟨hA0, hA1, _, _⟩ := HX1.out.cells
    dsimp only
    go_wp2_with fail
    refine toR_any _ L1 L2 w1 (HV.out.later HB1.out (Nat.le_refl _)) HP.out.1 HP.out.2.2.1 _ ?_
    intro v2 w2 hv2 hb2
    have HV2 := Lib.hid hv2
    obtain ⟨x1, m1, y1, x2, m2, y2, rfl, q1, q2, q3, q4⟩ := hv2.parts
    have HB2 := Lib.hid (HB1.out.trans (hb2.mono HB1.out.size))
    have HX2 := Lib.hid (HX1.out.later hb2 (lt_of_block HX1.out))
    clear hv2 q1 q2 q3 q4 hb2 hA0 hA1
    dsimp only
    go_wp2_with fail
    refine spec_validRec _ L1 L2 w2 HV2.out HP.out.1 HP.out.2.1 HP.out.2.2.1 HP.out.2.2.2 _ ?_
    intro w3 hb3
    obtain ⟨x, hx⟩ : ∃ x, x = recB L1 L2 := ⟨_, rfl⟩
    have HX := Lib.hid hx
    rw [← hx]
    have HB3 := Lib.hid (HB2.out.trans (hb3.mono HB2.out.size))
    have HX3 := Lib.hid (HX2.out.later hb3 (lt_of_block HX2.out))
    clear hx hb3
    obtain ⟨hA0, hA1, _, _⟩ := HX3.out.cells
    dsimp only
    go_wp2_with fail
    refine toR_any _ L1 L2 w3 (HV.out.later HB3.out (Nat.le_refl _)) HP.out.1 HP.out.2.2.1 _ ?_
    intro v4 w4 hv4 hb4
    obtain ⟨x3, m3, y3, x4, m4, y4, rfl, q1, q2, q3, q4⟩ := hv4.parts
    obtain ⟨W, hW⟩ : ∃ W, W = w4.alloc (.cells #[.slice x3 m3 y3, .slice x4 m4 y4] 40) := ⟨_, rfl⟩
    have hbW : Below w4.heap.size w4 W := by rw [hW]; exact (Below.refl _ _).alloc (Nat.le_refl _) _
    have B4 : Hid (Box2 W w4.heap.size (.slice x3 m3 y3) (.slice x4 m4 y4) 40) := Lib.hid (by rw [hW]; exact Box2.made _ _ _ _)
    have HV4 := Lib.hid (hv4.later hbW (Nat.le_refl _))
    have hb4W : Below w3.heap.size w3 W := hb4.trans (hbW.mono hb4.size)
    have HB4 := Lib.hid (HB3.out.trans (hb4W.mono HB3.out.size))
    have HX4 := Lib.hid (HX3.out.later hb4W (lt_of_block HX3.out))
    have HW := Lib.hid hW
    obtain ⟨hC0, hC1, _, _⟩ := B4.out.cells
    clear hv4 q1 q2 q3 q4 hb4 hbW hb4W hW hA0 hA1
    rw [HW.out] at hC0 hC1
    dsimp only
    go_wp2_with fail
    rw [← HW.out]
    refine impl_validRec _ L1 L2 W (HE.out.later (HBL.out.trans (HB4.out.mono HBL.out.size)) (Nat.le_refl _)) HV4.out HP.out.1 HP.out.2.2.1 _ ?_
    intro w5 hb5
    rw [← HX.out]
    have HB5 := Lib.hid (HB4.out.trans (hb5.mono HB4.out.size))
    have HX5 := Lib.hid (HX4.out.later hb5 (lt_of_block HX4.out))
    have B5 := Lib.hid (B4.out.later hb5 (lt_of_block B4.out))
    have HV5 := Lib.hid (HV4.out.later hb5 (Nat.le_refl _))
    have hxx : (x != x) = false := by cases x <;> rfl
    have HSOF : Hid (∀ w', Below w5.heap.size w5 w' → (Below w5.heap.size w5 w' ∧ (w'.cell? ⟨w.heap.size, 0, none⟩ = some (.slice a1 n1 c1) ∧ w'.cell? ⟨w.heap.size, 1, none⟩ = some (.slice a2 n2 c2)) ∧ (w'.cell? ⟨w4.heap.size, 0, none⟩ = some (.slice x3 m3 y3) ∧ w'.cell? ⟨w4.heap.size, 1, none⟩ = some (.slice x4 m4 y4)))) :=
      Lib.hid fun w' hb => ⟨hb, ⟨(HX5.out.later hb (lt_of_block HX5.out)).cells.1, (HX5.out.later hb (lt_of_block HX5.out)).cells.2.1⟩, ⟨(B5.out.later hb (lt_of_block B5.out)).cells.1, (B5.out.later hb (lt_of_block B5.out)).cells.2.1⟩⟩
    have HVL := Lib.hid (HV.out.later HB5.out (Nat.le_refl _))
    have HLEN : Hid (L1.length ≤ 281474976710656 ∧ L2.length ≤ 281474976710656) := Lib.hid (by have := HP.out.1; have := HP.out.2.2.1; omega)
    clear hb5 hC0 hC1
    dsimp only
    go_wp2_with fail
    first
      | (go_region_held3 (fun w' => Below w5.heap.size w5 w' ∧ (w'.cell? ⟨w.heap.size, 0, none⟩ = some (.slice a1 n1 c1) ∧ w'.cell? ⟨w.heap.size, 1, none⟩ = some (.slice a2 n2 c2)) ∧ (w'.cell? ⟨w4.heap.size, 0, none⟩ = some (.slice x3 m3 y3) ∧ w'.cell? ⟨w4.heap.size, 1, none⟩ = some (.slice x4 m4 y4)))
          (first
            | exact HSOF.out _ HQ2.out
            | exact HSOF.out _ HQ1.out
            | exact HSOF.out _ (Below.refl _ _).drew)
          (first
            | (go_at_call 35; refine eqR_any _ _ L1 L2 _ (HV5.out.later HQ1.out (Nat.le_refl _)) HV6.out HLEN.out.1 HLEN.out.2 _ ?_; intro w7 hb7; have HQ2 : Hid (Below w5.heap.size w5 w7) := Lib.hid (HQ1.out.trans (hb7.mono HQ1.out.size)); clear hb7; dsimp only)
            | (go_at_call 33; refine toR_any _ L1 L2 _ (HVL.out.later (Below.refl _ _).drew (Nat.le_refl _)) HP.out.1 HP.out.2.2.1 _ ?_; intro v6 w6 hv6 hb6; have HV6 := Lib.hid hv6; have HQ1 : Hid (Below w5.heap.size w5 w6) := Lib.hid ⟨hb6.os, hb6.tape, hb6.output, hb6.size, hb6.block⟩; clear hv6 hb6; dsimp only)))
      | fail
    all_goals
      go_wp2
      first | go_ret | skip
      exact HR.out _ (HBL.out.trans ((HB5.out.trans (HQ2.out.mono HB5.out.size)).mono HBL.out.size))
  · intro w1 _ hb1
    have HF := Lib.hid (HR.out w1 (HBL.out.trans (hb1.mono HBL.out.size)))
    clear hb1 hA0 hA1
    dsimp only
    go_wp2
    first | go_ret | skip
    exact HF.out
end Go.Proofs.YtpncfhfjnnpgdaaDoor
