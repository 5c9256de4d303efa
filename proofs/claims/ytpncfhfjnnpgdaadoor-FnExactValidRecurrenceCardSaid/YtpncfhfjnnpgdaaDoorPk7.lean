/- Contracts of functions of the program and of the model: PolyV, LawPolyV, NumberOf. -/
import Derived.Test.YtpncfhfjnnpgdaaDoorPk6
import Derived.Lib.AppendIntMem
import Derived.Lib.LaidTab
import Derived.WalkSmall
set_option linter.all false
set_option linter.unusedVariables false
set_option linter.unusedSimpArgs false
set_option linter.unnecessarySimpa false
set_option linter.deprecated false
namespace Go.Proofs.YtpncfhfjnnpgdaaDoor
open Go Go.RowKit

theorem textQ_zero : textQ 0 = [48] := by
  have h1 : (0 : Rat).num = 0 := rfl
  have h2 : (0 : Rat).den = 1 := rfl
  unfold textQ
  rw [h1, h2]
  simp [decs]

theorem few_zero : few 0 := by
  have h1 : (0 : Rat).num = 0 := rfl
  have h2 : (0 : Rat).den = 1 := rfl
  unfold few
  rw [h1, h2]
  constructor
  · simp [decs]
  · rw [decs, if_neg (by omega), dig_small (by omega) (by omega)]; simp

theorem zero_iff {L : List UInt8} {q : Rat} (h : numO L = some q) : q = 0 ↔ L = [48] := by
  obtain ⟨h1, h2⟩ := numO_some.1 h
  constructor
  · rintro rfl; rw [h1, textQ_zero]
  · intro e
    exact textQ_inj h2 few_zero (by rw [← h1, e, textQ_zero])

theorem num_zero_iff (q : Rat) : q.num.natAbs = 0 ↔ q = 0 := by
  constructor
  · intro h
    exact Rat.num_eq_zero.1 (Int.natAbs_eq_zero.1 h)
  · rintro rfl; rfl

set_option maxRecDepth 100000 in
set_option maxHeartbeats 1000000 in
theorem izero_any (b : Bool) (v : Value) (n : Nat) (w : World) (h : IsN w v n) (R : Ending → World → Prop)
    (hR : ∀ w', Below w.heap.size w w' → R (.returned (.bool (decide (n = 0)))) w') :
    Calls Tryd.prog 103 #[.agg #[.bool b, v]] w R := by
  have HR := Lib.hid hR; clear hR
  obtain ⟨a1, n1, c1, rfl, h'⟩ := h.op
  have HH := Lib.hid (h'.later ((Below.refl w.heap.size w).alloc (Nat.le_refl _) (.cells #[.bool b, .slice a1 n1 c1] 47)) (Nat.le_refl _))
  clear h h'
  go_enter Tryd.func103, Tryd.ntmps103
  go_wp2_with fail
  refine nzero_any _ n _ HH.out _ ?_
  obtain ⟨x, hx⟩ : ∃ x, x = decide (n = 0) := ⟨_, rfl⟩
  rw [← hx] at HR ⊢
  clear hx
  dsimp only
  go_wp2
  first | go_ret | skip
  exact HR.out _ ((Below.refl _ _).alloc (Nat.le_refl _) _)

set_option maxRecDepth 100000 in
set_option maxHeartbeats 1000000 in
theorem rzero_any (v : Value) (q : Rat) (w : World) (h : IsR w v q) (R : Ending → World → Prop)
    (hR : ∀ w', Below w.heap.size w w' → R (.returned (.bool (decide (q.num.natAbs = 0)))) w') :
    Calls Tryd.prog 83 #[v] w R := by
  have HR := Lib.hid hR; clear hR
  obtain ⟨s1, s2, rfl, hn1, hn2⟩ := h
  obtain ⟨a1, n1, c1, rfl, hn1'⟩ := hn1.op
  obtain ⟨a2, n2, c2, rfl, hn2'⟩ := hn2.op
  obtain ⟨ng, hng⟩ : ∃ ng, ng = decide (q.num < 0) := ⟨_, rfl⟩
  rw [← hng]
  obtain ⟨L, hL⟩ : ∃ L, L = w.alloc (.cells #[.bool ng, .slice a1 n1 c1, .slice a2 n2 c2] 49) := ⟨_, rfl⟩
  have HBL : Hid (Below w.heap.size w L) := Lib.hid (by rw [hL]; exact (Below.refl _ _).alloc (Nat.le_refl _) _)
  have HBX : Hid (Box3 L w.heap.size (.bool ng) (.slice a1 n1 c1) (.slice a2 n2 c2) 49) := Lib.hid (by rw [hL]; exact Box3.made _ _ _ _ _)
  have HN := Lib.hid (hn1'.later HBL.out (Nat.le_refl _))
  have HL := Lib.hid hL
  obtain ⟨⟨hP0, hP1, hP2⟩, _, _, _⟩ := Box3.cells HBX.out
  clear hn1 hn2 hn1' hn2' hng hL
  go_enter Tryd.func83, Tryd.ntmps83
  rw [HL.out] at hP0 hP1 hP2
  go_wp2_with fail
  rw [← HL.out]
  refine izero_any ng _ _ _ HN.out _ ?_
  intro w1 hb1
  obtain ⟨x, hx⟩ : ∃ x, x = decide (q.num.natAbs = 0) := ⟨_, rfl⟩
  rw [← hx] at HR ⊢
  have HB := Lib.hid (HBL.out.trans (hb1.mono HBL.out.size))
  clear hx hb1 hP0 hP1 hP2
  dsimp only
  go_wp2
  first | go_ret | skip
  exact HR.out _ HB.out

set_option maxRecDepth 100000 in
theorem dzero_any (v : Value) (qs : List Rat) (w : World) (h : RsL w v qs) (R : Ending → World → Prop)
    (hR : R (.returned (.bool (decide (qs.length = 0)))) w) :
    Calls Tryd.prog 81 #[v] w R := by
  have HR := Lib.hid hR; clear hR
  obtain ⟨ao, n, cap, rfl, hn, hc, hh⟩ := SlE.open h
  rw [← hn] at HR
  clear hn h hh hc
  by_cases h0 : n = 0
  · subst h0
    rw [decide_eq_true rfl] at HR
    go_enter Tryd.func81, Tryd.ntmps81
    go_wp2
    first | go_ret | skip
    exact HR.out
  · have e : ((n : Int) == 0) = false := by simp; omega
    rw [decide_eq_false h0] at HR
    clear h0
    go_enter Tryd.func81, Tryd.ntmps81
    go_wp2
    first | go_ret | skip
    exact HR.out

set_option maxRecDepth 100000 in
set_option maxHeartbeats 1000000 in
theorem dlast_any (v : Value) (qs : List Rat) (q : Rat) (w : World) (h : RsL w v qs) (hq : qs.getLast? = some q) (hl : qs.length ≤ 1000000) (R : Ending → World → Prop)
    (hR : ∀ v' w', IsR w' v' q → Below w.heap.size w w' → R (.returned v') w') :
    Calls Tryd.prog 82 #[v] w R := by
  have HR := Lib.hid hR; clear hR
  obtain ⟨ao, n, cap, rfl, hn, hc, hh⟩ := SlE.open h
  have hne : qs ≠ [] := fun e => by subst e; simp at hq
  have hpos : 0 < qs.length := List.length_pos_iff.2 hne
  obtain ⟨j, hj⟩ : ∃ j, n = j + 1 := ⟨n - 1, by omega⟩
  have hqj : qs[j]? = some q := by
    rw [List.getLast?_eq_getElem?] at hq
    rw [show j = qs.length - 1 by omega]; exact hq
  obtain ⟨b, off, cs, rfl, hb, hcell, hE⟩ := SlE.at hh j q hqj
  obtain ⟨a1, n1, c1, a2, n2, c2, rfl, hn1, hn2⟩ := hE
  obtain ⟨ng, hng⟩ : ∃ ng, ng = decide (q.num < 0) := ⟨_, rfl⟩
  rw [← hng] at hcell
  obtain ⟨L, hL⟩ : ∃ L, L = w.alloc (.cells #[.bool false, .slice none 0 0, .slice none 0 0] 49) := ⟨_, rfl⟩
  have HBL : Hid (Below w.heap.size w L) := Lib.hid (by rw [hL]; exact (Below.refl _ _).alloc (Nat.le_refl _) _)
  have HBX : Hid (Box3 L w.heap.size (.bool false) (.slice none 0 0) (.slice none 0 0) 49) := Lib.hid (by rw [hL]; exact Box3.made _ _ _ _ _)
  have HL := Lib.hid hL
  have HN1 := Lib.hid hn1
  have HN2 := Lib.hid hn2
  have HNG := Lib.hid hng
  have k0 : L.cell? ⟨b, off + j * 3, none⟩ = some (.bool ng) := by rw [HBL.out.cell (p := ⟨b, _, none⟩) hb]; exact hcell 0 _ rfl
  have k1 : L.cell? ⟨b, off + j * 3 + 1, none⟩ = some (.slice a1 n1 c1) := by rw [HBL.out.cell (p := ⟨b, _, none⟩) hb]; exact hcell 1 _ rfl
  have k2 : L.cell? ⟨b, off + j * 3 + 2, none⟩ = some (.slice a2 n2 c2) := by rw [HBL.out.cell (p := ⟨b, _, none⟩) hb]; exact hcell 2 _ rfl
  obtain ⟨⟨hR0, hR1, hR2⟩, hF0, hF1, hF2⟩ := Box3.cells HBX.out
  have hw1 : IntKind.i64.wrap ((n : Int) - 1) = (j : Int) := by rw [IntWalk.i64_in _ (by omega)]; omega
  have hjn : (j : Int) < (n : Int) := by omega
  clear hn h hh hc hcell hn1 hn2 hng hL hq hne hpos hqj hj
  go_enter Tryd.func82, Tryd.ntmps82
  rw [HL.out] at k0 k1 k2 hR0 hR1 hR2 hF0 hF1 hF2
  go_wp2
  clear hR0 hR1 hR2 hF0 hF1 hF2 k0 k1 k2
  have HV := Box3.made w (.bool ng) (.slice a1 n1 c1) (.slice a2 n2 c2) 49
  obtain ⟨⟨hR0, hR1, hR2⟩, hF0, hF1, hF2⟩ := Box3.cells HV
  have HBV : Below w.heap.size w (w.alloc (.cells #[.bool ng, .slice a1 n1 c1, .slice a2 n2 c2] 49)) := (Below.refl _ _).alloc (Nat.le_refl _) _
  refine bodyPost_ret_at (by simp [results, Tryd.results82, go_sem, hR0, hR1, hR2, hF0, hF1, hF2] <;> rfl) rfl ?_
  refine HR.out _ _ ⟨_, _, ?_, HN1.out.later HBV (Nat.le_refl _), HN2.out.later HBV (Nat.le_refl _)⟩ HBV
  rw [HNG.out]

/-- whether texts are the coefficients of a polynomial -/
noncomputable def polyB (L : List ByteArray) : Bool := decide (L.length ≤ 13) && (L.all isNum && decide (∀ s, L.getLast? = some s → s.data.toList ≠ [48]))

theorem polyB_true {L : List ByteArray} (h1 : L.length ≤ 13) (h2 : L.all isNum = true) (h3 : ∀ s, L.getLast? = some s → s.data.toList ≠ [48]) : polyB L = true := by
  unfold polyB; rw [decide_eq_true h1, h2, decide_eq_true h3]; rfl
theorem polyB_len {L : List ByteArray} (h : ¬ L.length ≤ 13) : polyB L = false := by unfold polyB; rw [decide_eq_false h]; rfl
theorem polyB_num {L : List ByteArray} (h : L.all isNum = false) : polyB L = false := by unfold polyB; rw [h]; simp
theorem polyB_last {L : List ByteArray} {s : ByteArray} (h : L.getLast? = some s) (h2 : s.data.toList = [48]) : polyB L = false := by
  unfold polyB
  have h3 : ¬ ∀ t, L.getLast? = some t → t.data.toList ≠ [48] := fun h9 => h9 s h h2
  simp only [h3, decide_false, Bool.and_false]

theorem getLast_map {α β : Type} (f : α → β) (L : List α) (s : α) (h : L.getLast? = some s) : (L.map f).getLast? = some (f s) := by
  rw [List.getLast?_map, h]; rfl

set_option maxRecDepth 100000 in
set_option maxHeartbeats 2000000 in
theorem readc_any (v : Value) (L : List ByteArray) (w : World) (hE : Env w) (h : TxL w v L) (hn : L.length ≤ 1048576) (R : Ending → World → Prop)
    (hR : ∀ v' w', polyB L = true → RsL w' v' (L.map qOf) → Below w.heap.size w w' → R (.returned (.tuple #[v', .nilIface])) w')
    (hR2 : ∀ e w', polyB L = false → ErrV e → Below w.heap.size w w' → R (.returned (.tuple #[.slice none 0 0, e])) w') :
    Calls Tryd.prog 56 #[v] w R := by
  have HR := Lib.hid hR; clear hR
  have HR2 := Lib.hid hR2; clear hR2
  have HE := Lib.hid hE
  obtain ⟨ao, n, cap, rfl, hnl, hc, hh⟩ := h.open
  have HH := Lib.hid hh
  have HN := Lib.hid hnl
  have HNL := Lib.hid hn
  rw [← hnl] at hn
  clear h hnl hh
  by_cases h13 : n ≤ 13
  · have e1 : ¬ ((13 : Int) < (n : Int)) := by omega
    have H13 := Lib.hid h13
    clear h13 hE
    go_enter Tryd.func56, Tryd.ntmps56
    go_wp2_with fail
    refine readrs_any _ L _ HE.out HH.out HNL.out _ ?_ ?_
    · intro v' w1 _ hall hv hb1
      have HB := Lib.hid hb1
      have HALL := Lib.hid hall
      obtain ⟨a5, n5, c5, rfl, hv'⟩ := SlE.op hv
      have HV := Lib.hid hv'
      clear hb1 hall hv hv'
      dsimp only
      go_wp2_with fail
      refine dzero_any _ (L.map qOf) _ HV.out _ ?_
      rw [List.length_map]
      by_cases h0 : L.length = 0
      · rw [decide_eq_true h0]
        have hL : L = [] := List.length_eq_zero_iff.1 h0
        have HF := Lib.hid (HR.out _ w1 (polyB_true (by rw [← HN.out]; exact H13.out) HALL.out (fun s hs => by rw [hL] at hs; simp at hs)) HV.out HB.out)
        clear h0 hL
        dsimp only
        go_wp2
        first | go_ret | skip
        exact HF.out
      · rw [decide_eq_false h0]
        obtain ⟨s, hs⟩ : ∃ s, L.getLast? = some s := by
          cases hl : L.getLast? with
          | none => rw [List.getLast?_eq_none_iff] at hl; rw [hl] at h0; simp at h0
          | some s => exact ⟨s, rfl⟩
        have HS := Lib.hid hs
        have HQL := Lib.hid (getLast_map qOf L s hs)
        clear h0 hs
        dsimp only
        go_wp2_with fail
        refine dlast_any _ (L.map qOf) (qOf s) _ HV.out HQL.out (by rw [List.length_map, ← HN.out]; omega) _ ?_
        intro v2 w2 hv2 hb2
        have HB2 := Lib.hid (HB.out.trans (hb2.mono HB.out.size))
        have HV2 := Lib.hid (SlE.later elemR HV.out hb2 (Nat.le_refl _))
        have hv2k := hv2
        obtain ⟨s1, s2, rfl, hn1, hn2⟩ := hv2
        obtain ⟨x1, m1, y1, rfl, _⟩ := hn1.op
        obtain ⟨x2, m2, y2, rfl, _⟩ := hn2.op
        have HVK := Lib.hid hv2k
        obtain ⟨ng, hng⟩ : ∃ ng, ng = decide ((qOf s).num < 0) := ⟨_, rfl⟩
        rw [← hng] at HVK ⊢
        clear hb2 hn1 hn2 hv2k hng
        dsimp only
        go_wp2_with fail
        refine rzero_any _ (qOf s) _ HVK.out _ ?_
        intro w3 hb3
        have HB3 := Lib.hid (HB2.out.trans (hb3.mono HB2.out.size))
        have HV3 := Lib.hid (SlE.later elemR HV2.out hb3 (Nat.le_refl _))
        have hsnum : isNum s = true := List.all_eq_true.1 HALL.out s (List.mem_of_getLast? HS.out)
        have hz := (num_zero_iff (qOf s)).trans (zero_iff (isNum_some hsnum))
        have HZ := Lib.hid hz
        clear hb3 hsnum hz
        by_cases hzero : (qOf s).num.natAbs = 0
        · rw [decide_eq_true hzero]
          have hp : polyB L = false := polyB_last HS.out (HZ.out.1 hzero)
          obtain ⟨⟨pf, hpf⟩, _, _⟩ := HE.out.later HB3.out (Nat.le_refl _)
          have HF := Lib.hid (fun w' => HR2.out (.iface 187 (.pointer (some pf))) w' hp ⟨_, _, rfl⟩)
          clear hzero hp
          dsimp only
          go_wp2
          go_quiet (fail)
          go_wp2
          first | go_ret | skip
          exact HF.out _ (below_draws HB3.out _)
        · rw [decide_eq_false hzero]
          have hp : polyB L = true := polyB_true (by rw [← HN.out]; exact H13.out) HALL.out (fun t ht e => by
            rw [HS.out] at ht; obtain rfl := Option.some.inj ht
            exact hzero (HZ.out.2 e))
          have HF := Lib.hid (HR.out _ w3 hp HV3.out HB3.out)
          clear hzero hp
          dsimp only
          go_wp2
          first | go_ret | skip
          exact HF.out
    · intro e w1 hf he hb1
      have hp : polyB L = false := by
        refine polyB_num ?_
        rw [← HN.out, decide_eq_true (by have := H13.out; omega)] at hf
        simpa using hf
      obtain ⟨t, p, rfl⟩ := he
      have HF := Lib.hid (HR2.out (.iface t (.pointer (some p))) w1 hp ⟨_, _, rfl⟩ hb1)
      clear hf hp hb1
      dsimp only
      go_wp2
      first | go_ret | skip
      exact HF.out
  · have e1 : ((13 : Int) < (n : Int)) := by omega
    have hp : polyB L = false := polyB_len (by rw [← HN.out]; exact h13)
    have HF := Lib.hid (fun p w' => HR2.out (.iface 187 (.pointer (some p))) w' hp ⟨_, _, rfl⟩)
    obtain ⟨_, ⟨pf, hpf⟩, _⟩ := hE
    clear h13 hp
    go_enter Tryd.func56, Tryd.ntmps56
    go_wp2
    go_quiet (fail)
    go_wp2
    first | go_ret | skip
    exact HF.out _ _ (below_draws (Below.refl _ _) _)

set_option maxRecDepth 100000 in
set_option maxHeartbeats 1000000 in
theorem l02is_any (v : Value) (L : List ByteArray) (w : World) (h : TxL w v L) (hn : L.length ≤ 1048576) (hs : ∀ s ∈ L, s.size ≤ 1048576) (R : Ending → World → Prop)
    (hR : ∀ w', Below w.heap.size w w' → R (.returned (.bool (polyB L))) w') :
    Calls Tryd.prog 55 #[v] w R := by
  have HR := Lib.hid hR; clear hR
  obtain ⟨ao, n, cap, rfl, hnl, hc, hh⟩ := h.open
  have HH := Lib.hid hh
  have HN := Lib.hid hnl
  have HNL := Lib.hid hn
  have HS := Lib.hid hs
  clear h hnl hh hn hs
  by_cases h13 : n ≤ 13
  · have e1 : ¬ ((13 : Int) < (n : Int)) := by omega
    have H13 := Lib.hid h13
    have H13L := Lib.hid (show L.length ≤ 13 by rw [← HN.out]; exact h13)
    clear h13
    go_enter Tryd.func55, Tryd.ntmps55
    go_wp2_with fail
    refine isList_any _ L _ HH.out HNL.out HS.out _ ?_
    intro w1 hb1
    rw [decide_eq_true (show L.length ≤ 60 by have := H13L.out; omega), Bool.true_and]
    have HB := Lib.hid hb1
    cases hall : L.all isNum with
    | false =>
      have hp := polyB_num hall
      have HF := Lib.hid (HR.out w1 hb1)
      rw [hp] at HF
      clear hb1 hall hp
      go_wp2
      first | go_ret | skip
      exact HF.out
    | true =>
      have HALL := Lib.hid hall
      have HF := Lib.hid (HR.out w1 hb1)
      have HH1 := Lib.hid (HH.out.later hb1 (Nat.le_refl _))
      clear hb1 hall
      by_cases h0 : n = 0
      · subst h0
        have hL : L = [] := List.length_eq_zero_iff.1 HN.out.symm
        rw [polyB_true H13L.out HALL.out (fun s hs => by rw [hL] at hs; simp at hs)] at HF
        clear hL
        go_wp2
        first | go_ret | skip
        exact HF.out
      · obtain ⟨j, hj⟩ : ∃ j, n = j + 1 := ⟨n - 1, by omega⟩
        obtain ⟨s, hs⟩ : ∃ s, L[j]? = some s := ⟨_, List.getElem?_eq_getElem (by rw [← HN.out]; omega)⟩
        have hlast : L.getLast? = some s := by rw [List.getLast?_eq_getElem?, ← HN.out, show n - 1 = j by omega]; exact hs
        obtain ⟨b, off, rfl, hb, hcell⟩ := TxL.at HH1.out j s hs
        have e0 : ((n : Int) == 0) = false := by simp; omega
        have hw1 : IntKind.i64.wrap ((n : Int) - 1) = (j : Int) := by rw [IntWalk.i64_in _ (by have := H13.out; omega)]; omega
        have hjn : (j : Int) < (n : Int) := by omega
        by_cases hz : s.data.toList = [48]
        · have e9 : (s.toList == [48]) = true := by rw [Lib.toList_data, hz]; rfl
          rw [polyB_last hlast hz] at HF
          clear hs hlast hz hj h0
          go_wp2
          first | go_ret | skip
          exact HF.out
        · have e9 : (s.toList == [48]) = false := by rw [Lib.toList_data, beq_eq_false_iff_ne]; exact hz
          rw [polyB_true H13L.out HALL.out (fun t ht e => by rw [hlast] at ht; obtain rfl := Option.some.inj ht; exact hz e)] at HF
          clear hs hlast hz hj h0
          go_wp2
          first | go_ret | skip
          exact HF.out
  · have e1 : ((13 : Int) < (n : Int)) := by omega
    have HF := Lib.hid (HR.out w (Below.refl _ _))
    rw [polyB_len (by rw [← HN.out]; exact h13)] at HF
    clear h13
    go_enter Tryd.func55, Tryd.ntmps55
    go_wp2
    first | go_ret | skip
    exact HF.out
end Go.Proofs.YtpncfhfjnnpgdaaDoor

namespace Go.Proofs.YtpncfhfjnnpgdaaDoor
open Go Go.RowKit

set_option maxRecDepth 100000 in
set_option maxHeartbeats 1000000 in
theorem spec_validPoly (v : Value) (L : List ByteArray) (w : World) (h : TxL w v L) (hn : L.length ≤ 1048576) (hs : ∀ s ∈ L, s.size ≤ 1048576) (R : Ending → World → Prop)
    (hR : ∀ w', Below w.heap.size w w' → R (.returned (.bool (polyB L))) w') :
    Calls Tryd.prog 29 #[v] w R := by
  have HR := Lib.hid hR; clear hR
  obtain ⟨ao, n, cap, rfl, hh⟩ := h.op
  have HH := Lib.hid hh
  have HS := Lib.hid hs
  have HN := Lib.hid hn
  clear h hh hs hn
  go_enter Tryd.func29, Tryd.ntmps29
  go_wp2_with fail
  refine l02is_any _ L _ HH.out HN.out HS.out _ ?_
  intro w1 hb1
  obtain ⟨x, hx⟩ : ∃ x, x = polyB L := ⟨_, rfl⟩
  rw [← hx] at HR ⊢
  have HB := Lib.hid hb1
  clear hb1 hx
  dsimp only
  go_wp2
  first | go_ret | skip
  exact HR.out _ HB.out

set_option maxRecDepth 100000 in
set_option maxHeartbeats 1000000 in
theorem impl_validPoly (v : Value) (L : List ByteArray) (w : World) (hE : Env w) (h : TxL w v L) (hn : L.length ≤ 1048576) (R : Ending → World → Prop)
    (hR : ∀ w', Below w.heap.size w w' → R (.returned (.bool (polyB L))) w') :
    Calls Tryd.prog 30 #[v] w R := by
  have HR := Lib.hid hR; clear hR
  have HE := Lib.hid hE; clear hE
  obtain ⟨ao, n, cap, rfl, hh⟩ := h.op
  have HH := Lib.hid hh
  have HN := Lib.hid hn
  clear h hh hn
  go_enter Tryd.func30, Tryd.ntmps30
  go_wp2_with fail
  refine readc_any _ L _ HE.out HH.out HN.out _ ?_ ?_
  · intro v' w1 ht hv hb1
    rw [ht] at HR
    obtain ⟨a9, n9, c9, rfl, hv9⟩ := SlE.op hv
    have HB := Lib.hid hb1
    clear hb1 ht hv hv9
    dsimp only
    go_wp2
    first | go_ret | skip
    exact HR.out _ HB.out
  · intro e w1 ht he hb1
    rw [ht] at HR
    obtain ⟨t, p, rfl⟩ := he
    have HB := Lib.hid hb1
    clear hb1 ht
    dsimp only
    go_wp2
    first | go_ret | skip
    exact HR.out _ HB.out

set_option maxRecDepth 100000 in
set_option maxHeartbeats 1000000 in
theorem law_validPoly (v : Value) (L : List ByteArray) (w : World) (hE : Env w) (h : TxL w v L) (hn : L.length ≤ maxLen) (hs : ∀ s ∈ L, s.size ≤ maxLen) (R : Ending → World → Prop)
    (hR : ∀ w', Below w.heap.size w w' → R (.returned (.bool true)) w') :
    Calls Tryd.prog 10 #[v] w R := by
  have HR := Lib.hid hR; clear hR
  have HE := Lib.hid hE; clear hE
  obtain ⟨ao, n, cap, rfl, hh⟩ := h.op
  have HH := Lib.hid hh
  have HN := Lib.hid hn
  have HS := Lib.hid hs
  clear h hh hn hs
  go_enter Tryd.func10, Tryd.ntmps10
  go_wp2_with fail
  refine szT_any _ L _ 1048576 HH.out HN.out HS.out (by omega) _ ?_ ?_
  · intro ht
    obtain ⟨h1, h2⟩ := sizes_each ht
    have H1 := Lib.hid h1
    have H2 := Lib.hid h2
    have H9 := Lib.hid (show L.length ≤ 281474976710656 by omega)
    obtain ⟨m, hm⟩ : ∃ m : Nat, m = 1048576 - tot L := ⟨_, rfl⟩
    rw [← hm]
    have hm0 : ¬ ((m : Int) < 0) := by omega
    clear hm ht h1 h2
    dsimp only
    go_wp2_with fail
    refine toT_any _ L _ HH.out H1.out _ ?_
    intro v1 w1 hv1 hb1
    obtain ⟨a1, n1, c1, rfl, hv1'⟩ := hv1.op
    have HV1 := Lib.hid hv1'
    have HB1 := Lib.hid hb1
    clear hb1 hv1 hv1'
    dsimp only
    go_wp2_with fail
    refine spec_validPoly _ L _ HV1.out H1.out H2.out _ ?_
    intro w2 hb2
    obtain ⟨x, hx⟩ : ∃ x, x = polyB L := ⟨_, rfl⟩
    have HX := Lib.hid hx
    rw [← hx]
    have HB2 := Lib.hid (HB1.out.trans (hb2.mono HB1.out.size))
    clear hb2 hx
    dsimp only
    go_wp2_with fail
    refine toT_any _ L _ (HH.out.later HB2.out (Nat.le_refl _)) H1.out _ ?_
    intro v3 w3 hv3 hb3
    obtain ⟨a3, n3, c3, rfl, hv3'⟩ := hv3.op
    have HV3 := Lib.hid hv3'
    have HB3 := Lib.hid (HB2.out.trans (hb3.mono HB2.out.size))
    clear hb3 hv3 hv3'
    dsimp only
    go_wp2_with fail
    refine impl_validPoly _ L _ (HE.out.later HB3.out (Nat.le_refl _)) HV3.out H1.out _ ?_
    intro w4 hb4
    have HV4 := Lib.hid (HV3.out.later hb4 (Nat.le_refl _))
    have HB4 := Lib.hid (HB3.out.trans (hb4.mono HB3.out.size))
    rw [← HX.out]
    clear hb4
    have hxx : (x != x) = false := by cases x <;> rfl
    dsimp only
    go_wp2_with fail
    refine toT_any _ L _ (HH.out.later HB4.out (Nat.le_refl _)) H1.out _ ?_
    intro v5 w5 hv5 hb5
    obtain ⟨a5, n5, c5, rfl, hv5'⟩ := hv5.op
    have HV5 := Lib.hid hv5'
    have HV4b := Lib.hid (HV4.out.later hb5 (Nat.le_refl _))
    have HB5 := Lib.hid (HB4.out.trans (hb5.mono HB4.out.size))
    clear hb5 hv5 hv5'
    dsimp only
    go_wp2_with fail
    refine eqT_any _ _ L L _ HV4b.out HV5.out H9.out H9.out _ ?_
    intro w6 hb6
    rw [decide_eq_true rfl]
    have HB6 := Lib.hid (HB5.out.trans (hb6.mono HB5.out.size))
    clear hb6
    dsimp only
    go_wp2
    first | go_ret | skip
    exact HR.out _ HB6.out
  · intro _
    dsimp only
    go_wp2
    first | go_ret | skip
    exact HR.out _ (Below.refl _ _)
end Go.Proofs.YtpncfhfjnnpgdaaDoor

namespace Go.Proofs.YtpncfhfjnnpgdaaDoor
open Go Go.RowKit

theorem decDigits_decs (n : Nat) : Lib.decDigits n = decs n := by
  induction n using Nat.strongRecOn with
  | _ n ih =>
    rw [Lib.decDigits]
    by_cases h : n < 10
    · rw [dif_pos h]
      by_cases h0 : n = 0
      · subst h0; rfl
      · rw [decs, if_neg h0, dig_small h0 h]; rfl
    · rw [dif_neg h, ih (n / 10) (by omega), decs, decs, if_neg (by omega), if_neg (by omega), dig_pos (by omega) (by omega : n ≠ 0)]
      simp [chr]

theorem itoa_textQ (n : Int) : Lib.itoa n = textQ (n : Rat) := by
  have h1 : ((n : Rat)).num = n := rfl
  have h2 : ((n : Rat)).den = 1 := rfl
  rw [Lib.itoa, textQ, h1, h2, decDigits_decs, decDigits_decs]
  by_cases h : n < 0
  · rw [if_pos h, if_pos h]; simp
  · rw [if_neg h, if_neg h]
    have : n.toNat = n.natAbs := by omega
    rw [this]; simp

theorem var?_later {P : Program} {W W' : World} {n : String} {cs : Array Value} (h : Below W.heap.size W W') (hv : W.var? P n = some cs) : W'.var? P n = some cs := by
  have hv' := hv
  unfold World.var? at hv'
  cases hg : P.globalNamed n with
  | none => rw [hg] at hv'; simp at hv'
  | some g =>
    refine var?_below h hg ?_ hv
    rw [hg] at hv'
    simp only [Option.bind_some] at hv'
    rcases Nat.lt_or_ge g W.heap.size with h | h
    · exact h
    · rw [Array.getElem?_eq_none (by omega)] at hv'; simp at hv'

set_option maxRecDepth 100000 in
theorem spec_numberOf (n : Int) (w : World) (h1 : -9223372036854775807 - 1 ≤ n) (h2 : n ≤ 9223372036854775807) (R : Ending → World → Prop)
    (hR : ∀ w', Below w.heap.size w w' → R (.returned (.string ⟨(textQ (n : Rat)).toArray⟩)) w') :
    Calls Tryd.prog 21 #[.int .i64 n] w R := by
  have HR := Lib.hid hR; clear hR
  go_enter Tryd.func21, Tryd.ntmps21
  go_wp2_with fail
  refine int_any n _ h1 h2 _ ?_
  intro v w1 hq hb1
  have hv := hq.open
  obtain ⟨a1, n1, c1, a2, n2, c2, rfl, e1, e2, _, _⟩ := hv
  clear e1 e2
  dsimp only
  go_wp2_with fail
  refine text_any _ _ _ hq (Nat.le_trans (dig_length_ten (e := 20) (by omega) (by show n.natAbs < _; omega)) (by omega)) (by show (dig 10000 1).length ≤ _; rw [dig_small (by omega) (by omega)]; simp) _ ?_
  intro w2 hb2
  have HB := Lib.hid (hb1.trans (hb2.mono hb1.size))
  clear hb1 hb2 hq
  dsimp only
  go_wp2
  first | go_ret | skip
  exact HR.out _ HB.out

set_option maxRecDepth 100000 in
theorem impl_numberOf (n : Int) (w : World) (h1 : -9223372036854775808 ≤ n) (h2 : n ≤ 9223372036854775807) (htab : Lib.TabIs Tryd.prog w "internal/strconv.uint64pow10" .u64 Lib.pow10Tab) (R : Ending → World → Prop)
    (hR : ∀ w', Below w.heap.size w w' → R (.returned (.string ⟨(textQ (n : Rat)).toArray⟩)) w') :
    Calls Tryd.prog 22 #[.int .i64 n] w R := by
  have HR := Lib.hid hR; clear hR
  have HT := Lib.hid htab; clear htab
  have H1 := Lib.hid h1
  have H2 := Lib.hid h2
  clear h1 h2
  go_enter Tryd.func22, Tryd.ntmps22
  go_wp2_with fail
  refine (Tryd.strconv_FormatInt_10 n H1.out H2.out _ HT.out).mono ?_
  rintro e w1 ⟨rfl, k, os, rfl⟩
  rw [itoa_textQ]
  have HB := Lib.hid (Lib.below_grow w.heap.size w (Nat.le_refl _) k os)
  dsimp only
  go_wp2
  first | go_ret | skip
  exact HR.out _ HB.out

set_option maxRecDepth 100000 in
theorem law_numberOf (n : Int) (w : World) (h1 : -9223372036854775808 ≤ n) (h2 : n ≤ 9223372036854775807) (htab : Lib.TabIs Tryd.prog w "internal/strconv.uint64pow10" .u64 Lib.pow10Tab) (R : Ending → World → Prop)
    (hR : ∀ w', Below w.heap.size w w' → R (.returned (.bool true)) w') :
    Calls Tryd.prog 6 #[.int .i64 n] w R := by
  have HR := Lib.hid hR; clear hR
  have HT := Lib.hid htab; clear htab
  have H1 := Lib.hid h1
  have H2 := Lib.hid h2
  clear h1 h2
  go_enter Tryd.func6, Tryd.ntmps6
  go_wp2_with fail
  refine spec_numberOf n _ (by have := H1.out; omega) H2.out _ ?_
  intro w1 hb1
  have htab1 := HT.out
  dsimp only
  go_wp2_with fail
  refine impl_numberOf n _ H1.out H2.out ?_ _ ?_
  · exact var?_later hb1 htab1
  · intro w2 hb2
    have HB := Lib.hid (hb1.trans (hb2.mono hb1.size))
    obtain ⟨T, hT⟩ : ∃ T, T = textQ (n : Rat) := ⟨_, rfl⟩
    rw [← hT]
    clear hb1 hb2 hT htab1
    dsimp only
    go_wp2
    first | go_ret | skip
    exact HR.out _ HB.out
end Go.Proofs.YtpncfhfjnnpgdaaDoor
