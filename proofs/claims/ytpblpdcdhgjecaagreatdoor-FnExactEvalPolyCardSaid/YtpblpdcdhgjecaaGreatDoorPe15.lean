/- Contracts of functions of the program and of the model: PolyV, DenAt, EvalS, LawEval. -/
import Derived.Test.YtpblpdcdhgjecaaGreatDoorPd11
import Derived.Deep.RegionLaw
set_option linter.all false
set_option linter.unusedVariables false
set_option linter.unusedSimpArgs false
set_option linter.unnecessarySimpa false
set_option linter.deprecated false
namespace Go.Proofs.YtpblpdcdhgjecaaGreatDoor
open Go Go.RowKit

theorem textQ_zero : textQ 0 = [48] := by
  have h1 : (0 : Rat).num = 0 := rfl
  have h2 : (0 : Rat).den = 1 := rfl
  unfold textQ
  rw [h1, h2]
  simp [decs]

theorem few_zero : few 0 := by
  have h1 : (0 : Rat).num = 0 := rfl
  have h2 : (0 : Rat).den = 1 := rfl
  unfold few
  rw [h1, h2]
  constructor
  · simp [decs]
  · rw [decs, if_neg (by omega), dig_small (by omega) (by omega)]; simp

theorem zero_iff {L : List UInt8} {q : Rat} (h : numO L = some q) : q = 0 ↔ L = [48] := by
  obtain ⟨h1, h2⟩ := numO_some.1 h
  constructor
  · rintro rfl; rw [h1, textQ_zero]
  · intro e
    exact textQ_inj h2 few_zero (by rw [← h1, e, textQ_zero])

theorem num_zero_iff (q : Rat) : q.num.natAbs = 0 ↔ q = 0 := by
  constructor
  · intro h
    exact Rat.num_eq_zero.1 (Int.natAbs_eq_zero.1 h)
  · rintro rfl; rfl

set_option maxRecDepth 100000 in
set_option maxHeartbeats 1000000 in
theorem izero_any (b : Bool) (v : Value) (n : Nat) (w : World) (h : IsN w v n) (R : Ending → World → Prop)
    (hR : ∀ w', Below w.heap.size w w' → R (.returned (.bool (decide (n = 0)))) w') :
    Calls Tryz.prog 155 #[.agg #[.bool b, v]] w R := by
  have HR := Lib.hid hR; clear hR
  obtain ⟨a1, n1, c1, rfl, h'⟩ := h.op
  have HH := Lib.hid (h'.later ((Below.refl w.heap.size w).alloc (Nat.le_refl _) (.cells #[.bool b, .slice a1 n1 c1] 70)) (Nat.le_refl _))
  clear h h'
  go_enter Tryz.func155, Tryz.ntmps155
  go_wp2_with fail
  refine nzero_any _ n _ HH.out _ ?_
  obtain ⟨x, hx⟩ : ∃ x, x = decide (n = 0) := ⟨_, rfl⟩
  rw [← hx] at HR ⊢
  clear hx
  dsimp only
  go_wp2
  first | go_ret | skip
  exact HR.out _ ((Below.refl _ _).alloc (Nat.le_refl _) _)

set_option maxRecDepth 100000 in
set_option maxHeartbeats 1000000 in
theorem rzero_any (v : Value) (q : Rat) (w : World) (h : IsR w v q) (R : Ending → World → Prop)
    (hR : ∀ w', Below w.heap.size w w' → R (.returned (.bool (decide (q.num.natAbs = 0)))) w') :
    Calls Tryz.prog 121 #[v] w R := by
  have HR := Lib.hid hR; clear hR
  obtain ⟨s1, s2, rfl, hn1, hn2⟩ := h
  obtain ⟨a1, n1, c1, rfl, hn1'⟩ := hn1.op
  obtain ⟨a2, n2, c2, rfl, hn2'⟩ := hn2.op
  obtain ⟨ng, hng⟩ : ∃ ng, ng = decide (q.num < 0) := ⟨_, rfl⟩
  rw [← hng]
  obtain ⟨L, hL⟩ : ∃ L, L = w.alloc (.cells #[.bool ng, .slice a1 n1 c1, .slice a2 n2 c2] 72) := ⟨_, rfl⟩
  have HBL : Hid (Below w.heap.size w L) := Lib.hid (by rw [hL]; exact (Below.refl _ _).alloc (Nat.le_refl _) _)
  have HBX : Hid (Box3 L w.heap.size (.bool ng) (.slice a1 n1 c1) (.slice a2 n2 c2) 72) := Lib.hid (by rw [hL]; exact Box3.made _ _ _ _ _)
  have HN := Lib.hid (hn1'.later HBL.out (Nat.le_refl _))
  have HL := Lib.hid hL
  obtain ⟨⟨hP0, hP1, hP2⟩, _, _, _⟩ := Box3.cells HBX.out
  clear hn1 hn2 hn1' hn2' hng hL
  go_enter Tryz.func121, Tryz.ntmps121
  rw [HL.out] at hP0 hP1 hP2
  go_wp2_with fail
  rw [← HL.out]
  refine izero_any ng _ _ _ HN.out _ ?_
  intro w1 hb1
  obtain ⟨x, hx⟩ : ∃ x, x = decide (q.num.natAbs = 0) := ⟨_, rfl⟩
  rw [← hx] at HR ⊢
  have HB := Lib.hid (HBL.out.trans (hb1.mono HBL.out.size))
  clear hx hb1 hP0 hP1 hP2
  dsimp only
  go_wp2
  first | go_ret | skip
  exact HR.out _ HB.out

set_option maxRecDepth 100000 in
theorem dzero_any (v : Value) (qs : List Rat) (w : World) (h : RsL w v qs) (R : Ending → World → Prop)
    (hR : R (.returned (.bool (decide (qs.length = 0)))) w) :
    Calls Tryz.prog 119 #[v] w R := by
  have HR := Lib.hid hR; clear hR
  obtain ⟨ao, n, cap, rfl, hn, hc, hh⟩ := SlE.open h
  rw [← hn] at HR
  clear hn h hh hc
  by_cases h0 : n = 0
  · subst h0
    rw [decide_eq_true rfl] at HR
    go_enter Tryz.func119, Tryz.ntmps119
    go_wp2
    first | go_ret | skip
    exact HR.out
  · have e : ((n : Int) == 0) = false := by simp; omega
    rw [decide_eq_false h0] at HR
    clear h0
    go_enter Tryz.func119, Tryz.ntmps119
    go_wp2
    first | go_ret | skip
    exact HR.out

set_option maxRecDepth 100000 in
set_option maxHeartbeats 1000000 in
theorem dlast_any (v : Value) (qs : List Rat) (q : Rat) (w : World) (h : RsL w v qs) (hq : qs.getLast? = some q) (hl : qs.length ≤ 1000000) (R : Ending → World → Prop)
    (hR : ∀ v' w', IsR w' v' q → Below w.heap.size w w' → R (.returned v') w') :
    Calls Tryz.prog 120 #[v] w R := by
  have HR := Lib.hid hR; clear hR
  obtain ⟨ao, n, cap, rfl, hn, hc, hh⟩ := SlE.open h
  have hne : qs ≠ [] := fun e => by subst e; simp at hq
  have hpos : 0 < qs.length := List.length_pos_iff.2 hne
  obtain ⟨j, hj⟩ : ∃ j, n = j + 1 := ⟨n - 1, by omega⟩
  have hqj : qs[j]? = some q := by
    rw [List.getLast?_eq_getElem?] at hq
    rw [show j = qs.length - 1 by omega]; exact hq
  obtain ⟨b, off, cs, rfl, hb, hcell, hE⟩ := SlE.at hh j q hqj
  obtain ⟨a1, n1, c1, a2, n2, c2, rfl, hn1, hn2⟩ := hE
  obtain ⟨ng, hng⟩ : ∃ ng, ng = decide (q.num < 0) := ⟨_, rfl⟩
  rw [← hng] at hcell
  obtain ⟨L, hL⟩ : ∃ L, L = w.alloc (.cells #[.bool false, .slice none 0 0, .slice none 0 0] 72) := ⟨_, rfl⟩
  have HBL : Hid (Below w.heap.size w L) := Lib.hid (by rw [hL]; exact (Below.refl _ _).alloc (Nat.le_refl _) _)
  have HBX : Hid (Box3 L w.heap.size (.bool false) (.slice none 0 0) (.slice none 0 0) 72) := Lib.hid (by rw [hL]; exact Box3.made _ _ _ _ _)
  have HL := Lib.hid hL
  have HN1 := Lib.hid hn1
  have HN2 := Lib.hid hn2
  have HNG := Lib.hid hng
  have k0 : L.cell? ⟨b, off + j * 3, none⟩ = some (.bool ng) := by rw [HBL.out.cell (p := ⟨b, _, none⟩) hb]; exact hcell 0 _ rfl
  have k1 : L.cell? ⟨b, off + j * 3 + 1, none⟩ = some (.slice a1 n1 c1) := by rw [HBL.out.cell (p := ⟨b, _, none⟩) hb]; exact hcell 1 _ rfl
  have k2 : L.cell? ⟨b, off + j * 3 + 2, none⟩ = some (.slice a2 n2 c2) := by rw [HBL.out.cell (p := ⟨b, _, none⟩) hb]; exact hcell 2 _ rfl
  obtain ⟨⟨hR0, hR1, hR2⟩, hF0, hF1, hF2⟩ := Box3.cells HBX.out
  have hw1 : IntKind.i64.wrap ((n : Int) - 1) = (j : Int) := by rw [IntWalk.i64_in _ (by omega)]; omega
  have hjn : (j : Int) < (n : Int) := by omega
  clear hn h hh hc hcell hn1 hn2 hng hL hq hne hpos hqj hj
  go_enter Tryz.func120, Tryz.ntmps120
  rw [HL.out] at k0 k1 k2 hR0 hR1 hR2 hF0 hF1 hF2
  go_wp2
  clear hR0 hR1 hR2 hF0 hF1 hF2 k0 k1 k2
  have HV := Box3.made w (.bool ng) (.slice a1 n1 c1) (.slice a2 n2 c2) 72
  obtain ⟨⟨hR0, hR1, hR2⟩, hF0, hF1, hF2⟩ := Box3.cells HV
  have HBV : Below w.heap.size w (w.alloc (.cells #[.bool ng, .slice a1 n1 c1, .slice a2 n2 c2] 72)) := (Below.refl _ _).alloc (Nat.le_refl _) _
  refine bodyPost_ret_at (by simp [results, Tryz.results120, go_sem, hR0, hR1, hR2, hF0, hF1, hF2] <;> rfl) rfl ?_
  refine HR.out _ _ ⟨_, _, ?_, HN1.out.later HBV (Nat.le_refl _), HN2.out.later HBV (Nat.le_refl _)⟩ HBV
  rw [HNG.out]

/-- whether texts are the coefficients of a polynomial -/
noncomputable def polyB (L : List ByteArray) : Bool := decide (L.length ≤ 13) && (L.all isNum && decide (∀ s, L.getLast? = some s → s.data.toList ≠ [48]))

theorem polyB_true {L : List ByteArray} (h1 : L.length ≤ 13) (h2 : L.all isNum = true) (h3 : ∀ s, L.getLast? = some s → s.data.toList ≠ [48]) : polyB L = true := by
  unfold polyB; rw [decide_eq_true h1, h2, decide_eq_true h3]; rfl
theorem polyB_len {L : List ByteArray} (h : ¬ L.length ≤ 13) : polyB L = false := by unfold polyB; rw [decide_eq_false h]; rfl
theorem polyB_num {L : List ByteArray} (h : L.all isNum = false) : polyB L = false := by unfold polyB; rw [h]; simp
theorem polyB_last {L : List ByteArray} {s : ByteArray} (h : L.getLast? = some s) (h2 : s.data.toList = [48]) : polyB L = false := by
  unfold polyB
  have h3 : ¬ ∀ t, L.getLast? = some t → t.data.toList ≠ [48] := fun h9 => h9 s h h2
  simp only [h3, decide_false, Bool.and_false]

theorem getLast_map {α β : Type} (f : α → β) (L : List α) (s : α) (h : L.getLast? = some s) : (L.map f).getLast? = some (f s) := by
  rw [List.getLast?_map, h]; rfl

set_option maxRecDepth 100000 in
set_option maxHeartbeats 2000000 in
theorem readc_any (v : Value) (L : List ByteArray) (w : World) (hE : Env w) (h : TxL w v L) (hn : L.length ≤ 1048576) (R : Ending → World → Prop)
    (hR : ∀ v' w', polyB L = true → RsL w' v' (L.map qOf) → Below w.heap.size w w' → R (.returned (.tuple #[v', .nilIface])) w')
    (hR2 : ∀ e w', polyB L = false → ErrV e → Below w.heap.size w w' → R (.returned (.tuple #[.slice none 0 0, e])) w') :
    Calls Tryz.prog 74 #[v] w R := by
  have HR := Lib.hid hR; clear hR
  have HR2 := Lib.hid hR2; clear hR2
  have HE := Lib.hid hE
  obtain ⟨ao, n, cap, rfl, hnl, hc, hh⟩ := h.open
  have HH := Lib.hid hh
  have HN := Lib.hid hnl
  have HNL := Lib.hid hn
  rw [← hnl] at hn
  clear h hnl hh
  by_cases h13 : n ≤ 13
  · have e1 : ¬ ((13 : Int) < (n : Int)) := by omega
    have H13 := Lib.hid h13
    clear h13 hE
    go_enter Tryz.func74, Tryz.ntmps74
    go_wp2_with fail
    refine readrs_any _ L _ HE.out HH.out HNL.out _ ?_ ?_
    · intro v' w1 _ hall hv hb1
      have HB := Lib.hid hb1
      have HALL := Lib.hid hall
      obtain ⟨a5, n5, c5, rfl, hv'⟩ := SlE.op hv
      have HV := Lib.hid hv'
      clear hb1 hall hv hv'
      dsimp only
      go_wp2_with fail
      refine dzero_any _ (L.map qOf) _ HV.out _ ?_
      rw [List.length_map]
      by_cases h0 : L.length = 0
      · rw [decide_eq_true h0]
        have hL : L = [] := List.length_eq_zero_iff.1 h0
        have HF := Lib.hid (HR.out _ w1 (polyB_true (by rw [← HN.out]; exact H13.out) HALL.out (fun s hs => by rw [hL] at hs; simp at hs)) HV.out HB.out)
        clear h0 hL
        dsimp only
        go_wp2
        first | go_ret | skip
        exact HF.out
      · rw [decide_eq_false h0]
        obtain ⟨s, hs⟩ : ∃ s, L.getLast? = some s := by
          cases hl : L.getLast? with
          | none => rw [List.getLast?_eq_none_iff] at hl; rw [hl] at h0; simp at h0
          | some s => exact ⟨s, rfl⟩
        have HS := Lib.hid hs
        have HQL := Lib.hid (getLast_map qOf L s hs)
        clear h0 hs
        dsimp only
        go_wp2_with fail
        refine dlast_any _ (L.map qOf) (qOf s) _ HV.out HQL.out (by rw [List.length_map, ← HN.out]; omega) _ ?_
        intro v2 w2 hv2 hb2
        have HB2 := Lib.hid (HB.out.trans (hb2.mono HB.out.size))
        have HV2 := Lib.hid (SlE.later elemR HV.out hb2 (Nat.le_refl _))
        have hv2k := hv2
        obtain ⟨s1, s2, rfl, hn1, hn2⟩ := hv2
        obtain ⟨x1, m1, y1, rfl, _⟩ := hn1.op
        obtain ⟨x2, m2, y2, rfl, _⟩ := hn2.op
        have HVK := Lib.hid hv2k
        obtain ⟨ng, hng⟩ : ∃ ng, ng = decide ((qOf s).num < 0) := ⟨_, rfl⟩
        rw [← hng] at HVK ⊢
        clear hb2 hn1 hn2 hv2k hng
        dsimp only
        go_wp2_with fail
        refine rzero_any _ (qOf s) _ HVK.out _ ?_
        intro w3 hb3
        have HB3 := Lib.hid (HB2.out.trans (hb3.mono HB2.out.size))
        have HV3 := Lib.hid (SlE.later elemR HV2.out hb3 (Nat.le_refl _))
        have hsnum : isNum s = true := List.all_eq_true.1 HALL.out s (List.mem_of_getLast? HS.out)
        have hz := (num_zero_iff (qOf s)).trans (zero_iff (isNum_some hsnum))
        have HZ := Lib.hid hz
        clear hb3 hsnum hz
        by_cases hzero : (qOf s).num.natAbs = 0
        · rw [decide_eq_true hzero]
          have hp : polyB L = false := polyB_last HS.out (HZ.out.1 hzero)
          obtain ⟨⟨pf, hpf⟩, _, _⟩ := HE.out.later HB3.out (Nat.le_refl _)
          have HF := Lib.hid (fun w' => HR2.out (.iface 232 (.pointer (some pf))) w' hp ⟨_, _, rfl⟩)
          clear hzero hp
          dsimp only
          go_wp2
          go_quiet (fail)
          go_wp2
          first | go_ret | skip
          exact HF.out _ (below_draws HB3.out _)
        · rw [decide_eq_false hzero]
          have hp : polyB L = true := polyB_true (by rw [← HN.out]; exact H13.out) HALL.out (fun t ht e => by
            rw [HS.out] at ht; obtain rfl := Option.some.inj ht
            exact hzero (HZ.out.2 e))
          have HF := Lib.hid (HR.out _ w3 hp HV3.out HB3.out)
          clear hzero hp
          dsimp only
          go_wp2
          first | go_ret | skip
          exact HF.out
    · intro e w1 hf he hb1
      have hp : polyB L = false := by
        refine polyB_num ?_
        rw [← HN.out, decide_eq_true (by have := H13.out; omega)] at hf
        simpa using hf
      obtain ⟨t, p, rfl⟩ := he
      have HF := Lib.hid (HR2.out (.iface t (.pointer (some p))) w1 hp ⟨_, _, rfl⟩ hb1)
      clear hf hp hb1
      dsimp only
      go_wp2
      first | go_ret | skip
      exact HF.out
  · have e1 : ((13 : Int) < (n : Int)) := by omega
    have hp : polyB L = false := polyB_len (by rw [← HN.out]; exact h13)
    have HF := Lib.hid (fun p w' => HR2.out (.iface 232 (.pointer (some p))) w' hp ⟨_, _, rfl⟩)
    obtain ⟨_, ⟨pf, hpf⟩, _⟩ := hE
    clear h13 hp
    go_enter Tryz.func74, Tryz.ntmps74
    go_wp2
    go_quiet (fail)
    go_wp2
    first | go_ret | skip
    exact HF.out _ _ (below_draws (Below.refl _ _) _)

set_option maxRecDepth 100000 in
set_option maxHeartbeats 1000000 in
theorem l02is_any (v : Value) (L : List ByteArray) (w : World) (h : TxL w v L) (hn : L.length ≤ 1048576) (hs : ∀ s ∈ L, s.size ≤ 1048576) (R : Ending → World → Prop)
    (hR : ∀ w', Below w.heap.size w w' → R (.returned (.bool (polyB L))) w') :
    Calls Tryz.prog 70 #[v] w R := by
  have HR := Lib.hid hR; clear hR
  obtain ⟨ao, n, cap, rfl, hnl, hc, hh⟩ := h.open
  have HH := Lib.hid hh
  have HN := Lib.hid hnl
  have HNL := Lib.hid hn
  have HS := Lib.hid hs
  clear h hnl hh hn hs
  by_cases h13 : n ≤ 13
  · have e1 : ¬ ((13 : Int) < (n : Int)) := by omega
    have H13 := Lib.hid h13
    have H13L := Lib.hid (show L.length ≤ 13 by rw [← HN.out]; exact h13)
    clear h13
    go_enter Tryz.func70, Tryz.ntmps70
    go_wp2_with fail
    refine isList_any _ L _ HH.out HNL.out HS.out _ ?_
    intro w1 hb1
    rw [decide_eq_true (show L.length ≤ 60 by have := H13L.out; omega), Bool.true_and]
    have HB := Lib.hid hb1
    cases hall : L.all isNum with
    | false =>
      have hp := polyB_num hall
      have HF := Lib.hid (HR.out w1 hb1)
      rw [hp] at HF
      clear hb1 hall hp
      go_wp2
      first | go_ret | skip
      exact HF.out
    | true =>
      have HALL := Lib.hid hall
      have HF := Lib.hid (HR.out w1 hb1)
      have HH1 := Lib.hid (HH.out.later hb1 (Nat.le_refl _))
      clear hb1 hall
      by_cases h0 : n = 0
      · subst h0
        have hL : L = [] := List.length_eq_zero_iff.1 HN.out.symm
        rw [polyB_true H13L.out HALL.out (fun s hs => by rw [hL] at hs; simp at hs)] at HF
        clear hL
        go_wp2
        first | go_ret | skip
        exact HF.out
      · obtain ⟨j, hj⟩ : ∃ j, n = j + 1 := ⟨n - 1, by omega⟩
        obtain ⟨s, hs⟩ : ∃ s, L[j]? = some s := ⟨_, List.getElem?_eq_getElem (by rw [← HN.out]; omega)⟩
        have hlast : L.getLast? = some s := by rw [List.getLast?_eq_getElem?, ← HN.out, show n - 1 = j by omega]; exact hs
        obtain ⟨b, off, rfl, hb, hcell⟩ := TxL.at HH1.out j s hs
        have e0 : ((n : Int) == 0) = false := by simp; omega
        have hw1 : IntKind.i64.wrap ((n : Int) - 1) = (j : Int) := by rw [IntWalk.i64_in _ (by have := H13.out; omega)]; omega
        have hjn : (j : Int) < (n : Int) := by omega
        by_cases hz : s.data.toList = [48]
        · have e9 : (s.toList == [48]) = true := by rw [Lib.toList_data, hz]; rfl
          rw [polyB_last hlast hz] at HF
          clear hs hlast hz hj h0
          go_wp2
          first | go_ret | skip
          exact HF.out
        · have e9 : (s.toList == [48]) = false := by rw [Lib.toList_data, beq_eq_false_iff_ne]; exact hz
          rw [polyB_true H13L.out HALL.out (fun t ht e => by rw [hlast] at ht; obtain rfl := Option.some.inj ht; exact hz e)] at HF
          clear hs hlast hz hj h0
          go_wp2
          first | go_ret | skip
          exact HF.out
  · have e1 : ((13 : Int) < (n : Int)) := by omega
    have HF := Lib.hid (HR.out w (Below.refl _ _))
    rw [polyB_len (by rw [← HN.out]; exact h13)] at HF
    clear h13
    go_enter Tryz.func70, Tryz.ntmps70
    go_wp2
    first | go_ret | skip
    exact HF.out
end Go.Proofs.YtpblpdcdhgjecaaGreatDoor

namespace Go.Proofs.YtpblpdcdhgjecaaGreatDoor
open Go Go.RowKit

/-- the value of a polynomial -/
def evalQ : List Rat → Rat → Rat
  | [], _ => 0
  | c :: l, x => evalQ l x * x + c
theorem evalQ_nil (x : Rat) : evalQ [] x = 0 := rfl
theorem evalQ_drop {l : List Rat} {k : Nat} {q : Rat} (x : Rat) (h : l[k]? = some q) : evalQ (l.drop k) x = evalQ (l.drop (k + 1)) x * x + q := by
  obtain ⟨hk, e⟩ := List.getElem?_eq_some_iff.1 h
  rw [List.drop_eq_getElem_cons hk, e]; rfl

theorem m_zero (x : Value) (w : World) : (Go.method 364 72 x "loop.example/g01120/impl.zero").run Tryz.prog w = .ok (225, x) w := by kernel_rfl
theorem m_times (x : Value) (w : World) : (Go.method 364 72 x "loop.example/g01120/impl.times").run Tryz.prog w = .ok (64, x) w := by kernel_rfl
theorem m_plus (x : Value) (w : World) : (Go.method 364 72 x "loop.example/g01120/impl.plus").run Tryz.prog w = .ok (54, x) w := by kernel_rfl

set_option maxRecDepth 100000 in
set_option maxHeartbeats 1000000 in
theorem rzeroM_any (v : Value) (q : Rat) (w : World) (h : IsR w v q) (R : Ending → World → Prop)
    (hR : ∀ v' w', IsR w' v' 0 → Below w.heap.size w w' → R (.returned v') w') :
    Calls Tryz.prog 225 #[v] w R := by
  have HR := Lib.hid hR; clear hR
  obtain ⟨na, a1, n1, c1, a2, n2, c2, hna, rfl, hn1, hn2⟩ := h.parts
  obtain ⟨L, hL⟩ : ∃ L, L = (w.alloc (.cells #[.bool na, .slice a1 n1 c1, .slice a2 n2 c2] 72)).alloc (.cells #[.bool false, .slice none 0 0, .slice none 0 0] 72) := ⟨_, rfl⟩
  have HEXT : Hid (Below w.heap.size w L) := Lib.hid (by rw [hL]; exact ((Below.refl w.heap.size w).alloc (Nat.le_refl _) _).alloc (by simp) _)
  have HB2 : Hid (Box3 L (w.heap.size + 1) (.bool false) (.slice none 0 0) (.slice none 0 0) 72) := Lib.hid (by
    have := Box3.made (w.alloc (.cells #[.bool na, .slice a1 n1 c1, .slice a2 n2 c2] 72)) (.bool false) (.slice none 0 0) (.slice none 0 0) 72
    rw [World.size_alloc, ← hL] at this; exact this)
  have HL := Lib.hid hL
  clear h hna hn1 hn2 hL
  go_enter Tryz.func225, Tryz.ntmps225
  go_wp2_with fail
  rw [← HL.out]
  refine ratioOf_any _ 0 _ (IsI.nil _) _ ?_
  intro v2 w2 hr2 hb2
  obtain ⟨m0, a5, n5, c5, a6, n6, c6, hm0, rfl, _, _⟩ := hr2.parts
  have HR2 := Lib.hid hr2
  have d2 := HB2.out.later hb2 (lt_of_block HB2.out)
  obtain ⟨⟨hR0, hR1, hR2⟩, hF0, hF1, hF2⟩ := d2.cells
  have HD2 := Lib.hid d2
  have HT2 := Lib.hid (HEXT.out.trans (hb2.mono HEXT.out.size))
  clear hr2 hb2 hm0 d2
  dsimp only
  go_wp2
  refine bodyPost_ret_at (by simp [results, Tryz.results225, go_sem, hR0, hR1, hR2, hF0, hF1, hF2] <;> rfl) rfl ?_
  exact HR.out _ _ (IsR.set3 HR2.out (HD2.out.noInt rfl rfl rfl) _ _ _ rfl rfl) (below_set3 HT2.out (show w.heap.size ≤ w.heap.size + 1 by omega) _ _ _)

/-- the loop of the program's evaluation -/
def AtRel (w2 : World) (n : Nat) (qs : List Rat) (x : Rat) (i : Value) (wr : World) : Prop :=
  ∃ k m a5 n5 c5 a6 n6 c6, i = .int .i64 (((k : Nat) : Int) - 1) ∧ k ≤ n ∧ Box3 wr w2.heap.size (.bool m) (.slice a5 n5 c5) (.slice a6 n6 c6) 72 ∧ IsR wr (.agg #[.bool m, .slice a5 n5 c5, .slice a6 n6 c6]) (evalQ (qs.drop k) x) ∧
    Bd (121 * (n - k) + 1) (evalQ (qs.drop k) x) ∧ Below w2.heap.size w2 wr

set_option maxRecDepth 100000 in
set_option maxHeartbeats 2000000 in
theorem dat_any (v vx : Value) (qs : List Rat) (x : Rat) (w : World) (h : RsL w v qs) (hx : IsR w vx x) (hn : qs.length ≤ 60) (hq : AllBd 60 qs) (hbx : Bd 60 x) (R : Ending → World → Prop)
    (hR : ∀ v' w', IsR w' v' (evalQ qs x) → Below w.heap.size w w' → R (.returned v') w') :
    Calls Tryz.prog 76 #[v, vx] w R := by
  have HR := Lib.hid hR; clear hR
  obtain ⟨a0, n0, c0, rfl, hn0, hc0, h'⟩ := SlE.open h
  obtain ⟨na, a1, n1, c1, a2, n2, c2, hna, rfl, hn1, hn2⟩ := hx.parts
  have hn60 : n0 ≤ 60 := by omega
  have HN0 := Lib.hid hn0
  have HBD := Lib.hid hq
  have HBX := Lib.hid hbx
  obtain ⟨L, hL⟩ : ∃ L, L = (w.alloc (.cells #[.bool na, .slice a1 n1 c1, .slice a2 n2 c2] 72)).alloc (.cells #[.bool false, .slice none 0 0, .slice none 0 0] 72) := ⟨_, rfl⟩
  have HEXT : Hid (Below w.heap.size w L) := Lib.hid (by rw [hL]; exact ((Below.refl w.heap.size w).alloc (Nat.le_refl _) _).alloc (by simp) _)
  have hb1 : Below (w.heap.size + 1) (w.alloc (.cells #[.bool na, .slice a1 n1 c1, .slice a2 n2 c2] 72)) L := by rw [hL]; exact (Below.refl _ _).alloc (by simp) _
  have HB0 : Hid (Box3 L w.heap.size (.bool na) (.slice a1 n1 c1) (.slice a2 n2 c2) 72) := Lib.hid ((Box3.made w _ _ _ _).later hb1 (by omega))
  have HB1 : Hid (Box3 L (w.heap.size + 1) (.bool false) (.slice none 0 0) (.slice none 0 0) 72) := Lib.hid (by
    have := Box3.made (w.alloc (.cells #[.bool na, .slice a1 n1 c1, .slice a2 n2 c2] 72)) (.bool false) (.slice none 0 0) (.slice none 0 0) 72
    rw [World.size_alloc, ← hL] at this; exact this)
  have HLS : Hid (L.heap.size = w.heap.size + 2) := Lib.hid (by rw [hL]; simp)
  have HL := Lib.hid hL
  have HA := Lib.hid (h'.later elemR HEXT.out (Nat.le_refl _))
  have HXL := Lib.hid (hx.later HEXT.out (Nat.le_refl _))
  have hm0 := m_zero
  have hm1 := m_times
  have hm2 := m_plus
  have hwn : IntKind.i64.wrap ((n0 : Int) - 1) = (n0 : Int) - 1 := IntWalk.i64_in _ (by omega)
  obtain ⟨⟨hA0, hA1, hA2⟩, _, _, _⟩ := HB0.out.cells
  rw [hL] at hA0 hA1 hA2
  clear h hx hn0 hc0 h' hna hn1 hn2 hn hq hbx hL hb1
  go_enter Tryz.func76, Tryz.ntmps76
  go_wp2_with fail
  rw [← HL.out]
  refine rzeroM_any _ x _ HXL.out _ ?_
  intro v2 w2 hr2 hb2
  obtain ⟨m0, a5, n5, c5, a6, n6, c6, hm9, rfl, _, _⟩ := hr2.parts
  obtain ⟨W, hW⟩ : ∃ W, W = w2.alloc (.cells #[.bool m0, .slice a5 n5 c5, .slice a6 n6 c6] 72) := ⟨_, rfl⟩
  have HW := Lib.hid hW
  have hbW : Below w2.heap.size w2 W := by rw [hW]; exact (Below.refl _ _).alloc (Nat.le_refl _) _
  have HA2 := Lib.hid (HA.out.later elemR hb2 (Nat.le_refl _))
  have HX2 := Lib.hid (HXL.out.later hb2 (Nat.le_refl _))
  have HB02 := Lib.hid (HB0.out.later hb2 (by have := HLS.out; omega))
  have HB12 := Lib.hid (HB1.out.later hb2 (by have := HLS.out; omega))
  have HB2 := Lib.hid hb2
  have HST : Hid (AtRel w2 n0 qs x (.int .i64 ((n0 : Int) - 1)) W) := Lib.hid ⟨n0, m0, a5, n5, c5, a6, n6, c6, rfl, Nat.le_refl _, by rw [hW]; exact Box3.made _ _ _ _ _, by rw [HN0.out, List.drop_length]; exact hr2.later hbW (Nat.le_refl _), by rw [HN0.out, List.drop_length, Nat.sub_self]; exact Bd.zero, hbW⟩
  clear hr2 hb2 hm9 hW hbW hA0 hA1 hA2
  dsimp only
  go_wp2_with fail
  rw [← HW.out]
  clear hwn
  go_loopw [6] (fun i wr => AtRel w2 n0 qs x i wr) (fun i _ => (intOf i + 1).toNat)
  case atStart => exact HST.out
  case round =>
    clear HST
    obtain ⟨k, m, a7, n7, c7, a8, n8, c8, rfl, hk, hbox, hr, hbd, hbel⟩ := hrel
    have HBOX := Lib.hid hbox
    have HRR := Lib.hid hr
    have HBDK := Lib.hid hbd
    have HB := Lib.hid hbel
    obtain ⟨⟨hP0, hP1, hP2⟩, _, _, _⟩ := hbox.cells
    clear hr hbd hbox
    by_cases hk0 : k = 0
    · subst hk0
      rw [List.drop_zero] at HRR
      have d3 := HB12.out.later hbel (lt_of_block HB12.out)
      obtain ⟨⟨hR0, hR1, hR2⟩, hG0, hG1, hG2⟩ := d3.cells
      have HD3 := Lib.hid d3
      have HLE : Hid (w.heap.size ≤ w.heap.size + 1) := Lib.hid (by omega)
      clear hbel d3
      go_wp2
      refine bodyPost_ret_at (by simp [results, Tryz.results76, go_sem, hP0, hP1, hP2, hR0, hR1, hR2, hG0, hG1, hG2] <;> rfl) rfl ?_
      exact HR.out _ _ (IsR.set3 HRR.out (HD3.out.noInt rfl rfl rfl) _ _ _ rfl rfl) (below_set3 (HEXT.out.trans ((HB2.out.trans (HB.out.mono HB2.out.size)).mono HEXT.out.size)) HLE.out _ _ _)
    · obtain ⟨j, rfl⟩ : ∃ j, k = j + 1 := ⟨k - 1, by omega⟩
      have es : ((j + 1 : Nat) : Int) - 1 = (j : Int) := by omega
      rw [es]
      have hjn : j < n0 := by omega
      obtain ⟨q, hq⟩ : ∃ q, qs[j]? = some q := ⟨_, List.getElem?_eq_getElem (by rw [← HN0.out]; exact hjn)⟩
      have HQ := Lib.hid hq
      have HBQ := Lib.hid (HBD.out j q hq)
      obtain ⟨b, off, cs, rfl, hb, hcell, hE⟩ := HA2.out.at j q hq
      obtain ⟨x1, y1, z1, x2, y2, z2, hcs, hi1, hi2⟩ := hE
      obtain ⟨ng, hng⟩ : ∃ ng, ng = decide (q.num < 0) := ⟨_, rfl⟩
      rw [← hng] at hcs
      have hd0 : wr.cell? ⟨b, off + j * 3, none⟩ = some (.bool ng) := by rw [hbel.cell (p := ⟨b, off + j * 3, none⟩) hb]; exact hcell 0 _ (by rw [hcs]; rfl)
      have hd1 : wr.cell? ⟨b, off + j * 3 + 1, none⟩ = some (.slice x1 y1 z1) := by rw [hbel.cell (p := ⟨b, off + j * 3 + 1, none⟩) hb]; exact hcell 1 _ (by rw [hcs]; rfl)
      have hd2 : wr.cell? ⟨b, off + j * 3 + 2, none⟩ = some (.slice x2 y2 z2) := by rw [hbel.cell (p := ⟨b, off + j * 3 + 2, none⟩) hb]; exact hcell 2 _ (by rw [hcs]; rfl)
      have HY := Lib.hid ((show IsR w2 (.agg #[.bool ng, .slice x1 y1 z1, .slice x2 y2 z2]) q from ⟨_, _, by rw [hng], hi1, hi2⟩).later hbel (Nat.le_refl _))
      have HXW := Lib.hid (HX2.out.later hbel (Nat.le_refl _))
      obtain ⟨⟨hX0, hX1, hX2⟩, _, _, _⟩ := (HB02.out.later hbel (lt_of_block HB02.out)).cells
      have hw1 : IntKind.i64.wrap ((j : Int) - 1) = (j : Int) - 1 := IntWalk.i64_in _ (by omega)
      have hi0 : (0 : Int) ≤ (j : Int) := by omega
      have hi3 : (j : Int) < (n0 : Int) := by omega
      have HL1 := Lib.hid (HBDK.out.len (B := W64) (by rw [W64_eq]; omega))
      have HL2 := Lib.hid (HBX.out.len (B := W64) (by rw [W64_eq]; omega))
      have HL3 := Lib.hid (HBQ.out.len (B := W64) (by rw [W64_eq]; omega))
      have HL4 := Lib.hid ((HBDK.out.mul HBX.out).len (B := W64) (by rw [W64_eq]; omega))
      have HKL := Lib.hid hjn
      have HGW : Hid (w2.heap.size < wr.heap.size) := Lib.hid (lt_of_block HBOX.out)
      obtain ⟨y, hy⟩ : ∃ y, y = evalQ (qs.drop (j + 1)) x := ⟨_, rfl⟩
      rw [← hy] at HRR HBDK HL1 HL4
      have HNX : Hid (y * x + q = evalQ (qs.drop j) x) := Lib.hid (by rw [evalQ_drop x hq, hy])
      have HBN : Hid (Bd (121 * (n0 - j) + 1) (evalQ (qs.drop j) x)) := Lib.hid (by
        rw [← HNX.out]
        exact ((HBDK.out.mul HBX.out).add HBQ.out).mono (by omega))
      clear hq hcell hcs hi1 hi2 hng hbel hk0 es hy hk
      go_wp2_with fail
      go_region_law (first
        | (have hguard := HB5; go_simp; go_at_call 54; refine rplus_any _ _ (y * x) q _ HV5.out (HY.out.later HB5.out (Nat.le_refl _)) (Nat.le_trans HL4.out.1 (by omega)) (Nat.le_trans HL4.out.2 (by omega)) (Nat.le_trans HL3.out.1 (by omega)) (Nat.le_trans HL3.out.2 (by omega)) _ ?_; rw [HNX.out]; intro v6 w6 hv6 hb6; obtain ⟨m6, a10, n10, c10, a11, n11, c11, hm6, rfl, _, _⟩ := hv6.parts; have HV6 := Lib.hid hv6; have HB6 := Lib.hid (HB5.out.trans (hb6.mono HB5.out.size)); have k6 := HBOX.out.later HB6.out HGW.out; obtain ⟨⟨hT0, hT1, hT2⟩, hT3, hT4, hT5⟩ := k6.cells; have HK6 := Lib.hid k6; clear hguard hm6 hv6 hb6 k6; dsimp only)
        | (go_simp; go_at_call 64; refine rtimes_any _ _ y x _ (HRR.out.later (Below.refl _ _).drew (Nat.le_refl _)) (HXW.out.later (Below.refl _ _).drew (Nat.le_refl _)) (Nat.le_trans HL1.out.1 (by omega)) (Nat.le_trans HL1.out.2 (by omega)) (Nat.le_trans HL2.out.1 (by omega)) (Nat.le_trans HL2.out.2 (by omega)) _ ?_; intro v5 w5 hv5 hb5; obtain ⟨m5, a12, n12, c12, a13, n13, c13, hm5, rfl, _, _⟩ := hv5.parts; have HV5 := Lib.hid hv5; have HB5 : Hid (Below wr.heap.size wr w5) := Lib.hid (below_unDrew hb5); have hs0 := (HB5.out.cell (p := ⟨b, off + j * 3, none⟩) (lt_of_cell hd0)).trans hd0; have hs1 := (HB5.out.cell (p := ⟨b, off + j * 3 + 1, none⟩) (lt_of_cell hd0)).trans hd1; have hs2 := (HB5.out.cell (p := ⟨b, off + j * 3 + 2, none⟩) (lt_of_cell hd0)).trans hd2; clear hm5 hv5 hb5; dsimp only))
      all_goals
        have HNI := Lib.hid (HK6.out.noInt rfl rfl rfl)
        have HREL : Hid (AtRel w2 n0 qs x (.int .i64 ((j : Int) - 1)) (((w6.setCell ⟨w2.heap.size, 0, none⟩ (.bool m6)).setCell ⟨w2.heap.size, 1, none⟩ (.slice a10 n10 c10)).setCell ⟨w2.heap.size, 2, none⟩ (.slice a11 n11 c11))) := Lib.hid
          ⟨j, m6, a10, n10, c10, a11, n11, c11, rfl, Nat.le_of_lt HKL.out, HK6.out.set012 _ _ _, HV6.out.set3 HNI.out _ _ _ rfl rfl, HBN.out, below_set3 (HB.out.trans (HB6.out.mono HB.out.size)) (Nat.le_refl _) _ _ _⟩
        go_wp2
        go_roundw
        case rel => exact HREL.out
        case measure => simp [intOf]
end Go.Proofs.YtpblpdcdhgjecaaGreatDoor

namespace Go.Proofs.YtpblpdcdhgjecaaGreatDoor
open Go Go.RowKit

/-- the loop of the model's evaluation -/
def AtRelS (w2 : World) (n : Nat) (qs : List Rat) (x : Rat) (i : Value) (wr : World) : Prop :=
  ∃ k m1 a5 n5 c5 m2 a6 n6 c6, i = .int .i64 (((k : Nat) : Int) - 1) ∧ k ≤ n ∧ Box4 wr w2.heap.size (.bool m1) (.slice a5 n5 c5) (.bool m2) (.slice a6 n6 c6) 61 ∧ IsQ wr (.agg #[.bool m1, .slice a5 n5 c5, .bool m2, .slice a6 n6 c6]) (evalQ (qs.drop k) x) ∧
    Bd (121 * (n - k) + 1) (evalQ (qs.drop k) x) ∧ Below w2.heap.size w2 wr

set_option maxRecDepth 100000 in
set_option maxHeartbeats 2000000 in
theorem evals_any (v vx : Value) (qs : List Rat) (x : Rat) (w : World) (h : SlE 4 EQ w v qs) (hx : IsQ w vx x) (hn : qs.length ≤ 60) (hq : AllBd 60 qs) (hbx : Bd 60 x) (R : Ending → World → Prop)
    (hR : ∀ v' w', IsQ w' v' (evalQ qs x) → Bd 7261 (evalQ qs x) → Below w.heap.size w w' → R (.returned v') w') :
    Calls Tryz.prog 71 #[v, vx] w R := by
  have HR := Lib.hid hR; clear hR
  obtain ⟨a0, n0, c0, rfl, hn0, hc0, h'⟩ := SlE.open h
  obtain ⟨na, a1, n1, c1, a2, n2, c2, rfl, hz1, hz2⟩ := hx.parts
  have hn60 : n0 ≤ 60 := by omega
  have HN0 := Lib.hid hn0
  have HBD := Lib.hid hq
  have HBX := Lib.hid hbx
  obtain ⟨L, hL⟩ : ∃ L, L = (w.alloc (.cells #[.bool na, .slice a1 n1 c1, .bool false, .slice a2 n2 c2] 61)).alloc (.cells #[.bool false, .slice none 0 0, .bool false, .slice none 0 0] 61) := ⟨_, rfl⟩
  have HEXT : Hid (Below w.heap.size w L) := Lib.hid (by rw [hL]; exact ((Below.refl w.heap.size w).alloc (Nat.le_refl _) _).alloc (by simp) _)
  have hb1 : Below (w.heap.size + 1) (w.alloc (.cells #[.bool na, .slice a1 n1 c1, .bool false, .slice a2 n2 c2] 61)) L := by rw [hL]; exact (Below.refl _ _).alloc (by simp) _
  have HB0 : Hid (Box4 L w.heap.size (.bool na) (.slice a1 n1 c1) (.bool false) (.slice a2 n2 c2) 61) := Lib.hid ((Box4.made w _ _ _ _ _).later hb1 (by omega))
  have HB1 : Hid (Box4 L (w.heap.size + 1) (.bool false) (.slice none 0 0) (.bool false) (.slice none 0 0) 61) := Lib.hid (by
    have := Box4.made (w.alloc (.cells #[.bool na, .slice a1 n1 c1, .bool false, .slice a2 n2 c2] 61)) (.bool false) (.slice none 0 0) (.bool false) (.slice none 0 0) 61
    rw [World.size_alloc, ← hL] at this; exact this)
  have HLS : Hid (L.heap.size = w.heap.size + 2) := Lib.hid (by rw [hL]; simp)
  have HL := Lib.hid hL
  have HA := Lib.hid (h'.later elemQ HEXT.out (Nat.le_refl _))
  have HXL := Lib.hid (hx.later HEXT.out (Nat.le_refl _))
  have hwn : IntKind.i64.wrap ((n0 : Int) - 1) = (n0 : Int) - 1 := IntWalk.i64_in _ (by omega)
  clear h hx hn0 hc0 h' hz1 hz2 hn hq hbx hL hb1
  go_enter Tryz.func71, Tryz.ntmps71
  go_wp2_with fail
  rw [← HL.out]
  refine int_any 0 _ (by omega) (by omega) _ ?_
  intro v2 w2 hr2 hb2
  obtain ⟨m0, a5, n5, c5, a6, n6, c6, rfl, _, _⟩ := hr2.parts
  obtain ⟨W, hW⟩ : ∃ W, W = w2.alloc (.cells #[.bool m0, .slice a5 n5 c5, .bool false, .slice a6 n6 c6] 61) := ⟨_, rfl⟩
  have HW := Lib.hid hW
  have hbW : Below w2.heap.size w2 W := by rw [hW]; exact (Below.refl _ _).alloc (Nat.le_refl _) _
  have HA2 := Lib.hid (HA.out.later elemQ hb2 (Nat.le_refl _))
  have HX2 := Lib.hid (HXL.out.later hb2 (Nat.le_refl _))
  have HB02 := Lib.hid (HB0.out.later hb2 (by have := HLS.out; omega))
  have HB12 := Lib.hid (HB1.out.later hb2 (by have := HLS.out; omega))
  have HB2 := Lib.hid hb2
  have HST : Hid (AtRelS w2 n0 qs x (.int .i64 ((n0 : Int) - 1)) W) := Lib.hid ⟨n0, m0, a5, n5, c5, false, a6, n6, c6, rfl, Nat.le_refl _, by rw [hW]; exact Box4.made _ _ _ _ _ _, by rw [HN0.out, List.drop_length]; exact hr2.later hbW (Nat.le_refl _), by rw [HN0.out, List.drop_length, Nat.sub_self]; exact Bd.zero, hbW⟩
  clear hr2 hb2 hW hbW
  dsimp only
  go_wp2_with fail
  rw [← HW.out]
  clear hwn
  go_loopw [6] (fun i wr => AtRelS w2 n0 qs x i wr) (fun i _ => (intOf i + 1).toNat)
  case atStart => exact HST.out
  case round =>
    clear HST
    obtain ⟨k, m, a7, n7, c7, m8, a8, n8, c8, rfl, hk, hbox, hr, hbd, hbel⟩ := hrel
    have HBOX := Lib.hid hbox
    have HRR := Lib.hid hr
    have HBDK := Lib.hid hbd
    have HB := Lib.hid hbel
    obtain ⟨⟨hP0, hP1, hP2, hP3⟩, _, _, _, _⟩ := hbox.cells
    clear hr hbd hbox
    by_cases hk0 : k = 0
    · subst hk0
      rw [List.drop_zero] at HRR HBDK
      have d3 := HB12.out.later hbel (lt_of_block HB12.out)
      obtain ⟨⟨hR0, hR1, hR2, hR3⟩, hG0, hG1, hG2, hG3⟩ := d3.cells
      have HD3 := Lib.hid d3
      have HLE : Hid (w.heap.size ≤ w.heap.size + 1) := Lib.hid (by omega)
      have HBD9 : Hid (Bd 7261 (evalQ qs x)) := Lib.hid (HBDK.out.mono (by omega))
      clear hbel d3
      go_wp2
      refine bodyPost_ret_at (by simp [results, Tryz.results71, go_sem, hP0, hP1, hP2, hP3, hR0, hR1, hR2, hR3, hG0, hG1, hG2, hG3] <;> rfl) rfl ?_
      exact HR.out _ _ (HRR.out.set4 (HD3.out.noInt rfl rfl rfl rfl) _ _ _ _ rfl rfl rfl) HBD9.out ((((HEXT.out.trans ((HB2.out.trans (HB.out.mono HB2.out.size)).mono HEXT.out.size)).setCell HLE.out _).setCell HLE.out _).setCell HLE.out _ |>.setCell HLE.out _)
    · obtain ⟨j, rfl⟩ : ∃ j, k = j + 1 := ⟨k - 1, by omega⟩
      have es : ((j + 1 : Nat) : Int) - 1 = (j : Int) := by omega
      rw [es]
      have hjn : j < n0 := by omega
      obtain ⟨q, hq⟩ : ∃ q, qs[j]? = some q := ⟨_, List.getElem?_eq_getElem (by rw [← HN0.out]; exact hjn)⟩
      have HQ := Lib.hid hq
      have HBQ := Lib.hid (HBD.out j q hq)
      obtain ⟨b, off, cs, rfl, hb, hcell, hE⟩ := HA2.out.at j q hq
      obtain ⟨x1, y1, z1, x2, y2, z2, hcs, hi1⟩ := hE
      obtain ⟨ng, hng⟩ : ∃ ng, ng = decide (q.num < 0) := ⟨_, rfl⟩
      rw [← hng] at hcs hi1
      have hd0 : wr.cell? ⟨b, off + j * 4, none⟩ = some (.bool ng) := by rw [hbel.cell (p := ⟨b, off + j * 4, none⟩) hb]; exact hcell 0 _ (by rw [hcs]; rfl)
      have hd1 : wr.cell? ⟨b, off + j * 4 + 1, none⟩ = some (.slice x1 y1 z1) := by rw [hbel.cell (p := ⟨b, off + j * 4 + 1, none⟩) hb]; exact hcell 1 _ (by rw [hcs]; rfl)
      have hd2 : wr.cell? ⟨b, off + j * 4 + 2, none⟩ = some (.bool false) := by rw [hbel.cell (p := ⟨b, off + j * 4 + 2, none⟩) hb]; exact hcell 2 _ (by rw [hcs]; rfl)
      have hd3 : wr.cell? ⟨b, off + j * 4 + 3, none⟩ = some (.slice x2 y2 z2) := by rw [hbel.cell (p := ⟨b, off + j * 4 + 3, none⟩) hb]; exact hcell 3 _ (by rw [hcs]; rfl)
      have HY := Lib.hid (hi1.later hbel (Nat.le_refl _))
      have HXW := Lib.hid (HX2.out.later hbel (Nat.le_refl _))
      obtain ⟨⟨hX0, hX1, hX2, hX3⟩, _, _, _, _⟩ := (HB02.out.later hbel (lt_of_block HB02.out)).cells
      have hw1 : IntKind.i64.wrap ((j : Int) - 1) = (j : Int) - 1 := IntWalk.i64_in _ (by omega)
      have hi0 : (0 : Int) ≤ (j : Int) := by omega
      have hi3 : (j : Int) < (n0 : Int) := by omega
      have HL1 := Lib.hid (HBDK.out.len (B := 10000) (by omega))
      have HL2 := Lib.hid (HBX.out.len (B := 10000) (by omega))
      have HL3 := Lib.hid (HBQ.out.len (B := 10000) (by omega))
      have HL4 := Lib.hid ((HBDK.out.mul HBX.out).len (B := 10000) (by omega))
      have HKL := Lib.hid hjn
      have HGW : Hid (w2.heap.size < wr.heap.size) := Lib.hid (lt_of_block HBOX.out)
      obtain ⟨y, hy⟩ : ∃ y, y = evalQ (qs.drop (j + 1)) x := ⟨_, rfl⟩
      rw [← hy] at HRR HBDK HL1 HL4
      have HNX : Hid (y * x + q = evalQ (qs.drop j) x) := Lib.hid (by rw [evalQ_drop x hq, hy])
      have HBN : Hid (Bd (121 * (n0 - j) + 1) (evalQ (qs.drop j) x)) := Lib.hid (by
        rw [← HNX.out]
        exact ((HBDK.out.mul HBX.out).add HBQ.out).mono (by omega))
      clear hq hcell hcs hi1 hng hbel hk0 es hy hk
      go_wp2_with fail
      go_region_law (first
        | (have hguard := HB5; go_simp; go_at_call 51; refine addQ_any _ _ (y * x) q _ HV5.out (HY.out.later HB5.out (Nat.le_refl _)) (Nat.le_trans HL4.out.1 (by omega)) (Nat.le_trans HL4.out.2 (by omega)) (Nat.le_trans HL3.out.1 (by omega)) (Nat.le_trans HL3.out.2 (by omega)) _ ?_; rw [HNX.out]; intro v6 w6 hv6 hb6; obtain ⟨m6, a10, n10, c10, a11, n11, c11, rfl, _, _⟩ := hv6.parts; have HV6 := Lib.hid hv6; have HB6 := Lib.hid (HB5.out.trans (hb6.mono HB5.out.size)); have k6 := HBOX.out.later HB6.out HGW.out; obtain ⟨⟨hT0, hT1, hT2, hT3⟩, hT4, hT5, hT6, hT7⟩ := k6.cells; have HK6 := Lib.hid k6; clear hguard hv6 hb6 k6; dsimp only)
        | (go_simp; go_at_call 113; refine mulQ_any _ _ y x _ (HRR.out.later (Below.refl _ _).drew (Nat.le_refl _)) (HXW.out.later (Below.refl _ _).drew (Nat.le_refl _)) (Nat.le_trans HL1.out.1 (by omega)) (Nat.le_trans HL1.out.2 (by omega)) (Nat.le_trans HL2.out.1 (by omega)) (Nat.le_trans HL2.out.2 (by omega)) _ ?_; intro v5 w5 hv5 hb5; obtain ⟨m5, a12, n12, c12, a13, n13, c13, rfl, _, _⟩ := hv5.parts; have HV5 := Lib.hid hv5; have HB5 : Hid (Below wr.heap.size wr w5) := Lib.hid (below_unDrew hb5); have hs0 := (HB5.out.cell (p := ⟨b, off + j * 4, none⟩) (lt_of_cell hd0)).trans hd0; have hs1 := (HB5.out.cell (p := ⟨b, off + j * 4 + 1, none⟩) (lt_of_cell hd0)).trans hd1; have hs2 := (HB5.out.cell (p := ⟨b, off + j * 4 + 2, none⟩) (lt_of_cell hd0)).trans hd2; have hs3 := (HB5.out.cell (p := ⟨b, off + j * 4 + 3, none⟩) (lt_of_cell hd0)).trans hd3; clear hv5 hb5; dsimp only))
      all_goals
        have HNI := Lib.hid (HK6.out.noInt rfl rfl rfl rfl)
        have HREL : Hid (AtRelS w2 n0 qs x (.int .i64 ((j : Int) - 1)) ((((w6.setCell ⟨w2.heap.size, 0, none⟩ (.bool m6)).setCell ⟨w2.heap.size, 1, none⟩ (.slice a10 n10 c10)).setCell ⟨w2.heap.size, 2, none⟩ (.bool false)).setCell ⟨w2.heap.size, 3, none⟩ (.slice a11 n11 c11))) := Lib.hid
          ⟨j, m6, a10, n10, c10, false, a11, n11, c11, rfl, Nat.le_of_lt HKL.out, HK6.out.set4 _ _ _ _, HV6.out.set4 HNI.out _ _ _ _ rfl rfl rfl, HBN.out, ((((HB.out.trans (HB6.out.mono HB.out.size)).setCell (Nat.le_refl _) _).setCell (Nat.le_refl _) _).setCell (Nat.le_refl _) _).setCell (Nat.le_refl _) _⟩
        go_wp2
        go_roundw
        case rel => exact HREL.out
        case measure => simp [intOf]
end Go.Proofs.YtpblpdcdhgjecaaGreatDoor

namespace Go.Proofs.YtpblpdcdhgjecaaGreatDoor
open Go Go.RowKit

/-- what is told of a polynomial and a number -/
noncomputable def evalO (L : List ByteArray) (s : ByteArray) : Option Rat := if polyB L = true then (numO s.data.toList).map (fun x => evalQ (L.map qOf) x) else none

theorem polyB_all {L : List ByteArray} (h : polyB L = true) : L.length ≤ 13 ∧ L.all isNum = true := by
  unfold polyB at h
  rw [Bool.and_eq_true, Bool.and_eq_true] at h
  exact ⟨of_decide_eq_true h.1, h.2.1⟩

set_option maxRecDepth 100000 in
set_option maxHeartbeats 2000000 in
theorem impl_eval (v : Value) (L : List ByteArray) (s : ByteArray) (w : World) (hE : Env w) (htab : Lib.TabIs Tryz.prog w "internal/strconv.uint64pow10" .u64 Lib.pow10Tab) (h : TxL w v L) (hn : L.length ≤ 1048576) (R : Ending → World → Prop)
    (hR : ∀ w', Below w.heap.size w w' → R (.returned (.tuple #[.string (outS (evalO L s)), .bool (outB (evalO L s))])) w') :
    Calls Tryz.prog 30 #[v, .string s] w R := by
  have HR := Lib.hid hR; clear hR
  have HE := Lib.hid hE
  have HTAB := Lib.hid htab
  obtain ⟨a0, n0, c0, rfl, h'⟩ := h.op
  have HH := Lib.hid h'
  have HN := Lib.hid hn
  clear hE htab h h' hn
  go_enter Tryz.func30, Tryz.ntmps30
  go_wp2_with fail
  refine readc_any _ L _ HE.out HH.out HN.out _ ?_ ?_
  · intro v1 w1 hP hsl hb1
    obtain ⟨a1, n1, c1, rfl, hsl'⟩ := SlE.op hsl
    have HSL := Lib.hid hsl'
    have HP := Lib.hid hP
    have HB1 := Lib.hid hb1
    clear hP hsl hsl' hb1
    dsimp only
    go_wp2_with fail
    refine readq_any s _ (HE.out.later HB1.out (Nat.le_refl _)) _ ?_ ?_
    · intro v2 x w2 hx hr2 hb2
      have hO : evalO L s = some (evalQ (L.map qOf) x) := by unfold evalO; rw [if_pos HP.out, hx]; rfl
      rw [hO] at HR
      have HX := Lib.hid (Bd.of (numO_few hx))
      obtain ⟨k1, k2⟩ := polyB_all HP.out
      have HBD := Lib.hid (allBd_of k2)
      have HQL := Lib.hid (show (L.map qOf).length ≤ 60 by rw [List.length_map]; omega)
      obtain ⟨ng, a5, n5, c5, a6, n6, c6, hng, rfl, _, _⟩ := hr2.parts
      obtain ⟨W, hW⟩ : ∃ W, W = w2.alloc (.cells #[.bool ng, .slice a5 n5 c5, .slice a6 n6 c6] 72) := ⟨_, rfl⟩
      have hbW : Below w2.heap.size w2 W := by rw [hW]; exact (Below.refl _ _).alloc (Nat.le_refl _) _
      have HB2 := Lib.hid (HB1.out.trans (hb2.mono HB1.out.size))
      have HBW := Lib.hid (HB2.out.trans (hbW.mono HB2.out.size))
      have HSW := Lib.hid ((HSL.out.later elemR hb2 (Nat.le_refl _)).later elemR hbW (Nat.le_refl _))
      have HRW := Lib.hid (hr2.later hbW (Nat.le_refl _))
      have HW := Lib.hid hW
      clear hx hr2 hb2 hng k1 k2 hW hbW hO
      dsimp only
      go_wp2_with fail
      rw [← HW.out]
      refine dat_any _ _ (L.map qOf) x _ HSW.out HRW.out HQL.out HBD.out HX.out _ ?_
      intro v3 w3 hr3 hb3
      obtain ⟨y, hy⟩ : ∃ y, y = evalQ (L.map qOf) x := ⟨_, rfl⟩
      rw [← hy] at HR hr3
      obtain ⟨m3, a7, n7, c7, a8, n8, c8, hm3, rfl, _, _⟩ := hr3.parts
      have HR3 := Lib.hid hr3
      have HB3 := Lib.hid (HBW.out.trans (hb3.mono HBW.out.size))
      clear hr3 hb3 hy hm3
      dsimp only
      go_wp2_with fail
      refine rtext_o _ y _ HR3.out (tab_later HTAB.out HB3.out (Nat.le_refl _)) _ ?_
      intro w4 hb4
      have HB4 := Lib.hid (HB3.out.trans (hb4.mono HB3.out.size))
      obtain ⟨S, hS⟩ : ∃ S, S = outS (some y) := ⟨_, rfl⟩
      obtain ⟨B, hB⟩ : ∃ B, B = outB (some y) := ⟨_, rfl⟩
      rw [← hS, ← hB] at HR ⊢
      clear hS hB hb4
      dsimp only
      go_wp2
      first | go_ret | skip
      exact HR.out _ HB4.out
    · intro e w2 hnone he hb2
      obtain ⟨t, p, rfl⟩ := he
      have hO : evalO L s = none := by unfold evalO; rw [if_pos HP.out, hnone]; rfl
      rw [hO] at HR
      have HB2 := Lib.hid (HB1.out.trans (hb2.mono HB1.out.size))
      have HF := Lib.hid (HR.out _ (HB2.out.alloc HB2.out.size (.cells #[.bool false, .slice none 0 0, .slice none 0 0] 72)))
      clear hb2 hnone hO
      unfold zeroR
      dsimp only
      go_wp2
      first | go_ret | skip
      exact HF.out
  · intro e w1 hP he hb1
    obtain ⟨t, p, rfl⟩ := he
    have hO : evalO L s = none := by unfold evalO; rw [if_neg (by rw [hP]; decide)]
    rw [hO] at HR
    have HF := Lib.hid (HR.out w1 hb1)
    clear hb1 hP hO
    dsimp only
    go_wp2
    first | go_ret | skip
    exact HF.out

set_option maxRecDepth 100000 in
set_option maxHeartbeats 2000000 in
theorem spec_eval (v : Value) (L : List ByteArray) (s : ByteArray) (w : World) (h : TxL w v L) (hn : L.length ≤ 1048576) (hs : ∀ s ∈ L, s.size ≤ 1048576) (hss : s.size ≤ 1100000) (R : Ending → World → Prop)
    (hR : ∀ w', Below w.heap.size w w' → R (.returned (.tuple #[.string (outS (evalO L s)), .bool (outB (evalO L s))])) w') :
    Calls Tryz.prog 29 #[v, .string s] w R := by
  have HR := Lib.hid hR; clear hR
  obtain ⟨a0, n0, c0, rfl, h'⟩ := h.op
  have HH := Lib.hid h'
  have HN := Lib.hid (And.intro hn (And.intro hs hss))
  clear h h' hn hs hss
  go_enter Tryz.func29, Tryz.ntmps29
  go_wp2_with fail
  refine l02is_any _ L _ HH.out HN.out.1 HN.out.2.1 _ ?_
  intro w1 hb1
  have HB1 := Lib.hid hb1
  clear hb1
  cases hP : polyB L with
  | false =>
    have hO : evalO L s = none := by unfold evalO; rw [if_neg (by rw [hP]; decide)]
    rw [hO] at HR
    clear hP hO
    dsimp only
    go_wp2
    first | go_ret | skip
    exact HR.out _ HB1.out
  | true =>
    obtain ⟨k1, k2⟩ := polyB_all hP
    have HALL := Lib.hid k2
    have HP := Lib.hid hP
    have HQL := Lib.hid (show (L.map qOf).length ≤ 60 by rw [List.length_map]; omega)
    clear hP k1 k2
    dsimp only
    go_wp2_with fail
    refine isq_any s _ HN.out.2.2 _ ?_
    intro w2 hb2
    have HB2 := Lib.hid (HB1.out.trans (hb2.mono HB1.out.size))
    clear hb2
    cases hx : numO s.data.toList with
    | none =>
      have hO : evalO L s = none := by unfold evalO; rw [if_pos HP.out, hx]; rfl
      rw [hO] at HR
      rw [Option.isSome_none]
      clear hx hO
      dsimp only
      go_wp2
      first | go_ret | skip
      exact HR.out _ HB2.out
    | some x =>
      have hO : evalO L s = some (evalQ (L.map qOf) x) := by unfold evalO; rw [if_pos HP.out, hx]; rfl
      rw [hO] at HR
      rw [Option.isSome_some]
      have HX := Lib.hid hx
      have HBX := Lib.hid (Bd.of (numO_few hx))
      clear hx hO
      dsimp only
      go_wp2_with fail
      refine oflist_any _ L _ (HH.out.later HB2.out (Nat.le_refl _)) HALL.out HN.out.1 _ ?_
      intro v3 w3 hv3 hb3
      have hs3 := hv3.sl
      obtain ⟨a3, n3, c3, rfl, hs3'⟩ := SlE.op hs3
      have HV3 := Lib.hid hs3'
      have HB3 := Lib.hid (HB2.out.trans (hb3.mono HB2.out.size))
      clear hv3 hb3 hs3 hs3'
      dsimp only
      go_wp2_with fail
      refine ofq_any s x _ HX.out _ ?_
      intro v4 w4 hq4 hb4
      obtain ⟨ng, a5, n5, c5, a6, n6, c6, rfl, _, _⟩ := hq4.parts
      have HQ4 := Lib.hid hq4
      have HV4 := Lib.hid (HV3.out.later elemQ hb4 (Nat.le_refl _))
      have HB4 := Lib.hid (HB3.out.trans (hb4.mono HB3.out.size))
      clear hq4 hb4
      dsimp only
      go_wp2_with fail
      refine evals_any _ _ (L.map qOf) x _ HV4.out HQ4.out HQL.out (allBd_of HALL.out) HBX.out _ ?_
      intro v5 w5 hr5 hbd5 hb5
      obtain ⟨y, hy⟩ : ∃ y, y = evalQ (L.map qOf) x := ⟨_, rfl⟩
      rw [← hy] at HR hr5 hbd5
      have HLQ := Lib.hid (hbd5.len (B := 10000) (by omega))
      obtain ⟨nr, a7, n7, c7, a8, n8, c8, rfl, _, _⟩ := hr5.parts
      obtain ⟨W, hW⟩ : ∃ W, W = w5.alloc (.cells #[.bool nr, .slice a7 n7 c7, .bool false, .slice a8 n8 c8] 61) := ⟨_, rfl⟩
      have hbW : Below w5.heap.size w5 W := by rw [hW]; exact (Below.refl _ _).alloc (Nat.le_refl _) _
      have HBX5 : Hid (Box4 W w5.heap.size (.bool nr) (.slice a7 n7 c7) (.bool false) (.slice a8 n8 c8) 61) := Lib.hid (by rw [hW]; exact Box4.made _ _ _ _ _ _)
      have HQR := Lib.hid (hr5.later hbW (Nat.le_refl _))
      have HB5 := Lib.hid (HB4.out.trans (hb5.mono HB4.out.size))
      have HBW := Lib.hid (HB5.out.trans (hbW.mono HB5.out.size))
      have HW := Lib.hid hW
      clear hr5 hb5 hy hbd5 hW hbW
      dsimp only
      go_wp2_with fail
      rw [← HW.out]
      refine fitQ_any _ y _ HQR.out (Nat.le_trans HLQ.out.1 (by omega)) (Nat.le_trans HLQ.out.2 (by omega)) _ ?_
      intro w6 hb6
      have HB6 := Lib.hid (HBW.out.trans (hb6.mono HBW.out.size))
      have HQ6 := Lib.hid (HQR.out.later hb6 (Nat.le_refl _))
      have HX6 := Lib.hid (HBX5.out.later hb6 (lt_of_block HBX5.out))
      obtain ⟨⟨hA0, hA1, hA2, hA3⟩, _, _, _, _⟩ := HX6.out.cells
      by_cases hf : few y
      · have e1 : (decide ((decs y.num.natAbs).length ≤ 60) && decide ((decs y.den).length ≤ 60)) = true := by rw [decide_eq_true hf.1, decide_eq_true hf.2]; rfl
        rw [e1]
        have HF := Lib.hid (show ∀ w', Below w.heap.size w w' → R (.returned (.tuple #[.string ⟨(textQ y).toArray⟩, .bool true])) w' from fun w' hb => by
          have := HR.out w' hb
          simp only [outS, outB, if_pos hf, decide_eq_true hf] at this; exact this)
        clear hb6 hf e1
        dsimp only
        go_wp2_with fail
        refine text_any _ y _ HQ6.out (Nat.le_trans HLQ.out.1 (by omega)) (Nat.le_trans HLQ.out.2 (by omega)) _ ?_
        intro w7 hb7
        have HB7 := Lib.hid (HB6.out.trans (hb7.mono HB6.out.size))
        obtain ⟨T, hT⟩ : ∃ T : ByteArray, T = ⟨(textQ y).toArray⟩ := ⟨_, rfl⟩
        rw [← hT] at HF ⊢
        clear hT hb7
        dsimp only
        go_wp2
        first | go_ret | skip
        exact HF.out _ HB7.out
      · have e1 : (decide ((decs y.num.natAbs).length ≤ 60) && decide ((decs y.den).length ≤ 60)) = false := by
          cases he : (decide ((decs y.num.natAbs).length ≤ 60) && decide ((decs y.den).length ≤ 60)) with
          | false => rfl
          | true =>
            rw [Bool.and_eq_true] at he
            exact absurd ⟨of_decide_eq_true he.1, of_decide_eq_true he.2⟩ hf
        rw [e1]
        have HF := Lib.hid (show R (.returned (.tuple #[.string ⟨#[]⟩, .bool false])) w6 by
          have := HR.out w6 HB6.out
          simp only [outS, outB, if_neg hf, decide_eq_false hf] at this; exact this)
        clear hb6 hf e1
        dsimp only
        go_wp2
        first | go_ret | skip
        exact HF.out

set_option maxRecDepth 100000 in
set_option maxHeartbeats 2000000 in
theorem law_evalPoly (v : Value) (L : List ByteArray) (s : ByteArray) (w : World) (hE : Env w) (htab : Lib.TabIs Tryz.prog w "internal/strconv.uint64pow10" .u64 Lib.pow10Tab) (h : TxL w v L) (hn : L.length ≤ maxLen) (hs : ∀ s ∈ L, s.size ≤ maxLen) (R : Ending → World → Prop)
    (hR : ∀ w', Below w.heap.size w w' → R (.returned (.bool true)) w') :
    Calls Tryz.prog 8 #[v, .string s] w R := by
  have HR := Lib.hid hR; clear hR
  have HE := Lib.hid hE; clear hE
  have HTAB := Lib.hid htab; clear htab
  obtain ⟨ao, n, cap, rfl, hh⟩ := h.op
  have HH := Lib.hid hh
  have HN := Lib.hid hn
  have HS := Lib.hid hs
  clear h hh hn hs
  by_cases hsz : s.size ≤ 1048576
  · have hsi : ¬ (1048576 : Int) < (s.size : Int) := by omega
    have HSS := Lib.hid hsz
    clear hsz
    go_enter Tryz.func8, Tryz.ntmps8
    go_wp2_with fail
    refine szT_any _ L _ 1048576 HH.out HN.out HS.out (by omega) _ ?_ ?_
    · intro ht
      obtain ⟨h1, h2⟩ := sizes_each ht
      have H1 := Lib.hid h1
      have H2 := Lib.hid h2
      have H9 := Lib.hid (show L.length ≤ 281474976710656 by omega)
      obtain ⟨m, hm⟩ : ∃ m : Nat, m = 1048576 - tot L := ⟨_, rfl⟩
      rw [← hm]
      have hm0 : ¬ ((m : Int) < 0) := by omega
      clear hm ht h1 h2
      dsimp only
      go_wp2_with fail
      refine toT_any _ L _ HH.out H1.out _ ?_
      intro v1 w1 hv1 hb1
      obtain ⟨a1, n1, c1, rfl, hv1'⟩ := hv1.op
      have HV1 := Lib.hid hv1'
      have HB1 := Lib.hid hb1
      clear hb1 hv1 hv1'
      dsimp only
      go_wp2_with fail
      refine spec_eval _ L s _ HV1.out H1.out H2.out (by have := HSS.out; omega) _ ?_
      intro w2 hb2
      obtain ⟨x, hx⟩ : ∃ x, x = outB (evalO L s) := ⟨_, rfl⟩
      obtain ⟨S, hS⟩ : ∃ S, S = outS (evalO L s) := ⟨_, rfl⟩
      have HX := Lib.hid hx
      have HSV := Lib.hid hS
      rw [← hx, ← hS]
      have HB2 := Lib.hid (HB1.out.trans (hb2.mono HB1.out.size))
      clear hb2 hx hS
      dsimp only
      go_wp2_with fail
      refine toT_any _ L _ (HH.out.later HB2.out (Nat.le_refl _)) H1.out _ ?_
      intro v3 w3 hv3 hb3
      obtain ⟨a3, n3, c3, rfl, hv3'⟩ := hv3.op
      have HV3 := Lib.hid hv3'
      have HB3 := Lib.hid (HB2.out.trans (hb3.mono HB2.out.size))
      clear hb3 hv3 hv3'
      dsimp only
      go_wp2_with fail
      refine impl_eval _ L s _ (HE.out.later HB3.out (Nat.le_refl _)) (tab_later HTAB.out HB3.out (Nat.le_refl _)) HV3.out H1.out _ ?_
      intro w4 hb4
      have HV4 := Lib.hid (HV3.out.later hb4 (Nat.le_refl _))
      have HB4 := Lib.hid (HB3.out.trans (hb4.mono HB3.out.size))
      rw [← HX.out, ← HSV.out]
      clear hb4
      have hxx : (x != x) = false := by cases x <;> rfl
      dsimp only
      go_wp2_with fail
      refine toT_any _ L _ (HH.out.later HB4.out (Nat.le_refl _)) H1.out _ ?_
      intro v5 w5 hv5 hb5
      obtain ⟨a5, n5, c5, rfl, hv5'⟩ := hv5.op
      have HV5 := Lib.hid hv5'
      have HV4b := Lib.hid (HV4.out.later hb5 (Nat.le_refl _))
      have HB5 := Lib.hid (HB4.out.trans (hb5.mono HB4.out.size))
      clear hb5 hv5 hv5'
      dsimp only
      go_wp2_with fail
      refine eqT_any _ _ L L _ HV4b.out HV5.out H9.out H9.out _ ?_
      intro w6 hb6
      rw [decide_eq_true rfl]
      have HB6 := Lib.hid (HB5.out.trans (hb6.mono HB5.out.size))
      clear hb6
      dsimp only
      go_wp2
      first | go_ret | skip
      exact HR.out _ HB6.out
    · intro _
      dsimp only
      go_wp2
      first | go_ret | skip
      exact HR.out _ (Below.refl _ _)
  · have hsi : (1048576 : Int) < (s.size : Int) := by omega
    clear hsz
    go_enter Tryz.func8, Tryz.ntmps8
    go_wp2
    first | go_ret | skip
    exact HR.out _ (Below.refl _ _)
end Go.Proofs.YtpblpdcdhgjecaaGreatDoor
