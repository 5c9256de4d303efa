/- Contracts of functions of the program and of the model: DerS, DefD, Sint, DerI, DerP, LawDerivativeOf. -/
import Derived.Test.YtegdcmcfeaohhaaGreatDoorPk9
import Derived.Deep.RegionLaw
set_option linter.all false
set_option linter.unusedVariables false
set_option linter.unusedSimpArgs false
set_option linter.unnecessarySimpa false
set_option linter.deprecated false
namespace Go.Proofs.YtegdcmcfeaohhaaGreatDoor
open Go Go.RowKit

def DerSRel (w : World) (us : List Rat) (v i : Value) (wr : World) : Prop :=
  ∃ k : Nat, i = .int .i64 (k : Int) ∧ 1 ≤ k ∧ (k ≤ us.length ∨ k = 1) ∧ OwE 4 EQ 58 wr w.heap.size v ((derP us).take (k - 1)) ∧ Below w.heap.size w wr

theorem int_bd {k : Nat} (h : k ≤ 100) : Bd 60 (((k : Nat) : Int) : Rat) := by
  have := Bd.int k 60 (Nat.lt_of_le_of_lt h (by decide)) (by omega)
  exact this

set_option maxRecDepth 100000 in
set_option maxHeartbeats 4000000 in
theorem derS_any (va : Value) (us : List Rat) (w : World) (h1 : SlE 4 EQ w va us) (hl1 : us.length ≤ 60) (hb1 : AllBd 60 us) (R : Ending → World → Prop)
    (hR : ∀ v' w', OwE 4 EQ 58 w' w.heap.size v' (trimQ (derP us)) → Below w.heap.size w w' → R (.returned v') w') :
    Calls Tryz.prog 63 #[va] w R := by
  have HR := Lib.hid hR; clear hR
  obtain ⟨a1, n1, c1, rfl, hn1, _, hs1⟩ := h1.open
  have HN := Lib.hid hn1
  have hnl : n1 ≤ 60 := by omega
  have HBD := Lib.hid hb1
  have HA := Lib.hid hs1
  have HST : Hid (DerSRel w us (.slice (some ⟨w.heap.size, 0, none⟩) 0 0) (.int .i64 1) (w.alloc (.cells #[] 58))) := Lib.hid ⟨1, rfl, Nat.le_refl _, .inr rfl, OwE.lit _ _ _ (Nat.le_refl _), (Below.refl _ _).alloc (Nat.le_refl _) _⟩
  clear h1 hn1 hs1 hl1 hb1
  go_enter Tryz.func63, Tryz.ntmps63
  go_wp2
  go_loopw [3, 4] (fun v i wr => DerSRel w us v i wr) (fun _ i _ => n1 - (intOf i).toNat)
  case atStart => exact HST.out
  case round =>
    clear HST
    obtain ⟨k, rfl, hk1, hk2, hown, hbel⟩ := hrel
    have HBE := Lib.hid hbel
    have HOWN := Lib.hid hown
    obtain ⟨a5, n5, c5, rfl, hn5⟩ := hown.shape
    clear hown hn5
    by_cases hkn : k < n1
    · obtain ⟨p, hp⟩ : ∃ p, us[k]? = some p := ⟨_, List.getElem?_eq_getElem (by rw [← HN.out]; exact hkn)⟩
      have HP := Lib.hid hp
      obtain ⟨j, hj⟩ : ∃ j, k = j + 1 := ⟨k - 1, by omega⟩
      have hjl : j < us.length - 1 := by have := HN.out; omega
      have HM2 : Hid ((derP us).take k = (derP us).take (k - 1) ++ [(((k : Nat) : Int) : Rat) * p]) := Lib.hid (by
        rw [hj, derP_take us hjl, ← hj, atQ_some hp]
        simp only [hj, Nat.add_sub_cancel]
        rfl)
      have HLK : Hid (((derP us).take (k - 1)).length ≤ 100000000) := Lib.hid (by rw [List.length_take]; omega)
      obtain ⟨b, off, cs, rfl, hb, hcell, hE⟩ := HA.out.at k p hp
      obtain ⟨x1, y1, z1, x2, y2, z2, hcs, hi1⟩ := hE
      obtain ⟨ng, hng⟩ : ∃ ng, ng = decide (p.num < 0) := ⟨_, rfl⟩
      rw [← hng] at hcs hi1
      have hd0 : wr.cell? ⟨b, off + k * 4, none⟩ = some (.bool ng) := by rw [hbel.cell (p := ⟨b, off + k * 4, none⟩) hb]; exact hcell 0 _ (by rw [hcs]; rfl)
      have hd1 : wr.cell? ⟨b, off + k * 4 + 1, none⟩ = some (.slice x1 y1 z1) := by rw [hbel.cell (p := ⟨b, off + k * 4 + 1, none⟩) hb]; exact hcell 1 _ (by rw [hcs]; rfl)
      have hd2 : wr.cell? ⟨b, off + k * 4 + 2, none⟩ = some (.bool false) := by rw [hbel.cell (p := ⟨b, off + k * 4 + 2, none⟩) hb]; exact hcell 2 _ (by rw [hcs]; rfl)
      have hd3 : wr.cell? ⟨b, off + k * 4 + 3, none⟩ = some (.slice x2 y2 z2) := by rw [hbel.cell (p := ⟨b, off + k * 4 + 3, none⟩) hb]; exact hcell 3 _ (by rw [hcs]; rfl)
      have HX := Lib.hid (hi1.later hbel (Nat.le_refl _))
      have hw1 : IntKind.i64.wrap ((k : Int) + 1) = ((k + 1 : Nat) : Int) := by rw [IntWalk.i64_in _ (by omega)]; omega
      have hk0 : (0 : Int) ≤ (k : Int) := by omega
      have hkn2 : (k : Int) < (n1 : Int) := by omega
      have HLP := Lib.hid ((HBD.out k p hp).len (B := 10000) (by omega))
      have HLI := Lib.hid ((int_bd (k := k) (by omega)).len (B := 10000) (by omega))
      obtain ⟨y, hy⟩ : ∃ y : Rat, y = (((k : Nat) : Int) : Rat) := ⟨_, rfl⟩
      rw [← hy] at HM2 HLI
      have HY := Lib.hid hy
      have HKL := Lib.hid (show 1 ≤ k + 1 ∧ k + 1 ≤ us.length ∧ k + 1 - 1 = k ∧ k ≤ 60 by have := HN.out; omega)
      have HG : Hid (b < wr.heap.size) := Lib.hid (Nat.lt_of_lt_of_le hb hbel.size)
      clear hp hj hjl hcell hcs hi1 hng hkn hbel hb hk1 hk2 hy
      go_wp2_with fail
      go_region_law (first
        | (have hguard := HB7; refine step_pushE elemQ (by omega) rfl _ _ 51 rfl 58 64 zeroQ Tryz.underlying51 info_q rfl zeroQ_ints (by omega) w.heap.size ((derP us).take (k - 1)) ((HOWN.out.later elemQ HB7.out (Nat.le_refl _)).alloc elemQ _) HLK.out (by have := HBE.out.size; have := HB7.out.size; simp; omega) w7.heap.size [.bool m7, .slice a13 n13 c13, .bool false, .slice a14 n14 c14] (y * p) rfl (elemQ.below HEQ.out ((Below.refl _ _).alloc (Nat.le_refl _) _) (Nat.le_refl _)) (cells_alloc _ #[.bool m7, .slice a13 n13 c13, .bool false, .slice a14 n14 c14] _ _ rfl) ?_; intro ao n9 c9 w9 hown9 hn9 hgr hb9; have HOW9 : Hid (OwE 4 EQ 58 w9 w.heap.size (.slice ao n9 c9) ((derP us).take k)) := Lib.hid (by rw [HM2.out]; exact hown9); have HB9 : Hid (Below w.heap.size w w9) := Lib.hid (((HBE.out.trans (HB7.out.mono HBE.out.size)).alloc (Nat.le_trans HBE.out.size HB7.out.size) _).trans hb9); clear hguard hown9 hn9 hgr hb9)
        | (have hguard := HB5; (try go_simp); go_at_call 98; refine mulQ_any _ _ y p _ HV5.out (HX.out.later HB5.out (Nat.le_refl _)) (Nat.le_trans HLI.out.1 (by omega)) (Nat.le_trans HLI.out.2 (by omega)) (Nat.le_trans HLP.out.1 (by omega)) (Nat.le_trans HLP.out.2 (by omega)) _ ?_; intro v7 w7 hv7 hb7; obtain ⟨m7, a13, n13, c13, a14, n14, c14, rfl, _, _⟩ := hv7.parts; have HEQ := Lib.hid (EQ.of hv7); have HB7 : Hid (Below wr.heap.size wr w7) := Lib.hid (HB5.out.trans (hb7.mono HB5.out.size)); clear hguard hv7 hb7; dsimp only)
        | ((try go_simp); go_at_call 52; refine int_any ((k : Nat) : Int) _ (by omega) (by omega) _ ?_; rw [← HY.out]; intro v5 w5 hv5 hb5; obtain ⟨m5, a17, n17, c17, a18, n18, c18, rfl, _, _⟩ := hv5.parts; have HV5 := Lib.hid hv5; have HB5 : Hid (Below wr.heap.size wr w5) := Lib.hid (by first | exact hb5 | exact below_unDrew hb5); have f0 := (HB5.out.cell (p := ⟨b, off + k * 4, none⟩) HG.out).trans hd0; have f1 := (HB5.out.cell (p := ⟨b, off + k * 4 + 1, none⟩) HG.out).trans hd1; have f2 := (HB5.out.cell (p := ⟨b, off + k * 4 + 2, none⟩) HG.out).trans hd2; have f3 := (HB5.out.cell (p := ⟨b, off + k * 4 + 3, none⟩) HG.out).trans hd3; clear hv5 hb5; dsimp only))
      all_goals
        go_wp2
        go_roundw
        case rel => exact ⟨k + 1, by first | rfl | go_num, HKL.out.1, .inl HKL.out.2.1, by rw [HKL.out.2.2.1]; exact HOW9.out, HB9.out⟩
        case measure => simp [intOf]; have := HKL.out; have := HN.out; omega
    · have c1 : ¬ ((k : Int) < (n1 : Int)) := by omega
      have he : (derP us).take (k - 1) = derP us := List.take_of_length_le (by rw [derP_len]; have := HN.out; omega)
      rw [he] at HOWN
      clear he hbel hkn hk1 hk2
      go_wp2_with fail
      refine trimS_any _ (derP us) _ HOWN.out.sl (by rw [derP_len]; have := HN.out; omega) _ ?_
      intro v6 w6 hv6 hb6
      obtain ⟨a6, n6, c6, rfl, e6⟩ := hv6.shape
      clear e6
      have HF := Lib.hid (HR.out _ w6 (hv6.mono HBE.out.size) (HBE.out.trans (hb6.mono HBE.out.size)))
      clear hv6 hb6
      dsimp only
      go_wp2
      first | go_ret | skip
      exact HF.out
end Go.Proofs.YtegdcmcfeaohhaaGreatDoor

namespace Go.Proofs.YtegdcmcfeaohhaaGreatDoor
open Go Go.RowKit

theorem polyB_ne {L : List ByteArray} (h : polyB L = true) : ∀ q, (L.map qOf).getLast? = some q → q ≠ 0 := by
  intro q hq h0
  have hall := (polyB_nums h).2
  unfold polyB at h
  rw [Bool.and_eq_true, Bool.and_eq_true] at h
  have h3 := of_decide_eq_true h.2.2
  rw [List.getLast?_map] at hq
  cases hs : L.getLast? with
  | none => rw [hs] at hq; cases hq
  | some s =>
    rw [hs] at hq
    simp only [Option.map_some, Option.some.injEq] at hq
    have hn := isNum_some (List.all_eq_true.1 hall s (List.mem_of_getLast? hs))
    exact h3 s hs ((zero_iff hn).1 (hq.trans h0))
theorem derP_bd {us : List Rat} (h : AllBd 60 us) (hl : us.length ≤ 60) : AllBd 200 (derP us) := by
  intro i q hi
  have hlt : i < us.length - 1 := by rw [← derP_len]; exact (List.getElem?_eq_some_iff.1 hi).1
  rw [derP_at us hlt] at hi
  cases hi
  exact ((int_bd (k := i + 1) (by omega)).mul (atQ_bd h (by omega) (i + 1))).mono (by omega)

/-- whether there is an answer -/
noncomputable def derpB (L0 : List ByteArray) : Bool := if polyB L0 = true then cofB (derP (L0.map qOf)) else false
/-- the answer -/
noncomputable def derpL (L0 : List ByteArray) : List ByteArray := if polyB L0 = true then cofL (derP (L0.map qOf)) else []
theorem derpB_eq {L0 : List ByteArray} (h : polyB L0 = true) : derpB L0 = cofB (derP (L0.map qOf)) := by unfold derpB; rw [if_pos h]
theorem derpL_eq {L0 : List ByteArray} (h : polyB L0 = true) : derpL L0 = cofL (derP (L0.map qOf)) := by unfold derpL; rw [if_pos h]
theorem derpB_none {L0 : List ByteArray} (h : polyB L0 = false) : derpB L0 = false := by unfold derpB; rw [if_neg (by rw [h]; decide)]
theorem derpL_none {L0 : List ByteArray} (h : polyB L0 = false) : derpL L0 = [] := by unfold derpL; rw [if_neg (by rw [h]; decide)]
theorem derp_small (L0 : List ByteArray) : (derpL L0).length ≤ 60 := by
  cases h : polyB L0
  · rw [derpL_none h]; simp
  · rw [derpL_eq h]; exact Nat.le_trans (cofL_len _) (by omega)

/-- whether there is an answer -/
noncomputable def revpB (L0 : List ByteArray) : Bool := if polyB L0 = true then cofB (trimQ (L0.map qOf).reverse) else false
/-- the answer -/
noncomputable def revpL (L0 : List ByteArray) : List ByteArray := if polyB L0 = true then cofL (trimQ (L0.map qOf).reverse) else []
theorem revpB_eq {L0 : List ByteArray} (h : polyB L0 = true) : revpB L0 = cofB (trimQ (L0.map qOf).reverse) := by unfold revpB; rw [if_pos h]
theorem revpL_eq {L0 : List ByteArray} (h : polyB L0 = true) : revpL L0 = cofL (trimQ (L0.map qOf).reverse) := by unfold revpL; rw [if_pos h]
theorem revpB_none {L0 : List ByteArray} (h : polyB L0 = false) : revpB L0 = false := by unfold revpB; rw [if_neg (by rw [h]; decide)]
theorem revpL_none {L0 : List ByteArray} (h : polyB L0 = false) : revpL L0 = [] := by unfold revpL; rw [if_neg (by rw [h]; decide)]
theorem revp_small (L0 : List ByteArray) : (revpL L0).length ≤ 60 := by
  cases h : polyB L0
  · rw [revpL_none h]; simp
  · rw [revpL_eq h]; exact Nat.le_trans (cofL_len _) (by omega)

theorem put_derB {L : List ByteArray} (h : polyB L = true) : putB (derP (L.map qOf)) = cofB (derP (L.map qOf)) := by
  have := put_cofB (derP (L.map qOf))
  rw [derP_trim (polyB_ne h)] at this; exact this
theorem put_derL {L : List ByteArray} (h : polyB L = true) : putL (derP (L.map qOf)) = cofL (derP (L.map qOf)) := by
  have := put_cofL (derP (L.map qOf))
  rw [derP_trim (polyB_ne h)] at this; exact this
theorem put_cofB0 (qs : List Rat) : putB qs = cofB (trimQ qs) := rfl
theorem put_cofL0 (qs : List Rat) : putL qs = cofL (trimQ qs) := rfl
theorem AllBd.rev {N : Nat} {qs : List Rat} (h : AllBd N qs) : AllBd N qs.reverse := by
  intro i q hi
  obtain ⟨j, hj⟩ := List.mem_iff_getElem?.1 (List.mem_reverse.1 (List.mem_of_getElem? hi))
  exact h j q hj
end Go.Proofs.YtegdcmcfeaohhaaGreatDoor

namespace Go.Proofs.YtegdcmcfeaohhaaGreatDoor
open Go Go.RowKit

set_option maxRecDepth 100000 in
set_option maxHeartbeats 1000000 in
theorem sint_any (n : Nat) (hn : n < W64) (w : World) (R : Ending → World → Prop)
    (hR : ∀ v' w', IsI w' v' (n : Int) → Below w.heap.size w w' → R (.returned v') w') :
    Calls Tryz.prog 107 #[.int .u64 (n : Int)] w R := by
  have HR := Lib.hid hR; clear hR
  have HN := Lib.hid hn; clear hn
  obtain ⟨L, hL⟩ : ∃ L, L = w.alloc (.cells #[.bool false, .slice none 0 0] 68) := ⟨_, rfl⟩
  have hbL : Below w.heap.size w L := by rw [hL]; exact (Below.refl _ _).alloc (Nat.le_refl _) _
  have hbx : Box2 L w.heap.size (.bool false) (.slice none 0 0) 68 := by rw [hL]; exact Box2.made _ _ _ _
  have hsz : L.heap.size = w.heap.size + 1 := by rw [hL]; simp
  obtain ⟨W, hW⟩ : ∃ W, W = L.alloc (.cells #[.int .u64 (n : Int)] 123) := ⟨_, rfl⟩
  have hbW : Below L.heap.size L W := by rw [hW]; exact (Below.refl _ _).alloc (Nat.le_refl _) _
  have hown : Own .u64 123 W L.heap.size (.slice (some ⟨w.heap.size + 1, 0, none⟩) 1 1) [n] := by rw [hW, ← hsz]; exact Own.lit1 .u64 123 L L.heap.size n (n : Int) rfl (Nat.le_refl _)
  have HSL := Lib.hid hown.sl
  have HBX := Lib.hid (hbx.later hbW (by omega))
  have HBW : Hid (Below w.heap.size w W) := Lib.hid (hbL.trans (hbW.mono hbL.size))
  have HW : Hid (W = (w.alloc (.cells #[.bool false, .slice none 0 0] 68)).alloc (.cells #[.int .u64 (n : Int)] 123)) := Lib.hid (by rw [hW, hL])
  clear hbL hbx hsz hbW hown hW hL
  go_enter Tryz.func107, Tryz.ntmps107
  go_wp2_with fail
  rw [← HW.out]
  refine trimmed_any _ [n] _ HSL.out (by intro d hd; simp at hd; rw [hd]; exact HN.out) (by simp) _ ?_
  intro v1 hv1 _
  rw [show val W64 [n] = n by simp [val]] at hv1
  obtain ⟨a1, n1, c1, rfl, hv1'⟩ := hv1.op
  have HV1 := Lib.hid hv1'
  clear hv1 hv1'
  dsimp only
  go_wp2_with fail
  refine integerOf_z false _ n _ HV1.out _ ?_
  rw [show sgn false n = (n : Int) from rfl]
  intro v2 w2 hv2 hb2
  obtain ⟨s, e, hs⟩ := hv2
  obtain ⟨a2, n2, c2, rfl, hs'⟩ := hs.op
  obtain ⟨nb, hnb⟩ : ∃ nb, nb = decide ((n : Int) < 0) := ⟨_, rfl⟩
  rw [← hnb] at e
  subst e
  have HS := Lib.hid hs'
  have HNB := Lib.hid hnb
  have HB2 := Lib.hid (HBW.out.trans (hb2.mono HBW.out.size))
  have HX2 := Lib.hid (HBX.out.later hb2 (lt_of_block HBX.out))
  obtain ⟨hR0, hR1, hG0, hG1⟩ := HX2.out.cells
  clear hb2 hnb hs hs'
  dsimp only
  go_wp2
  refine bodyPost_ret_at (by simp [results, Tryz.results107, go_sem, hR0, hR1, hG0, hG1] <;> rfl) rfl ?_
  exact HR.out _ _ (IsI.mk HNB.out (HS.out.set2 (HX2.out.noInt rfl rfl) _ _ rfl)) ((HB2.out.setCell (Nat.le_refl _) _).setCell (Nat.le_refl _) _)
end Go.Proofs.YtegdcmcfeaohhaaGreatDoor

namespace Go.Proofs.YtegdcmcfeaohhaaGreatDoor
open Go Go.RowKit

theorem ER.of {w : World} {x0 x1 x2 : Value} {q : Rat} (h : IsR w (.agg #[x0, x1, x2]) q) : ER w [x0, x1, x2] q := by
  obtain ⟨na, a1, n1, c1, a2, n2, c2, hna, e, h1, h2⟩ := h.parts
  simp only [Value.agg.injEq, Array.mk.injEq, List.cons.injEq, and_true] at e
  obtain ⟨rfl, rfl, rfl⟩ := e
  exact ⟨_, _, _, _, _, _, by rw [hna], h1, h2⟩

def DerIRel (w : World) (us : List Rat) (v i : Value) (wr : World) : Prop :=
  ∃ k : Nat, i = .int .i64 (k : Int) ∧ k ≤ us.length ∧ OwE 3 ER 70 wr w.heap.size v ((derP us).take (k - 1)) ∧ Below w.heap.size w wr

set_option maxRecDepth 100000 in
set_option maxHeartbeats 4000000 in
theorem derI_any (va : Value) (us : List Rat) (w : World) (h1 : RsL w va us) (hl1 : us.length ≤ 60) (hb1 : AllBd 60 us) (R : Ending → World → Prop)
    (hR : ∀ v' w', RsL w' v' (derP us) → Below w.heap.size w w' → R (.returned v') w') :
    Calls Tryz.prog 65 #[va] w R := by
  have HR := Lib.hid hR; clear hR
  obtain ⟨a1, n1, c1, rfl, hn1, _, hs1⟩ := SlE.open h1
  have HN := Lib.hid hn1
  have hnl : n1 ≤ 60 := by omega
  have HBD := Lib.hid hb1
  have HA := Lib.hid hs1
  have HST : Hid (DerIRel w us (.slice none 0 0) (.int .i64 0) w) := Lib.hid ⟨0, rfl, Nat.zero_le _, OwE.nil _ _ _, Below.refl _ _⟩
  clear h1 hn1 hs1 hl1 hb1
  go_enter Tryz.func65, Tryz.ntmps65
  go_wp2
  go_loopw [3, 8] (fun v i wr => DerIRel w us v i wr) (fun _ i _ => n1 - (intOf i).toNat)
  case atStart => exact HST.out
  case round =>
    clear HST
    obtain ⟨k, rfl, hk, hown, hbel⟩ := hrel
    have HBE := Lib.hid hbel
    have HOWN := Lib.hid hown
    obtain ⟨a5, n5, c5, rfl, hn5⟩ := hown.shape
    clear hown hn5
    by_cases hkn : k = n1
    · have he : (derP us).take (k - 1) = derP us := List.take_of_length_le (by rw [derP_len]; have := HN.out; omega)
      rw [he] at HOWN
      have c1 : ¬ ((k : Int) < (n1 : Int)) := by omega
      have HF := Lib.hid (HR.out _ wr HOWN.out.sl HBE.out)
      clear he hbel hkn hk
      go_wp2
      first | go_ret | skip
      exact HF.out
    · have hkl : k < n1 := by have := HN.out; omega
      obtain ⟨p, hp⟩ : ∃ p, us[k]? = some p := ⟨_, List.getElem?_eq_getElem (by rw [← HN.out]; exact hkl)⟩
      have HP := Lib.hid hp
      obtain ⟨b, off, cs, rfl, hb, hcell, hE⟩ := HA.out.at k p hp
      obtain ⟨x1, y1, z1, x2, y2, z2, hcs, hi1, hi2⟩ := hE
      obtain ⟨ng, hng⟩ : ∃ ng, ng = decide (p.num < 0) := ⟨_, rfl⟩
      rw [← hng] at hcs
      have hd0 : wr.cell? ⟨b, off + k * 3, none⟩ = some (.bool ng) := by rw [hbel.cell (p := ⟨b, off + k * 3, none⟩) hb]; exact hcell 0 _ (by rw [hcs]; rfl)
      have hd1 : wr.cell? ⟨b, off + k * 3 + 1, none⟩ = some (.slice x1 y1 z1) := by rw [hbel.cell (p := ⟨b, off + k * 3 + 1, none⟩) hb]; exact hcell 1 _ (by rw [hcs]; rfl)
      have hd2 : wr.cell? ⟨b, off + k * 3 + 2, none⟩ = some (.slice x2 y2 z2) := by rw [hbel.cell (p := ⟨b, off + k * 3 + 2, none⟩) hb]; exact hcell 2 _ (by rw [hcs]; rfl)
      have HPR := Lib.hid ((show IsR w (.agg #[.bool ng, .slice x1 y1 z1, .slice x2 y2 z2]) p from ⟨_, _, by rw [hng], hi1, hi2⟩).later hbel (Nat.le_refl _))
      have hw1 : IntKind.i64.wrap ((k : Int) + 1) = ((k + 1 : Nat) : Int) := by rw [IntWalk.i64_in _ (by omega)]; omega
      have hk0 : (0 : Int) ≤ (k : Int) := by omega
      have hkn2 : (k : Int) < (n1 : Int) := by omega
      obtain ⟨V, hV⟩ : ∃ V, V = wr.alloc (.cells #[.bool ng, .slice x1 y1 z1, .slice x2 y2 z2] 70) := ⟨_, rfl⟩
      have hbV : Below wr.heap.size wr V := by rw [hV]; exact (Below.refl _ _).alloc (Nat.le_refl _) _
      have HBV : Hid (Below w.heap.size w V) := Lib.hid (HBE.out.trans (hbV.mono HBE.out.size))
      have HPV := Lib.hid (HPR.out.later hbV (Nat.le_refl _))
      have HOWV := Lib.hid (HOWN.out.later elemR hbV (Nat.le_refl _))
      have hbx := Box3.made wr (.bool ng) (.slice x1 y1 z1) (.slice x2 y2 z2) 70
      rw [← hV] at hbx
      have HBX := Lib.hid hbx
      obtain ⟨⟨hv0, hv1, hv2⟩, _, _, _⟩ := hbx.cells
      have HV := Lib.hid hV
      have HKL := Lib.hid (show k + 1 ≤ us.length ∧ k + 1 - 1 = k ∧ k ≤ 60 by have := HN.out; omega)
      have HLP := Lib.hid ((HBD.out k p hp).len (B := W64) (by rw [W64_eq]; omega))
      by_cases h0 : k = 0
      · have hk00 : ¬ (0 : Int) < (k : Int) := by omega
        have HREL : Hid (DerIRel w us (.slice a5 n5 c5) (.int .i64 ((k + 1 : Nat) : Int)) V) := Lib.hid ⟨k + 1, rfl, HKL.out.1, by
          have h9 := HOWV.out
          rw [h0] at h9 ⊢
          exact h9, HBV.out⟩
        rw [HV.out] at HREL
        clear hp hcell hcs hi1 hi2 hng hkn hbel hb hkl hV hbV hbx hv0 hv1 hv2 hk h0
        go_wp2
        go_roundw
        case rel => exact HREL.out
        case measure => simp [intOf]; have := HKL.out; have := HN.out; omega
      · obtain ⟨j, hj⟩ : ∃ j, k = j + 1 := ⟨k - 1, by omega⟩
        have hjl : j < us.length - 1 := by have := HN.out; omega
        have HM2 : Hid ((derP us).take k = (derP us).take (k - 1) ++ [p * (((k : Nat) : Int) : Rat)]) := Lib.hid (by
          rw [hj, derP_take us hjl, ← hj, atQ_some hp, Rat.mul_comm p]
          simp only [hj, Nat.add_sub_cancel]
          rfl)
        have HLK : Hid (((derP us).take (k - 1)).length ≤ 100000000) := Lib.hid (by rw [List.length_take]; omega)
        have hkp : (0 : Int) < (k : Int) := by omega
        have hwu : IntKind.u64.wrap (k : Int) = (k : Int) := by rw [IntKind.wrap_u64]; omega
        have HLI := Lib.hid ((int_bd (k := k) (by omega)).len (B := W64) (by rw [W64_eq]; omega))
        have HKW : Hid (k < W64) := Lib.hid (by rw [W64_eq]; omega)
        obtain ⟨y, hy⟩ : ∃ y : Rat, y = (((k : Nat) : Int) : Rat) := ⟨_, rfl⟩
        rw [← hy] at HM2 HLI
        have HY := Lib.hid hy
        clear hp hcell hcs hi1 hi2 hng hkn hbel hb hkl hV hbV hbx hk hj hjl h0 hy
        go_wp2_with fail
        rw [← HV.out]
        go_region_law (first
          | (have hguard := HB7; refine step_pushE elemR (by omega) rfl _ _ 64 rfl 70 56 zeroR Tryz.underlying64 info_ratio rfl zeroR_ints (by omega) w.heap.size ((derP us).take (k - 1)) ((HOWV.out.later elemR HB7.out (Nat.le_refl _)).alloc elemR _) HLK.out (by have := HBV.out.size; have := HB7.out.size; simp; omega) w7.heap.size [.bool m7, .slice a13 n13 c13, .slice a14 n14 c14] (p * y) rfl (elemR.below HER.out ((Below.refl _ _).alloc (Nat.le_refl _) _) (Nat.le_refl _)) (cells_alloc _ #[.bool m7, .slice a13 n13 c13, .slice a14 n14 c14] _ _ rfl) ?_; intro ao n9 c9 w9 hown9 hn9 hgr hb9; have HOW9 : Hid (OwE 3 ER 70 w9 w.heap.size (.slice ao n9 c9) ((derP us).take k)) := Lib.hid (by rw [HM2.out]; exact hown9); have HB9 : Hid (Below w.heap.size w w9) := Lib.hid (((HBV.out.trans (HB7.out.mono HBV.out.size)).alloc (Nat.le_trans HBV.out.size HB7.out.size) _).trans hb9); clear hguard hown9 hn9 hgr hb9)
          | (have hguard := HB6; (try go_simp); go_at_call 105; refine rtimes_any _ _ p y _ (HPV.out.later HB6.out (Nat.le_refl _)) HV6.out (Nat.le_trans HLP.out.1 (by omega)) (Nat.le_trans HLP.out.2 (by omega)) (Nat.le_trans HLI.out.1 (by omega)) (Nat.le_trans HLI.out.2 (by omega)) _ ?_; intro v7 w7 hv7 hb7; obtain ⟨m7, a13, n13, c13, a14, n14, c14, hm7, rfl, _, _⟩ := hv7.parts; have HER := Lib.hid (ER.of hv7); have HB7 : Hid (Below V.heap.size V w7) := Lib.hid (HB6.out.trans (hb7.mono HB6.out.size)); clear hguard hm7 hv7 hb7; dsimp only)
          | (have hguard := HB5; (try go_simp); go_at_call 106; refine ratioOf_any _ ((k : Nat) : Int) _ HV5.out _ ?_; rw [← HY.out]; intro v6 w6 hv6 hb6; obtain ⟨m6, a15, n15, c15, a16, n16, c16, hm6, rfl, _, _⟩ := hv6.parts; have HV6 := Lib.hid hv6; have HB6 : Hid (Below V.heap.size V w6) := Lib.hid (HB5.out.trans (hb6.mono HB5.out.size)); have k6 := HBX.out.later HB6.out (lt_of_block HBX.out); obtain ⟨⟨hY0, hY1, hY2⟩, _, _, _⟩ := k6.cells; clear hguard hm6 hv6 hb6 k6; dsimp only)
          | ((try go_simp); go_at_call 107; refine sint_any k HKW.out _ _ ?_; intro v5 w5 hv5 hb5; obtain ⟨s5, e5, hs5⟩ := hv5; have hv5k : IsI w5 v5 ((k : Nat) : Int) := ⟨s5, e5, hs5⟩; obtain ⟨x5, y5, z5, rfl, _⟩ := hs5.op; obtain ⟨nb5, hnb5⟩ : ∃ nb, nb = decide (((k : Nat) : Int) < 0) := ⟨_, rfl⟩; rw [← hnb5] at e5; subst e5; have HV5 := Lib.hid hv5k; have HB5 : Hid (Below V.heap.size V w5) := Lib.hid (by first | exact hb5 | exact below_unDrew hb5); have k5 := HBX.out.later HB5.out (lt_of_block HBX.out); obtain ⟨⟨hZ0, hZ1, hZ2⟩, _, _, _⟩ := k5.cells; clear hb5 hv5k hs5 hnb5 k5; dsimp only))
        all_goals
          go_wp2
          go_roundw
          case rel => exact ⟨k + 1, by first | rfl | go_num, HKL.out.1, by rw [HKL.out.2.1]; exact HOW9.out, HB9.out⟩
          case measure => simp [intOf]; have := HKL.out; have := HN.out; omega
end Go.Proofs.YtegdcmcfeaohhaaGreatDoor

namespace Go.Proofs.YtegdcmcfeaohhaaGreatDoor
open Go Go.RowKit

set_option maxRecDepth 100000 in
set_option maxHeartbeats 2000000 in
theorem impl_derp (v0 : Value) (L0 : List ByteArray) (w : World) (hE : Env w) (htab : Lib.TabIs Tryz.prog w "internal/strconv.uint64pow10" .u64 Lib.pow10Tab) (h0 : TxL w v0 L0) (hn0 : L0.length ≤ 1048576) (R : Ending → World → Prop)
    (hR : ∀ v' w', OwE 1 ET 9 w' w.heap.size v' (derpL L0) → Below w.heap.size w w' → R (.returned (.tuple #[v', .bool (derpB L0)])) w') :
    Calls Tryz.prog 28 #[v0] w R := by
  have HR := Lib.hid hR; clear hR
  have HE := Lib.hid hE
  have HTAB := Lib.hid htab
  obtain ⟨a0, n0, c0, rfl, h0'⟩ := h0.op
  have H0 := Lib.hid h0'
  have HN := Lib.hid hn0
  clear hE htab h0 h0' hn0
  go_enter Tryz.func28, Tryz.ntmps28
  go_wp2_with fail
  refine readc_any _ L0 _ HE.out H0.out HN.out _ ?_ ?_
  · intro x w2 hp hx hb2
    have HP := Lib.hid hp
    obtain ⟨a2, n2, c2, rfl, hx'⟩ := SlE.op hx
    have HX := Lib.hid hx'
    have HB2 := Lib.hid hb2
    have HK := Lib.hid (polyB_nums hp)
    clear hp hx hx' hb2
    dsimp only
    go_wp2_with fail
    refine derI_any _ (L0.map qOf) _ HX.out (by rw [List.length_map]; have := HK.out.1; omega) (allBd_of HK.out.2) _ ?_
    intro v4 w4 hv4 hb4
    obtain ⟨a4, n4, c4, rfl, hv4'⟩ := SlE.op hv4
    have HV4 := Lib.hid hv4'
    have HB4 := Lib.hid (HB2.out.trans (hb4.mono HB2.out.size))
    clear hv4 hv4' hb4
    dsimp only
    go_wp2_with fail
    refine cof_any _ _ _ (tab_later HTAB.out HB4.out (Nat.le_refl _)) HV4.out _ ?_
    intro v5 w5 hv5 hb5
    obtain ⟨a5, n5, c5, rfl, e5⟩ := hv5.shape
    clear e5
    obtain ⟨bq, hbq⟩ : ∃ bq, bq = cofB (derP (L0.map qOf)) := ⟨_, rfl⟩
    have HF := Lib.hid (HR.out (.slice a5 n5 c5) w5 (by rw [derpL_eq HP.out]; exact hv5.mono HB4.out.size) (HB4.out.trans (hb5.mono HB4.out.size)))
    rw [derpB_eq HP.out] at HF
    rw [← hbq] at HF ⊢
    clear hv5 hb5 hbq
    dsimp only
    go_wp2
    first | go_ret | skip
    exact HF.out
  · intro e w2 hp he hb2
    obtain ⟨t, p, rfl⟩ := he
    have HF := Lib.hid (HR.out (.slice none 0 0) w2 (by rw [derpL_none hp]; exact OwE.nil _ _ _) hb2)
    rw [derpB_none hp] at HF
    clear hp hb2
    dsimp only
    go_wp2
    first | go_ret | skip
    exact HF.out

set_option maxRecDepth 100000 in
set_option maxHeartbeats 4000000 in
theorem spec_derp (v0 : Value) (L0 : List ByteArray) (w : World) (h0 : TxL w v0 L0) (hn0 : L0.length ≤ 1048576) (hs0 : ∀ s ∈ L0, s.size ≤ 1048576) (R : Ending → World → Prop)
    (hR : ∀ v' w', OwE 1 ET 9 w' w.heap.size v' (derpL L0) → Below w.heap.size w w' → R (.returned (.tuple #[v', .bool (derpB L0)])) w') :
    Calls Tryz.prog 27 #[v0] w R := by
  have HR := Lib.hid hR; clear hR
  obtain ⟨a0, n0, c0, rfl, h0'⟩ := h0.op
  have H0 := Lib.hid h0'
  have HN0 := Lib.hid (And.intro hn0 hs0)
  clear h0 h0' hn0 hs0
  go_enter Tryz.func27, Tryz.ntmps27
  go_wp2_with fail
  refine l02is_any _ L0 _ H0.out HN0.out.1 HN0.out.2 _ ?_
  intro w1 hb1
  have HB1 := Lib.hid hb1
  clear hb1
  cases hp0 : polyB L0 with
  | false =>
    have HF := Lib.hid (HR.out (.slice none 0 0) w1 (by rw [derpL_none hp0]; exact OwE.nil _ _ _) HB1.out)
    rw [derpB_none hp0] at HF
    clear hp0
    dsimp only
    go_wp2
    first | go_ret | skip
    exact HF.out
  | true =>
  have HP := Lib.hid hp0
  have HK := Lib.hid (polyB_nums hp0)
  clear hp0
  dsimp only
  go_wp2_with fail
  refine oflist_any _ L0 _ (TxL.later H0.out HB1.out (Nat.le_refl _)) HK.out.2 HN0.out.1 _ ?_
  intro v3 w3 hv3 hb3
  obtain ⟨a3, n3, c3, rfl, e3⟩ := hv3.shape
  have HV3 := Lib.hid hv3.sl
  have HN3 := Lib.hid e3
  have HB3 := Lib.hid (HB1.out.trans (hb3.mono HB1.out.size))
  clear hv3 hb3 e3
  dsimp only
  go_wp2_with fail
  refine derS_any _ (L0.map qOf) _ HV3.out (by rw [List.length_map]; have := HK.out.1; omega) (allBd_of HK.out.2) _ ?_
  intro v6 w6 hv6 hb6
  rw [derP_trim (polyB_ne HP.out)] at hv6
  obtain ⟨a6, n6, c6, rfl, e6⟩ := hv6.shape
  have HV6 := Lib.hid hv6
  have HB6 := Lib.hid (HB3.out.trans (hb6.mono HB3.out.size))
  clear hv6 hb6 e6
  dsimp only
  go_wp2_with fail
  refine put_any _ _ _ HV6.out.sl (DigsQ.of (N := 200) (derP_bd (allBd_of HK.out.2) (by rw [List.length_map]; have := HK.out.1; omega)) (by omega)) (by rw [derP_len, List.length_map]; have := HK.out.1; omega) _ ?_
  intro v7 w7 hv7 hb7
  obtain ⟨a7, n7, c7, rfl, e7⟩ := hv7.shape
  have HF := Lib.hid (HR.out (.slice a7 n7 c7) w7 (by rw [derpL_eq HP.out]; rw [← put_derL HP.out]; exact hv7.mono HB6.out.size) (HB6.out.trans (hb7.mono HB6.out.size)))
  rw [derpB_eq HP.out] at HF
  rw [← put_derB HP.out] at HF
  obtain ⟨bq, hbq⟩ : ∃ bq, bq = putB (derP (L0.map qOf)) := ⟨_, rfl⟩
  rw [← hbq] at HF ⊢
  clear hv7 hb7 e7 hbq
  dsimp only
  go_wp2
  first | go_ret | skip
  exact HF.out
end Go.Proofs.YtegdcmcfeaohhaaGreatDoor

namespace Go.Proofs.YtegdcmcfeaohhaaGreatDoor
open Go Go.RowKit

set_option maxRecDepth 100000 in
set_option maxHeartbeats 4000000 in
theorem law_derivativeOf (v0 : Value) (L0 : List ByteArray) (w : World) (hE : Env w) (htab : Lib.TabIs Tryz.prog w "internal/strconv.uint64pow10" .u64 Lib.pow10Tab) (h0 : TxL w v0 L0) (hn0 : L0.length ≤ maxLen) (hs0 : ∀ s ∈ L0, s.size ≤ maxLen) (R : Ending → World → Prop)
    (hR : ∀ w', Below w.heap.size w w' → R (.returned (.bool true)) w') :
    Calls Tryz.prog 7 #[v0] w R := by
  have HR := Lib.hid hR; clear hR
  have HE := Lib.hid hE; clear hE
  have HTAB := Lib.hid htab; clear htab
  obtain ⟨ao0, no0, co0, rfl, hh0⟩ := h0.op
  have HH0 := Lib.hid hh0
  have HN0 := Lib.hid (And.intro hn0 hs0)
  clear h0 hh0 hn0 hs0
  have HSM := Lib.hid (derp_small L0)
  obtain ⟨bq, hbq⟩ : ∃ bq, bq = (derpB L0) := ⟨_, rfl⟩
  have HBQ := Lib.hid hbq
  have cbq : (bq != bq) = false := by cases bq <;> rfl
  clear hbq
  go_enter Tryz.func7, Tryz.ntmps7
  go_wp2_with fail
  refine szT_any _ L0 _ 1048576 HH0.out HN0.out.1 HN0.out.2 (by omega) _ ?_ ?_
  rotate_left
  · intro ht
    have HF := Lib.hid (HR.out w (Below.refl _ _))
    clear ht
    dsimp only
    go_wp2
    first | go_ret | skip
    exact HF.out
  intro ht0
  obtain ⟨m0, hm0⟩ : ∃ m0 : Nat, m0 = 1048576 - tot L0 := ⟨_, rfl⟩
  have HP0 := Lib.hid (sizes_each (L := L0) (Nat.le_trans ht0 (by omega)))
  rw [← hm0]
  have hz0 : ¬ ((m0 : Int) < 0) := by omega
  have hl0 : m0 ≤ 1048576 := by omega
  have HLM0 := Lib.hid hl0
  clear hm0 ht0 hl0
  dsimp only
  go_wp2_with fail
  refine toT_any _ L0 _ HH0.out HP0.out.1 _ ?_
  intro v w1 hv hb
  obtain ⟨a1, n1, c1, rfl, hv'⟩ := hv.op
  have SC0 := Lib.hid hv'
  clear hv
  have HB1 : Hid (Below w.heap.size w w1) := Lib.hid (hb)
  clear hb hv'
  dsimp only
  go_wp2_with fail
  refine spec_derp _ L0 _ SC0.out HP0.out.1 HP0.out.2 _ ?_
  intro v w2 hv hb
  rw [← HBQ.out]
  obtain ⟨a2, n2, c2, rfl, esh⟩ := hv.shape
  clear esh
  have W0 := Lib.hid hv
  have W0U : Hid (∀ g, (Value.slice a2 n2 c2).ownBlock = some g → g < w2.heap.size) := Lib.hid hv.own_lt
  have HB2 : Hid (Below w.heap.size w w2) := Lib.hid (HB1.out.trans (hb.mono HB1.out.size))
  clear SC0 HB1 hb hv
  dsimp only
  go_wp2_with fail
  refine toT_own _ L0 _ (HH0.out.later HB2.out (Nat.le_refl _)) HP0.out.1 _ ?_
  intro v w3 hv hb
  obtain ⟨a3, n3, c3, rfl, esh⟩ := hv.shape
  clear esh
  have X0 := Lib.hid hv
  have X0U : Hid (∀ g, (Value.slice a3 n3 c3).ownBlock = some g → g < w3.heap.size) := Lib.hid hv.own_lt
  have X0Z : Hid (w2.heap.size ≤ w3.heap.size) := Lib.hid hb.size
  have WX0 : Hid (w2.heap.size ≤ w2.heap.size) := Lib.hid (Nat.le_refl _)
  have WXN0 : Hid (w2.heap.size ≤ w3.heap.size) := Lib.hid (Nat.le_trans WX0.out X0Z.out)
  have BX0 : Hid (w.heap.size ≤ w2.heap.size) := Lib.hid HB2.out.size
  have HB3 : Hid (Below w.heap.size w w3) := Lib.hid (HB2.out.trans (hb.mono HB2.out.size))
  have W0_3 := Lib.hid (W0.out.later elemT hb (Nat.le_refl _))
  clear W0 HB2 hb hv
  dsimp only
  go_wp2_with fail
  refine impl_derp _ L0 _ (HE.out.later HB3.out (Nat.le_refl _)) (tab_later HTAB.out HB3.out (Nat.le_refl _)) X0.out.tx HP0.out.1 _ ?_
  intro v w4 hv hb
  rw [← HBQ.out]
  obtain ⟨a4, n4, c4, rfl, esh⟩ := hv.shape
  clear esh
  have G0 := Lib.hid hv
  have G0U : Hid (∀ g, (Value.slice a4 n4 c4).ownBlock = some g → g < w4.heap.size) := Lib.hid hv.own_lt
  have XG0 : Hid (w3.heap.size ≤ w3.heap.size) := Lib.hid (Nat.le_refl _)
  have WG : Hid (w2.heap.size ≤ w3.heap.size) := Lib.hid WXN0.out
  have BG : Hid (w.heap.size ≤ w3.heap.size) := Lib.hid HB3.out.size
  have GZ : Hid (w3.heap.size ≤ w4.heap.size) := Lib.hid hb.size
  have HB4 : Hid (Below w.heap.size w w4) := Lib.hid (HB3.out.trans (hb.mono HB3.out.size))
  have W0_4 := Lib.hid (W0_3.out.later elemT hb (Nat.le_refl _))
  have X0_4 := Lib.hid (X0.out.later elemT hb (Nat.le_refl _))
  have X0Z_4 : Hid (w2.heap.size ≤ w4.heap.size) := Lib.hid (Nat.le_trans X0Z.out hb.size)
  clear W0_3 X0 X0Z HB3 hb hv
  dsimp only
  go_wp2_with fail
  refine eqT_any _ _ (derpL L0) (derpL L0) _ G0.out.tx W0_4.out.tx (Nat.le_trans HSM.out (by omega)) (Nat.le_trans HSM.out (by omega)) _ ?_
  intro w5 hb
  rw [decide_eq_true rfl]
  have HB5 : Hid (Below w.heap.size w w5) := Lib.hid (HB4.out.trans (hb.mono HB4.out.size))
  have W0_5 := Lib.hid (W0_4.out.later elemT hb (Nat.le_refl _))
  have X0_5 := Lib.hid (X0_4.out.later elemT hb (Nat.le_refl _))
  have X0Z_5 : Hid (w2.heap.size ≤ w5.heap.size) := Lib.hid (Nat.le_trans X0Z_4.out hb.size)
  have G0_5 := Lib.hid (G0.out.later elemT hb (Nat.le_refl _))
  have GZ_5 : Hid (w3.heap.size ≤ w5.heap.size) := Lib.hid (Nat.le_trans GZ.out hb.size)
  clear W0_4 X0_4 X0Z_4 G0 GZ HB4 hb
  dsimp only
  go_wp2_with fail
  refine toT_any _ L0 _ (HH0.out.later HB5.out (Nat.le_refl _)) HP0.out.1 _ ?_
  intro v w6 hv hb
  obtain ⟨a6, n6, c6, rfl, hv'⟩ := hv.op
  have EC0 := Lib.hid hv'
  clear hv
  have HB6 : Hid (Below w.heap.size w w6) := Lib.hid (HB5.out.trans (hb.mono HB5.out.size))
  have W0_6 := Lib.hid (W0_5.out.later elemT hb (Nat.le_refl _))
  have X0_6 := Lib.hid (X0_5.out.later elemT hb (Nat.le_refl _))
  have X0Z_6 : Hid (w2.heap.size ≤ w6.heap.size) := Lib.hid (Nat.le_trans X0Z_5.out hb.size)
  have G0_6 := Lib.hid (G0_5.out.later elemT hb (Nat.le_refl _))
  have GZ_6 : Hid (w3.heap.size ≤ w6.heap.size) := Lib.hid (Nat.le_trans GZ_5.out hb.size)
  clear W0_5 X0_5 X0Z_5 G0_5 GZ_5 HB5 hb hv'
  dsimp only
  go_wp2_with fail
  refine eqT_any _ _ L0 L0 _ X0_6.out.tx EC0.out (Nat.le_trans HP0.out.1 (by omega)) (Nat.le_trans HP0.out.1 (by omega)) _ ?_
  intro w7 hb
  rw [decide_eq_true rfl]
  have HB7 : Hid (Below w.heap.size w w7) := Lib.hid (HB6.out.trans (hb.mono HB6.out.size))
  have W0_7 := Lib.hid (W0_6.out.later elemT hb (Nat.le_refl _))
  have X0_7 := Lib.hid (X0_6.out.later elemT hb (Nat.le_refl _))
  have X0Z_7 : Hid (w2.heap.size ≤ w7.heap.size) := Lib.hid (Nat.le_trans X0Z_6.out hb.size)
  have G0_7 := Lib.hid (G0_6.out.later elemT hb (Nat.le_refl _))
  have GZ_7 : Hid (w3.heap.size ≤ w7.heap.size) := Lib.hid (Nat.le_trans GZ_6.out hb.size)
  clear EC0 W0_6 X0_6 X0Z_6 G0_6 GZ_6 HB6 hb
  dsimp only
  go_wp2_with fail
  refine mark_any _ L0 1 _ _ X0_7.out (Nat.le_trans HP0.out.1 (by omega)) (by omega) _ ?_
  intro w8 hv hb
  obtain ⟨k0, hk0⟩ : ∃ k0, k0 = 1 + L0.length := ⟨_, rfl⟩
  rw [← hk0]
  have d0 : ¬ ((k0 : Int) < 0) := by omega
  have HK0 : Hid (k0 ≤ 1000000000) := Lib.hid (by have := HP0.out.1; omega)
  have HKB0 : Hid (k0 ≤ 1 * 1048576 + 1) := Lib.hid (by have := HP0.out.1; omega)
  have hbel := hb.below (fun g hg => X0_7.out.base g hg) X0Z_7.out
  have W0_8 := Lib.hid (W0_7.out.butO hb (fun g hg hc => by have h1 := W0U.out g hg; have h2 := X0_7.out.base g hc; have h3 := WX0.out; omega))
  have X0Z_8 : Hid (w2.heap.size ≤ w8.heap.size) := Lib.hid (Nat.le_trans X0Z_7.out hb.size)
  have G0_8 := Lib.hid (G0_7.out.butO hb (fun g hg hc => by have h1 := G0_7.out.base g hg; have h2 := X0U.out g hc; have h3 := XG0.out; omega))
  have GZ_8 : Hid (w3.heap.size ≤ w8.heap.size) := Lib.hid (Nat.le_trans GZ_7.out hb.size)
  have HB8 : Hid (Below w.heap.size w w8) := Lib.hid (HB7.out.trans (hbel.mono BX0.out))
  clear W0_7 X0_7 X0Z_7 G0_7 GZ_7 HB7 hv hb hbel hk0
  dsimp only
  go_wp2_with fail
  refine eqT_any _ _ (derpL L0) (derpL L0) _ G0_8.out.tx W0_8.out.tx (Nat.le_trans HSM.out (by omega)) (Nat.le_trans HSM.out (by omega)) _ ?_
  intro w9 hb
  rw [decide_eq_true rfl]
  have HB9 : Hid (Below w.heap.size w w9) := Lib.hid (HB8.out.trans (hb.mono HB8.out.size))
  have W0_9 := Lib.hid (W0_8.out.later elemT hb (Nat.le_refl _))
  have X0Z_9 : Hid (w2.heap.size ≤ w9.heap.size) := Lib.hid (Nat.le_trans X0Z_8.out hb.size)
  have G0_9 := Lib.hid (G0_8.out.later elemT hb (Nat.le_refl _))
  have GZ_9 : Hid (w3.heap.size ≤ w9.heap.size) := Lib.hid (Nat.le_trans GZ_8.out hb.size)
  clear W0_8 X0Z_8 G0_8 GZ_8 HB8 hb
  dsimp only
  go_wp2_with fail
  refine mark_any _ (derpL L0) 1 _ _ G0_9.out (Nat.le_trans HSM.out (by omega)) (by omega) _ ?_
  intro w10 hv hb
  obtain ⟨kg, hkg⟩ : ∃ kg, kg = 1 + (derpL L0).length := ⟨_, rfl⟩
  have HKG := Lib.hid hkg
  rw [← hkg]
  have d1 : ¬ ((kg : Int) < 0) := by omega
  have d2 : ((kg : Int) != (kg : Int)) = false := by simp
  have hbel := hb.below (fun g hg => G0_9.out.base g hg) GZ_9.out
  have GM := Lib.hid hv.tx
  have W0_10 := Lib.hid (W0_9.out.butO hb (fun g hg hc => by have h1 := W0U.out g hg; have h2 := G0_9.out.base g hc; have h3 := WG.out; omega))
  have HB10 : Hid (Below w.heap.size w w10) := Lib.hid (HB9.out.trans (hbel.mono BG.out))
  clear W0_9 X0Z_9 G0_9 GZ_9 HB9 hv hb hbel hkg
  dsimp only
  go_wp2_with fail
  refine held_any _ 1 (derpL L0).length _ GM.out (Nat.le_trans HSM.out (by omega)) (by omega) _ ?_
  intro w11 hb
  rw [← HKG.out]
  have HB11 : Hid (Below w.heap.size w w11) := Lib.hid (HB10.out.trans (hb.mono HB10.out.size))
  have W0_11 := Lib.hid (W0_10.out.later elemT hb (Nat.le_refl _))
  have GM_11 := Lib.hid (TxL.later GM.out hb (Nat.le_refl _))
  clear W0_10 GM HB10 hb
  dsimp only
  go_wp2_with fail
  refine toT_any _ L0 _ (HH0.out.later HB11.out (Nat.le_refl _)) HP0.out.1 _ ?_
  intro v w12 hv hb
  obtain ⟨a12, n12, c12, rfl, hv'⟩ := hv.op
  have HC0 := Lib.hid hv'
  clear hv
  have HB12 : Hid (Below w.heap.size w w12) := Lib.hid (HB11.out.trans (hb.mono HB11.out.size))
  have W0_12 := Lib.hid (W0_11.out.later elemT hb (Nat.le_refl _))
  have GM_12 := Lib.hid (TxL.later GM_11.out hb (Nat.le_refl _))
  clear W0_11 GM_11 HB11 hb hv'
  dsimp only
  go_wp2_with fail
  refine impl_derp _ L0 _ (HE.out.later HB12.out (Nat.le_refl _)) (tab_later HTAB.out HB12.out (Nat.le_refl _)) HC0.out HP0.out.1 _ ?_
  intro v w13 hv hb
  rw [← HBQ.out]
  obtain ⟨a13, n13, c13, rfl, esh⟩ := hv.shape
  clear esh
  have H0 := Lib.hid hv
  have H0U : Hid (∀ g, (Value.slice a13 n13 c13).ownBlock = some g → g < w13.heap.size) := Lib.hid hv.own_lt
  have HB13 : Hid (Below w.heap.size w w13) := Lib.hid (HB12.out.trans (hb.mono HB12.out.size))
  have W0_13 := Lib.hid (W0_12.out.later elemT hb (Nat.le_refl _))
  have GM_13 := Lib.hid (TxL.later GM_12.out hb (Nat.le_refl _))
  clear HC0 W0_12 GM_12 HB12 hb hv
  dsimp only
  go_wp2_with fail
  refine eqT_any _ _ (derpL L0) (derpL L0) _ H0.out.tx W0_13.out.tx (Nat.le_trans HSM.out (by omega)) (Nat.le_trans HSM.out (by omega)) _ ?_
  intro w14 hb
  rw [decide_eq_true rfl]
  have HB14 : Hid (Below w.heap.size w w14) := Lib.hid (HB13.out.trans (hb.mono HB13.out.size))
  have W0_14 := Lib.hid (W0_13.out.later elemT hb (Nat.le_refl _))
  have GM_14 := Lib.hid (TxL.later GM_13.out hb (Nat.le_refl _))
  have H0_14 := Lib.hid (H0.out.later elemT hb (Nat.le_refl _))
  clear W0_13 GM_13 H0 HB13 hb
  dsimp only
  go_wp2_with fail
  refine held_any _ 1 (derpL L0).length _ GM_14.out (Nat.le_trans HSM.out (by omega)) (by omega) _ ?_
  intro w15 hb
  rw [← HKG.out]
  have HB15 : Hid (Below w.heap.size w w15) := Lib.hid (HB14.out.trans (hb.mono HB14.out.size))
  have W0_15 := Lib.hid (W0_14.out.later elemT hb (Nat.le_refl _))
  have GM_15 := Lib.hid (TxL.later GM_14.out hb (Nat.le_refl _))
  have H0_15 := Lib.hid (H0_14.out.later elemT hb (Nat.le_refl _))
  clear W0_14 GM_14 H0_14 HB14 hb
  dsimp only
  go_wp2
  first | go_ret | skip
  exact HR.out _ HB15.out
end Go.Proofs.YtegdcmcfeaohhaaGreatDoor
