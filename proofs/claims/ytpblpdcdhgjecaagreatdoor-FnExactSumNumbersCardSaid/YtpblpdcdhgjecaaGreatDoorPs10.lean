/- Contracts of functions of the program and of the model: LawSum. -/
import Derived.Test.YtpblpdcdhgjecaaGreatDoorPd9
set_option linter.all false
set_option linter.unusedVariables false
set_option linter.unusedSimpArgs false
set_option linter.unnecessarySimpa false
set_option linter.deprecated false
namespace Go.Proofs.YtpblpdcdhgjecaaGreatDoor
open Go Go.RowKit

set_option maxRecDepth 100000 in
set_option maxHeartbeats 1000000 in
theorem law_sumNumbers (v : Value) (L : List ByteArray) (w : World) (hE : Env w) (htab : Lib.TabIs Tryz.prog w "internal/strconv.uint64pow10" .u64 Lib.pow10Tab) (h : TxL w v L) (hn : L.length ≤ maxLen) (hs : ∀ s ∈ L, s.size ≤ maxLen) (R : Ending → World → Prop)
    (hR : ∀ w', Below w.heap.size w w' → R (.returned (.bool true)) w') :
    Calls Tryz.prog 5 #[v] w R := by
  have HR := Lib.hid hR; clear hR
  have HE := Lib.hid hE; clear hE
  have HTAB := Lib.hid htab; clear htab
  obtain ⟨ao, n, cap, rfl, hh⟩ := h.op
  have HH := Lib.hid hh
  have HN := Lib.hid hn
  have HS := Lib.hid hs
  clear h hh hn hs
  go_enter Tryz.func5, Tryz.ntmps5
  go_wp2_with fail
  refine szT_any _ L _ 1048576 HH.out HN.out HS.out (by omega) _ ?_ ?_
  · intro ht
    obtain ⟨h1, h2⟩ := sizes_each ht
    have H1 := Lib.hid h1
    have H2 := Lib.hid h2
    have H9 := Lib.hid (show L.length ≤ 281474976710656 by omega)
    obtain ⟨m, hm⟩ : ∃ m : Nat, m = 1048576 - tot L := ⟨_, rfl⟩
    rw [← hm]
    have hm0 : ¬ ((m : Int) < 0) := by omega
    clear hm ht h1 h2
    dsimp only
    go_wp2_with fail
    refine toT_any _ L _ HH.out H1.out _ ?_
    intro v1 w1 hv1 hb1
    obtain ⟨a1, n1, c1, rfl, hv1'⟩ := hv1.op
    have HV1 := Lib.hid hv1'
    have HB1 := Lib.hid hb1
    clear hb1 hv1 hv1'
    dsimp only
    go_wp2_with fail
    refine spec_sum _ L _ HV1.out H1.out H2.out _ ?_
    intro w2 hb2
    obtain ⟨x, hx⟩ : ∃ x, x = outB (sumO L) := ⟨_, rfl⟩
    obtain ⟨S, hS⟩ : ∃ S, S = outS (sumO L) := ⟨_, rfl⟩
    have HX := Lib.hid hx
    have HSS := Lib.hid hS
    rw [← hx, ← hS]
    have HB2 := Lib.hid (HB1.out.trans (hb2.mono HB1.out.size))
    clear hb2 hx hS
    dsimp only
    go_wp2_with fail
    refine toT_any _ L _ (HH.out.later HB2.out (Nat.le_refl _)) H1.out _ ?_
    intro v3 w3 hv3 hb3
    obtain ⟨a3, n3, c3, rfl, hv3'⟩ := hv3.op
    have HV3 := Lib.hid hv3'
    have HB3 := Lib.hid (HB2.out.trans (hb3.mono HB2.out.size))
    clear hb3 hv3 hv3'
    dsimp only
    go_wp2_with fail
    refine impl_sum _ L _ (HE.out.later HB3.out (Nat.le_refl _)) (tab_later HTAB.out HB3.out (Nat.le_refl _)) HV3.out H1.out _ ?_
    intro w4 hb4
    have HV4 := Lib.hid (HV3.out.later hb4 (Nat.le_refl _))
    have HB4 := Lib.hid (HB3.out.trans (hb4.mono HB3.out.size))
    rw [← HX.out, ← HSS.out]
    clear hb4
    have hxx : (x != x) = false := by cases x <;> rfl
    dsimp only
    go_wp2_with fail
    refine toT_any _ L _ (HH.out.later HB4.out (Nat.le_refl _)) H1.out _ ?_
    intro v5 w5 hv5 hb5
    obtain ⟨a5, n5, c5, rfl, hv5'⟩ := hv5.op
    have HV5 := Lib.hid hv5'
    have HV4b := Lib.hid (HV4.out.later hb5 (Nat.le_refl _))
    have HB5 := Lib.hid (HB4.out.trans (hb5.mono HB4.out.size))
    clear hb5 hv5 hv5'
    dsimp only
    go_wp2_with fail
    refine eqT_any _ _ L L _ HV4b.out HV5.out H9.out H9.out _ ?_
    intro w6 hb6
    rw [decide_eq_true rfl]
    have HB6 := Lib.hid (HB5.out.trans (hb6.mono HB5.out.size))
    clear hb6
    dsimp only
    go_wp2
    first | go_ret | skip
    exact HR.out _ HB6.out
  · intro _
    dsimp only
    go_wp2
    first | go_ret | skip
    exact HR.out _ (Below.refl _ _)
end Go.Proofs.YtpblpdcdhgjecaaGreatDoor
