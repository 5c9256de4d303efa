/- Contracts of functions of the program and of the model: SpecAddPolys, LawAddPolys. -/
import Derived.Test.YtegdcmcfeaohhaaGreatDoorPk8
set_option linter.all false
set_option linter.unusedVariables false
set_option linter.unusedSimpArgs false
set_option linter.unnecessarySimpa false
set_option linter.deprecated false
namespace Go.Proofs.YtegdcmcfeaohhaaGreatDoor
open Go Go.RowKit

set_option maxRecDepth 100000 in
set_option maxHeartbeats 4000000 in
theorem spec_addp (v0 : Value) (L0 : List ByteArray) (v1 : Value) (L1 : List ByteArray) (w : World) (h0 : TxL w v0 L0) (hn0 : L0.length ≤ 1048576) (hs0 : ∀ s ∈ L0, s.size ≤ 1048576) (h1 : TxL w v1 L1) (hn1 : L1.length ≤ 1048576) (hs1 : ∀ s ∈ L1, s.size ≤ 1048576) (R : Ending → World → Prop)
    (hR : ∀ v' w', OwE 1 ET 9 w' w.heap.size v' (addpL L0 L1) → Below w.heap.size w w' → R (.returned (.tuple #[v', .bool (addpB L0 L1)])) w') :
    Calls Tryz.prog 15 #[v0, v1] w R := by
  have HR := Lib.hid hR; clear hR
  obtain ⟨a0, n0, c0, rfl, h0'⟩ := h0.op
  obtain ⟨a1, n1, c1, rfl, h1'⟩ := h1.op
  have H0 := Lib.hid h0'
  have H1 := Lib.hid h1'
  have HN0 := Lib.hid (And.intro hn0 hs0)
  have HN1 := Lib.hid (And.intro hn1 hs1)
  have HFAIL : Hid (∀ w', (polyB L0 && polyB L1) = false → Below w.heap.size w w' → R (.returned (.tuple #[.slice none 0 0, .bool false])) w') := Lib.hid (fun w' hp hb => by
    have := HR.out (.slice none 0 0) w' (by rw [addpL_none hp]; exact OwE.nil _ _ _) hb
    rw [addpB_none hp] at this; exact this)
  clear h0 h1 h0' h1' hn0 hn1 hs0 hs1
  go_enter Tryz.func15, Tryz.ntmps15
  go_wp2_with fail
  refine l02is_any _ L0 _ H0.out HN0.out.1 HN0.out.2 _ ?_
  intro w1 hb1
  have HB1 := Lib.hid hb1
  clear hb1
  cases hp0 : polyB L0 with
  | false =>
    have HF := Lib.hid (HFAIL.out w1 (by rw [hp0]; rfl) HB1.out)
    clear hp0
    dsimp only
    go_wp2
    first | go_ret | skip
    exact HF.out
  | true =>
  have HP0 := Lib.hid hp0
  clear hp0
  dsimp only
  go_wp2_with fail
  refine l02is_any _ L1 _ (TxL.later H1.out HB1.out (Nat.le_refl _)) HN1.out.1 HN1.out.2 _ ?_
  intro w2 hb2
  have HB2 := Lib.hid (HB1.out.trans (hb2.mono HB1.out.size))
  clear hb2
  cases hp1 : polyB L1 with
  | false =>
    have HF := Lib.hid (HFAIL.out w2 (by rw [hp1, Bool.and_false]) HB2.out)
    clear hp1
    dsimp only
    go_wp2
    first | go_ret | skip
    exact HF.out
  | true =>
  have HPP : Hid ((polyB L0 && polyB L1) = true) := Lib.hid (by rw [HP0.out, hp1]; rfl)
  have HK := Lib.hid (pair_all HPP.out)
  have HK0 := Lib.hid (polyB_nums HP0.out)
  have HK1 := Lib.hid (polyB_nums hp1)
  clear hp1
  dsimp only
  go_wp2_with fail
  refine oflist_any _ L0 _ (TxL.later H0.out HB2.out (Nat.le_refl _)) HK0.out.2 HN0.out.1 _ ?_
  intro v3 w3 hv3 hb3
  obtain ⟨a3, n3, c3, rfl, e3⟩ := hv3.shape
  have HV3 := Lib.hid hv3.sl
  have HB3 := Lib.hid (HB2.out.trans (hb3.mono HB2.out.size))
  clear hv3 hb3 e3
  dsimp only
  go_wp2_with fail
  refine oflist_any _ L1 _ (TxL.later H1.out HB3.out (Nat.le_refl _)) HK1.out.2 HN1.out.1 _ ?_
  intro v4 w4 hv4 hb4
  obtain ⟨a4, n4, c4, rfl, e4⟩ := hv4.shape
  have HV4 := Lib.hid hv4.sl
  have HV34 := Lib.hid (SlE.later elemQ HV3.out hb4 (Nat.le_refl _))
  have HB4 := Lib.hid (HB3.out.trans (hb4.mono HB3.out.size))
  clear hv4 hb4 e4
  dsimp only
  go_wp2_with fail
  refine int_any 1 _ (by omega) (by omega) _ ?_
  intro v5 w5 hv5 hb5
  obtain ⟨m5, a5, n5, c5, a8, n8, c8, rfl, _, _⟩ := hv5.parts
  have HV5 := Lib.hid hv5
  have HV35 := Lib.hid (SlE.later elemQ HV34.out hb5 (Nat.le_refl _))
  have HV45 := Lib.hid (SlE.later elemQ HV4.out hb5 (Nat.le_refl _))
  have HB5 := Lib.hid (HB4.out.trans (hb5.mono HB4.out.size))
  clear hv5 hb5
  dsimp only
  go_wp2_with fail
  refine l2sum_any _ _ _ (L0.map qOf) (L1.map qOf) ((1 : Int) : Rat) _ HV35.out HV45.out HV5.out (by rw [List.length_map]; exact HK.out.1) (by rw [List.length_map]; exact HK.out.2.1) HK.out.2.2.1 HK.out.2.2.2 (Bd.one.mono (by omega)) _ ?_
  intro v6 w6 hv6 hb6
  rw [show (((1 : Int) : Rat)) = 1 from rfl] at hv6
  obtain ⟨a6, n6, c6, rfl, e6⟩ := hv6.shape
  have HV6 := Lib.hid hv6
  have HB6 := Lib.hid (HB5.out.trans (hb6.mono HB5.out.size))
  clear hv6 hb6 e6
  dsimp only
  go_wp2_with fail
  refine put_any _ _ _ HV6.out.sl (DigsQ.of (N := 200000) (fun i q hi => (AllBd.take (sumP_bd HK.out.2.2.1 HK.out.2.2.2 (Bd.one.mono (by omega))) _ i q hi).mono (by omega)) (by omega)) (by rw [trimQ_len]; exact Nat.le_trans (trimN_le _ _) (by rw [sumP_len, List.length_map, List.length_map]; have := HK.out.1; have := HK.out.2.1; omega)) _ ?_
  intro v7 w7 hv7 hb7
  obtain ⟨a7, n7, c7, rfl, e7⟩ := hv7.shape
  have HF := Lib.hid (HR.out (.slice a7 n7 c7) w7 (by rw [addpL_eq HPP.out]; rw [← put_cofL]; exact hv7.mono HB6.out.size) (HB6.out.trans (hb7.mono HB6.out.size)))
  rw [addpB_eq HPP.out, ← put_cofB] at HF
  obtain ⟨bq, hbq⟩ : ∃ bq, bq = putB (trimQ (sumP (L0.map qOf) (L1.map qOf) 1)) := ⟨_, rfl⟩
  rw [← hbq] at HF ⊢
  clear hv7 hb7 e7 hbq
  dsimp only
  go_wp2
  first | go_ret | skip
  exact HF.out
end Go.Proofs.YtegdcmcfeaohhaaGreatDoor

namespace Go.Proofs.YtegdcmcfeaohhaaGreatDoor
open Go Go.RowKit

set_option maxRecDepth 100000 in
set_option maxHeartbeats 4000000 in
theorem law_addPolys (v0 : Value) (L0 : List ByteArray) (v1 : Value) (L1 : List ByteArray) (w : World) (hE : Env w) (htab : Lib.TabIs Tryz.prog w "internal/strconv.uint64pow10" .u64 Lib.pow10Tab) (h0 : TxL w v0 L0) (hn0 : L0.length ≤ maxLen) (hs0 : ∀ s ∈ L0, s.size ≤ maxLen) (h1 : TxL w v1 L1) (hn1 : L1.length ≤ maxLen) (hs1 : ∀ s ∈ L1, s.size ≤ maxLen) (R : Ending → World → Prop)
    (hR : ∀ w', Below w.heap.size w w' → R (.returned (.bool true)) w') :
    Calls Tryz.prog 3 #[v0, v1] w R := by
  have HR := Lib.hid hR; clear hR
  have HE := Lib.hid hE; clear hE
  have HTAB := Lib.hid htab; clear htab
  obtain ⟨ao0, no0, co0, rfl, hh0⟩ := h0.op
  have HH0 := Lib.hid hh0
  have HN0 := Lib.hid (And.intro hn0 hs0)
  obtain ⟨ao1, no1, co1, rfl, hh1⟩ := h1.op
  have HH1 := Lib.hid hh1
  have HN1 := Lib.hid (And.intro hn1 hs1)
  clear h0 hh0 hn0 hs0 h1 hh1 hn1 hs1
  have HSM := Lib.hid (addp_small L0 L1)
  obtain ⟨bq, hbq⟩ : ∃ bq, bq = (addpB L0 L1) := ⟨_, rfl⟩
  have HBQ := Lib.hid hbq
  have cbq : (bq != bq) = false := by cases bq <;> rfl
  clear hbq
  go_enter Tryz.func3, Tryz.ntmps3
  go_wp2_with fail
  refine szT_any _ L0 _ 1048576 HH0.out HN0.out.1 HN0.out.2 (by omega) _ ?_ ?_
  rotate_left
  · intro ht
    have HF := Lib.hid (HR.out w (Below.refl _ _))
    clear ht
    dsimp only
    go_wp2
    first | go_ret | skip
    exact HF.out
  intro ht0
  obtain ⟨m0, hm0⟩ : ∃ m0 : Nat, m0 = 1048576 - tot L0 := ⟨_, rfl⟩
  have HP0 := Lib.hid (sizes_each (L := L0) (Nat.le_trans ht0 (by omega)))
  rw [← hm0]
  have hz0 : ¬ ((m0 : Int) < 0) := by omega
  have hl0 : m0 ≤ 1048576 := by omega
  have HLM0 := Lib.hid hl0
  clear hm0 ht0 hl0
  dsimp only
  go_wp2_with fail
  refine szT_any _ L1 _ m0 HH1.out HN1.out.1 HN1.out.2 HLM0.out _ ?_ ?_
  rotate_left
  · intro ht
    have HF := Lib.hid (HR.out w (Below.refl _ _))
    clear ht
    dsimp only
    go_wp2
    first | go_ret | skip
    exact HF.out
  intro ht1
  obtain ⟨m1, hm1⟩ : ∃ m1 : Nat, m1 = m0 - tot L1 := ⟨_, rfl⟩
  have HP1 := Lib.hid (sizes_each (L := L1) (Nat.le_trans ht1 HLM0.out))
  rw [← hm1]
  have hz1 : ¬ ((m1 : Int) < 0) := by omega
  have hl1 : m1 ≤ 1048576 := by have := HLM0.out; omega
  have HLM1 := Lib.hid hl1
  clear hm1 ht1 hl1
  dsimp only
  go_wp2_with fail
  refine toT_any _ L0 _ HH0.out HP0.out.1 _ ?_
  intro v w1 hv hb
  obtain ⟨a1, n1, c1, rfl, hv'⟩ := hv.op
  have SC0 := Lib.hid hv'
  clear hv
  have HB1 : Hid (Below w.heap.size w w1) := Lib.hid (hb)
  clear hb hv'
  dsimp only
  go_wp2_with fail
  refine toT_any _ L1 _ (HH1.out.later HB1.out (Nat.le_refl _)) HP1.out.1 _ ?_
  intro v w2 hv hb
  obtain ⟨a2, n2, c2, rfl, hv'⟩ := hv.op
  have SC1 := Lib.hid hv'
  clear hv
  have HB2 : Hid (Below w.heap.size w w2) := Lib.hid (HB1.out.trans (hb.mono HB1.out.size))
  have SC0_2 := Lib.hid (TxL.later SC0.out hb (Nat.le_refl _))
  clear SC0 HB1 hb hv'
  dsimp only
  go_wp2_with fail
  refine spec_addp _ L0 _ L1 _ SC0_2.out HP0.out.1 HP0.out.2 SC1.out HP1.out.1 HP1.out.2 _ ?_
  intro v w3 hv hb
  rw [← HBQ.out]
  obtain ⟨a3, n3, c3, rfl, esh⟩ := hv.shape
  clear esh
  have W0 := Lib.hid hv
  have W0U : Hid (∀ g, (Value.slice a3 n3 c3).ownBlock = some g → g < w3.heap.size) := Lib.hid hv.own_lt
  have HB3 : Hid (Below w.heap.size w w3) := Lib.hid (HB2.out.trans (hb.mono HB2.out.size))
  clear SC0_2 SC1 HB2 hb hv
  dsimp only
  go_wp2_with fail
  refine toT_own _ L0 _ (HH0.out.later HB3.out (Nat.le_refl _)) HP0.out.1 _ ?_
  intro v w4 hv hb
  obtain ⟨a4, n4, c4, rfl, esh⟩ := hv.shape
  clear esh
  have X0 := Lib.hid hv
  have X0U : Hid (∀ g, (Value.slice a4 n4 c4).ownBlock = some g → g < w4.heap.size) := Lib.hid hv.own_lt
  have X0Z : Hid (w3.heap.size ≤ w4.heap.size) := Lib.hid hb.size
  have WX0 : Hid (w3.heap.size ≤ w3.heap.size) := Lib.hid (Nat.le_refl _)
  have WXN0 : Hid (w3.heap.size ≤ w4.heap.size) := Lib.hid (Nat.le_trans WX0.out X0Z.out)
  have BX0 : Hid (w.heap.size ≤ w3.heap.size) := Lib.hid HB3.out.size
  have HB4 : Hid (Below w.heap.size w w4) := Lib.hid (HB3.out.trans (hb.mono HB3.out.size))
  have W0_4 := Lib.hid (W0.out.later elemT hb (Nat.le_refl _))
  clear W0 HB3 hb hv
  dsimp only
  go_wp2_with fail
  refine toT_own _ L1 _ (HH1.out.later HB4.out (Nat.le_refl _)) HP1.out.1 _ ?_
  intro v w5 hv hb
  obtain ⟨a5, n5, c5, rfl, esh⟩ := hv.shape
  clear esh
  have X1 := Lib.hid hv
  have X1U : Hid (∀ g, (Value.slice a5 n5 c5).ownBlock = some g → g < w5.heap.size) := Lib.hid hv.own_lt
  have X1Z : Hid (w4.heap.size ≤ w5.heap.size) := Lib.hid hb.size
  have WX1 : Hid (w3.heap.size ≤ w4.heap.size) := Lib.hid (Nat.le_trans WXN0.out (Nat.le_refl _))
  have WXN1 : Hid (w3.heap.size ≤ w5.heap.size) := Lib.hid (Nat.le_trans WX1.out X1Z.out)
  have BX1 : Hid (w.heap.size ≤ w4.heap.size) := Lib.hid HB4.out.size
  have XX01 : Hid (w4.heap.size ≤ w4.heap.size) := Lib.hid (Nat.le_refl _)
  have HB5 : Hid (Below w.heap.size w w5) := Lib.hid (HB4.out.trans (hb.mono HB4.out.size))
  have W0_5 := Lib.hid (W0_4.out.later elemT hb (Nat.le_refl _))
  have X0_5 := Lib.hid (X0.out.later elemT hb (Nat.le_refl _))
  have X0Z_5 : Hid (w3.heap.size ≤ w5.heap.size) := Lib.hid (Nat.le_trans X0Z.out hb.size)
  clear W0_4 X0 X0Z HB4 hb hv
  dsimp only
  go_wp2_with fail
  refine impl_addp _ L0 _ L1 _ (HE.out.later HB5.out (Nat.le_refl _)) (tab_later HTAB.out HB5.out (Nat.le_refl _)) X0_5.out.tx HP0.out.1 X1.out.tx HP1.out.1 _ ?_
  intro v w6 hv hb
  rw [← HBQ.out]
  obtain ⟨a6, n6, c6, rfl, esh⟩ := hv.shape
  clear esh
  have G0 := Lib.hid hv
  have G0U : Hid (∀ g, (Value.slice a6 n6 c6).ownBlock = some g → g < w6.heap.size) := Lib.hid hv.own_lt
  have XG0 : Hid (w4.heap.size ≤ w5.heap.size) := Lib.hid (Nat.le_trans XX01.out X1Z.out)
  have XG1 : Hid (w5.heap.size ≤ w5.heap.size) := Lib.hid (Nat.le_refl _)
  have WG : Hid (w3.heap.size ≤ w5.heap.size) := Lib.hid WXN1.out
  have BG : Hid (w.heap.size ≤ w5.heap.size) := Lib.hid HB5.out.size
  have GZ : Hid (w5.heap.size ≤ w6.heap.size) := Lib.hid hb.size
  have HB6 : Hid (Below w.heap.size w w6) := Lib.hid (HB5.out.trans (hb.mono HB5.out.size))
  have W0_6 := Lib.hid (W0_5.out.later elemT hb (Nat.le_refl _))
  have X0_6 := Lib.hid (X0_5.out.later elemT hb (Nat.le_refl _))
  have X0Z_6 : Hid (w3.heap.size ≤ w6.heap.size) := Lib.hid (Nat.le_trans X0Z_5.out hb.size)
  have X1_6 := Lib.hid (X1.out.later elemT hb (Nat.le_refl _))
  have X1Z_6 : Hid (w4.heap.size ≤ w6.heap.size) := Lib.hid (Nat.le_trans X1Z.out hb.size)
  clear W0_5 X0_5 X0Z_5 X1 X1Z HB5 hb hv
  dsimp only
  go_wp2_with fail
  refine eqT_any _ _ (addpL L0 L1) (addpL L0 L1) _ G0.out.tx W0_6.out.tx (Nat.le_trans HSM.out (by omega)) (Nat.le_trans HSM.out (by omega)) _ ?_
  intro w7 hb
  rw [decide_eq_true rfl]
  have HB7 : Hid (Below w.heap.size w w7) := Lib.hid (HB6.out.trans (hb.mono HB6.out.size))
  have W0_7 := Lib.hid (W0_6.out.later elemT hb (Nat.le_refl _))
  have X0_7 := Lib.hid (X0_6.out.later elemT hb (Nat.le_refl _))
  have X0Z_7 : Hid (w3.heap.size ≤ w7.heap.size) := Lib.hid (Nat.le_trans X0Z_6.out hb.size)
  have X1_7 := Lib.hid (X1_6.out.later elemT hb (Nat.le_refl _))
  have X1Z_7 : Hid (w4.heap.size ≤ w7.heap.size) := Lib.hid (Nat.le_trans X1Z_6.out hb.size)
  have G0_7 := Lib.hid (G0.out.later elemT hb (Nat.le_refl _))
  have GZ_7 : Hid (w5.heap.size ≤ w7.heap.size) := Lib.hid (Nat.le_trans GZ.out hb.size)
  clear W0_6 X0_6 X0Z_6 X1_6 X1Z_6 G0 GZ HB6 hb
  dsimp only
  go_wp2_with fail
  refine toT_any _ L0 _ (HH0.out.later HB7.out (Nat.le_refl _)) HP0.out.1 _ ?_
  intro v w8 hv hb
  obtain ⟨a8, n8, c8, rfl, hv'⟩ := hv.op
  have EC0 := Lib.hid hv'
  clear hv
  have HB8 : Hid (Below w.heap.size w w8) := Lib.hid (HB7.out.trans (hb.mono HB7.out.size))
  have W0_8 := Lib.hid (W0_7.out.later elemT hb (Nat.le_refl _))
  have X0_8 := Lib.hid (X0_7.out.later elemT hb (Nat.le_refl _))
  have X0Z_8 : Hid (w3.heap.size ≤ w8.heap.size) := Lib.hid (Nat.le_trans X0Z_7.out hb.size)
  have X1_8 := Lib.hid (X1_7.out.later elemT hb (Nat.le_refl _))
  have X1Z_8 : Hid (w4.heap.size ≤ w8.heap.size) := Lib.hid (Nat.le_trans X1Z_7.out hb.size)
  have G0_8 := Lib.hid (G0_7.out.later elemT hb (Nat.le_refl _))
  have GZ_8 : Hid (w5.heap.size ≤ w8.heap.size) := Lib.hid (Nat.le_trans GZ_7.out hb.size)
  clear W0_7 X0_7 X0Z_7 X1_7 X1Z_7 G0_7 GZ_7 HB7 hb hv'
  dsimp only
  go_wp2_with fail
  refine eqT_any _ _ L0 L0 _ X0_8.out.tx EC0.out (Nat.le_trans HP0.out.1 (by omega)) (Nat.le_trans HP0.out.1 (by omega)) _ ?_
  intro w9 hb
  rw [decide_eq_true rfl]
  have HB9 : Hid (Below w.heap.size w w9) := Lib.hid (HB8.out.trans (hb.mono HB8.out.size))
  have W0_9 := Lib.hid (W0_8.out.later elemT hb (Nat.le_refl _))
  have X0_9 := Lib.hid (X0_8.out.later elemT hb (Nat.le_refl _))
  have X0Z_9 : Hid (w3.heap.size ≤ w9.heap.size) := Lib.hid (Nat.le_trans X0Z_8.out hb.size)
  have X1_9 := Lib.hid (X1_8.out.later elemT hb (Nat.le_refl _))
  have X1Z_9 : Hid (w4.heap.size ≤ w9.heap.size) := Lib.hid (Nat.le_trans X1Z_8.out hb.size)
  have G0_9 := Lib.hid (G0_8.out.later elemT hb (Nat.le_refl _))
  have GZ_9 : Hid (w5.heap.size ≤ w9.heap.size) := Lib.hid (Nat.le_trans GZ_8.out hb.size)
  clear EC0 W0_8 X0_8 X0Z_8 X1_8 X1Z_8 G0_8 GZ_8 HB8 hb
  dsimp only
  go_wp2_with fail
  refine toT_any _ L1 _ (HH1.out.later HB9.out (Nat.le_refl _)) HP1.out.1 _ ?_
  intro v w10 hv hb
  obtain ⟨a10, n10, c10, rfl, hv'⟩ := hv.op
  have EC1 := Lib.hid hv'
  clear hv
  have HB10 : Hid (Below w.heap.size w w10) := Lib.hid (HB9.out.trans (hb.mono HB9.out.size))
  have W0_10 := Lib.hid (W0_9.out.later elemT hb (Nat.le_refl _))
  have X0_10 := Lib.hid (X0_9.out.later elemT hb (Nat.le_refl _))
  have X0Z_10 : Hid (w3.heap.size ≤ w10.heap.size) := Lib.hid (Nat.le_trans X0Z_9.out hb.size)
  have X1_10 := Lib.hid (X1_9.out.later elemT hb (Nat.le_refl _))
  have X1Z_10 : Hid (w4.heap.size ≤ w10.heap.size) := Lib.hid (Nat.le_trans X1Z_9.out hb.size)
  have G0_10 := Lib.hid (G0_9.out.later elemT hb (Nat.le_refl _))
  have GZ_10 : Hid (w5.heap.size ≤ w10.heap.size) := Lib.hid (Nat.le_trans GZ_9.out hb.size)
  clear W0_9 X0_9 X0Z_9 X1_9 X1Z_9 G0_9 GZ_9 HB9 hb hv'
  dsimp only
  go_wp2_with fail
  refine eqT_any _ _ L1 L1 _ X1_10.out.tx EC1.out (Nat.le_trans HP1.out.1 (by omega)) (Nat.le_trans HP1.out.1 (by omega)) _ ?_
  intro w11 hb
  rw [decide_eq_true rfl]
  have HB11 : Hid (Below w.heap.size w w11) := Lib.hid (HB10.out.trans (hb.mono HB10.out.size))
  have W0_11 := Lib.hid (W0_10.out.later elemT hb (Nat.le_refl _))
  have X0_11 := Lib.hid (X0_10.out.later elemT hb (Nat.le_refl _))
  have X0Z_11 : Hid (w3.heap.size ≤ w11.heap.size) := Lib.hid (Nat.le_trans X0Z_10.out hb.size)
  have X1_11 := Lib.hid (X1_10.out.later elemT hb (Nat.le_refl _))
  have X1Z_11 : Hid (w4.heap.size ≤ w11.heap.size) := Lib.hid (Nat.le_trans X1Z_10.out hb.size)
  have G0_11 := Lib.hid (G0_10.out.later elemT hb (Nat.le_refl _))
  have GZ_11 : Hid (w5.heap.size ≤ w11.heap.size) := Lib.hid (Nat.le_trans GZ_10.out hb.size)
  clear EC1 W0_10 X0_10 X0Z_10 X1_10 X1Z_10 G0_10 GZ_10 HB10 hb
  dsimp only
  go_wp2_with fail
  refine mark_any _ L0 1 _ _ X0_11.out (Nat.le_trans HP0.out.1 (by omega)) (by omega) _ ?_
  intro w12 hv hb
  obtain ⟨k0, hk0⟩ : ∃ k0, k0 = 1 + L0.length := ⟨_, rfl⟩
  rw [← hk0]
  have HK0 : Hid (k0 ≤ 1000000000) := Lib.hid (by have := HP0.out.1; omega)
  have HKB0 : Hid (k0 ≤ 1 * 1048576 + 1) := Lib.hid (by have := HP0.out.1; omega)
  have hbel := hb.below (fun g hg => X0_11.out.base g hg) X0Z_11.out
  have W0_12 := Lib.hid (W0_11.out.butO hb (fun g hg hc => by have h1 := W0U.out g hg; have h2 := X0_11.out.base g hc; have h3 := WX0.out; omega))
  have X0Z_12 : Hid (w3.heap.size ≤ w12.heap.size) := Lib.hid (Nat.le_trans X0Z_11.out hb.size)
  have X1_12 := Lib.hid (X1_11.out.butO hb (fun g hg hc => by have h1 := X1_11.out.base g hg; have h2 := X0U.out g hc; have h3 := XX01.out; omega))
  have X1Z_12 : Hid (w4.heap.size ≤ w12.heap.size) := Lib.hid (Nat.le_trans X1Z_11.out hb.size)
  have G0_12 := Lib.hid (G0_11.out.butO hb (fun g hg hc => by have h1 := G0_11.out.base g hg; have h2 := X0U.out g hc; have h3 := XG0.out; omega))
  have GZ_12 : Hid (w5.heap.size ≤ w12.heap.size) := Lib.hid (Nat.le_trans GZ_11.out hb.size)
  have HB12 : Hid (Below w.heap.size w w12) := Lib.hid (HB11.out.trans (hbel.mono BX0.out))
  clear W0_11 X0_11 X0Z_11 X1_11 X1Z_11 G0_11 GZ_11 HB11 hv hb hbel hk0
  dsimp only
  go_wp2_with fail
  refine mark_any _ L1 k0 _ _ X1_12.out (Nat.le_trans HP1.out.1 (by omega)) HK0.out _ ?_
  intro w13 hv hb
  obtain ⟨k1, hk1⟩ : ∃ k1, k1 = k0 + L1.length := ⟨_, rfl⟩
  rw [← hk1]
  have d0 : ¬ ((k1 : Int) < 0) := by omega
  have HK1 : Hid (k1 ≤ 1000000000) := Lib.hid (by have := HP1.out.1; have := HKB0.out; omega)
  have HKB1 : Hid (k1 ≤ 2 * 1048576 + 1) := Lib.hid (by have := HP1.out.1; have := HKB0.out; omega)
  have hbel := hb.below (fun g hg => X1_12.out.base g hg) X1Z_12.out
  have W0_13 := Lib.hid (W0_12.out.butO hb (fun g hg hc => by have h1 := W0U.out g hg; have h2 := X1_12.out.base g hc; have h3 := WX1.out; omega))
  have X0Z_13 : Hid (w3.heap.size ≤ w13.heap.size) := Lib.hid (Nat.le_trans X0Z_12.out hb.size)
  have X1Z_13 : Hid (w4.heap.size ≤ w13.heap.size) := Lib.hid (Nat.le_trans X1Z_12.out hb.size)
  have G0_13 := Lib.hid (G0_12.out.butO hb (fun g hg hc => by have h1 := G0_12.out.base g hg; have h2 := X1U.out g hc; have h3 := XG1.out; omega))
  have GZ_13 : Hid (w5.heap.size ≤ w13.heap.size) := Lib.hid (Nat.le_trans GZ_12.out hb.size)
  have HB13 : Hid (Below w.heap.size w w13) := Lib.hid (HB12.out.trans (hbel.mono BX1.out))
  clear W0_12 X0Z_12 X1_12 X1Z_12 G0_12 GZ_12 HB12 hv hb hbel hk1
  dsimp only
  go_wp2_with fail
  refine eqT_any _ _ (addpL L0 L1) (addpL L0 L1) _ G0_13.out.tx W0_13.out.tx (Nat.le_trans HSM.out (by omega)) (Nat.le_trans HSM.out (by omega)) _ ?_
  intro w14 hb
  rw [decide_eq_true rfl]
  have HB14 : Hid (Below w.heap.size w w14) := Lib.hid (HB13.out.trans (hb.mono HB13.out.size))
  have W0_14 := Lib.hid (W0_13.out.later elemT hb (Nat.le_refl _))
  have X0Z_14 : Hid (w3.heap.size ≤ w14.heap.size) := Lib.hid (Nat.le_trans X0Z_13.out hb.size)
  have X1Z_14 : Hid (w4.heap.size ≤ w14.heap.size) := Lib.hid (Nat.le_trans X1Z_13.out hb.size)
  have G0_14 := Lib.hid (G0_13.out.later elemT hb (Nat.le_refl _))
  have GZ_14 : Hid (w5.heap.size ≤ w14.heap.size) := Lib.hid (Nat.le_trans GZ_13.out hb.size)
  clear W0_13 X0Z_13 X1Z_13 G0_13 GZ_13 HB13 hb
  dsimp only
  go_wp2_with fail
  refine mark_any _ (addpL L0 L1) 1 _ _ G0_14.out (Nat.le_trans HSM.out (by omega)) (by omega) _ ?_
  intro w15 hv hb
  obtain ⟨kg, hkg⟩ : ∃ kg, kg = 1 + (addpL L0 L1).length := ⟨_, rfl⟩
  have HKG := Lib.hid hkg
  rw [← hkg]
  have d1 : ¬ ((kg : Int) < 0) := by omega
  have d2 : ((kg : Int) != (kg : Int)) = false := by simp
  have hbel := hb.below (fun g hg => G0_14.out.base g hg) GZ_14.out
  have GM := Lib.hid hv.tx
  have W0_15 := Lib.hid (W0_14.out.butO hb (fun g hg hc => by have h1 := W0U.out g hg; have h2 := G0_14.out.base g hc; have h3 := WG.out; omega))
  have HB15 : Hid (Below w.heap.size w w15) := Lib.hid (HB14.out.trans (hbel.mono BG.out))
  clear W0_14 X0Z_14 X1Z_14 G0_14 GZ_14 HB14 hv hb hbel hkg
  dsimp only
  go_wp2_with fail
  refine held_any _ 1 (addpL L0 L1).length _ GM.out (Nat.le_trans HSM.out (by omega)) (by omega) _ ?_
  intro w16 hb
  rw [← HKG.out]
  have HB16 : Hid (Below w.heap.size w w16) := Lib.hid (HB15.out.trans (hb.mono HB15.out.size))
  have W0_16 := Lib.hid (W0_15.out.later elemT hb (Nat.le_refl _))
  have GM_16 := Lib.hid (TxL.later GM.out hb (Nat.le_refl _))
  clear W0_15 GM HB15 hb
  dsimp only
  go_wp2_with fail
  refine toT_any _ L0 _ (HH0.out.later HB16.out (Nat.le_refl _)) HP0.out.1 _ ?_
  intro v w17 hv hb
  obtain ⟨a17, n17, c17, rfl, hv'⟩ := hv.op
  have HC0 := Lib.hid hv'
  clear hv
  have HB17 : Hid (Below w.heap.size w w17) := Lib.hid (HB16.out.trans (hb.mono HB16.out.size))
  have W0_17 := Lib.hid (W0_16.out.later elemT hb (Nat.le_refl _))
  have GM_17 := Lib.hid (TxL.later GM_16.out hb (Nat.le_refl _))
  clear W0_16 GM_16 HB16 hb hv'
  dsimp only
  go_wp2_with fail
  refine toT_any _ L1 _ (HH1.out.later HB17.out (Nat.le_refl _)) HP1.out.1 _ ?_
  intro v w18 hv hb
  obtain ⟨a18, n18, c18, rfl, hv'⟩ := hv.op
  have HC1 := Lib.hid hv'
  clear hv
  have HB18 : Hid (Below w.heap.size w w18) := Lib.hid (HB17.out.trans (hb.mono HB17.out.size))
  have W0_18 := Lib.hid (W0_17.out.later elemT hb (Nat.le_refl _))
  have GM_18 := Lib.hid (TxL.later GM_17.out hb (Nat.le_refl _))
  have HC0_18 := Lib.hid (TxL.later HC0.out hb (Nat.le_refl _))
  clear W0_17 GM_17 HC0 HB17 hb hv'
  dsimp only
  go_wp2_with fail
  refine impl_addp _ L0 _ L1 _ (HE.out.later HB18.out (Nat.le_refl _)) (tab_later HTAB.out HB18.out (Nat.le_refl _)) HC0_18.out HP0.out.1 HC1.out HP1.out.1 _ ?_
  intro v w19 hv hb
  rw [← HBQ.out]
  obtain ⟨a19, n19, c19, rfl, esh⟩ := hv.shape
  clear esh
  have H0 := Lib.hid hv
  have H0U : Hid (∀ g, (Value.slice a19 n19 c19).ownBlock = some g → g < w19.heap.size) := Lib.hid hv.own_lt
  have HB19 : Hid (Below w.heap.size w w19) := Lib.hid (HB18.out.trans (hb.mono HB18.out.size))
  have W0_19 := Lib.hid (W0_18.out.later elemT hb (Nat.le_refl _))
  have GM_19 := Lib.hid (TxL.later GM_18.out hb (Nat.le_refl _))
  clear HC0_18 HC1 W0_18 GM_18 HB18 hb hv
  dsimp only
  go_wp2_with fail
  refine eqT_any _ _ (addpL L0 L1) (addpL L0 L1) _ H0.out.tx W0_19.out.tx (Nat.le_trans HSM.out (by omega)) (Nat.le_trans HSM.out (by omega)) _ ?_
  intro w20 hb
  rw [decide_eq_true rfl]
  have HB20 : Hid (Below w.heap.size w w20) := Lib.hid (HB19.out.trans (hb.mono HB19.out.size))
  have W0_20 := Lib.hid (W0_19.out.later elemT hb (Nat.le_refl _))
  have GM_20 := Lib.hid (TxL.later GM_19.out hb (Nat.le_refl _))
  have H0_20 := Lib.hid (H0.out.later elemT hb (Nat.le_refl _))
  clear W0_19 GM_19 H0 HB19 hb
  dsimp only
  go_wp2_with fail
  refine held_any _ 1 (addpL L0 L1).length _ GM_20.out (Nat.le_trans HSM.out (by omega)) (by omega) _ ?_
  intro w21 hb
  rw [← HKG.out]
  have HB21 : Hid (Below w.heap.size w w21) := Lib.hid (HB20.out.trans (hb.mono HB20.out.size))
  have W0_21 := Lib.hid (W0_20.out.later elemT hb (Nat.le_refl _))
  have GM_21 := Lib.hid (TxL.later GM_20.out hb (Nat.le_refl _))
  have H0_21 := Lib.hid (H0_20.out.later elemT hb (Nat.le_refl _))
  clear W0_20 GM_20 H0_20 HB20 hb
  dsimp only
  go_wp2
  first | go_ret | skip
  exact HR.out _ HB21.out
end Go.Proofs.YtegdcmcfeaohhaaGreatDoor
