/- Contracts of functions of the program and of the model: DigB, Of, OfDig, OfW, Is, ReadD, ReadB, RatioK, ReadF, As, AsM, AsC, ReadR, ReadS, ReadT, ReadU, ReadN. -/
import Derived.Test.YtdkjcdfkoahfkaaGreatDoorPk5
import Derived.Laws.RangeAny
import Derived.Lib.Strings
import Derived.Deep.DeepCutAuto
import Derived.WalkKit
import Derived.LaidEql
import Derived.Stop.Asserts
import Derived.RowKitTokens
set_option linter.all false
set_option linter.unusedVariables false
set_option linter.unusedSimpArgs false
set_option linter.unnecessarySimpa false
set_option linter.deprecated false
namespace Go.Proofs.YtdkjcdfkoahfkaaGreatDoor
open Go Go.RowKit

theorem all_take_succ (L : List UInt8) (k : Nat) (h : k < L.length) : (L.take (k + 1)).all isDig = ((L.take k).all isDig && isDig L[k]) := by
  rw [List.take_succ_eq_append_getElem h, List.all_append]; simp

theorem not_all_at (L : List UInt8) (k : Nat) (h : k < L.length) (hd : isDig L[k] = false) : L.all isDig = false := by
  rw [List.all_eq_false]
  exact ⟨L[k], List.getElem_mem h, by rw [hd]; simp⟩

theorem digB_not {L : List UInt8} (h : L.all isDig = false) : digB L = false := by unfold digB; rw [h]; rfl

theorem digB_all {L : List UInt8} (h : L.all isDig = true) : digB L = (decide (1 ≤ L.length) && (decide (L.length ≤ 60) && (decide (L.head? ≠ some 48) || decide (L.length = 1)))) := by unfold digB; rw [h]; rfl

theorem head_at (L : List UInt8) (h : 0 < L.length) : L.head? = some L[0] := by
  cases L with
  | nil => simp at h
  | cons c l => rfl

set_option maxRecDepth 100000 in
theorem digB_any (s : ByteArray) (w : World) (hs : s.size ≤ 1000000000) (R : Ending → World → Prop) (hR : R (.returned (.bool (digB s.data.toList))) w) :
    Calls Tryz.prog 179 #[.string s] w R := by
  have HR := Lib.hid hR; clear hR
  obtain ⟨n, hn⟩ : ∃ n, n = s.size := ⟨_, rfl⟩
  have HL := Lib.hid (size_list s)
  go_enter Tryz.func179, Tryz.ntmps179
  go_wp2
  go_loop [3] (fun i => ∃ k : Nat, i = .int .i64 k ∧ k ≤ s.size ∧ (s.data.toList.take k).all isDig = true) (fun i => s.size - (intOf i).toNat)
  case atStart => exact ⟨0, rfl, Nat.zero_le _, rfl⟩
  case round =>
    obtain ⟨k, rfl, hk, hall⟩ := hrel
    have HALL := Lib.hid hall
    clear hall
    by_cases hlt : k < s.size
    · have h2 : k < s.data.toList.length := by rw [HL.out]; exact hlt
      have hb := byte_at s k hlt h2
      by_cases hlo : (s[k].toNat : Int) < 48
      · have hd : digB s.data.toList = false := digB_not (not_all_at _ k h2 (by rw [← hb]; simp [isDig]; omega))
        rw [hd] at HR
        clear hb hd
        go_wp2
        first | go_ret | skip
        exact HR.out
      · by_cases hhi : (57 : Int) < (s[k].toNat : Int)
        · have hd : digB s.data.toList = false := digB_not (not_all_at _ k h2 (by rw [← hb]; simp [isDig]; omega))
          rw [hd] at HR
          clear hb hd
          go_wp2
          first | go_ret | skip
          exact HR.out
        · have HB := Lib.hid hb
          clear hb
          go_wp2
          go_round
          case rel => exact ⟨k + 1, by go_num, by omega, by rw [all_take_succ _ _ h2, HALL.out, ← HB.out]; simp [isDig]; omega⟩
          case measure => simp [intOf]; omega
    · obtain rfl : k = s.size := by omega
      have hd : digB s.data.toList = _ := digB_all (by have := HALL.out; rwa [← HL.out, List.take_length] at this)
      rw [HL.out] at hd
      by_cases h1 : 1 ≤ s.size
      · by_cases h60 : s.size ≤ 60
        · have h0 : 0 < s.data.toList.length := by rw [HL.out]; omega
          have hb := byte_at s 0 (by omega) h0
          rw [head_at _ h0, ← hb, decide_eq_true h1, decide_eq_true h60, Bool.true_and, Bool.true_and] at hd
          by_cases h48 : s[0] = 48
          · have e1 : ((s[0].toNat : Int) != 48) = false := by rw [h48]; rfl
            have e2 : decide (some s[0] ≠ some 48) = false := by rw [h48]; rfl
            rw [e2, Bool.false_or] at hd
            by_cases hone : s.size = 1
            · have e3 : ((s.size : Int) == 1) = true := by rw [hone]; rfl
              rw [decide_eq_true hone] at hd
              rw [hd] at HR
              clear hd hb e2 h48 hone
              go_wp2
              first | go_ret | skip
              exact HR.out
            · have e3 : ((s.size : Int) == 1) = false := by simp; omega
              rw [decide_eq_false hone] at hd
              rw [hd] at HR
              clear hd hb e2 h48 hone
              go_wp2
              first | go_ret | skip
              exact HR.out
          · have h48' : s[0].toNat ≠ 48 := fun h => h48 (UInt8.toNat_inj.1 h)
            have e1 : ((s[0].toNat : Int) != 48) = true := by simp; omega
            have e2 : decide (some s[0] ≠ some 48) = true := by simp [h48]
            rw [e2, Bool.true_or] at hd
            rw [hd] at HR
            clear hd hb e2 h48 h48'
            go_wp2
            first | go_ret | skip
            exact HR.out
        · have e3 : decide ((s.size : Int) ≤ 60) = false := by simp; omega
          rw [decide_eq_true h1, decide_eq_false h60, Bool.true_and, Bool.false_and] at hd
          rw [hd] at HR
          clear hd
          go_wp2
          first | go_ret | skip
          exact HR.out
      · rw [decide_eq_false h1, Bool.false_and] at hd
        rw [hd] at HR
        clear hd
        go_wp2
        first | go_ret | skip
        exact HR.out
end Go.Proofs.YtdkjcdfkoahfkaaGreatDoor

namespace Go.Proofs.YtdkjcdfkoahfkaaGreatDoor
open Go Go.RowKit

theorem ext_list (s : ByteArray) (i j : Nat) : (s.extract i j).data.toList = (s.data.toList.take j).drop i := by
  rw [ByteArray.data_extract, Array.toList_extract, List.extract_eq_take_drop, List.drop_take]

theorem ext_size (s : ByteArray) (i j : Nat) (hj : j ≤ s.size) : (s.extract i j).size = j - i := by
  rw [← size_list, ext_list, List.length_drop, List.length_take, size_list, Nat.min_eq_left hj]

/-- behind the sign -/
theorem sign_rest {s : ByteArray} {D r : List UInt8} (h : s.data.toList = 45 :: (D ++ r)) : (s.extract 1 s.size).data.toList = D ++ r := by
  rw [ext_list, h, ← size_list, h, List.take_of_length_le (Nat.le_refl _)]; rfl

theorem part_D {t : ByteArray} {D r : List UInt8} (h : t.data.toList = D ++ r) : (t.extract 0 D.length).data.toList = D := by
  rw [ext_list, h, List.drop_zero, List.take_left']; rfl

theorem part_E {t : ByteArray} {D E : List UInt8} (h : t.data.toList = D ++ 47 :: E) : (t.extract (D.length + 1) t.size).data.toList = E := by
  rw [ext_list, ← size_list, h, List.take_of_length_le (Nat.le_refl _), List.drop_append, List.drop_eq_nil_of_le (by omega)]
  simp

theorem at_D {t : ByteArray} {D r : List UInt8} (h : t.data.toList = D ++ r) (k : Nat) (hk : k < D.length) (hkt : k < t.size) : t[k] = D[k] := by
  rw [byte_at t k hkt (by rw [h, List.length_append]; omega)]
  simp only [h, List.getElem_append_left hk]

theorem at_slash {t : ByteArray} {D E : List UInt8} (h : t.data.toList = D ++ 47 :: E) (hkt : D.length < t.size) : t[D.length] = 47 := by
  rw [byte_at t _ hkt (by rw [h, List.length_append]; simp)]
  simp only [h, List.getElem_append_right (Nat.le_refl _)]
  simp

theorem rdec_len (L : List UInt8) (h : L.all isDig = true) (N : Nat) (hN : L.length ≤ N) : (dig 10000 (rdec L)).length ≤ N :=
  dig_length_ten (by omega) (Nat.lt_of_lt_of_le (rdec_lt L h) (Nat.pow_le_pow_right (by omega) hN))

theorem sgn_cut (neg : Bool) (n : Nat) : sgn neg n = if neg then -(val 10000 (dig 10000 n) : Int) else val 10000 (dig 10000 n) := by rw [val_dig (by omega)]; rfl

theorem sgn_abs (neg : Bool) (n : Nat) : (sgn neg n).natAbs = n := by cases neg <;> simp [sgn]
end Go.Proofs.YtdkjcdfkoahfkaaGreatDoor

namespace Go.Proofs.YtdkjcdfkoahfkaaGreatDoor
open Go Go.RowKit

def strLen : Value → Nat
  | .string s => s.size
  | _ => 0

theorem all_take {L : List UInt8} (h : L.all isDig = true) (k : Nat) : (L.take k).all isDig = true :=
  List.all_eq_true.2 fun c hc => List.all_eq_true.1 h c (List.mem_of_mem_take hc)
theorem all_drop {L : List UInt8} (h : L.all isDig = true) (k : Nat) : (L.drop k).all isDig = true :=
  List.all_eq_true.2 fun c hc => List.all_eq_true.1 h c (List.mem_of_mem_drop hc)

set_option maxRecDepth 100000 in
set_option maxHeartbeats 2000000 in
theorem ofdig_any (s : ByteArray) (w : World) (hd : s.data.toList.all isDig = true) (hs : s.size ≤ 60) (R : Ending → World → Prop)
    (hR : ∀ v w', IsN w' v (rdec s.data.toList) → Below w.heap.size w w' → R (.returned v) w') :
    Calls Tryz.prog 187 #[.string s] w R := by
  have HR := Lib.hid hR; clear hR
  have HD := Lib.hid hd
  have HSZ := Lib.hid (size_list s)
  clear hd
  go_enter Tryz.func187, Tryz.ntmps187
  go_wp2
  go_loopw [0, 3] (fun sv nv wr => ∃ (t : ByteArray) (k : Nat), sv = .string t ∧ k ≤ s.size ∧ t.data.toList = s.data.toList.drop k ∧ IsN wr nv (rdec (s.data.toList.take k)) ∧ Below w.heap.size w wr) (fun sv _ _ => strLen sv)
  case atStart => exact ⟨s, 0, rfl, Nat.zero_le _, rfl, IsN.nil w, Below.refl _ _⟩
  case round =>
    obtain ⟨t, k, rfl, hk, ht, hv, hbel⟩ := hrel
    obtain ⟨av, nv, cv, rfl, hv'⟩ := hv.op
    have HT := Lib.hid ht
    have HV := Lib.hid hv'
    have HB := Lib.hid hbel
    have hts : t.size = s.size - k := by rw [← size_list t, ht, List.length_drop, HSZ.out]
    have HTS := Lib.hid hts
    clear ht hv hv' hbel
    by_cases h0 : t.size = 0
    · have hnil : t.toList = [] := by rw [Lib.toList_data]; exact List.eq_nil_of_length_eq_zero (by rw [size_list]; exact h0)
      have hfin : rdec (s.data.toList.take k) = rdec s.data.toList := by rw [List.take_of_length_le (by rw [HSZ.out]; omega)]
      have HF := Lib.hid hfin
      clear hts hfin h0
      go_wp2
      first | go_ret | skip
      exact HR.out _ _ (HV.out.cast HF.out) HB.out
    · have hne : t.toList ≠ [] := by
        rw [Lib.toList_data]; intro e; have := congrArg List.length e; rw [size_list] at this; exact h0 this
      have hne2 : t.toList.isEmpty = false := by cases h : t.toList with
        | nil => exact absurd h hne
        | cons c l => rfl
      obtain ⟨m, hm⟩ : ∃ m, m = min t.size 19 := ⟨_, rfl⟩
      have hmin : min ((t.size : Nat) : Int) 19 = ((m : Nat) : Int) := by omega
      have hm1 : 1 ≤ m := by omega
      have hm19 : m ≤ 19 := by omega
      have hmt : m ≤ t.size := by omega
      obtain ⟨u, hu⟩ : ∃ u, u = t.extract 0 m := ⟨_, rfl⟩
      have hul : u.data.toList = (s.data.toList.drop k).take m := by rw [hu, ext_list, HT.out, List.drop_zero]
      have hus : u.size = m := by rw [hu, ext_size _ _ _ hmt]; omega
      have HU := Lib.hid hu
      have HUL := Lib.hid hul
      have HUS := Lib.hid hus
      have hua : u.data.toList.all isDig = true := by rw [hul]; exact all_take (all_drop HD.out k) m
      have HUA := Lib.hid hua
      have hkm : k + m ≤ s.size := by omega
      have htxs : (t.extract m t.size).data.toList = s.data.toList.drop (k + m) := by
        rw [ext_list, ← size_list, List.take_of_length_le (Nat.le_refl _), HT.out, List.drop_drop]
      have htxz : (t.extract m t.size).size = t.size - m := by rw [ext_size _ _ _ (Nat.le_refl _)]
      have HTX := Lib.hid htxs
      have HTZ := Lib.hid htxz
      obtain ⟨wo, hwo⟩ : ∃ wo, wo = wr := ⟨_, rfl⟩
      subst hwo
      clear hts hm hu hul hus hua htxs htxz h0
      go_wp2
      rw [← HU.out]
      go_loopw [5, 6, 8] (fun cv pv _ wx => ∃ pos C P : Nat, wx = wo.iter u pos ∧ pos ≤ m ∧ cv = .int .u64 ((C : Nat) : Int) ∧ pv = .int .u64 ((P : Nat) : Int) ∧ C = rdec (u.data.toList.take pos) ∧ P = 10 ^ pos) (fun _ _ _ wx => m - wx.iterPos wo.heap.size)
      case atStart => exact ⟨0, 0, 1, rfl, Nat.zero_le _, rfl, rfl, rfl, rfl⟩
      case round =>
        obtain ⟨pos, C, P, rfl, hpm, rfl, rfl, hC, hP⟩ := hrel
        have HC := Lib.hid hC
        have HP := Lib.hid hP
        clear hC hP
        by_cases hpl : pos < m
        · have hpu : pos < u.size := by rw [HUS.out]; exact hpl
          have hpu2 : pos < u.data.toList.length := by rw [size_list]; exact hpu
          have hb := dig_at _ HUA.out pos hpu2
          rw [← byte_at u pos hpu hpu2] at hb
          obtain ⟨hb1, hb2⟩ := hb
          have hnx := fun ty => run_next_ascii (P := Tryz.prog) wo u pos ty hpu (by omega)
          have hCb : C < 10 ^ 18 := by
            have h1 := rdec_lt (u.data.toList.take pos) (all_take HUA.out pos)
            rw [HC.out]
            exact Nat.lt_of_lt_of_le h1 (Nat.pow_le_pow_right (by omega) (by rw [List.length_take]; omega))
          have hPb : P ≤ 10 ^ 18 := by rw [HP.out]; exact Nat.pow_le_pow_right (by omega) (by omega)
          have hCi : (C : Int) ≤ 1000000000000000000 := by omega
          have hPi : (P : Int) ≤ 1000000000000000000 := by omega
          have hb3 : (48 : Int) ≤ (u[pos].toNat : Int) := by omega
          have hb4 : (u[pos].toNat : Int) ≤ 57 := by omega
          have hC2 : rdec (u.data.toList.take (pos + 1)) = 10 * C + (u[pos].toNat - 48) := by
            have := read_digit u.data.toList 0 pos (Nat.zero_le _) hpu2
            rw [List.drop_zero, List.drop_zero, ← byte_at u pos hpu hpu2, ← HC.out] at this
            exact this
          have HC2 := Lib.hid hC2
          have HPU := Lib.hid hpu
          clear hCb hPb hC2 hb1 hb2
          go_wp2
          go_roundw
          case rel => exact ⟨pos + 1, 10 * C + (u[pos].toNat - 48), P * 10, rfl, by omega, congrArg (Value.int .u64) (by omega), congrArg (Value.int .u64) (by omega), HC2.out.symm, by rw [HP.out, Nat.pow_succ]⟩
          case measure => rw [World.iterPos_iter, World.iterPos_iter]; omega
        · obtain rfl : pos = m := by omega
          have hnx := fun ty => run_next_end (P := Tryz.prog) wo u pos ty (by rw [HUS.out]; omega)
          have hCw : C < W64 := by
            have h1 := rdec_lt (u.data.toList.take pos) (all_take HUA.out pos)
            rw [HC.out, W64_eq]
            have h2 : 10 ^ (u.data.toList.take pos).length ≤ 10 ^ 19 := Nat.pow_le_pow_right (by omega) (by rw [List.length_take]; omega)
            omega
          have hPw : P < W64 := by
            rw [HP.out, W64_eq]
            have h2 : 10 ^ pos ≤ 10 ^ 19 := Nat.pow_le_pow_right (by omega) hm19
            omega
          have hfin : rdec (s.data.toList.take k) * P + C = rdec (s.data.toList.take (k + pos)) := by
            have e : s.data.toList.take (k + pos) = s.data.toList.take k ++ (s.data.toList.drop k).take pos := by rw [List.take_add]
            rw [e, rdec_append, HC.out, HP.out, HUL.out, List.take_take, Nat.min_self]
            congr 2
            rw [List.length_take, List.length_drop, HSZ.out, Nat.min_eq_left (by omega)]
          have HF := Lib.hid hfin
          have HCW := Lib.hid hCw
          have HPW := Lib.hid hPw
          have hext : Below wo.heap.size wo (wo.iter u pos) := (Below.refl _ _).alloc (Nat.le_refl _) _
          have HEX := Lib.hid hext
          have hll : (dig W64 (rdec (s.data.toList.take k))).length ≤ 60 := by
            refine dig_length_ten (e := 60) (by rw [W64_eq]; omega) ?_
            exact Nat.lt_of_lt_of_le (rdec_lt _ (all_take HD.out k)) (Nat.pow_le_pow_right (by omega) (by rw [List.length_take]; omega))
          have HLL := Lib.hid hll
          clear hfin hCw hPw hext hll
          go_wp2_with fail
          refine timesp_any _ (rdec (s.data.toList.take k)) P C _ (HV.out.later HEX.out (Nat.le_refl _)) HPW.out HCW.out (by have := HLL.out; omega) _ ?_
          rw [HF.out]
          intro v1 w1 hv1 hb1 _
          obtain ⟨a1, n1, c1, rfl, hv1'⟩ := hv1.op
          have HV1 := Lib.hid hv1'
          have HB1 := Lib.hid ((HB.out.trans (HEX.out.mono HB.out.size)).trans (hb1.mono (Nat.le_trans HB.out.size HEX.out.size)))
          have hpt : (pos : Int) ≤ (t.size : Int) := by omega
          clear hv1 hv1' hb1 hnx
          dsimp only
          go_wp2
          go_roundw
          case rel => exact ⟨t.extract pos t.size, k + pos, rfl, hkm, HTX.out, HV1.out, HB1.out⟩
          case measure => simp only [strLen]; rw [HTZ.out]; omega
end Go.Proofs.YtdkjcdfkoahfkaaGreatDoor

namespace Go.Proofs.YtdkjcdfkoahfkaaGreatDoor
open Go Go.RowKit

theorem IsZ.sl' {w : World} {ao : Option Addr} {n c : Nat} {m : Nat} {b : Bool} (h : IsZ w (.agg #[.bool b, .slice ao n c]) (m : Int)) : Sl .i64 w (.slice ao n c) (dig 10000 m) := by
  obtain ⟨s, e, hs⟩ := h
  simp at e
  obtain ⟨_, rfl⟩ := e
  exact hs

theorem q_endG (w wC : World) (g b : Nat) (hgb : g ≤ b) (q : Rat) (n : Bool) (a1 : Option Addr) (n1 c1 : Nat) (m : Bool) (a2 : Option Addr) (n2 c2 : Nat)
    (d2 : Box4 wC b (.bool false) (.slice none 0 0) (.bool false) (.slice none 0 0) 75)
    (hq : IsQ wC (.agg #[.bool n, .slice a1 n1 c1, .bool m, .slice a2 n2 c2]) q) (hb : Below g w wC) :
    QBox g w b q ((((wC.setCell ⟨b, 0, none⟩ (.bool n)).setCell ⟨b, 1, none⟩ (.slice a1 n1 c1)).setCell ⟨b, 2, none⟩ (.bool m)).setCell ⟨b, 3, none⟩ (.slice a2 n2 c2)) := by
  have hn := d2.noInt rfl rfl rfl rfl
  obtain ⟨s1, s2, e, h1, h2⟩ := hq
  simp at e
  obtain ⟨e1, rfl, rfl, rfl⟩ := e
  refine ⟨_, _, _, d2.set4 _ _ _ _, e1, ?_, ?_, ((((hb.setCell (by simp <;> omega) _).setCell (by simp <;> omega) _).setCell (by simp <;> omega) _).setCell (by simp <;> omega) _)⟩
  · exact h1.set4 hn _ _ _ _ rfl rfl rfl
  · exact h2.set4 hn _ _ _ _ rfl rfl rfl

set_option maxRecDepth 100000 in
set_option maxHeartbeats 4000000 in
theorem of_any (s : ByteArray) (neg : Bool) (D r : List UInt8) (m : Nat) (w : World) (hp : Parts s.data.toList neg D r) (hD : D.all isDig = true) (hD1 : 1 ≤ D.length)
    (hr : (r = [] ∧ m = 1) ∨ ∃ E, r = 47 :: E ∧ E.all isDig = true ∧ m = rdec E ∧ m ≠ 0) (hs : s.size ≤ 100000)
    (R : Ending → World → Prop) (hR : ∀ v w', IsQ w' v (Rat.divInt (sgn neg (rdec D)) (m : Int)) → Below w.heap.size w w' → R (.returned v) w') :
    Calls Tryz.prog 92 #[.string s] w R := by
  have HR := Lib.hid hR; clear hR
  obtain ⟨h1, h2, h3, h4⟩ := hp
  clear h4
  have HD := Lib.hid hD
  have H3 := Lib.hid h3
  have hpos : 0 < s.size := by rw [← size_list, h1, List.length_append, List.length_append]; omega
  obtain ⟨t, Ht, Hn, Hts⟩ : ∃ t : ByteArray, Hid (t.data.toList = D ++ r) ∧ Hid (t = if neg then s.extract 1 s.size else s) ∧ t.size ≤ 100000 := by
    cases neg
    · refine ⟨s, Lib.hid (by simpa using h1), Lib.hid rfl, hs⟩
    · refine ⟨s.extract 1 s.size, Lib.hid (sign_rest (by simpa using h1)), Lib.hid rfl, by rw [ext_size _ _ _ (Nat.le_refl _)]; omega⟩
  have hst : t.size ≤ s.size ∧ t.size = D.length + r.length := by
    refine ⟨?_, by rw [← size_list, Ht.out, List.length_append]⟩
    rw [Hn.out]; cases neg
    · exact Nat.le_refl _
    · simp only [if_true]; rw [ext_size _ _ _ (Nat.le_refl _)]; omega
  obtain ⟨hst1, hst2⟩ := hst
  obtain ⟨dl, hdl⟩ : ∃ dl, dl = D.length := ⟨_, rfl⟩
  rw [← hdl] at hD1 hst2
  have HDL := Lib.hid hdl
  obtain ⟨rl, hrl⟩ : ∃ rl, rl = r.length := ⟨_, rfl⟩
  rw [← hrl] at hst2
  have hdlt : dl ≤ t.size := by omega
  have HST := Lib.hid hst2
  have hlast : dl < t.size → ∃ E, r = 47 :: E ∧ E.all isDig = true ∧ m = rdec E ∧ m ≠ 0 := by
    intro h
    rcases hr with ⟨rfl, _⟩ | h'
    · simp at hrl; omega
    · exact h'
  have hend : ¬ dl < t.size → m = 1 := by
    intro h
    rcases hr with ⟨_, h'⟩ | ⟨E, rfl, _⟩
    · exact h'
    · simp at hrl; omega
  have HLAST := Lib.hid hlast
  have HEND := Lib.hid hend
  clear hr hst2 hdl hrl h3 hlast hend hD
  have hm45 : (neg = true → s[0] = 45) ∧ (neg = false → s[0] ≠ 45) := by
    have hb := byte_at s 0 hpos (by rw [size_list]; exact hpos)
    constructor
    · rintro rfl
      rw [hb]; simp [h1]
    · intro hn e
      have := h2 hn
      rw [head_at _ (by rw [size_list]; exact hpos), ← hb, e] at this
      exact this rfl
  clear h1 h2
  obtain ⟨N, hN⟩ : ∃ N, N = neg := ⟨_, rfl⟩
  have HN := Lib.hid hN
  have hB0 := Lib.hid (Box4.made w (.bool false) (.slice none 0 0) (.bool false) (.slice none 0 0) 75)
  cases neg
  · have ht : t = s := Hn.out
    subst ht
    have e45 : ((t[0].toNat : Int) == 45) = false := by
      have := hm45.2 rfl
      have : t[0].toNat ≠ 45 := fun h => this (UInt8.toNat_inj.1 h)
      simp; omega
    clear hm45 hN
    go_enter Tryz.func92, Tryz.ntmps92
    go_wp2
    clear e45 hs hst1
    go_loop [4] (fun i => ∃ k : Nat, i = .int .i64 k ∧ k ≤ dl) (fun i => dl - (intOf i).toNat)
    case atStart => exact ⟨0, rfl, Nat.zero_le _⟩
    case round =>
      obtain ⟨k, rfl, hk⟩ := hrel
      by_cases hkd : k < dl
      · have hkt : k < t.size := by omega
        have hkD : k < D.length := by rw [← HDL.out]; exact hkd
        have hne : t[k].toNat ≠ 47 := by
          rw [at_D Ht.out k hkD hkt]
          intro h
          exact H3.out D[k] (List.getElem_mem hkD) (UInt8.toNat_inj.1 h)
        have e47 : ((t[k].toNat : Int) != 47) = true := by rw [bne_iff_ne]; omega
        clear hne
        go_wp2
        go_round
        case rel => exact ⟨k + 1, by go_num, by omega⟩
        case measure => simp [intOf]; omega
      · obtain rfl : k = dl := by omega
        clear hkd hk
        have HX : Hid ((t.extract 0 k).data.toList = D) := Lib.hid (by rw [HDL.out, part_D Ht.out])
        by_cases hkt : k < t.size
        · obtain ⟨E, hE⟩ := HLAST.out hkt
          have HE := Lib.hid hE
          clear hE
          have e47 : ((t[k].toNat : Int) != 47) = false := by
            have := at_slash (t := t) (D := D) (E := E) (by rw [Ht.out, HE.out.1]) (by rw [← HDL.out]; exact hkt)
            have h2 : t[k] = 47 := by rw [← this]; congr 1
            rw [h2]; rfl
          go_wp2_with fail
          refine zread_any _ _ (by rw [HX.out]; exact HD.out) (by rw [ext_size _ _ _ (by omega)]; omega) _ ?_
          intro v1 w1 hz1 hb1
          rw [HX.out] at hz1
          obtain ⟨n1, a1, m1, c1, rfl, hy1⟩ := hz1.openB
          have b0 := hB0.out.later hb1 (by simp)
          have hbe1 : Below w.heap.size w w1 := ((Below.refl _ _).alloc (Nat.le_refl _) _).trans (hb1.mono (by simp))
          clear hz1 hb1
          dsimp only
          go_wp2_with fail
          refine zof_any 1 _ (by omega) (by omega) _ ?_
          intro v2 w2 hz2 hb2
          obtain ⟨n2, a2, m2, c2, rfl, hy2⟩ := hz2.openB
          have b5 := (Box2.made w1 (.bool n1) (.slice a1 m1 c1) 67).later hb2 (by simp)
          have b0' := (b0.later (B := w1.heap.size) ((Below.refl _ _).alloc (Nat.le_refl _) (.cells #[.bool n1, .slice a1 m1 c1] 67)) (lt_of_block b0)).later hb2 (by have := lt_of_block b0; simp; omega)
          have hbe2 : Below w.heap.size w w2 := (hbe1.alloc hbe1.size (.cells #[.bool n1, .slice a1 m1 c1] 67)).trans (hb2.mono (by have := hbe1.size; simp; omega))
          have hs1 : Sl .i64 w2 (.slice a1 m1 c1) (dig 10000 (rdec D)) := (hy1.sl'.alloc _).later hb2 (Nat.le_refl _)
          clear hz2 hb2 hbe1 b0 hy1
          dsimp only
          go_wp2_with fail
          have hx6 := Box2.made w2 (.bool n2) (.slice a2 m2 c2) 67
          have HX2 : Hid ((t.extract (k + 1) t.size).data.toList = E) := Lib.hid (by rw [HDL.out, part_E (t := t) (D := D) (E := E) (by rw [Ht.out, HE.out.1])])
          refine zread_any _ _ (by rw [HX2.out]; exact HE.out.2.1) (by rw [ext_size _ _ _ (by omega)]; omega) _ ?_
          intro vE w4 hzE hbE
          rw [HX2.out] at hzE
          obtain ⟨nE, aE, mE, cE, rfl, hyE⟩ := hzE.openB
          have e6 := hx6.later hbE (by simp)
          have e5 := (b5.alloc _).later hbE (lt_of_block (b5.alloc _))
          have e0 := (b0'.later ((Below.refl _ _).alloc (Nat.le_refl _) (.cells #[.bool n2, .slice a2 m2 c2] 67)) (lt_of_block b0')).later hbE (by have := lt_of_block b0'; simp; omega)
          have hbe4 : Below w.heap.size w w4 := (hbe2.alloc hbe2.size (.cells #[.bool n2, .slice a2 m2 c2] 67)).trans (hbE.mono (by have := hbe2.size; simp; omega))
          have hs1' : Sl .i64 w4 (.slice a1 m1 c1) (dig 10000 (rdec D)) := (hs1.alloc _).later hbE (Nat.le_refl _)
          have hn6 := e6.noInt rfl rfl
          have hmE : (m : Int) = ((rdec E : Nat) : Int) := by rw [HE.out.2.2.1]
          have hne5 : w1.heap.size ≠ w2.heap.size := by have := lt_of_block b5; omega
          have hne0 : w.heap.size ≠ w2.heap.size := by have := lt_of_block b0'; omega
          have hge6 : w.heap.size ≤ w2.heap.size := hbe2.size
          have hmm : (dig 10000 m).length ≤ 1000000 ∧ m ≠ 0 := ⟨by rw [HE.out.2.2.1]; exact rdec_len E HE.out.2.1 1000000 (by have := HE.out.1; have h2 := Ht.out; have h3 := congrArg List.length h2; rw [size_list, this, List.length_append] at h3; simp at h3; omega), HE.out.2.2.2⟩
          obtain ⟨hP0, hP1, hP2, hP3⟩ := e6.cells
          have HmE := Lib.hid hmE
          clear hzE hbE hx6 b5 b0' hbe2 hs1 hmE hy2
          dsimp only
          go_wp2_with fail
          have hmE := HmE.out
          clear hP0 hP1 hP2 hP3
          obtain ⟨L, hL⟩ : ∃ L, L = (w4.setCell ⟨w2.heap.size, 0, none⟩ (.bool nE)).setCell ⟨w2.heap.size, 1, none⟩ (.slice aE mE cE) := ⟨_, rfl⟩
          have HL := Lib.hid hL
          have c5 : Box2 L w1.heap.size (.bool n1) (.slice a1 m1 c1) 67 := by rw [hL]; exact e5.noSet hne5 _ _
          have c6 : Box2 L w2.heap.size (.bool nE) (.slice aE mE cE) 67 := by rw [hL]; exact e6.set01 _ _
          have c0 : Box4 L w.heap.size (.bool false) (.slice none 0 0) (.bool false) (.slice none 0 0) 75 := by rw [hL]; exact e0.noSet2 hne0 _ _
          have y1 : Sl .i64 L (.slice a1 m1 c1) (dig 10000 (rdec D)) := by rw [hL]; exact hs1'.noSet hn6 _ _ rfl
          have y2 : IsZ L (.agg #[.bool nE, .slice aE mE cE]) (m : Int) := by rw [hL]; rw [hmE]; exact hyE.noSet hn6 _ _ rfl
          have hbL : Below w.heap.size w L := by rw [hL]; exact (hbe4.setCell hge6 _).setCell hge6 _
          rw [← hL]
          clear hL
          obtain ⟨hP0, hP1, _, _⟩ := c5.cells
          obtain ⟨hQ0, hQ1, _, _⟩ := c6.cells
          have hk5 := lt_of_block c5
          have hk6 := lt_of_block c6
          have hk0 := lt_of_block c0
          have HLN := Lib.hid (And.intro (rdec_len D HD.out 100000 (by rw [← HDL.out]; omega)) hmm)
          go_cut [] (fun wx => QBox w.heap.size w w.heap.size (Rat.divInt (sgn N (rdec D)) (m : Int)) wx)
          case first =>
            go_region_law (first
              | (have hguard := hbc; go_simp; go_at_call 154; refine make_any _ _ (sgn N (rdec D)) (m : Int) _ hv3 (y2.drew.later hbc (Nat.le_refl _)) (by rw [sgn_abs]; exact Nat.le_trans HLN.out.1 (by omega)) (by rw [Int.natAbs_natCast]; exact HLN.out.2.1) (by have := HLN.out.2.2; omega) _ ?_; intro v7 w7 hv7 hb7; obtain ⟨n5, a5, m5, c5', a6, m6, c6', rfl, _, _⟩ := hv7.parts; have bb : Below L.heap.size L w7 := (below_ofDrew hbc).trans (hb7.mono hbc.size); have d2 := c0.later bb hk0; obtain ⟨⟨hR0, hR1, hR2, hR3⟩, hR4, hR5, hR6, hR7⟩ := d2.cells; clear hguard; dsimp only)
              | (go_simp; go_at_call 59; refine cut_z _ _ (dig 10000 (rdec D)) _ (Sl.drew y1) (dig_lt (by omega) _) (Nat.le_trans HLN.out.1 (by omega)) (sgn N (rdec D)) (by rw [HN.out]; exact sgn_cut _ _) _ ?_; intro v3 w3 hv3 hbc; obtain ⟨hS0, hS1, _, _⟩ := (c6.later (below_ofDrew hbc) hk6).cells; obtain ⟨n3, a3, m3, c3, rfl, _⟩ := hv3.openB; dsimp only))
            all_goals (go_wp2_with fail; go_meet; exact q_endG w w7 w.heap.size w.heap.size (Nat.le_refl _) _ _ _ _ _ _ _ _ _ d2 hv7 (hbL.trans (bb.mono (by omega))))
          case rest =>
            clear hP0 hP1 hQ0 hQ1
            obtain ⟨bx, x1, x2, hbx, he, ht1, ht2, hbl⟩ := hcut
            obtain ⟨⟨hR0, hR1, hR2, hR3⟩, _, _, _, _⟩ := hbx.cells
            go_wp2
            refine bodyPost_ret_at (by simp [results, Tryz.results92, go_sem, hR0, hR1, hR2, hR3] <;> rfl) rfl ?_
            rw [HN.out] at ht1 ht2 he
            exact HR.out _ _ ⟨x1, x2, by rw [he], ht1, ht2⟩ hbl
        · go_wp2_with fail
          refine zread_any _ _ (by rw [HX.out]; exact HD.out) (by rw [ext_size _ _ _ (by omega)]; omega) _ ?_
          intro v1 w1 hz1 hb1
          rw [HX.out] at hz1
          obtain ⟨n1, a1, m1, c1, rfl, hy1⟩ := hz1.openB
          have b0 := hB0.out.later hb1 (by simp)
          have hbe1 : Below w.heap.size w w1 := ((Below.refl _ _).alloc (Nat.le_refl _) _).trans (hb1.mono (by simp))
          clear hz1 hb1
          dsimp only
          go_wp2_with fail
          refine zof_any 1 _ (by omega) (by omega) _ ?_
          intro v2 w2 hz2 hb2
          obtain ⟨n2, a2, m2, c2, rfl, hy2⟩ := hz2.openB
          have b5 := (Box2.made w1 (.bool n1) (.slice a1 m1 c1) 67).later hb2 (by simp)
          have b0' := (b0.later (B := w1.heap.size) ((Below.refl _ _).alloc (Nat.le_refl _) (.cells #[.bool n1, .slice a1 m1 c1] 67)) (lt_of_block b0)).later hb2 (by have := lt_of_block b0; simp; omega)
          have hbe2 : Below w.heap.size w w2 := (hbe1.alloc hbe1.size (.cells #[.bool n1, .slice a1 m1 c1] 67)).trans (hb2.mono (by have := hbe1.size; simp; omega))
          have hs1 : Sl .i64 w2 (.slice a1 m1 c1) (dig 10000 (rdec D)) := (hy1.sl'.alloc _).later hb2 (Nat.le_refl _)
          clear hz2 hb2 hbe1 b0 hy1
          dsimp only
          go_wp2_with fail
          obtain ⟨L, hL⟩ : ∃ L, L = w2.alloc (.cells #[.bool n2, .slice a2 m2 c2] 67) := ⟨_, rfl⟩
          have HL := Lib.hid hL
          have c5 : Box2 L w1.heap.size (.bool n1) (.slice a1 m1 c1) 67 := by rw [hL]; exact b5.alloc _
          have c6 : Box2 L w2.heap.size (.bool n2) (.slice a2 m2 c2) 67 := by rw [hL]; exact Box2.made w2 _ _ _
          have c0 : Box4 L w.heap.size (.bool false) (.slice none 0 0) (.bool false) (.slice none 0 0) 75 := by rw [hL]; exact b0'.later ((Below.refl _ _).alloc (Nat.le_refl _) _) (lt_of_block b0')
          have y1 : Sl .i64 L (.slice a1 m1 c1) (dig 10000 (rdec D)) := by rw [hL]; exact hs1.alloc _
          have y2 : IsZ L (.agg #[.bool n2, .slice a2 m2 c2]) (m : Int) := by rw [hL]; exact by rw [HEND.out hkt]; exact hy2.later ((Below.refl _ _).alloc (Nat.le_refl _) _) (Nat.le_refl _)
          have hbL : Below w.heap.size w L := by rw [hL]; exact hbe2.alloc hbe2.size _
          rw [← hL]
          clear hL
          obtain ⟨hP0, hP1, _, _⟩ := c5.cells
          obtain ⟨hQ0, hQ1, _, _⟩ := c6.cells
          have hk5 := lt_of_block c5
          have hk6 := lt_of_block c6
          have hk0 := lt_of_block c0
          have HLN := Lib.hid (And.intro (rdec_len D HD.out 100000 (by rw [← HDL.out]; omega)) (show (dig 10000 m).length ≤ 1000000 ∧ m ≠ 0 by rw [HEND.out hkt, dig_small (by omega) (by omega)]; simp))
          go_cut [] (fun wx => QBox w.heap.size w w.heap.size (Rat.divInt (sgn N (rdec D)) (m : Int)) wx)
          case first =>
            go_region_law (first
              | (have hguard := hbc; go_simp; go_at_call 154; refine make_any _ _ (sgn N (rdec D)) (m : Int) _ hv3 (y2.drew.later hbc (Nat.le_refl _)) (by rw [sgn_abs]; exact Nat.le_trans HLN.out.1 (by omega)) (by rw [Int.natAbs_natCast]; exact HLN.out.2.1) (by have := HLN.out.2.2; omega) _ ?_; intro v4 w4 hv4 hb4; obtain ⟨n5, a5, m5, c5', a6, m6, c6', rfl, _, _⟩ := hv4.parts; have bb : Below L.heap.size L w4 := (below_ofDrew hbc).trans (hb4.mono hbc.size); have d2 := c0.later bb hk0; obtain ⟨⟨hR0, hR1, hR2, hR3⟩, hR4, hR5, hR6, hR7⟩ := d2.cells; clear hguard; dsimp only)
              | (go_simp; go_at_call 59; refine cut_z _ _ (dig 10000 (rdec D)) _ (Sl.drew y1) (dig_lt (by omega) _) (Nat.le_trans HLN.out.1 (by omega)) (sgn N (rdec D)) (by rw [HN.out]; exact sgn_cut _ _) _ ?_; intro v3 w3 hv3 hbc; obtain ⟨hS0, hS1, _, _⟩ := (c6.later (below_ofDrew hbc) hk6).cells; obtain ⟨n3, a3, m3, c3, rfl, _⟩ := hv3.openB; dsimp only))
            all_goals (go_wp2_with fail; go_meet; exact q_endG w w4 w.heap.size w.heap.size (Nat.le_refl _) _ _ _ _ _ _ _ _ _ d2 hv4 (hbL.trans (bb.mono (by omega))))
          case rest =>
            clear hP0 hP1 hQ0 hQ1
            obtain ⟨bx, x1, x2, hbx, he, ht1, ht2, hbl⟩ := hcut
            obtain ⟨⟨hR0, hR1, hR2, hR3⟩, _, _, _, _⟩ := hbx.cells
            go_wp2
            refine bodyPost_ret_at (by simp [results, Tryz.results92, go_sem, hR0, hR1, hR2, hR3] <;> rfl) rfl ?_
            rw [HN.out] at ht1 ht2 he
            exact HR.out _ _ ⟨x1, x2, by rw [he], ht1, ht2⟩ hbl
  · have e45 : ((s[0].toNat : Int) == 45) = true := by
      rw [hm45.1 rfl]; rfl
    clear hm45 hN
    go_enter Tryz.func92, Tryz.ntmps92
    go_wp2
    have ht : t = s.extract 1 s.size := Hn.out
    rw [← ht]
    have hse := Lib.hid ht
    clear ht
    go_loop [4] (fun i => ∃ k : Nat, i = .int .i64 k ∧ k ≤ dl) (fun i => dl - (intOf i).toNat)
    case atStart => exact ⟨0, rfl, Nat.zero_le _⟩
    case round =>
      obtain ⟨k, rfl, hk⟩ := hrel
      by_cases hkd : k < dl
      · have hkt : k < t.size := by omega
        have hkD : k < D.length := by rw [← HDL.out]; exact hkd
        have hne : t[k].toNat ≠ 47 := by
          rw [at_D Ht.out k hkD hkt]
          intro h
          exact H3.out D[k] (List.getElem_mem hkD) (UInt8.toNat_inj.1 h)
        have e47 : ((t[k].toNat : Int) != 47) = true := by rw [bne_iff_ne]; omega
        clear hne
        go_wp2
        go_round
        case rel => exact ⟨k + 1, by go_num, by omega⟩
        case measure => simp [intOf]; omega
      · obtain rfl : k = dl := by omega
        clear hkd hk
        have HX : Hid ((t.extract 0 k).data.toList = D) := Lib.hid (by rw [HDL.out, part_D Ht.out])
        by_cases hkt : k < t.size
        · obtain ⟨E, hE⟩ := HLAST.out hkt
          have HE := Lib.hid hE
          clear hE
          have e47 : ((t[k].toNat : Int) != 47) = false := by
            have := at_slash (t := t) (D := D) (E := E) (by rw [Ht.out, HE.out.1]) (by rw [← HDL.out]; exact hkt)
            have h2 : t[k] = 47 := by rw [← this]; congr 1
            rw [h2]; rfl
          go_wp2_with fail
          refine zread_any _ _ (by rw [HX.out]; exact HD.out) (by rw [ext_size _ _ _ (by omega)]; omega) _ ?_
          intro v1 w1 hz1 hb1
          rw [HX.out] at hz1
          obtain ⟨n1, a1, m1, c1, rfl, hy1⟩ := hz1.openB
          have b0 := hB0.out.later hb1 (by simp)
          have hbe1 : Below w.heap.size w w1 := ((Below.refl _ _).alloc (Nat.le_refl _) _).trans (hb1.mono (by simp))
          clear hz1 hb1
          dsimp only
          go_wp2_with fail
          refine zof_any 1 _ (by omega) (by omega) _ ?_
          intro v2 w2 hz2 hb2
          obtain ⟨n2, a2, m2, c2, rfl, hy2⟩ := hz2.openB
          have b5 := (Box2.made w1 (.bool n1) (.slice a1 m1 c1) 67).later hb2 (by simp)
          have b0' := (b0.later (B := w1.heap.size) ((Below.refl _ _).alloc (Nat.le_refl _) (.cells #[.bool n1, .slice a1 m1 c1] 67)) (lt_of_block b0)).later hb2 (by have := lt_of_block b0; simp; omega)
          have hbe2 : Below w.heap.size w w2 := (hbe1.alloc hbe1.size (.cells #[.bool n1, .slice a1 m1 c1] 67)).trans (hb2.mono (by have := hbe1.size; simp; omega))
          have hs1 : Sl .i64 w2 (.slice a1 m1 c1) (dig 10000 (rdec D)) := (hy1.sl'.alloc _).later hb2 (Nat.le_refl _)
          clear hz2 hb2 hbe1 b0 hy1
          dsimp only
          go_wp2_with fail
          have hx6 := Box2.made w2 (.bool n2) (.slice a2 m2 c2) 67
          have HX2 : Hid ((t.extract (k + 1) t.size).data.toList = E) := Lib.hid (by rw [HDL.out, part_E (t := t) (D := D) (E := E) (by rw [Ht.out, HE.out.1])])
          refine zread_any _ _ (by rw [HX2.out]; exact HE.out.2.1) (by rw [ext_size _ _ _ (by omega)]; omega) _ ?_
          intro vE w4 hzE hbE
          rw [HX2.out] at hzE
          obtain ⟨nE, aE, mE, cE, rfl, hyE⟩ := hzE.openB
          have e6 := hx6.later hbE (by simp)
          have e5 := (b5.alloc _).later hbE (lt_of_block (b5.alloc _))
          have e0 := (b0'.later ((Below.refl _ _).alloc (Nat.le_refl _) (.cells #[.bool n2, .slice a2 m2 c2] 67)) (lt_of_block b0')).later hbE (by have := lt_of_block b0'; simp; omega)
          have hbe4 : Below w.heap.size w w4 := (hbe2.alloc hbe2.size (.cells #[.bool n2, .slice a2 m2 c2] 67)).trans (hbE.mono (by have := hbe2.size; simp; omega))
          have hs1' : Sl .i64 w4 (.slice a1 m1 c1) (dig 10000 (rdec D)) := (hs1.alloc _).later hbE (Nat.le_refl _)
          have hn6 := e6.noInt rfl rfl
          have hmE : (m : Int) = ((rdec E : Nat) : Int) := by rw [HE.out.2.2.1]
          have hne5 : w1.heap.size ≠ w2.heap.size := by have := lt_of_block b5; omega
          have hne0 : w.heap.size ≠ w2.heap.size := by have := lt_of_block b0'; omega
          have hge6 : w.heap.size ≤ w2.heap.size := hbe2.size
          have hmm : (dig 10000 m).length ≤ 1000000 ∧ m ≠ 0 := ⟨by rw [HE.out.2.2.1]; exact rdec_len E HE.out.2.1 1000000 (by have := HE.out.1; have h2 := Ht.out; have h3 := congrArg List.length h2; rw [size_list, this, List.length_append] at h3; simp at h3; omega), HE.out.2.2.2⟩
          obtain ⟨hP0, hP1, hP2, hP3⟩ := e6.cells
          have HmE := Lib.hid hmE
          clear hzE hbE hx6 b5 b0' hbe2 hs1 hmE hy2
          dsimp only
          go_wp2_with fail
          have hmE := HmE.out
          clear hP0 hP1 hP2 hP3
          obtain ⟨L, hL⟩ : ∃ L, L = (w4.setCell ⟨w2.heap.size, 0, none⟩ (.bool nE)).setCell ⟨w2.heap.size, 1, none⟩ (.slice aE mE cE) := ⟨_, rfl⟩
          have HL := Lib.hid hL
          have c5 : Box2 L w1.heap.size (.bool n1) (.slice a1 m1 c1) 67 := by rw [hL]; exact e5.noSet hne5 _ _
          have c6 : Box2 L w2.heap.size (.bool nE) (.slice aE mE cE) 67 := by rw [hL]; exact e6.set01 _ _
          have c0 : Box4 L w.heap.size (.bool false) (.slice none 0 0) (.bool false) (.slice none 0 0) 75 := by rw [hL]; exact e0.noSet2 hne0 _ _
          have y1 : Sl .i64 L (.slice a1 m1 c1) (dig 10000 (rdec D)) := by rw [hL]; exact hs1'.noSet hn6 _ _ rfl
          have y2 : IsZ L (.agg #[.bool nE, .slice aE mE cE]) (m : Int) := by rw [hL]; rw [hmE]; exact hyE.noSet hn6 _ _ rfl
          have hbL : Below w.heap.size w L := by rw [hL]; exact (hbe4.setCell hge6 _).setCell hge6 _
          rw [← hL]
          clear hL
          obtain ⟨hP0, hP1, _, _⟩ := c5.cells
          obtain ⟨hQ0, hQ1, _, _⟩ := c6.cells
          have hk5 := lt_of_block c5
          have hk6 := lt_of_block c6
          have hk0 := lt_of_block c0
          have HLN := Lib.hid (And.intro (rdec_len D HD.out 100000 (by rw [← HDL.out]; omega)) hmm)
          go_cut [] (fun wx => QBox w.heap.size w w.heap.size (Rat.divInt (sgn N (rdec D)) (m : Int)) wx)
          case first =>
            go_region_law (first
              | (have hguard := hbc; go_simp; go_at_call 154; refine make_any _ _ (sgn N (rdec D)) (m : Int) _ hv3 (y2.drew.later hbc (Nat.le_refl _)) (by rw [sgn_abs]; exact Nat.le_trans HLN.out.1 (by omega)) (by rw [Int.natAbs_natCast]; exact HLN.out.2.1) (by have := HLN.out.2.2; omega) _ ?_; intro v7 w7 hv7 hb7; obtain ⟨n5, a5, m5, c5', a6, m6, c6', rfl, _, _⟩ := hv7.parts; have bb : Below L.heap.size L w7 := (below_ofDrew hbc).trans (hb7.mono hbc.size); have d2 := c0.later bb hk0; obtain ⟨⟨hR0, hR1, hR2, hR3⟩, hR4, hR5, hR6, hR7⟩ := d2.cells; clear hguard; dsimp only)
              | (go_simp; go_at_call 59; refine cut_z _ _ (dig 10000 (rdec D)) _ (Sl.drew y1) (dig_lt (by omega) _) (Nat.le_trans HLN.out.1 (by omega)) (sgn N (rdec D)) (by rw [HN.out]; exact sgn_cut _ _) _ ?_; intro v3 w3 hv3 hbc; obtain ⟨hS0, hS1, _, _⟩ := (c6.later (below_ofDrew hbc) hk6).cells; obtain ⟨n3, a3, m3, c3, rfl, _⟩ := hv3.openB; dsimp only))
            all_goals (go_wp2_with fail; go_meet; exact q_endG w w7 w.heap.size w.heap.size (Nat.le_refl _) _ _ _ _ _ _ _ _ _ d2 hv7 (hbL.trans (bb.mono (by omega))))
          case rest =>
            clear hP0 hP1 hQ0 hQ1
            obtain ⟨bx, x1, x2, hbx, he, ht1, ht2, hbl⟩ := hcut
            obtain ⟨⟨hR0, hR1, hR2, hR3⟩, _, _, _, _⟩ := hbx.cells
            go_wp2
            refine bodyPost_ret_at (by simp [results, Tryz.results92, go_sem, hR0, hR1, hR2, hR3] <;> rfl) rfl ?_
            rw [HN.out] at ht1 ht2 he
            exact HR.out _ _ ⟨x1, x2, by rw [he], ht1, ht2⟩ hbl
        · go_wp2_with fail
          refine zread_any _ _ (by rw [HX.out]; exact HD.out) (by rw [ext_size _ _ _ (by omega)]; omega) _ ?_
          intro v1 w1 hz1 hb1
          rw [HX.out] at hz1
          obtain ⟨n1, a1, m1, c1, rfl, hy1⟩ := hz1.openB
          have b0 := hB0.out.later hb1 (by simp)
          have hbe1 : Below w.heap.size w w1 := ((Below.refl _ _).alloc (Nat.le_refl _) _).trans (hb1.mono (by simp))
          clear hz1 hb1
          dsimp only
          go_wp2_with fail
          refine zof_any 1 _ (by omega) (by omega) _ ?_
          intro v2 w2 hz2 hb2
          obtain ⟨n2, a2, m2, c2, rfl, hy2⟩ := hz2.openB
          have b5 := (Box2.made w1 (.bool n1) (.slice a1 m1 c1) 67).later hb2 (by simp)
          have b0' := (b0.later (B := w1.heap.size) ((Below.refl _ _).alloc (Nat.le_refl _) (.cells #[.bool n1, .slice a1 m1 c1] 67)) (lt_of_block b0)).later hb2 (by have := lt_of_block b0; simp; omega)
          have hbe2 : Below w.heap.size w w2 := (hbe1.alloc hbe1.size (.cells #[.bool n1, .slice a1 m1 c1] 67)).trans (hb2.mono (by have := hbe1.size; simp; omega))
          have hs1 : Sl .i64 w2 (.slice a1 m1 c1) (dig 10000 (rdec D)) := (hy1.sl'.alloc _).later hb2 (Nat.le_refl _)
          clear hz2 hb2 hbe1 b0 hy1
          dsimp only
          go_wp2_with fail
          obtain ⟨L, hL⟩ : ∃ L, L = w2.alloc (.cells #[.bool n2, .slice a2 m2 c2] 67) := ⟨_, rfl⟩
          have HL := Lib.hid hL
          have c5 : Box2 L w1.heap.size (.bool n1) (.slice a1 m1 c1) 67 := by rw [hL]; exact b5.alloc _
          have c6 : Box2 L w2.heap.size (.bool n2) (.slice a2 m2 c2) 67 := by rw [hL]; exact Box2.made w2 _ _ _
          have c0 : Box4 L w.heap.size (.bool false) (.slice none 0 0) (.bool false) (.slice none 0 0) 75 := by rw [hL]; exact b0'.later ((Below.refl _ _).alloc (Nat.le_refl _) _) (lt_of_block b0')
          have y1 : Sl .i64 L (.slice a1 m1 c1) (dig 10000 (rdec D)) := by rw [hL]; exact hs1.alloc _
          have y2 : IsZ L (.agg #[.bool n2, .slice a2 m2 c2]) (m : Int) := by rw [hL]; exact by rw [HEND.out hkt]; exact hy2.later ((Below.refl _ _).alloc (Nat.le_refl _) _) (Nat.le_refl _)
          have hbL : Below w.heap.size w L := by rw [hL]; exact hbe2.alloc hbe2.size _
          rw [← hL]
          clear hL
          obtain ⟨hP0, hP1, _, _⟩ := c5.cells
          obtain ⟨hQ0, hQ1, _, _⟩ := c6.cells
          have hk5 := lt_of_block c5
          have hk6 := lt_of_block c6
          have hk0 := lt_of_block c0
          have HLN := Lib.hid (And.intro (rdec_len D HD.out 100000 (by rw [← HDL.out]; omega)) (show (dig 10000 m).length ≤ 1000000 ∧ m ≠ 0 by rw [HEND.out hkt, dig_small (by omega) (by omega)]; simp))
          go_cut [] (fun wx => QBox w.heap.size w w.heap.size (Rat.divInt (sgn N (rdec D)) (m : Int)) wx)
          case first =>
            go_region_law (first
              | (have hguard := hbc; go_simp; go_at_call 154; refine make_any _ _ (sgn N (rdec D)) (m : Int) _ hv3 (y2.drew.later hbc (Nat.le_refl _)) (by rw [sgn_abs]; exact Nat.le_trans HLN.out.1 (by omega)) (by rw [Int.natAbs_natCast]; exact HLN.out.2.1) (by have := HLN.out.2.2; omega) _ ?_; intro v4 w4 hv4 hb4; obtain ⟨n5, a5, m5, c5', a6, m6, c6', rfl, _, _⟩ := hv4.parts; have bb : Below L.heap.size L w4 := (below_ofDrew hbc).trans (hb4.mono hbc.size); have d2 := c0.later bb hk0; obtain ⟨⟨hR0, hR1, hR2, hR3⟩, hR4, hR5, hR6, hR7⟩ := d2.cells; clear hguard; dsimp only)
              | (go_simp; go_at_call 59; refine cut_z _ _ (dig 10000 (rdec D)) _ (Sl.drew y1) (dig_lt (by omega) _) (Nat.le_trans HLN.out.1 (by omega)) (sgn N (rdec D)) (by rw [HN.out]; exact sgn_cut _ _) _ ?_; intro v3 w3 hv3 hbc; obtain ⟨hS0, hS1, _, _⟩ := (c6.later (below_ofDrew hbc) hk6).cells; obtain ⟨n3, a3, m3, c3, rfl, _⟩ := hv3.openB; dsimp only))
            all_goals (go_wp2_with fail; go_meet; exact q_endG w w4 w.heap.size w.heap.size (Nat.le_refl _) _ _ _ _ _ _ _ _ _ d2 hv4 (hbL.trans (bb.mono (by omega))))
          case rest =>
            clear hP0 hP1 hQ0 hQ1
            obtain ⟨bx, x1, x2, hbx, he, ht1, ht2, hbl⟩ := hcut
            obtain ⟨⟨hR0, hR1, hR2, hR3⟩, _, _, _, _⟩ := hbx.cells
            go_wp2
            refine bodyPost_ret_at (by simp [results, Tryz.results92, go_sem, hR0, hR1, hR2, hR3] <;> rfl) rfl ?_
            rw [HN.out] at ht1 ht2 he
            exact HR.out _ _ ⟨x1, x2, by rw [he], ht1, ht2⟩ hbl
end Go.Proofs.YtdkjcdfkoahfkaaGreatDoor

namespace Go.Proofs.YtdkjcdfkoahfkaaGreatDoor
open Go Go.RowKit

theorem parts_exist (L : List UInt8) : ∃ neg D r, Parts L neg D r := by
  have key : ∀ t : List UInt8, ∃ D r, t = D ++ r ∧ (∀ c ∈ D, c ≠ 47) ∧ (r = [] ∨ ∃ E, r = 47 :: E) := by
    intro t
    induction t with
    | nil => exact ⟨[], [], rfl, by simp, .inl rfl⟩
    | cons c t ih =>
      by_cases hc : c = 47
      · subst hc; exact ⟨[], 47 :: t, rfl, by simp, .inr ⟨t, rfl⟩⟩
      · obtain ⟨D, r, h1, h2, h3⟩ := ih
        refine ⟨c :: D, r, by rw [h1]; rfl, ?_, h3⟩
        intro x hx
        rcases List.mem_cons.1 hx with rfl | hx
        · exact hc
        · exact h2 x hx
  by_cases h : L.head? = some 45
  · cases L with
    | nil => simp at h
    | cons c t =>
      simp at h
      subst h
      obtain ⟨D, r, h1, h2, h3⟩ := key t
      exact ⟨true, D, r, by rw [h1]; rfl, by simp, h2, h3⟩
  · obtain ⟨D, r, h1, h2, h3⟩ := key L
    exact ⟨false, D, r, h1, fun _ => h, h2, h3⟩

/-- whether a text is a number -/
noncomputable def numB (L : List UInt8) : Bool := @decide (∃ q, L = textQ q ∧ few q) (Classical.propDecidable _)

theorem numB_true {L : List UInt8} : numB L = true ↔ ∃ q, L = textQ q ∧ few q := by unfold numB; exact @decide_eq_true_iff _ (Classical.propDecidable _)

theorem numB_false {L : List UInt8} (h : ∀ q, L = textQ q → few q → False) : numB L = false := by
  cases hb : numB L with
  | false => rfl
  | true => obtain ⟨q, h1, h2⟩ := numB_true.1 hb; exact absurd h2 (h q h1)

theorem numB_parts {L : List UInt8} {neg : Bool} {D r : List UInt8} (hp : Parts L neg D r) (h : ∀ q, ¬ NumIs neg D r q) : numB L = false :=
  numB_false fun q h1 h2 => h q ((num_iff hp q).2 ⟨h1, h2⟩)

theorem dig_length_mono {B a b : Nat} (hB : 2 ≤ B) (h : a ≤ b) : (dig B a).length ≤ (dig B b).length :=
  dig_length_le hB _ a (Nat.lt_of_le_of_lt h (lt_pow_dig hB b))

theorem decs_mono {a b : Nat} (h : a ≤ b) : (decs a).length ≤ (decs b).length := by
  by_cases h0 : a = 0
  · subst h0
    show 1 ≤ _
    exact decs_pos b
  · unfold decs
    rw [if_neg h0, if_neg (by omega), List.length_map, List.length_map, List.length_reverse, List.length_reverse]
    exact dig_length_mono (by omega) h

theorem divInt_le (a : Int) (m : Nat) (hm : m ≠ 0) : (Rat.divInt a (m : Int)).num.natAbs ≤ a.natAbs ∧ (Rat.divInt a (m : Int)).den ≤ m := by
  rw [Rat.divInt_ofNat]
  constructor
  · have hd : ((m.gcd a.natAbs : Nat) : Int) ∣ a := Int.ofNat_dvd_left.2 (Nat.gcd_dvd_right _ _)
    rw [Rat.num_mkRat, if_neg hm, Int.natAbs_ediv_of_dvd hd]
    exact Nat.div_le_self _ _
  · rw [Rat.den_mkRat, if_neg hm]
    exact Nat.div_le_self _ _

/-- what the model makes of a text whose parts are digits is its text only where it is a number -/
theorem numB_of {L : List UInt8} {neg : Bool} {D r : List UInt8} {m : Nat} (hp : Parts L neg D r) (hD : digB D = true)
    (hr : (r = [] ∧ m = 1) ∨ ∃ E, r = 47 :: E ∧ digB E = true ∧ m = rdec E ∧ m ≠ 0) : numB L = decide (textQ (Rat.divInt (sgn neg (rdec D)) (m : Int)) = L) := by
  have hm : m ≠ 0 := by rcases hr with ⟨_, rfl⟩ | ⟨_, _, _, _, h⟩ <;> omega
  have hlen : (decs m).length ≤ 60 := by
    rcases hr with ⟨_, rfl⟩ | ⟨E, _, hE, rfl, _⟩
    · rw [decs, if_neg (by omega), dig_small (by omega) (by omega)]; simp
    · rw [decs_rdec hE]; exact (digB_iff.1 hE).2.2.1
  have hfew : few (Rat.divInt (sgn neg (rdec D)) (m : Int)) := by
    obtain ⟨h1, h2⟩ := divInt_le (sgn neg (rdec D)) m hm
    refine ⟨Nat.le_trans (decs_mono h1) ?_, Nat.le_trans (decs_mono h2) hlen⟩
    rw [sgn_abs, decs_rdec hD]; exact (digB_iff.1 hD).2.2.1
  by_cases h : textQ (Rat.divInt (sgn neg (rdec D)) (m : Int)) = L
  · rw [decide_eq_true h]
    exact numB_true.2 ⟨_, h.symm, hfew⟩
  · rw [decide_eq_false h]
    refine numB_parts hp fun q hq => h ?_
    obtain ⟨e, _⟩ := text_parts hp hq
    rw [e]
    congr 1
    obtain ⟨_, hq⟩ := hq
    rcases hq with ⟨rfl, _, rfl⟩ | ⟨E, rfl, _, _, _, hn, hd⟩
    · rcases hr with ⟨_, rfl⟩ | ⟨E, h, _⟩
      · rw [Rat.divInt_ofNat, Rat.mkRat_one]
      · cases h
    · rcases hr with ⟨h9, _⟩ | ⟨E', h9, _, rfl, _⟩
      · cases h9
      · obtain rfl := (List.cons.inj h9).2
        rw [← hn, ← hd, Rat.num_divInt_den]
end Go.Proofs.YtdkjcdfkoahfkaaGreatDoor

namespace Go.Proofs.YtdkjcdfkoahfkaaGreatDoor
open Go Go.RowKit

/-- what the program's variables hold: two errors of the library's plain kind, and the handle of the type error -/
structure Env (w : World) : Prop where
  form : ∃ p, w.cell? ⟨1, 0, none⟩ = some (.iface 299 (.pointer (some p)))
  size : ∃ p, w.cell? ⟨0, 0, none⟩ = some (.iface 299 (.pointer (some p)))
  ty : w.cell? ⟨2, 0, none⟩ = some (.iface 256 (.agg #[.pointer (some ⟨11, 87, none⟩)]))

theorem lt_of_cell {w : World} {b o : Nat} {v : Value} (h : w.cell? ⟨b, o, none⟩ = some v) : b < w.heap.size := by
  rcases Nat.lt_or_ge b w.heap.size with h1 | h1
  · exact h1
  · simp [World.cell?, Array.getElem?_eq_none h1] at h

theorem Env.later {w w' : World} (h : Env w) {B : Nat} (hb : Below B w w') (hB : w.heap.size ≤ B) : Env w' := by
  obtain ⟨⟨p, h1⟩, ⟨q, h2⟩, h3⟩ := h
  exact ⟨⟨p, by rw [hb.cell (p := ⟨1, 0, none⟩) (Nat.lt_of_lt_of_le (lt_of_cell h1) hB)]; exact h1⟩, ⟨q, by rw [hb.cell (p := ⟨0, 0, none⟩) (Nat.lt_of_lt_of_le (lt_of_cell h2) hB)]; exact h2⟩,
    by rw [hb.cell (p := ⟨2, 0, none⟩) (Nat.lt_of_lt_of_le (lt_of_cell h3) hB)]; exact h3⟩

/-- an error of the library's plain kind -/
def Plain (e : Value) : Prop := ∃ p, e = .iface 299 (.pointer (some p))

/-- the first byte that is no digit -/
theorem first_bad (L : List UInt8) (h : L.all isDig = false) : ∃ i, ∃ h : i < L.length, (L.take i).all isDig = true ∧ isDig L[i] = false := by
  induction L with
  | nil => simp at h
  | cons c L ih =>
    by_cases hc : isDig c = true
    · rw [List.all_cons, hc, Bool.true_and] at h
      obtain ⟨i, hi, h1, h2⟩ := ih h
      exact ⟨i + 1, by simp; omega, by simp [hc]; simpa using h1, by simpa using h2⟩
    · exact ⟨0, by simp, rfl, by simpa using hc⟩

set_option maxRecDepth 100000 in
set_option maxHeartbeats 1000000 in
/-- digits -/
theorem readd_digits (s : ByteArray) (w : World) (hE : Env w) (hd : s.data.toList.all isDig = true) (hs : s.size ≤ 100000) (R : Ending → World → Prop)
    (hR : ∀ v w', digB s.data.toList = true → IsN w' v (rdec s.data.toList) → Below w.heap.size w w' → R (.returned (.tuple #[v, .nilIface])) w')
    (hR2 : ∀ e w', digB s.data.toList = false → Plain e → Below w.heap.size w w' → R (.returned (.tuple #[.slice none 0 0, e])) w') :
    Calls Tryz.prog 133 #[.string s] w R := by
  have HR := Lib.hid hR; clear hR
  have HR2 := Lib.hid hR2; clear hR2
  have HD := Lib.hid hd
  have HSZ := Lib.hid (size_list s)
  have HE := Lib.hid hE
  clear hd hE
  go_enter Tryz.func133, Tryz.ntmps133
  go_wp2
  go_loopw [4, 5] (fun _ _ wx => ∃ pos, wx = w.iter s pos ∧ pos ≤ s.size) (fun _ _ wx => s.size - wx.iterPos w.heap.size)
  case atStart => exact ⟨0, rfl, Nat.zero_le _⟩
  case round =>
    obtain ⟨pos, rfl, hps⟩ := hrel
    by_cases hpl : pos < s.size
    · have hp2 : pos < s.data.toList.length := by rw [size_list]; exact hpl
      have hb := dig_at _ HD.out pos hp2
      rw [← byte_at s pos hpl hp2] at hb
      obtain ⟨hb1, hb2⟩ := hb
      have hnx := fun ty => run_next_ascii (P := Tryz.prog) w s pos ty hpl (by omega)
      have hb3 : (48 : Int) ≤ (s[pos].toNat : Int) := by omega
      have hb4 : (s[pos].toNat : Int) ≤ 57 := by omega
      clear hb1 hb2
      go_wp2
      go_roundw
      case rel => exact ⟨pos + 1, rfl, by omega⟩
      case measure => rw [World.iterPos_iter, World.iterPos_iter]; omega
    · obtain rfl : pos = s.size := by omega
      have hnx := fun ty => run_next_end (P := Tryz.prog) w s s.size ty (by omega)
      have hext : Below w.heap.size w (w.iter s s.size) := (Below.refl _ _).alloc (Nat.le_refl _) _
      obtain ⟨⟨p1, he1⟩, ⟨p2, he2⟩, _⟩ := HE.out.later hext (Nat.le_refl _)
      have hd : digB s.data.toList = _ := digB_all HD.out
      rw [HSZ.out] at hd
      have HEX := Lib.hid hext
      clear hext hps
      by_cases h1 : 1 ≤ s.size
      · have h0 : 0 < s.data.toList.length := by rw [HSZ.out]; omega
        have hb := byte_at s 0 (by omega) h0
        have hne : s.toList.isEmpty = false := by
          rw [Lib.toList_data]
          cases h : s.data.toList with
          | nil => rw [h] at h0; simp at h0
          | cons c l => rfl
        have hne2 : s.toList ≠ [] := by intro e; rw [e] at hne; simp at hne
        rw [head_at _ h0, ← hb, decide_eq_true h1, Bool.true_and] at hd
        by_cases hz : s[0] = 48 ∧ 1 < s.size
        · have e1 : ((s[0].toNat : Int) == 48) = true := by rw [hz.1]; rfl
          have hd2 : digB s.data.toList = false := by
            rw [hd, hz.1, decide_eq_false (by omega : ¬ s.size = 1)]
            simp
          have hl1 : (1 : Int) < (s.size : Int) := by omega
          have HD2 := Lib.hid hd2
          clear hd hb hz hd2
          go_wp2
          go_quiet (fail)
          go_wp2
          first | go_ret | skip
          exact HR2.out _ _ HD2.out ⟨_, rfl⟩ (below_draws HEX.out _)
        · by_cases h60 : s.size ≤ 60
          · have hd2 : digB s.data.toList = true := by
              rw [hd, decide_eq_true h60, Bool.true_and, Bool.or_eq_true]
              by_cases h48 : s[0] = 48
              · right; exact decide_eq_true (by have : ¬ 1 < s.size := fun h => hz ⟨h48, h⟩; omega)
              · left; simp [h48]
            have HD2 := Lib.hid hd2
            have h60i : (s.size : Int) ≤ 60 := by omega
            by_cases h48 : s[0] = 48
            · have e1 : ((s[0].toNat : Int) == 48) = true := by rw [h48]; rfl
              have hl1 : ¬ (1 : Int) < (s.size : Int) := by
                have : ¬ 1 < s.size := fun h => hz ⟨h48, h⟩
                omega
              clear hd hb hz hd2 h48
              go_wp2_with fail
              refine ofdig_any s _ HD.out h60 _ ?_
              intro v w1 hv hb1
              obtain ⟨a1, n1, c1, rfl, hv'⟩ := hv.op
              have HV := Lib.hid hv'
              have HB1 := Lib.hid (HEX.out.trans (hb1.mono HEX.out.size))
              clear hv hv' hb1 hnx
              dsimp only
              go_wp2
              first | go_ret | skip
              exact HR.out _ _ HD2.out HV.out HB1.out
            · have h48' : s[0].toNat ≠ 48 := fun h => h48 (UInt8.toNat_inj.1 h)
              have e1 : ((s[0].toNat : Int) == 48) = false := by simp; omega
              clear hd hb hz hd2 h48 h48'
              by_cases hl : 1 < s.size
              · have hl1 : (1 : Int) < (s.size : Int) := by omega
                go_wp2_with fail
                refine ofdig_any s _ HD.out h60 _ ?_
                intro v w1 hv hb1
                obtain ⟨a1, n1, c1, rfl, hv'⟩ := hv.op
                have HV := Lib.hid hv'
                have HB1 := Lib.hid (HEX.out.trans (hb1.mono HEX.out.size))
                clear hv hv' hb1 hnx
                dsimp only
                go_wp2
                first | go_ret | skip
                exact HR.out _ _ HD2.out HV.out HB1.out
              · have hl1 : ¬ (1 : Int) < (s.size : Int) := by omega
                go_wp2_with fail
                refine ofdig_any s _ HD.out h60 _ ?_
                intro v w1 hv hb1
                obtain ⟨a1, n1, c1, rfl, hv'⟩ := hv.op
                have HV := Lib.hid hv'
                have HB1 := Lib.hid (HEX.out.trans (hb1.mono HEX.out.size))
                clear hv hv' hb1 hnx
                dsimp only
                go_wp2
                first | go_ret | skip
                exact HR.out _ _ HD2.out HV.out HB1.out
          · have hd2 : digB s.data.toList = false := by rw [hd, decide_eq_false h60, Bool.false_and]
            have hl1 : (1 : Int) < (s.size : Int) := by omega
            have h48 : s[0] ≠ 48 := fun h => hz ⟨h, by omega⟩
            have h48' : s[0].toNat ≠ 48 := fun h => h48 (UInt8.toNat_inj.1 h)
            have e1 : ((s[0].toNat : Int) == 48) = false := by simp; omega
            have h60i : (60 : Int) < (s.size : Int) := by omega
            have HD2 := Lib.hid hd2
            clear hd hb hz hd2 h48 h48'
            go_wp2
            go_quiet (fail)
            go_wp2
            first | go_ret | skip
            exact HR2.out _ _ HD2.out ⟨_, rfl⟩ (below_draws HEX.out _)
      · have hnil : s.toList = [] := by rw [Lib.toList_data]; exact List.eq_nil_of_length_eq_zero (by rw [HSZ.out]; omega)
        have hnil2 : s.toList.isEmpty = true := by rw [hnil]; rfl
        have hd2 : digB s.data.toList = false := by rw [hd, decide_eq_false h1, Bool.false_and]
        have HD2 := Lib.hid hd2
        clear hd hd2
        go_wp2
        go_quiet (fail)
        go_wp2
        first | go_ret | skip
        exact HR2.out _ _ HD2.out ⟨_, rfl⟩ (below_draws HEX.out _)
end Go.Proofs.YtdkjcdfkoahfkaaGreatDoor

namespace Go.Proofs.YtdkjcdfkoahfkaaGreatDoor
open Go Go.RowKit

/-- an error that tells where a rune stands that is no digit -/
def StopAt (w : World) (e : Value) (i : Nat) (slash : Bool) : Prop :=
  ∃ (b : Nat) (r : Int), e = .iface 160 (.pointer (some ⟨b, 0, none⟩)) ∧ Box2 w b (.int .i64 ((i : Nat) : Int)) (.int .i32 r) 164 ∧ slash = decide (r = 47)

set_option maxRecDepth 100000 in
set_option maxHeartbeats 1000000 in
theorem readd_bad (s : ByteArray) (i : Nat) (hi : i < s.data.toList.length) (w : World) (hd : (s.data.toList.take i).all isDig = true) (hb : isDig s.data.toList[i] = false) (hs : s.size ≤ 100000) (R : Ending → World → Prop)
    (hR : ∀ e w', StopAt w' e i (decide (s.data.toList[i] = 47)) → Below w.heap.size w w' → R (.returned (.tuple #[.slice none 0 0, e])) w') :
    Calls Tryz.prog 133 #[.string s] w R := by
  have HR := Lib.hid hR; clear hR
  have HD := Lib.hid hd
  have HSZ := Lib.hid (size_list s)
  have his : i < s.size := by rw [← size_list]; exact hi
  have hbi := byte_at s i his hi
  rw [← hbi] at hb HR
  clear hd hbi
  have hdg : ∀ p (hp : p < s.size), p < i → 48 ≤ s[p].toNat ∧ s[p].toNat ≤ 57 := by
    intro p hp hpi
    have h1 := dig_at (s.data.toList.take i) HD.out p (by rw [List.length_take, HSZ.out]; omega)
    rw [List.getElem_take] at h1
    rw [byte_at s p hp (by rw [HSZ.out]; exact hp)]
    exact h1
  have HDG := Lib.hid hdg
  have hbad : ¬ (48 ≤ s[i].toNat ∧ s[i].toNat ≤ 57) := by
    intro h
    simp [isDig] at hb
    omega
  clear hdg hb
  go_enter Tryz.func133, Tryz.ntmps133
  go_wp2
  go_loopw [4, 5] (fun _ _ wx => ∃ pos, wx = w.iter s pos ∧ pos ≤ i) (fun _ _ wx => i - wx.iterPos w.heap.size)
  case atStart => exact ⟨0, rfl, Nat.zero_le _⟩
  case round =>
    obtain ⟨pos, rfl, hps⟩ := hrel
    have hpl : pos < s.size := by omega
    by_cases hpi : pos < i
    · obtain ⟨hb1, hb2⟩ := HDG.out pos hpl hpi
      have hnx := fun ty => run_next_ascii (P := Tryz.prog) w s pos ty hpl (by omega)
      have hb3 : (48 : Int) ≤ (s[pos].toNat : Int) := by omega
      have hb4 : (s[pos].toNat : Int) ≤ 57 := by omega
      clear hb1 hb2
      go_wp2
      go_roundw
      case rel => exact ⟨pos + 1, rfl, by omega⟩
      case measure => rw [World.iterPos_iter, World.iterPos_iter]; omega
    · obtain rfl : pos = i := by omega
      by_cases hasc : s[pos].toNat < 128
      · have hnx := fun ty => run_next_ascii (P := Tryz.prog) w s pos ty hpl hasc
        have hsl : decide (s[pos] = 47) = decide ((s[pos].toNat : Int) = 47) := by
          apply decide_eq_decide.2
          constructor
          · intro h; rw [h]; rfl
          · intro h; apply UInt8.toNat_inj.1; show s[pos].toNat = 47; omega
        have HSL := Lib.hid hsl
        have hext : Below w.heap.size w (w.iter s (pos + 1)) := (Below.refl _ _).alloc (Nat.le_refl _) _
        have HEX := Lib.hid hext
        clear hsl hext
        by_cases hlo : s[pos].toNat < 48
        · have hlo2 : (s[pos].toNat : Int) < 48 := by omega
          clear hbad
          go_wp2
          first | go_ret | skip
          exact HR.out _ _ ⟨_, _, rfl, Box2.made _ _ _ _, HSL.out⟩ (HEX.out.alloc HEX.out.size _)
        · have hlo2 : ¬ (s[pos].toNat : Int) < 48 := by omega
          have hhi : (57 : Int) < (s[pos].toNat : Int) := by omega
          clear hbad
          go_wp2
          first | go_ret | skip
          exact HR.out _ _ ⟨_, _, rfl, Box2.made _ _ _ _, HSL.out⟩ (HEX.out.alloc HEX.out.size _)
      · have hnx := fun ty => run_next_any (P := Tryz.prog) w s pos ty hpl
        obtain ⟨hr1, _⟩ := decode_high s pos hpl (by omega)
        obtain ⟨rn, hrn⟩ : ∃ rn, rn = (Utf8.decode s pos).1 := ⟨_, rfl⟩
        obtain ⟨wd, hwd⟩ : ∃ wd, wd = (Utf8.decode s pos).2 := ⟨_, rfl⟩
        rw [← hrn] at hr1
        simp only [← hrn, ← hwd] at hnx
        have hsl : decide (s[pos] = 47) = decide ((rn : Int) = 47) := by
          rw [decide_eq_false, decide_eq_false]
          · omega
          · intro h; rw [h] at hasc; exact hasc (by decide)
        have HSL := Lib.hid hsl
        have hext : Below w.heap.size w (w.iter s (pos + wd)) := (Below.refl _ _).alloc (Nat.le_refl _) _
        have HEX := Lib.hid hext
        have hlo2 : ¬ (rn : Int) < 48 := by omega
        have hhi : (57 : Int) < (rn : Int) := by omega
        clear hsl hext hrn hwd hbad
        go_wp2
        first | go_ret | skip
        exact HR.out _ _ ⟨_, _, rfl, Box2.made _ _ _ _, HSL.out⟩ (HEX.out.alloc HEX.out.size _)
end Go.Proofs.YtdkjcdfkoahfkaaGreatDoor

namespace Go.Proofs.YtdkjcdfkoahfkaaGreatDoor
open Go Go.RowKit

/-- a value of the program's type of integers -/
def IsI (w : World) (v : Value) (z : Int) : Prop := ∃ s, v = .agg #[.bool (decide (z < 0)), s] ∧ IsN w s z.natAbs
/-- a value of the program's type of fractions -/
def IsR (w : World) (v : Value) (q : Rat) : Prop := ∃ s1 s2, v = .agg #[.bool (decide (q.num < 0)), s1, s2] ∧ IsN w s1 q.num.natAbs ∧ IsN w s2 q.den

theorem IsI.later {w w' : World} {v : Value} {z : Int} {B : Nat} (h : IsI w v z) (hb : Below B w w') (hB : w.heap.size ≤ B) : IsI w' v z := by
  obtain ⟨s, h1, h2⟩ := h; exact ⟨s, h1, h2.later hb hB⟩
theorem IsR.later {w w' : World} {v : Value} {q : Rat} {B : Nat} (h : IsR w v q) (hb : Below B w w') (hB : w.heap.size ≤ B) : IsR w' v q := by
  obtain ⟨s1, s2, h1, h2, h3⟩ := h; exact ⟨s1, s2, h1, h2.later hb hB, h3.later hb hB⟩

set_option maxRecDepth 100000 in
set_option maxHeartbeats 1000000 in
theorem integerOf_any (neg : Bool) (v : Value) (n : Nat) (w : World) (h : IsN w v n) (R : Ending → World → Prop)
    (hR : ∀ w', Below w.heap.size w w' → R (.returned (.agg #[.bool (neg && decide (n ≠ 0)), v])) w') :
    Calls Tryz.prog 80 #[.bool neg, v] w R := by
  have HR := Lib.hid hR; clear hR
  obtain ⟨a1, n1, c1, rfl, h'⟩ := h.op
  have HH := Lib.hid h'
  clear h h'
  cases neg
  · go_enter Tryz.func80, Tryz.ntmps80
    go_wp2
    refine bodyPost_ret_at (by simp [results, Tryz.results80, go_sem] <;> rfl) rfl ?_
    exact HR.out _ ((Below.refl _ _).alloc (Nat.le_refl _) _)
  · by_cases h0 : n = 0
    · subst h0
      go_enter Tryz.func80, Tryz.ntmps80
      go_wp2_with fail
      refine nzero_any _ 0 _ (HH.out.later ((Below.refl _ _).alloc (Nat.le_refl _) _) (Nat.le_refl _)) _ ?_
      rw [decide_eq_true rfl]
      dsimp only
      go_wp2
      refine bodyPost_ret_at (by simp [results, Tryz.results80, go_sem] <;> rfl) rfl ?_
      exact HR.out _ ((Below.refl _ _).alloc (Nat.le_refl _) _)
    · have hd : (true && decide (n ≠ 0)) = true := by simp [h0]
      rw [hd] at HR
      have H0 := Lib.hid h0
      clear hd h0
      go_enter Tryz.func80, Tryz.ntmps80
      go_wp2_with fail
      refine nzero_any _ n _ (HH.out.later ((Below.refl _ _).alloc (Nat.le_refl _) _) (Nat.le_refl _)) _ ?_
      rw [decide_eq_false H0.out]
      dsimp only
      go_wp2
      refine bodyPost_ret_at (by simp [results, Tryz.results80, go_sem] <;> rfl) rfl ?_
      exact HR.out _ ((Below.refl _ _).alloc (Nat.le_refl _) _)

theorem sgn_neg (neg : Bool) (n : Nat) : decide (sgn neg n < 0) = (neg && decide (n ≠ 0)) := by
  cases neg
  · simp [sgn]
  · by_cases h : n = 0
    · subst h; rfl
    · simp only [sgn, if_true, Bool.true_and, decide_eq_true (show n ≠ 0 from h)]
      exact decide_eq_true (by omega)

theorem integerOf_z (neg : Bool) (v : Value) (n : Nat) (w : World) (h : IsN w v n) (R : Ending → World → Prop)
    (hR : ∀ v' w', IsI w' v' (sgn neg n) → Below w.heap.size w w' → R (.returned v') w') :
    Calls Tryz.prog 80 #[.bool neg, v] w R :=
  integerOf_any neg v n w h R fun w' hb => hR _ w' ⟨v, by rw [sgn_neg], by rw [sgn_abs]; exact h.later hb (Nat.le_refl _)⟩ hb

theorem IsN.one (w : World) (B : Nat) (hB : B ≤ w.heap.size) : IsN (w.alloc (.cells #[.int .u64 1] 99)) (.slice (some ⟨w.heap.size, 0, none⟩) 1 1) 1 := by
  show Sl _ _ _ (dig W64 1)
  rw [dig_small (by omega) (by rw [W64_eq]; omega)]
  exact (Own.lit1 .u64 99 w B 1 1 rfl hB).sl

set_option maxRecDepth 100000 in
set_option maxHeartbeats 1000000 in
theorem ratioOf_any (v : Value) (z : Int) (w : World) (h : IsI w v z) (R : Ending → World → Prop)
    (hR : ∀ v' w', IsR w' v' (z : Rat) → Below w.heap.size w w' → R (.returned v') w') :
    Calls Tryz.prog 73 #[v] w R := by
  have HR := Lib.hid hR; clear hR
  obtain ⟨s, rfl, hs⟩ := h
  obtain ⟨a1, n1, c1, rfl, h'⟩ := hs.op
  have HH := Lib.hid h'
  obtain ⟨neg, hneg⟩ : ∃ b, b = decide (z < 0) := ⟨_, rfl⟩
  rw [← hneg]
  have HN := Lib.hid hneg
  clear hs h' hneg
  go_enter Tryz.func73, Tryz.ntmps73
  go_wp2
  refine bodyPost_ret_at (by simp [results, Tryz.results73, go_sem] <;> rfl) rfl ?_
  have hb : Below w.heap.size w (((w.alloc (.cells #[.bool neg, .slice a1 n1 c1] 83)).alloc (.cells #[.bool neg, .slice a1 n1 c1, .slice (some ⟨w.heap.size + 1 + 1, 0, none⟩) 1 1] 85)).alloc (.cells #[.int .u64 1] 99)) :=
    (((Below.refl _ _).alloc (Nat.le_refl _) _).alloc (by simp) _).alloc (by simp; omega) _
  refine HR.out _ _ ⟨.slice a1 n1 c1, .slice (some ⟨w.heap.size + 1 + 1, 0, none⟩) 1 1, ?_, HH.out.later hb (Nat.le_refl _), ?_⟩ hb
  · rw [HN.out]; rfl
  · have := IsN.one ((w.alloc (.cells #[.bool neg, .slice a1 n1 c1] 83)).alloc (.cells #[.bool neg, .slice a1 n1 c1, .slice (some ⟨w.heap.size + 1 + 1, 0, none⟩) 1 1] 85)) 0 (Nat.zero_le _)
    simpa using this

/-- an error that is not nil -/
def ErrV (e : Value) : Prop := ∃ t p, e = .iface t (.pointer (some p))

theorem readd_any (s : ByteArray) (w : World) (hE : Env w) (hs : s.size ≤ 100000) (R : Ending → World → Prop)
    (hR : ∀ v w', digB s.data.toList = true → IsN w' v (rdec s.data.toList) → Below w.heap.size w w' → R (.returned (.tuple #[v, .nilIface])) w')
    (hR2 : ∀ e w', digB s.data.toList = false → ErrV e → Below w.heap.size w w' → R (.returned (.tuple #[.slice none 0 0, e])) w') :
    Calls Tryz.prog 133 #[.string s] w R := by
  by_cases h : s.data.toList.all isDig = true
  · refine readd_digits s w hE h hs R hR fun e w' h1 h2 h3 => hR2 e w' h1 ?_ h3
    obtain ⟨p, rfl⟩ := h2
    exact ⟨_, _, rfl⟩
  · obtain ⟨i, hi, h1, h2⟩ := first_bad s.data.toList (by simpa using h)
    refine readd_bad s i hi w h1 h2 hs R fun e w' h3 h4 => hR2 e w' ?_ ?_ h4
    · unfold digB
      rw [show s.data.toList.all isDig = false by simpa using h]; rfl
    · obtain ⟨b, r, rfl, _⟩ := h3
      exact ⟨_, _, rfl⟩

/-- a block of three cells -/
def Box3 (w : World) (b : Nat) (x0 x1 x2 : Value) (t : TypeId) : Prop := w.heap[b]? = some (.cells #[x0, x1, x2] t (0, 0))
theorem Box3.cells {w : World} {b : Nat} {x0 x1 x2 : Value} {t : TypeId} (h : Box3 w b x0 x1 x2 t) :
    (w.cell? ⟨b, 0, none⟩ = some x0 ∧ w.cell? ⟨b, 1, none⟩ = some x1 ∧ w.cell? ⟨b, 2, none⟩ = some x2) ∧
    (w.frozen? ⟨b, 0, none⟩ = false ∧ w.frozen? ⟨b, 1, none⟩ = false ∧ w.frozen? ⟨b, 2, none⟩ = false) := by
  unfold Box3 at h
  simp [World.cell?, World.frozen?, h]
theorem Box3.later {w w' : World} {b : Nat} {x0 x1 x2 : Value} {t : TypeId} {B : Nat} (h : Box3 w b x0 x1 x2 t) (hb : Below B w w') (hB : b < B) : Box3 w' b x0 x1 x2 t := by
  unfold Box3 at *; rw [hb.block b hB]; exact h
theorem Box3.made (w : World) (x0 x1 x2 : Value) (t : TypeId) : Box3 (w.alloc (.cells #[x0, x1, x2] t)) w.heap.size x0 x1 x2 t := by
  show (w.heap.push _)[_]? = _
  simp
theorem below_set3 {B : Nat} {a w : World} (h : Below B a w) {b : Nat} (hb : B ≤ b) (y0 y1 y2 : Value) : Below B a (((w.setCell ⟨b, 0, none⟩ y0).setCell ⟨b, 1, none⟩ y1).setCell ⟨b, 2, none⟩ y2) :=
  ((h.setCell hb _).setCell hb _).setCell hb _
/-- a store into a block without numbers leaves a natural number as it is -/
theorem Box3.noInt {w : World} {b : Nat} {x0 x1 x2 : Value} {t : TypeId} (h : Box3 w b x0 x1 x2 t) (h0 : notInt x0 = true) (h1 : notInt x1 = true) (h2 : notInt x2 = true) : NoInt w b := by
  intro o x hx
  unfold Box3 at h
  simp only [World.cell?, h, Option.isSome_none, Bool.false_eq_true, if_false] at hx
  match o, hx with
  | 0, hx => simp at hx; subst hx; exact h0
  | 1, hx => simp at hx; subst hx; exact h1
  | 2, hx => simp at hx; subst hx; exact h2
  | (n + 3), hx => simp at hx
theorem IsN.set3 {w : World} {v : Value} {n : Nat} (h : IsN w v n) {b : Nat} (hb : NoInt w b) (y0 y1 y2 : Value) (h0 : notInt y0 = true) (h1 : notInt y1 = true) : IsN (((w.setCell ⟨b, 0, none⟩ y0).setCell ⟨b, 1, none⟩ y1).setCell ⟨b, 2, none⟩ y2) v n :=
  ((Sl.set h hb 0 y0).set (hb.set 0 _ h0) 1 y1).set ((hb.set 0 _ h0).set 1 _ h1) 2 y2

/-- the zero value of the program's type of fractions -/
def zeroR : Value := .agg #[.bool false, .slice none 0 0, .slice none 0 0]
end Go.Proofs.YtdkjcdfkoahfkaaGreatDoor

namespace Go.Proofs.YtdkjcdfkoahfkaaGreatDoor
open Go Go.RowKit

set_option maxRecDepth 100000 in
set_option maxHeartbeats 2000000 in
theorem readf_any (neg : Bool) (s1 s2 : ByteArray) (w : World) (hE : Env w) (hs1 : s1.size ≤ 250) (hs2 : s2.size ≤ 250) (R : Ending → World → Prop)
    (hR : ∀ v q w', digB s1.data.toList = true → digB s2.data.toList = true → 2 ≤ rdec s2.data.toList → Nat.gcd (rdec s1.data.toList) (rdec s2.data.toList) = 1 → q.num = sgn neg (rdec s1.data.toList) → q.den = rdec s2.data.toList →
      IsR w' v q → Below w.heap.size w w' → R (.returned (.tuple #[v, .nilIface])) w')
    (hR2 : ∀ e w', ¬ (digB s1.data.toList = true ∧ digB s2.data.toList = true ∧ 2 ≤ rdec s2.data.toList ∧ Nat.gcd (rdec s1.data.toList) (rdec s2.data.toList) = 1) → ErrV e → Below w.heap.size w w' → R (.returned (.tuple #[zeroR, e])) w') :
    Calls Tryz.prog 135 #[.bool neg, .string s1, .string s2] w R := by
  have HR := Lib.hid hR; clear hR
  have HR2 := Lib.hid hR2; clear hR2
  have hne1 : ¬ 1 = w.heap.size := by
    obtain ⟨⟨pf, hpf⟩, _, _⟩ := hE
    exact Nat.ne_of_lt (lt_of_cell hpf)
  have hne2 : ¬ w.heap.size = 1 := fun h => hne1 h.symm
  have HE := Lib.hid hE; clear hE
  obtain ⟨N1, hN1⟩ : ∃ N, N = rdec s1.data.toList := ⟨_, rfl⟩
  obtain ⟨N2, hN2⟩ : ∃ N, N = rdec s2.data.toList := ⟨_, rfl⟩
  obtain ⟨L, hL⟩ : ∃ L, L = w.alloc (.cells #[.bool false, .slice none 0 0, .slice none 0 0] 85) := ⟨_, rfl⟩
  have hbL : Below w.heap.size w L := by rw [hL]; exact (Below.refl _ _).alloc (Nat.le_refl _) _
  have hLs : L.heap.size = w.heap.size + 1 := by rw [hL]; simp
  have HL := Lib.hid hL
  have HBL := Lib.hid hbL
  have HLS := Lib.hid hLs
  have HBX : Hid (Box3 L w.heap.size (.bool false) (.slice none 0 0) (.slice none 0 0) 85) := Lib.hid (by rw [hL]; exact Box3.made _ _ _ _ _)
  have HN1 := Lib.hid hN1
  have HN2 := Lib.hid hN2
  clear hL hbL hLs hN1 hN2
  go_enter Tryz.func135, Tryz.ntmps135
  go_wp2_with fail
  rw [← HL.out]
  refine readd_any s1 L (HE.out.later HBL.out (Nat.le_refl _)) (by omega) _ ?_ ?_
  · intro v1 w1 hd1 hv1 hb1
    obtain ⟨a1, n1, c1, rfl, hv1'⟩ := hv1.op
    have HV1 := Lib.hid hv1'
    have HD1 := Lib.hid hd1
    have HB1 := Lib.hid (HBL.out.trans (hb1.mono (by have := HLS.out; omega)))
    have HX1 := Lib.hid (HBX.out.later hb1 (by have := HLS.out; omega))
    have HE1 := Lib.hid ((HE.out.later HBL.out (Nat.le_refl _)).later hb1 (Nat.le_refl _))
    clear hv1 hv1' hb1 hd1
    dsimp only
    go_wp2_with fail
    refine readd_any s2 w1 HE1.out (by omega) _ ?_ ?_
    · intro v2 w2 hd2 hv2 hb2
      obtain ⟨a2, n2, c2, rfl, hv2'⟩ := hv2.op
      have HV2 := Lib.hid hv2'
      have HV1b := Lib.hid (HV1.out.later hb2 (Nat.le_refl _))
      have HD2 := Lib.hid hd2
      have HB2 := Lib.hid (HB1.out.trans (hb2.mono HB1.out.size))
      have HX2 := Lib.hid (HX1.out.later hb2 (lt_of_block HX1.out))
      have HE2 := Lib.hid (HE1.out.later hb2 (Nat.le_refl _))
      obtain ⟨⟨hR0, hR1, hR2⟩, hF0, hF1, hF2⟩ := Box3.cells HX2.out
      obtain ⟨⟨pf, hpf⟩, _, _⟩ := HE2.out
      have hla : ∀ z : ByteArray, z.size ≤ 250 → z.data.toList.all isDig = true → (dig W64 (rdec z.data.toList)).length ≤ 250 := by
        intro z hz hall
        exact dig_length_ten (e := 250) (by rw [W64_eq]; omega) (Nat.lt_of_lt_of_le (rdec_lt _ hall) (Nat.pow_le_pow_right (by omega) (by rw [size_list]; exact hz)))
      have HLA1 := Lib.hid (hla s1 hs1 (digB_iff.1 HD1.out).1)
      have HLA2 := Lib.hid (hla s2 hs2 (digB_iff.1 HD2.out).1)
      clear hv2 hv2' hb2 hd2 hla
      dsimp only
      go_wp2_with fail
      refine nzero_any _ _ _ HV2.out _ ?_
      rw [← HN2.out]
      by_cases h0 : N2 = 0
      · rw [decide_eq_true h0]
        have HW := Lib.hid (show ¬ (digB s1.data.toList = true ∧ digB s2.data.toList = true ∧ 2 ≤ rdec s2.data.toList ∧ Nat.gcd (rdec s1.data.toList) (rdec s2.data.toList) = 1) by rw [← HN2.out]; omega)
        clear h0
        dsimp only
        go_wp2
        go_region
        all_goals
          go_wp2
          refine bodyPost_ret_at (by simp [results, Tryz.results135, go_sem, hR0, hR1, hR2, hF0, hF1, hF2] <;> rfl) rfl ?_
          first | exact HR2.out _ _ HW.out ⟨_, _, rfl⟩ (below_set3 HB2.out (Nat.le_refl _) _ _ _).drew | exact HR2.out _ _ HW.out ⟨_, _, rfl⟩ (below_set3 HB2.out (Nat.le_refl _) _ _ _)
      · rw [decide_eq_false h0]
        dsimp only
        go_wp2_with fail
        refine none_any _ _ _ HV2.out _ ?_
        rw [← HN2.out]
        by_cases h1 : N2 = 1
        · rw [decide_eq_true h1]
          have HW := Lib.hid (show ¬ (digB s1.data.toList = true ∧ digB s2.data.toList = true ∧ 2 ≤ rdec s2.data.toList ∧ Nat.gcd (rdec s1.data.toList) (rdec s2.data.toList) = 1) by rw [← HN2.out]; omega)
          clear h0 h1
          dsimp only
          go_wp2
          go_region
          all_goals
            go_wp2
            refine bodyPost_ret_at (by simp [results, Tryz.results135, go_sem, hR0, hR1, hR2, hF0, hF1, hF2] <;> rfl) rfl ?_
            first | exact HR2.out _ _ HW.out ⟨_, _, rfl⟩ (below_set3 HB2.out (Nat.le_refl _) _ _ _).drew | exact HR2.out _ _ HW.out ⟨_, _, rfl⟩ (below_set3 HB2.out (Nat.le_refl _) _ _ _)
        · rw [decide_eq_false h1]
          have H2 := Lib.hid (show 2 ≤ N2 by omega)
          clear h0 h1
          dsimp only
          go_wp2_with fail
          refine gcdn_any _ _ _ _ _ HV1b.out HV2.out (Nat.le_trans HLA1.out (by omega)) (Nat.le_trans HLA2.out (by omega)) _ ?_
          intro vg w3 hvg hb3
          obtain ⟨a3, n3, c3, rfl, hvg'⟩ := hvg.op
          have HVG := Lib.hid hvg'
          have HB3 := Lib.hid (HB2.out.trans (hb3.mono HB2.out.size))
          have HX3 := Lib.hid (HX2.out.later hb3 (lt_of_block HX2.out))
          have HV1c := Lib.hid (HV1b.out.later hb3 (Nat.le_refl _))
          have HV2c := Lib.hid (HV2.out.later hb3 (Nat.le_refl _))
          rw [← hb3.cell (p := ⟨1, 0, none⟩) (lt_of_cell hpf)] at hpf
          clear hvg hvg' hb3 hR0 hR1 hR2 hF0 hF1 hF2
          obtain ⟨⟨hR0, hR1, hR2⟩, hF0, hF1, hF2⟩ := Box3.cells HX3.out
          dsimp only
          go_wp2_with fail
          refine none_any _ _ _ HVG.out _ ?_
          by_cases hg : Nat.gcd (rdec s1.data.toList) (rdec s2.data.toList) = 1
          · rw [decide_eq_true hg]
            have HG := Lib.hid hg
            clear hg hpf
            dsimp only
            go_wp2_with fail
            refine integerOf_z neg _ _ _ HV1c.out _ ?_
            intro v4 w4 hz4 hb4
            obtain ⟨sz, rfl, hsz⟩ := hz4
            obtain ⟨a4, n4, c4, rfl, hsz'⟩ := hsz.op
            obtain ⟨ng, hng⟩ : ∃ ng, ng = decide (sgn neg (rdec s1.data.toList) < 0) := ⟨_, rfl⟩
            rw [← hng]
            have HNG := Lib.hid hng
            have HSZ := Lib.hid hsz'
            have HV2d := Lib.hid (HV2c.out.later hb4 (Nat.le_refl _))
            have HB4 := Lib.hid (HB3.out.trans (hb4.mono HB3.out.size))
            have HX4 := Lib.hid (HX3.out.later hb4 (lt_of_block HX3.out))
            clear hsz hsz' hb4 hng hR0 hR1 hR2 hF0 hF1 hF2
            obtain ⟨⟨hR0, hR1, hR2⟩, hF0, hF1, hF2⟩ := Box3.cells HX4.out
            have HNI := Lib.hid (HX4.out.noInt rfl rfl rfl)
            dsimp only
            go_wp2
            refine bodyPost_ret_at (by simp [results, Tryz.results135, go_sem, hR0, hR1, hR2, hF0, hF1, hF2] <;> rfl) rfl ?_
            have h2 := H2.out
            rw [HN2.out] at h2
            let q : Rat := ⟨sgn neg (rdec s1.data.toList), rdec s2.data.toList, by omega, by rw [sgn_abs]; exact HG.out⟩
            refine HR.out _ q _ HD1.out HD2.out h2 HG.out rfl rfl ⟨.slice a4 n4 c4, .slice a2 n2 c2, by rw [HNG.out], ?_, ?_⟩ (below_set3 HB4.out (Nat.le_refl _) _ _ _)
            · exact HSZ.out.set3 HNI.out _ _ _ rfl rfl
            · exact HV2d.out.set3 HNI.out _ _ _ rfl rfl
          · rw [decide_eq_false hg]
            have HW := Lib.hid (show ¬ (digB s1.data.toList = true ∧ digB s2.data.toList = true ∧ 2 ≤ rdec s2.data.toList ∧ Nat.gcd (rdec s1.data.toList) (rdec s2.data.toList) = 1) from fun h => hg h.2.2.2)
            clear hg
            dsimp only
            go_wp2
            go_region
            all_goals
              go_wp2
              refine bodyPost_ret_at (by simp [results, Tryz.results135, go_sem, hR0, hR1, hR2, hF0, hF1, hF2] <;> rfl) rfl ?_
              first | exact HR2.out _ _ HW.out ⟨_, _, rfl⟩ (below_set3 HB3.out (Nat.le_refl _) _ _ _).drew | exact HR2.out _ _ HW.out ⟨_, _, rfl⟩ (below_set3 HB3.out (Nat.le_refl _) _ _ _)
    · intro e w2 hd2 he hb2
      obtain ⟨t, p, rfl⟩ := he
      have HW := Lib.hid (show ¬ (digB s1.data.toList = true ∧ digB s2.data.toList = true ∧ 2 ≤ rdec s2.data.toList ∧ Nat.gcd (rdec s1.data.toList) (rdec s2.data.toList) = 1) from fun h => by rw [hd2] at h; exact absurd h.2.1 (by simp))
      have HB2 := Lib.hid (HB1.out.trans (hb2.mono HB1.out.size))
      have HX2 := Lib.hid (HX1.out.later hb2 (lt_of_block HX1.out))
      obtain ⟨⟨hR0, hR1, hR2⟩, hF0, hF1, hF2⟩ := Box3.cells HX2.out
      clear hd2 hb2
      dsimp only
      go_wp2
      refine bodyPost_ret_at (by simp [results, Tryz.results135, go_sem, hR0, hR1, hR2, hF0, hF1, hF2] <;> rfl) rfl ?_
      first | exact HR2.out _ _ HW.out ⟨_, _, rfl⟩ (below_set3 HB2.out (Nat.le_refl _) _ _ _).drew | exact HR2.out _ _ HW.out ⟨_, _, rfl⟩ (below_set3 HB2.out (Nat.le_refl _) _ _ _)
  · intro e w1 hd1 he hb1
    obtain ⟨t, p, rfl⟩ := he
    have HW := Lib.hid (show ¬ (digB s1.data.toList = true ∧ digB s2.data.toList = true ∧ 2 ≤ rdec s2.data.toList ∧ Nat.gcd (rdec s1.data.toList) (rdec s2.data.toList) = 1) from fun h => by rw [hd1] at h; exact absurd h.1 (by simp))
    have HB1 := Lib.hid (HBL.out.trans (hb1.mono (by have := HLS.out; omega)))
    have HX1 := Lib.hid (HBX.out.later hb1 (by have := HLS.out; omega))
    obtain ⟨⟨hR0, hR1, hR2⟩, hF0, hF1, hF2⟩ := Box3.cells HX1.out
    clear hd1 hb1
    dsimp only
    go_wp2
    refine bodyPost_ret_at (by simp [results, Tryz.results135, go_sem, hR0, hR1, hR2, hF0, hF1, hF2] <;> rfl) rfl ?_
    exact HR2.out _ _ HW.out ⟨_, _, rfl⟩ (below_set3 (by first | exact HB1.out | exact HB1.out.drew) (Nat.le_refl _) _ _ _)
end Go.Proofs.YtdkjcdfkoahfkaaGreatDoor

namespace Go.Proofs.YtdkjcdfkoahfkaaGreatDoor
open Go Go.RowKit Go.Extern.Stop Go.Stop Go.Extern

/-- errors.As(nil, target). -/
theorem as_nil (t : Value) (w : World) :
    Calls Tryz.prog 134 #[.nilIface, t] w fun e w' => e = .returned (.bool false) ∧ w' = w := by
  go_enter Tryz.func134, Tryz.ntmps134
  go_wp2
  go_ret
  exact ⟨rfl, rfl⟩

theorem as_valueOf27 (t : Addr) (w : World) : (ReflectliteValue.unpack (.iface 162 (.pointer (some t)))).run Tryz.prog w
    = .ok (.agg #[.pointer (some ⟨11, 162, none⟩), .pointer (some ⟨w.heap.size, 0, none⟩), .int .u64 150]) (w.alloc (.cells #[.pointer (some t)] 162)) := by kernel_rfl
theorem as_type27 (a : Addr) (w : World) : (ReflectliteValue.methodAny (ReflectliteValue.valueError "reflectlite.Value.Type" 0) (fun t _ _ _ => ReflectliteType.toType t) #[.agg #[.pointer (some ⟨11, 162, none⟩), .pointer (some a), .int .u64 150]]).run Tryz.prog w
    = .ok (.iface 256 (.agg #[.pointer (some ⟨11, 162, none⟩)])) w := by kernel_rfl
theorem as_methodKind (h : Value) (w : World) : (Go.method 428 256 (.agg #[h]) "Kind").run Tryz.prog w = .ok (280, h) w := by kernel_rfl
theorem as_kind27 (w : World) : ((ReflectliteType.abiMethod fun t => (fun a : Nat => Value.int IntKind.u8 (a : Int)) <$> Rtype.kind t) #[.pointer (some ⟨11, 162, none⟩)]).run Tryz.prog w = .ok (.int .u8 22) w := by kernel_rfl
theorem as_kind25 (w : World) : ((ReflectliteType.abiMethod fun t => (fun a : Nat => Value.int IntKind.u8 (a : Int)) <$> Rtype.kind t) #[.pointer (some ⟨11, 160, none⟩)]).run Tryz.prog w = .ok (.int .u8 22) w := by kernel_rfl

theorem as_rlm (z : Sem Value) (f : TypeId → Addr → Nat → Nat → Sem Value) (v : Value) :
    ReflectliteValue.method z f #[v] = (do match ← ReflectliteValue.parts v with | none => z | some (t, a, fl) => f t a fl (fl % 32)) := rfl
theorem as_parts27 (a : Addr) (w : World) : (ReflectliteValue.parts (.agg #[.pointer (some ⟨11, 162, none⟩), .pointer (some a), .int .u64 150])).run Tryz.prog w = .ok (some (162, a, 150)) w := by kernel_rfl
/-- (Value).IsNil at the Value of a **p.E that is not nil. -/
theorem as_isNil27 (a p : Addr) (W : World) (ha : W.cell? a = some (.pointer (some p))) :
    (ReflectliteValue.method (ReflectliteValue.valueError "reflectlite.Value.IsNil" 0) ReflectliteValue.isNil #[.agg #[.pointer (some ⟨11, 162, none⟩), .pointer (some a), .int .u64 150]]).run Tryz.prog W = .ok (.bool false) W := by
  rw [as_rlm]
  simp only [Sem.run_bind, as_parts27, Result.andThen]
  simp [ReflectliteValue.isNil, loadVar, isAgg, underlying, Tryz.underlying162, ha, Result.andThen]

theorem as_methodElem (h : Value) (w : World) : (Go.method 428 256 (.agg #[h]) "Elem").run Tryz.prog w = .ok (294, .agg #[h]) w := by kernel_rfl
theorem as_methodImplements (h : Value) (w : World) : (Go.method 428 256 (.agg #[h]) "Implements").run Tryz.prog w = .ok (295, .agg #[h]) w := by kernel_rfl
theorem as_methodAssignableTo (h : Value) (w : World) : (Go.method 428 256 (.agg #[h]) "AssignableTo").run Tryz.prog w = .ok (292, .agg #[h]) w := by kernel_rfl
theorem as_elem27 (w : World) : (ReflectliteType.method ReflectliteType.elem #[.agg #[.pointer (some ⟨11, 162, none⟩)]]).run Tryz.prog w = .ok (.iface 256 (.agg #[.pointer (some ⟨11, 160, none⟩)])) w := by kernel_rfl
theorem as_implements25 (w : World) : (ReflectliteType.relation "Implements" ReflectliteType.implements_ #[.agg #[.pointer (some ⟨11, 160, none⟩)], .iface 256 (.agg #[.pointer (some ⟨11, 87, none⟩)])]).run Tryz.prog w = .ok (.bool true) w := by kernel_rfl
theorem as_typeOf25 (v : Value) (w : World) : (ReflectliteType.typeOf #[.iface 160 v]).run Tryz.prog w = .ok (.iface 256 (.agg #[.pointer (some ⟨11, 160, none⟩)])) w := by kernel_rfl
theorem as_assignable25 (w : World) : (ReflectliteType.relation "AssignableTo" ReflectliteType.assignableTo #[.agg #[.pointer (some ⟨11, 160, none⟩)], .iface 256 (.agg #[.pointer (some ⟨11, 160, none⟩)])]).run Tryz.prog w = .ok (.bool true) w := by kernel_rfl
theorem as_valueOf25 (e : Addr) (w : World) : (ReflectliteValue.unpack (.iface 160 (.pointer (some e)))).run Tryz.prog w
    = .ok (.agg #[.pointer (some ⟨11, 160, none⟩), .pointer (some ⟨w.heap.size, 0, none⟩), .int .u64 150]) (w.alloc (.cells #[.pointer (some e)] 160)) := by kernel_rfl

theorem as_elemOf27 (w : World) : (Rtype.elem? 162).run Tryz.prog w = .ok (some 160) w := by kernel_rfl
theorem as_mk25 (p : Addr) (w : World) : (ReflectliteValue.mk 160 p ReflectliteValue.flagAddr).run Tryz.prog w = .ok (.agg #[.pointer (some ⟨11, 160, none⟩), .pointer (some p), .int .u64 406]) w := by kernel_rfl
/-- (Value).Elem at the Value of a **p.E that is not nil: the Value of the *p.E variable that it points to, addressable. -/
theorem as_elemV27 (a p : Addr) (W : World) (ha : W.cell? a = some (.pointer (some p))) :
    (ReflectliteValue.method (ReflectliteValue.valueError "reflectlite.Value.Elem" 0) ReflectliteValue.elem #[.agg #[.pointer (some ⟨11, 162, none⟩), .pointer (some a), .int .u64 150]]).run Tryz.prog W
      = .ok (.agg #[.pointer (some ⟨11, 160, none⟩), .pointer (some p), .int .u64 406]) W := by
  rw [as_rlm]
  simp only [Sem.run_bind, as_parts27, Result.andThen]
  simp [ReflectliteValue.elem, loadVar, isAgg, underlying, Tryz.underlying162, ha, Result.andThen, as_elemOf27, as_mk25]
theorem as_rls (v x : Value) : ReflectliteValue.set #[v, x] = (do
    let (some (dst, a, fl), some (src, b, _)) := (← ReflectliteValue.parts v, ← ReflectliteValue.parts x)
      | unsupported (.noEntry "extern/(internal/reflectlite.Value).Set.zeroValue")
    if fl / ReflectliteValue.flagAddr % 2 == 0 then unsupported (.noEntry "extern/(internal/reflectlite.Value).Set.unaddressable")
    let val ← loadVar src b
    if ← Rtype.directlyAssignable dst src then storeVar dst a val
    else if ← Rtype.implements dst src then
      if (← Rtype.kind src) == 20 then
        match val with
        | .nilIface => unsupported (.noEntry "extern/reflectlite: a nil value of one interface type handed on as a value of another")
        | _ => storeVar dst a val
      else storeVar dst a (.iface src val)
    else panicString ("reflectlite.Set: value of type " ++ (← Rtype.spelt src) ++ " is not assignable to type " ++ (← Rtype.spelt dst))
    pure (.tuple #[])) := rfl
theorem as_parts25a (a : Addr) (w : World) : (ReflectliteValue.parts (.agg #[.pointer (some ⟨11, 160, none⟩), .pointer (some a), .int .u64 406])).run Tryz.prog w = .ok (some (160, a, 406)) w := by kernel_rfl
theorem as_parts25 (a : Addr) (w : World) : (ReflectliteValue.parts (.agg #[.pointer (some ⟨11, 160, none⟩), .pointer (some a), .int .u64 150])).run Tryz.prog w = .ok (some (160, a, 150)) w := by kernel_rfl
theorem as_direct25 (w : World) : (Rtype.directlyAssignable 160 160).run Tryz.prog w = .ok true w := by kernel_rfl
theorem as_size25 (w : World) : (sizeOf 160).run Tryz.prog w = .ok 1 w := by kernel_rfl
/-- (Value).Set: the *p.E variable at 'ta' gets what the Value's own variable 'b' holds. -/
theorem as_set25 (ta b e : Addr) (old : Value) (W : World) (hb : W.cell? b = some (.pointer (some e))) (ht : W.cell? ta = some old) (hf : W.frozen? ta = false) :
    (ReflectliteValue.set #[.agg #[.pointer (some ⟨11, 160, none⟩), .pointer (some ta), .int .u64 406], .agg #[.pointer (some ⟨11, 160, none⟩), .pointer (some b), .int .u64 150]]).run Tryz.prog W
      = .ok (.tuple #[]) (W.setCell ta (.pointer (some e))) := by
  rw [as_rls]
  simp only [Sem.run_bind, as_parts25a, as_parts25, Result.andThen]
  simp [ReflectliteValue.flagAddr, loadVar, isAgg, underlying, Tryz.underlying160, hb, Result.andThen, as_direct25, storeVar, Value.cells, storeCells, Addr.add]
  rw [run_store Tryz.prog W ta _ _ (by rfl)]
  simp [ht, hf]

set_option maxHeartbeats 4000000 in
theorem as_hit (e t : Addr) (old : Value) (w : World) (hg : w.cell? ⟨2, 0, none⟩ = some (.iface 256 (.agg #[.pointer (some ⟨11, 87, none⟩)]))) (ht0 : w.cell? t = some old) (hf0 : w.frozen? t = false) :
    Calls Tryz.prog 134 #[.iface 160 (.pointer (some e)), .iface 162 (.pointer (some t))] w fun ev w' => ev = .returned (.bool true) ∧ w' = ((((w.alloc (.cells #[.pointer (some t)] 162)).alloc (.cells #[.pointer (some ⟨11, 162, none⟩), .pointer (some ⟨w.heap.size, 0, none⟩), .int .u64 150] 212)).alloc (.cells #[.pointer (some ⟨11, 162, none⟩), .pointer (some ⟨w.heap.size, 0, none⟩), .int .u64 150] 212)).alloc (.cells #[.pointer (some e)] 160)).setCell t (.pointer (some e)) := by
  have h6 := @run_callFunc_extern Tryz.prog 188 _ (fun args => ReflectliteValue.unpack (args.getD 0 (.tuple #[]))) Tryz.func188 (by kernel_rfl) (by kernel_rfl) (by kernel_rfl) (by kernel_rfl)
  have h7 := @run_callFunc_extern Tryz.prog 189 _ (ReflectliteValue.methodAny (ReflectliteValue.valueError "reflectlite.Value.Type" 0) (fun t _ _ _ => ReflectliteType.toType t)) Tryz.func189 (by kernel_rfl) (by kernel_rfl) (by kernel_rfl) (by kernel_rfl)
  have h8 := @run_callFunc_extern Tryz.prog 190 _ (ReflectliteValue.method (ReflectliteValue.valueError "reflectlite.Value.IsNil" 0) ReflectliteValue.isNil) Tryz.func190 (by kernel_rfl) (by kernel_rfl) (by kernel_rfl) (by kernel_rfl)
  have h27 := @run_callFunc_extern Tryz.prog 280 _ (ReflectliteType.abiMethod fun t => do pure (.int .u8 (← Rtype.kind t))) Tryz.func280 (by kernel_rfl) (by kernel_rfl) (by kernel_rfl) (by kernel_rfl)
  have h37 := @run_callFunc_extern Tryz.prog 294 _ (ReflectliteType.method ReflectliteType.elem) Tryz.func294 (by kernel_rfl) (by kernel_rfl) (by kernel_rfl) (by kernel_rfl)
  have h38 := @run_callFunc_extern Tryz.prog 295 _ (ReflectliteType.relation "Implements" ReflectliteType.implements_) Tryz.func295 (by kernel_rfl) (by kernel_rfl) (by kernel_rfl) (by kernel_rfl)
  have h10 := @run_callFunc_extern Tryz.prog 231 _ ReflectliteType.typeOf Tryz.func231 (by kernel_rfl) (by kernel_rfl) (by kernel_rfl) (by kernel_rfl)
  have h35 := @run_callFunc_extern Tryz.prog 292 _ (ReflectliteType.relation "AssignableTo" ReflectliteType.assignableTo) Tryz.func292 (by kernel_rfl) (by kernel_rfl) (by kernel_rfl) (by kernel_rfl)
  have h11 := @run_callFunc_extern Tryz.prog 232 _ (ReflectliteValue.method (ReflectliteValue.valueError "reflectlite.Value.Elem" 0) ReflectliteValue.elem) Tryz.func232 (by kernel_rfl) (by kernel_rfl) (by kernel_rfl) (by kernel_rfl)
  have h12 := @run_callFunc_extern Tryz.prog 233 _ ReflectliteValue.set Tryz.func233 (by kernel_rfl) (by kernel_rfl) (by kernel_rfl) (by kernel_rfl)
  have tO := as_typeOf25
  have mA := as_methodAssignableTo
  have a25 := as_assignable25
  have v25 := as_valueOf25
  have f6 := as_valueOf27
  have f7 := as_type27
  have mK := as_methodKind
  have mE := as_methodElem
  have mI := as_methodImplements
  have k27 := as_kind27
  have k25 := as_kind25
  have e27 := as_elem27
  have i25 := as_implements25
  have n8 := as_isNil27 ⟨w.heap.size, 0, none⟩ t ((w.alloc (.cells #[.pointer (some t)] 162)).alloc (.cells #[.pointer (some ⟨11, 162, none⟩), .pointer (some ⟨w.heap.size, 0, none⟩), .int .u64 150] 212)) (by simp)
  have hlt : 2 < w.heap.size := by
    exact lt_of_cell hg
  have hg2 : ((w.alloc (.cells #[.pointer (some t)] 162)).alloc (.cells #[.pointer (some ⟨11, 162, none⟩), .pointer (some ⟨w.heap.size, 0, none⟩), .int .u64 150] 212)).cell? ⟨2, 0, none⟩ = some (.iface 256 (.agg #[.pointer (some ⟨11, 87, none⟩)])) := by
    rw [World.cell?_alloc_lt _ _ ⟨2, 0, none⟩ (by simp; omega), World.cell?_alloc_lt _ _ ⟨2, 0, none⟩ hlt]; exact hg
  have htl : t.block < w.heap.size := by
    rcases Nat.lt_or_ge t.block w.heap.size with h | h
    · exact h
    · simp [World.cell?, Array.getElem?_eq_none h] at ht0
  have el := as_elemV27 ⟨w.heap.size, 0, none⟩ t (((w.alloc (.cells #[.pointer (some t)] 162)).alloc (.cells #[.pointer (some ⟨11, 162, none⟩), .pointer (some ⟨w.heap.size, 0, none⟩), .int .u64 150] 212)).alloc (.cells #[.pointer (some ⟨11, 162, none⟩), .pointer (some ⟨w.heap.size, 0, none⟩), .int .u64 150] 212)) (by rw [World.cell?_alloc_lt _ _ ⟨w.heap.size, 0, none⟩ (by simp; omega)]; simp)
  have st := as_set25 t ⟨w.heap.size + 1 + 1 + 1, 0, none⟩ e old ((((w.alloc (.cells #[.pointer (some t)] 162)).alloc (.cells #[.pointer (some ⟨11, 162, none⟩), .pointer (some ⟨w.heap.size, 0, none⟩), .int .u64 150] 212)).alloc (.cells #[.pointer (some ⟨11, 162, none⟩), .pointer (some ⟨w.heap.size, 0, none⟩), .int .u64 150] 212)).alloc (.cells #[.pointer (some e)] 160))
    (by rw [World.cell?_alloc_at _ _ _ _ (by simp)]; rfl)
    (by rw [World.cell?_alloc_lt _ _ t (by simp; omega), World.cell?_alloc_lt _ _ t (by simp; omega), World.cell?_alloc_lt _ _ t (by simp; omega), World.cell?_alloc_lt _ _ t htl]; exact ht0)
    (by rw [World.frozen?_alloc_old _ _ t (by simp; omega), World.frozen?_alloc_old _ _ t (by simp; omega), World.frozen?_alloc_old _ _ t (by simp; omega), World.frozen?_alloc_old _ _ t (Nat.ne_of_lt htl)]; exact hf0)
  go_enter Tryz.func134, Tryz.ntmps134
  go_wp2
  refine wp_loop_rounds 1 ?_
  rw [rounds_succ]
  go_wp2
  go_ret
  exact ⟨rfl, rfl⟩
end Go.Proofs.YtdkjcdfkoahfkaaGreatDoor

namespace Go.Proofs.YtdkjcdfkoahfkaaGreatDoor
open Go Go.RowKit Go.Extern.Stop Go.Stop Go.Extern

theorem as_typeOfS (v : Value) (w : World) : (ReflectliteType.typeOf #[.iface 299 v]).run Tryz.prog w = .ok (.iface 256 (.agg #[.pointer (some ⟨11, 299, none⟩)])) w := by kernel_rfl
theorem as_assignableS (w : World) : (ReflectliteType.relation "AssignableTo" ReflectliteType.assignableTo #[.agg #[.pointer (some ⟨11, 299, none⟩)], .iface 256 (.agg #[.pointer (some ⟨11, 160, none⟩)])]).run Tryz.prog w = .ok (.bool false) w := by kernel_rfl

theorem as_no1 (v : Value) (xT : TypeId) (w : World) : (Instr.typeAssert (.iface 299 v) xT 261 true).run Tryz.prog w = .ok (.tuple #[.nilIface, .bool false]) w := run_typeAssert_lacksB Tryz.underlying261 (by kernel_rfl) (by kernel_rfl) v xT w
theorem as_no2 (v : Value) (xT : TypeId) (w : World) : (Instr.typeAssert (.iface 299 v) xT 264 true).run Tryz.prog w = .ok (.tuple #[.nilIface, .bool false]) w := run_typeAssert_lacksB Tryz.underlying264 (by kernel_rfl) (by kernel_rfl) v xT w
theorem as_no3 (v : Value) (xT : TypeId) (w : World) : (Instr.typeAssert (.iface 299 v) xT 266 true).run Tryz.prog w = .ok (.tuple #[.nilIface, .bool false]) w := run_typeAssert_lacksB Tryz.underlying266 (by kernel_rfl) (by kernel_rfl) v xT w

set_option maxRecDepth 100000 in
set_option maxHeartbeats 4000000 in
theorem as_miss (e t : Addr) (old : Value) (w : World) (hg : w.cell? ⟨2, 0, none⟩ = some (.iface 256 (.agg #[.pointer (some ⟨11, 87, none⟩)]))) (ht0 : w.cell? t = some old) (hf0 : w.frozen? t = false) :
    Calls Tryz.prog 134 #[.iface 299 (.pointer (some e)), .iface 162 (.pointer (some t))] w fun ev w' => ev = .returned (.bool false) ∧ w' = (((w.alloc (.cells #[.pointer (some t)] 162)).alloc (.cells #[.pointer (some ⟨11, 162, none⟩), .pointer (some ⟨w.heap.size, 0, none⟩), .int .u64 150] 212)).alloc (.cells #[.pointer (some ⟨11, 162, none⟩), .pointer (some ⟨w.heap.size, 0, none⟩), .int .u64 150] 212)) := by
  have h6 := @run_callFunc_extern Tryz.prog 188 _ (fun args => ReflectliteValue.unpack (args.getD 0 (.tuple #[]))) Tryz.func188 (by kernel_rfl) (by kernel_rfl) (by kernel_rfl) (by kernel_rfl)
  have h7 := @run_callFunc_extern Tryz.prog 189 _ (ReflectliteValue.methodAny (ReflectliteValue.valueError "reflectlite.Value.Type" 0) (fun t _ _ _ => ReflectliteType.toType t)) Tryz.func189 (by kernel_rfl) (by kernel_rfl) (by kernel_rfl) (by kernel_rfl)
  have h8 := @run_callFunc_extern Tryz.prog 190 _ (ReflectliteValue.method (ReflectliteValue.valueError "reflectlite.Value.IsNil" 0) ReflectliteValue.isNil) Tryz.func190 (by kernel_rfl) (by kernel_rfl) (by kernel_rfl) (by kernel_rfl)
  have h27 := @run_callFunc_extern Tryz.prog 280 _ (ReflectliteType.abiMethod fun t => do pure (.int .u8 (← Rtype.kind t))) Tryz.func280 (by kernel_rfl) (by kernel_rfl) (by kernel_rfl) (by kernel_rfl)
  have h37 := @run_callFunc_extern Tryz.prog 294 _ (ReflectliteType.method ReflectliteType.elem) Tryz.func294 (by kernel_rfl) (by kernel_rfl) (by kernel_rfl) (by kernel_rfl)
  have h38 := @run_callFunc_extern Tryz.prog 295 _ (ReflectliteType.relation "Implements" ReflectliteType.implements_) Tryz.func295 (by kernel_rfl) (by kernel_rfl) (by kernel_rfl) (by kernel_rfl)
  have h10 := @run_callFunc_extern Tryz.prog 231 _ ReflectliteType.typeOf Tryz.func231 (by kernel_rfl) (by kernel_rfl) (by kernel_rfl) (by kernel_rfl)
  have h35 := @run_callFunc_extern Tryz.prog 292 _ (ReflectliteType.relation "AssignableTo" ReflectliteType.assignableTo) Tryz.func292 (by kernel_rfl) (by kernel_rfl) (by kernel_rfl) (by kernel_rfl)
  have no1 := as_no1
  have no2 := as_no2
  have no3 := as_no3
  have tO := as_typeOfS
  have mA := as_methodAssignableTo
  have a25 := as_assignableS
  have f6 := as_valueOf27
  have f7 := as_type27
  have mK := as_methodKind
  have mE := as_methodElem
  have mI := as_methodImplements
  have k27 := as_kind27
  have k25 := as_kind25
  have e27 := as_elem27
  have i25 := as_implements25
  have n8 := as_isNil27 ⟨w.heap.size, 0, none⟩ t ((w.alloc (.cells #[.pointer (some t)] 162)).alloc (.cells #[.pointer (some ⟨11, 162, none⟩), .pointer (some ⟨w.heap.size, 0, none⟩), .int .u64 150] 212)) (by simp)
  have hlt : 2 < w.heap.size := by
    exact lt_of_cell hg
  have hg2 : ((w.alloc (.cells #[.pointer (some t)] 162)).alloc (.cells #[.pointer (some ⟨11, 162, none⟩), .pointer (some ⟨w.heap.size, 0, none⟩), .int .u64 150] 212)).cell? ⟨2, 0, none⟩ = some (.iface 256 (.agg #[.pointer (some ⟨11, 87, none⟩)])) := by
    rw [World.cell?_alloc_lt _ _ ⟨2, 0, none⟩ (by simp; omega), World.cell?_alloc_lt _ _ ⟨2, 0, none⟩ hlt]; exact hg
  have htl : t.block < w.heap.size := by
    rcases Nat.lt_or_ge t.block w.heap.size with h | h
    · exact h
    · simp [World.cell?, Array.getElem?_eq_none h] at ht0
  go_enter Tryz.func134, Tryz.ntmps134
  go_wp2
  refine wp_loop_rounds 1 ?_
  rw [rounds_succ]
  go_wp2
  go_ret
  exact ⟨rfl, rfl⟩
end Go.Proofs.YtdkjcdfkoahfkaaGreatDoor

namespace Go.Proofs.YtdkjcdfkoahfkaaGreatDoor
open Go Go.RowKit

theorem as_hitR (e : Addr) (b : Nat) (old : Value) (w : World) (hE : Env w) (ht0 : w.cell? ⟨b, 0, none⟩ = some old) (hf0 : w.frozen? ⟨b, 0, none⟩ = false) (R : Ending → World → Prop)
    (hR : ∀ w', Below b w w' → w'.cell? ⟨b, 0, none⟩ = some (.pointer (some e)) → R (.returned (.bool true)) w') :
    Calls Tryz.prog 134 #[.iface 160 (.pointer (some e)), .iface 162 (.pointer (some ⟨b, 0, none⟩))] w R := by
  have hlt := lt_of_cell ht0
  refine (as_hit e ⟨b, 0, none⟩ old w hE.ty ht0 hf0).mono ?_
  rintro ev w' ⟨rfl, rfl⟩
  have hb : ∀ B, B ≤ w.heap.size → Below B w ((((w.alloc (.cells #[.pointer (some ⟨b, 0, none⟩)] 162)).alloc (.cells #[.pointer (some ⟨11, 162, none⟩), .pointer (some ⟨w.heap.size, 0, none⟩), .int .u64 150] 212)).alloc (.cells #[.pointer (some ⟨11, 162, none⟩), .pointer (some ⟨w.heap.size, 0, none⟩), .int .u64 150] 212)).alloc (.cells #[.pointer (some e)] 160)) := fun B hB =>
    ((((Below.refl _ _).alloc hB _).alloc (by simp; omega) _).alloc (by simp; omega) _).alloc (by simp; omega) _
  refine hR _ ((hb b (by omega)).setCell (Nat.le_refl _) _) ?_
  refine World.cell?_setCell_same (u := old) _ _ _ ?_
  rw [(hb _ (Nat.le_refl _)).cell (p := ⟨b, 0, none⟩) hlt]
  exact ht0

theorem as_missR (e : Addr) (b : Nat) (old : Value) (w : World) (hE : Env w) (ht0 : w.cell? ⟨b, 0, none⟩ = some old) (hf0 : w.frozen? ⟨b, 0, none⟩ = false) (R : Ending → World → Prop)
    (hR : ∀ w', Below w.heap.size w w' → R (.returned (.bool false)) w') :
    Calls Tryz.prog 134 #[.iface 299 (.pointer (some e)), .iface 162 (.pointer (some ⟨b, 0, none⟩))] w R := by
  refine (as_miss e ⟨b, 0, none⟩ old w hE.ty ht0 hf0).mono ?_
  rintro ev w' ⟨rfl, rfl⟩
  exact hR _ ((((Below.refl _ _).alloc (Nat.le_refl _) _).alloc (by simp) _).alloc (by simp; omega) _)

theorem as_nilR (t : Value) (w : World) (R : Ending → World → Prop) (hR : R (.returned (.bool false)) w) :
    Calls Tryz.prog 134 #[.nilIface, t] w R := by
  refine (as_nil t w).mono ?_
  rintro ev w' ⟨rfl, rfl⟩
  exact hR

/-- what strings.CutPrefix makes of a text that may begin with '-' -/
theorem cutp_any (s : ByteArray) (neg : Bool) (D r : List UInt8) (hp : Parts s.data.toList neg D r) (w : World) (R : Ending → World → Prop)
    (hR : ∀ T : ByteArray, T.data.toList = D ++ r → R (.returned (.tuple #[.string T, .bool neg])) w) :
    Calls Tryz.prog 132 #[.string s, .string { data := #[45] }] w R := by
  have h1 : Lib.hasPrefix s.data.toList [45] = neg := by
    obtain ⟨h1, h2, _⟩ := hp
    unfold Lib.hasPrefix
    cases neg
    · have h2 := h2 rfl
      generalize s.data.toList = L at *
      cases L with
      | nil => rfl
      | cons c t =>
        simp at h2
        simp [List.isPrefixOf, Ne.symm h2]
    · rw [h1]; simp [List.isPrefixOf]
  have h2 : Lib.trimPrefix s.data.toList [45] = D ++ r := by
    unfold Lib.trimPrefix
    rw [h1, hp.1]
    cases neg <;> simp
  refine (Tryz.strings_CutPrefix s { data := #[45] } w).mono ?_
  rintro ev w' ⟨rfl, rfl⟩
  have h3 : ({ data := #[45] } : ByteArray).data.toList = [45] := rfl
  rw [h3, h1, h2]
  exact hR ⟨(D ++ r).toArray⟩ (by simp)

/-- a text of a number has at most 122 bytes -/
theorem numB_len {L : List UInt8} (h : 122 < L.length) : numB L = false := by
  obtain ⟨neg, D, r, hp⟩ := parts_exist L
  refine numB_parts hp fun q hq => ?_
  obtain ⟨hD, hq⟩ := hq
  have hl := (digB_iff.1 hD).2.2.1
  have hL := congrArg List.length hp.1
  have hn : (if neg = true then [45] else ([] : List UInt8)).length ≤ 1 := by cases neg <;> simp
  rw [List.length_append, List.length_append] at hL
  rcases hq with ⟨rfl, _⟩ | ⟨E, rfl, hE, _⟩
  · simp at hL; omega
  · have hlE := (digB_iff.1 hE).2.2.1
    simp at hL; omega
end Go.Proofs.YtdkjcdfkoahfkaaGreatDoor

namespace Go.Proofs.YtdkjcdfkoahfkaaGreatDoor
open Go Go.RowKit

set_option maxRecDepth 100000 in
set_option maxHeartbeats 1000000 in
theorem readr_long (s : ByteArray) (w : World) (hE : Env w) (hs : 122 < s.size) (R : Ending → World → Prop)
    (hR2 : ∀ e w', ErrV e → Below w.heap.size w w' → R (.returned (.tuple #[zeroR, e])) w') :
    Calls Tryz.prog 72 #[.string s] w R := by
  have HR2 := Lib.hid hR2; clear hR2
  have hsi : (122 : Int) < (s.size : Int) := by omega
  have hne1 : ¬ 0 = w.heap.size := by
    obtain ⟨_, ⟨pf, hpf⟩, _⟩ := hE
    exact Nat.ne_of_lt (lt_of_cell hpf)
  have hne2 : ¬ w.heap.size = 0 := fun h => hne1 h.symm
  obtain ⟨L, hL⟩ : ∃ L, L = w.alloc (.cells #[.bool false, .slice none 0 0, .slice none 0 0] 85) := ⟨_, rfl⟩
  have hbL : Below w.heap.size w L := by rw [hL]; exact (Below.refl _ _).alloc (Nat.le_refl _) _
  have HBX : Box3 L w.heap.size (.bool false) (.slice none 0 0) (.slice none 0 0) 85 := by rw [hL]; exact Box3.made _ _ _ _ _
  obtain ⟨_, ⟨pf, hpf⟩, _⟩ := hE.later hbL (Nat.le_refl _)
  obtain ⟨⟨hR0, hR1, hR2⟩, hF0, hF1, hF2⟩ := Box3.cells HBX
  have HL := Lib.hid hL
  have HBL := Lib.hid hbL
  clear hL hbL HBX hE hs
  go_enter Tryz.func72, Tryz.ntmps72
  go_upto_region 2 with fail
  rw [← HL.out]
  go_region
  all_goals
    go_wp2
    refine bodyPost_ret_at (by simp [results, Tryz.results72, go_sem, hR0, hR1, hR2, hF0, hF1, hF2] <;> rfl) rfl ?_
    first | exact HR2.out _ _ ⟨_, _, rfl⟩ (below_set3 HBL.out (Nat.le_refl _) _ _ _).drew | exact HR2.out _ _ ⟨_, _, rfl⟩ (below_set3 HBL.out (Nat.le_refl _) _ _ _)
end Go.Proofs.YtdkjcdfkoahfkaaGreatDoor

namespace Go.Proofs.YtdkjcdfkoahfkaaGreatDoor
open Go Go.RowKit

set_option maxRecDepth 100000 in
set_option maxHeartbeats 2000000 in
theorem readr_digits (s : ByteArray) (neg : Bool) (D : List UInt8) (hp : Parts s.data.toList neg D []) (hD : D.all isDig = true) (w : World) (hE : Env w) (hs : s.size ≤ 122) (R : Ending → World → Prop)
    (hR : ∀ v w', digB D = true → ¬ (neg = true ∧ rdec D = 0) → IsR w' v ((sgn neg (rdec D) : Int) : Rat) → Below w.heap.size w w' → R (.returned (.tuple #[v, .nilIface])) w')
    (hR2 : ∀ e w', ¬ (digB D = true ∧ ¬ (neg = true ∧ rdec D = 0)) → ErrV e → Below w.heap.size w w' → R (.returned (.tuple #[zeroR, e])) w') :
    Calls Tryz.prog 72 #[.string s] w R := by
  have HR := Lib.hid hR; clear hR
  have HR2 := Lib.hid hR2; clear hR2
  have hsi : ¬ (122 : Int) < (s.size : Int) := by omega
  have hne1 : ¬ 1 = w.heap.size := by
    obtain ⟨⟨pf, hpf⟩, _, _⟩ := hE
    exact Nat.ne_of_lt (lt_of_cell hpf)
  have hne2 : ¬ w.heap.size = 1 := fun h => hne1 h.symm
  have hDs : D.length ≤ 122 := by
    have h1 := congrArg List.length hp.1
    rw [List.length_append, List.length_append, size_list] at h1
    simp at h1; omega
  have HE := Lib.hid hE
  have HDS := Lib.hid hDs
  have HDD := Lib.hid hD
  have HP := Lib.hid hp
  obtain ⟨L, hL⟩ : ∃ L, L = w.alloc (.cells #[.bool false, .slice none 0 0, .slice none 0 0] 85) := ⟨_, rfl⟩
  have hbL : Below w.heap.size w L := by rw [hL]; exact (Below.refl _ _).alloc (Nat.le_refl _) _
  have hLs : L.heap.size = w.heap.size + 1 := by rw [hL]; simp
  have HL := Lib.hid hL
  have HBL := Lib.hid hbL
  have HLS := Lib.hid hLs
  have HBX : Hid (Box3 L w.heap.size (.bool false) (.slice none 0 0) (.slice none 0 0) 85) := Lib.hid (by rw [hL]; exact Box3.made _ _ _ _ _)
  clear hL hbL hLs hE hs hDs hD hp
  go_enter Tryz.func72, Tryz.ntmps72
  go_wp2_with fail
  refine cutp_any s neg D [] HP.out _ _ ?_
  intro T hT
  rw [List.append_nil] at hT
  have HT := Lib.hid hT
  clear hT
  dsimp only
  go_wp2_with fail
  rw [← HL.out]
  refine readd_digits T L (HE.out.later HBL.out (Nat.le_refl _)) (by rw [HT.out]; exact HDD.out) (by rw [← size_list, HT.out]; have := HDS.out; omega) _ ?_ ?_
  · intro v1 w1 hd1 hv1 hb1
    rw [HT.out] at hd1 hv1
    obtain ⟨a1, n1, c1, rfl, hv1'⟩ := hv1.op
    have hB1 := HBL.out.trans (hb1.mono (by have := HLS.out; omega))
    have hX1 := HBX.out.later hb1 (by have := HLS.out; omega)
    have hbs : Below w1.heap.size w1 (w1.alloc (.cells #[.pointer none] 160)) := (Below.refl _ _).alloc (Nat.le_refl _) _
    have HV1 := Lib.hid (hv1'.later hbs (Nat.le_refl _))
    have HD1 := Lib.hid hd1
    have HB1 := Lib.hid (hB1.trans (hbs.mono hB1.size))
    have HX1 := Lib.hid (hX1.later hbs (lt_of_block hX1))
    have HE1 := Lib.hid (((HE.out.later HBL.out (Nat.le_refl _)).later hb1 (Nat.le_refl _)).later hbs (Nat.le_refl _))
    obtain ⟨W1, hW1⟩ : ∃ W1, W1 = w1.alloc (.cells #[.pointer none] 160) := ⟨_, rfl⟩
    rw [← hW1] at HV1 HB1 HX1 HE1
    have HW1 := Lib.hid hW1
    clear hv1 hv1' hb1 hd1 hB1 hX1 hbs hW1
    dsimp only
    go_wp2_with fail
    refine as_nilR _ _ _ ?_
    dsimp only
    rw [← HW1.out]
    obtain ⟨⟨hR0, hR1, hR2⟩, hF0, hF1, hF2⟩ := Box3.cells HX1.out
    have last : ∀ (R' : Prop), R' → R' := fun _ h => h
    have fin : ¬ (neg = true ∧ rdec D = 0) → True := fun _ => trivial
    cases neg
    · have HN := Lib.hid (show ¬ (false = true ∧ rdec D = 0) by simp)
      go_wp2_with fail
      refine integerOf_z false _ _ _ HV1.out _ ?_
      intro v4 w4 hz4 hb4
      have HB4 := Lib.hid (HB1.out.trans (hb4.mono HB1.out.size))
      have HX4 := Lib.hid (HX1.out.later hb4 (lt_of_block HX1.out))
      have HZ4 := Lib.hid hz4
      clear hz4 hb4 hR0 hR1 hR2 hF0 hF1 hF2
      dsimp only
      go_wp2_with fail
      refine ratioOf_any _ _ _ HZ4.out _ ?_
      intro v5 w5 hq5 hb5
      have HB5 := Lib.hid (HB4.out.trans (hb5.mono HB4.out.size))
      have HX5 := Lib.hid (HX4.out.later hb5 (lt_of_block HX4.out))
      obtain ⟨s1, s2, rfl, hn1, hn2⟩ := hq5
      obtain ⟨x1, y1, z1, rfl, hn1'⟩ := hn1.op
      obtain ⟨x2, y2, z2, rfl, hn2'⟩ := hn2.op
      obtain ⟨ng, hng⟩ : ∃ ng, ng = decide ((((sgn false (rdec D)) : Int) : Rat).num < 0) := ⟨_, rfl⟩
      rw [← hng]
      have HNG := Lib.hid hng
      have HS1 := Lib.hid hn1'
      have HS2 := Lib.hid hn2'
      clear hn1 hn2 hn1' hn2' hb5 hng
      obtain ⟨⟨hR0, hR1, hR2⟩, hF0, hF1, hF2⟩ := Box3.cells HX5.out
      have HNI := Lib.hid (HX5.out.noInt rfl rfl rfl)
      dsimp only
      go_wp2
      refine bodyPost_ret_at (by simp [results, Tryz.results72, go_sem, hR0, hR1, hR2, hF0, hF1, hF2] <;> rfl) rfl ?_
      refine HR.out _ _ HD1.out HN.out ⟨.slice x1 y1 z1, .slice x2 y2 z2, by rw [HNG.out], ?_, ?_⟩ (below_set3 HB5.out (Nat.le_refl _) _ _ _)
      · exact HS1.out.set3 HNI.out _ _ _ rfl rfl
      · exact HS2.out.set3 HNI.out _ _ _ rfl rfl
    · obtain ⟨⟨pf, hpf⟩, _, _⟩ := HE1.out
      go_wp2_with fail
      refine nzero_any _ _ _ HV1.out _ ?_
      by_cases h0 : rdec D = 0
      · rw [decide_eq_true h0]
        have HW := Lib.hid (show ¬ (digB D = true ∧ ¬ (true = true ∧ rdec D = 0)) from fun h => h.2 ⟨rfl, h0⟩)
        clear h0
        dsimp only
        go_wp2
        go_region
        all_goals
          go_wp2
          refine bodyPost_ret_at (by simp [results, Tryz.results72, go_sem, hR0, hR1, hR2, hF0, hF1, hF2] <;> rfl) rfl ?_
          first | exact HR2.out _ _ HW.out ⟨_, _, rfl⟩ (below_set3 HB1.out (Nat.le_refl _) _ _ _).drew | exact HR2.out _ _ HW.out ⟨_, _, rfl⟩ (below_set3 HB1.out (Nat.le_refl _) _ _ _)
      · rw [decide_eq_false h0]
        have HN := Lib.hid (show ¬ (true = true ∧ rdec D = 0) from fun h => h0 h.2)
        clear h0 hpf
        dsimp only
        go_wp2_with fail
        refine integerOf_z true _ _ _ HV1.out _ ?_
        intro v4 w4 hz4 hb4
        have HB4 := Lib.hid (HB1.out.trans (hb4.mono HB1.out.size))
        have HX4 := Lib.hid (HX1.out.later hb4 (lt_of_block HX1.out))
        have HZ4 := Lib.hid hz4
        clear hz4 hb4 hR0 hR1 hR2 hF0 hF1 hF2
        dsimp only
        go_wp2_with fail
        refine ratioOf_any _ _ _ HZ4.out _ ?_
        intro v5 w5 hq5 hb5
        have HB5 := Lib.hid (HB4.out.trans (hb5.mono HB4.out.size))
        have HX5 := Lib.hid (HX4.out.later hb5 (lt_of_block HX4.out))
        obtain ⟨s1, s2, rfl, hn1, hn2⟩ := hq5
        obtain ⟨x1, y1, z1, rfl, hn1'⟩ := hn1.op
        obtain ⟨x2, y2, z2, rfl, hn2'⟩ := hn2.op
        obtain ⟨ng, hng⟩ : ∃ ng, ng = decide ((((sgn true (rdec D)) : Int) : Rat).num < 0) := ⟨_, rfl⟩
        rw [← hng]
        have HNG := Lib.hid hng
        have HS1 := Lib.hid hn1'
        have HS2 := Lib.hid hn2'
        clear hn1 hn2 hn1' hn2' hb5 hng
        obtain ⟨⟨hR0, hR1, hR2⟩, hF0, hF1, hF2⟩ := Box3.cells HX5.out
        have HNI := Lib.hid (HX5.out.noInt rfl rfl rfl)
        dsimp only
        go_wp2
        refine bodyPost_ret_at (by simp [results, Tryz.results72, go_sem, hR0, hR1, hR2, hF0, hF1, hF2] <;> rfl) rfl ?_
        refine HR.out _ _ HD1.out HN.out ⟨.slice x1 y1 z1, .slice x2 y2 z2, by rw [HNG.out], ?_, ?_⟩ (below_set3 HB5.out (Nat.le_refl _) _ _ _)
        · exact HS1.out.set3 HNI.out _ _ _ rfl rfl
        · exact HS2.out.set3 HNI.out _ _ _ rfl rfl
  · intro e w1 hd1 he hb1
    rw [HT.out] at hd1
    obtain ⟨p, rfl⟩ := he
    have HW := Lib.hid (show ¬ (digB D = true ∧ ¬ (neg = true ∧ rdec D = 0)) from fun h => by rw [hd1] at h; exact absurd h.1 (by simp))
    have hB1 := HBL.out.trans (hb1.mono (by have := HLS.out; omega))
    have hX1 := HBX.out.later hb1 (by have := HLS.out; omega)
    have hbs : Below w1.heap.size w1 (w1.alloc (.cells #[.pointer none] 160)) := (Below.refl _ _).alloc (Nat.le_refl _) _
    have HB1 := Lib.hid (hB1.trans (hbs.mono hB1.size))
    have HX1 := Lib.hid (hX1.later hbs (lt_of_block hX1))
    have HE1 := Lib.hid (((HE.out.later HBL.out (Nat.le_refl _)).later hb1 (Nat.le_refl _)).later hbs (Nat.le_refl _))
    clear hb1 hd1 hB1 hX1 hbs
    dsimp only
    go_wp2_with fail
    refine as_missR _ w1.heap.size (.pointer none) _ HE1.out (by simp) (by simp) _ ?_
    intro w2 hb2
    have HB2 := Lib.hid (HB1.out.trans (hb2.mono HB1.out.size))
    have HX2 := Lib.hid (HX1.out.later hb2 (lt_of_block HX1.out))
    obtain ⟨⟨hR0, hR1, hR2⟩, hF0, hF1, hF2⟩ := Box3.cells HX2.out
    clear hb2
    dsimp only
    go_wp2
    refine bodyPost_ret_at (by simp [results, Tryz.results72, go_sem, hR0, hR1, hR2, hF0, hF1, hF2] <;> rfl) rfl ?_
    first | exact HR2.out _ _ HW.out ⟨_, _, rfl⟩ (below_set3 HB2.out (Nat.le_refl _) _ _ _).drew | exact HR2.out _ _ HW.out ⟨_, _, rfl⟩ (below_set3 HB2.out (Nat.le_refl _) _ _ _)
end Go.Proofs.YtdkjcdfkoahfkaaGreatDoor

namespace Go.Proofs.YtdkjcdfkoahfkaaGreatDoor
open Go Go.RowKit

set_option maxRecDepth 100000 in
set_option maxHeartbeats 2000000 in
theorem readr_bad (s : ByteArray) (neg : Bool) (D r : List UInt8) (hp : Parts s.data.toList neg D r) (i : Nat) (hi : i < (D ++ r).length) (h1 : ((D ++ r).take i).all isDig = true) (h2 : isDig (D ++ r)[i] = false) (h47 : (D ++ r)[i] ≠ 47)
    (w : World) (hE : Env w) (hs : s.size ≤ 122) (R : Ending → World → Prop)
    (hR2 : ∀ e w', ErrV e → Below w.heap.size w w' → R (.returned (.tuple #[zeroR, e])) w') :
    Calls Tryz.prog 72 #[.string s] w R := by
  have HR2 := Lib.hid hR2; clear hR2
  have hsi : ¬ (122 : Int) < (s.size : Int) := by omega
  have hDs : (D ++ r).length ≤ 122 := by
    have h1 := congrArg List.length hp.1
    rw [List.length_append, size_list] at h1
    omega
  have HE := Lib.hid hE
  have HDS := Lib.hid hDs
  have HP := Lib.hid hp
  have HI := Lib.hid hi
  have HH := Lib.hid (show _ ∧ _ ∧ _ from ⟨h1, h2, h47⟩)
  obtain ⟨L, hL⟩ : ∃ L, L = w.alloc (.cells #[.bool false, .slice none 0 0, .slice none 0 0] 85) := ⟨_, rfl⟩
  have hbL : Below w.heap.size w L := by rw [hL]; exact (Below.refl _ _).alloc (Nat.le_refl _) _
  have hLs : L.heap.size = w.heap.size + 1 := by rw [hL]; simp
  have HL := Lib.hid hL
  have HBL := Lib.hid hbL
  have HLS := Lib.hid hLs
  have HBX : Hid (Box3 L w.heap.size (.bool false) (.slice none 0 0) (.slice none 0 0) 85) := Lib.hid (by rw [hL]; exact Box3.made _ _ _ _ _)
  clear hL hbL hLs hE hs hDs hp h1 h2 h47
  go_enter Tryz.func72, Tryz.ntmps72
  go_wp2_with fail
  refine cutp_any s neg D r HP.out _ _ ?_
  intro T hT
  have HT := Lib.hid hT
  have hit : i < T.data.toList.length := by rw [hT]; exact hi
  have HB2 : Hid (isDig T.data.toList[i] = false ∧ T.data.toList[i] ≠ 47) := Lib.hid (by simp only [hT]; exact ⟨HH.out.2.1, HH.out.2.2⟩)
  clear hT
  dsimp only
  go_wp2_with fail
  rw [← HL.out]
  refine readd_bad T i hit L (by rw [HT.out]; exact HH.out.1) HB2.out.1 (by rw [← size_list, HT.out]; have := HDS.out; omega) _ ?_
  intro e w1 he hb1
  rw [decide_eq_false HB2.out.2] at he
  obtain ⟨b, rr, rfl, hbx, hrr⟩ := he
  have hrne : ¬ rr = 47 := by simpa using hrr.symm
  have hB1 := HBL.out.trans (hb1.mono (by have := HLS.out; omega))
  have hX1 := HBX.out.later hb1 (by have := HLS.out; omega)
  have hbs : Below w1.heap.size w1 (w1.alloc (.cells #[.pointer none] 160)) := (Below.refl _ _).alloc (Nat.le_refl _) _
  have HB1 := Lib.hid (hB1.trans (hbs.mono hB1.size))
  have HX1 := Lib.hid (hX1.later hbs (lt_of_block hX1))
  have HE1 := Lib.hid (((HE.out.later HBL.out (Nat.le_refl _)).later hb1 (Nat.le_refl _)).later hbs (Nat.le_refl _))
  have hble := lt_of_block hbx
  have HBE := Lib.hid (Box2.later hbx hbs hble)
  have HBL1 := Lib.hid hble
  have HX0 := Lib.hid (lt_of_block hX1)
  clear hb1 hB1 hX1 hbs hbx hrr hble
  dsimp only
  go_wp2_with fail
  refine as_hitR _ w1.heap.size (.pointer none) _ HE1.out (by simp) (by simp) _ ?_
  intro w2 hb2 hc2
  have HB2b := Lib.hid (HB1.out.trans (hb2.mono (by have := HX0.out; omega)))
  have HX2 := Lib.hid (HX1.out.later hb2 HX0.out)
  obtain ⟨hP0, hP1, hP2, hP3⟩ := Box2.cells (Box2.later HBE.out hb2 HBL1.out)
  obtain ⟨⟨hR0, hR1, hR2⟩, hF0, hF1, hF2⟩ := Box3.cells HX2.out
  clear hb2
  dsimp only
  go_wp2
  refine bodyPost_ret_at (by simp [results, Tryz.results72, go_sem, hR0, hR1, hR2, hF0, hF1, hF2] <;> rfl) rfl ?_
  first | exact HR2.out _ _ ⟨_, _, rfl⟩ (below_set3 HB2b.out (Nat.le_refl _) _ _ _).drew | exact HR2.out _ _ ⟨_, _, rfl⟩ (below_set3 HB2b.out (Nat.le_refl _) _ _ _)
end Go.Proofs.YtdkjcdfkoahfkaaGreatDoor

namespace Go.Proofs.YtdkjcdfkoahfkaaGreatDoor
open Go Go.RowKit

/-- what the reading of a fraction comes to -/
def FracOk (neg : Bool) (D E : List UInt8) (q : Rat) : Prop := digB D = true ∧ digB E = true ∧ 2 ≤ rdec E ∧ Nat.gcd (rdec D) (rdec E) = 1 ∧ q.num = sgn neg (rdec D) ∧ q.den = rdec E
def FracOut (w : World) (neg : Bool) (D E : List UInt8) (v e : Value) : Prop :=
  (e = .nilIface ∧ ∃ q, FracOk neg D E q ∧ IsR w v q) ∨ (ErrV e ∧ v = zeroR ∧ ¬ (digB D = true ∧ digB E = true ∧ 2 ≤ rdec E ∧ Nat.gcd (rdec D) (rdec E) = 1))

theorem readf_one (neg : Bool) (s1 s2 : ByteArray) (w : World) (hE : Env w) (hs1 : s1.size ≤ 250) (hs2 : s2.size ≤ 250) (R : Ending → World → Prop)
    (hR : ∀ b a1 n1 c1 a2 n2 c2 e w', Below w.heap.size w w' → FracOut w' neg s1.data.toList s2.data.toList (.agg #[.bool b, .slice a1 n1 c1, .slice a2 n2 c2]) e → R (.returned (.tuple #[.agg #[.bool b, .slice a1 n1 c1, .slice a2 n2 c2], e])) w') :
    Calls Tryz.prog 135 #[.bool neg, .string s1, .string s2] w R := by
  refine readf_any neg s1 s2 w hE hs1 hs2 R ?_ ?_
  · intro v q w' h1 h2 h3 h4 h5 h6 hv hb
    obtain ⟨x1, x2, rfl, hn1, hn2⟩ := hv
    obtain ⟨a1, n1, c1, rfl, hn1'⟩ := hn1.op
    obtain ⟨a2, n2, c2, rfl, hn2'⟩ := hn2.op
    exact hR _ _ _ _ _ _ _ _ _ hb (.inl ⟨rfl, q, ⟨h1, h2, h3, h4, h5, h6⟩, ⟨_, _, rfl, hn1', hn2'⟩⟩)
  · intro e w' h he hb
    exact hR _ _ _ _ _ _ _ _ _ hb (.inr ⟨he, rfl, h⟩)

theorem fracOut_set {w : World} {b : Nat} (hb : NoInt w b) {neg : Bool} {D E : List UInt8} {x : Bool} {a1 a2 : Option Addr} {n1 c1 n2 c2 : Nat} {e : Value} (h : FracOut w neg D E (.agg #[.bool x, .slice a1 n1 c1, .slice a2 n2 c2]) e) :
    FracOut (((w.setCell ⟨b, 0, none⟩ (.bool x)).setCell ⟨b, 1, none⟩ (.slice a1 n1 c1)).setCell ⟨b, 2, none⟩ (.slice a2 n2 c2)) neg D E (.agg #[.bool x, .slice a1 n1 c1, .slice a2 n2 c2]) e := by
  rcases h with ⟨h1, q, h2, s1, s2, h3, h4, h5⟩ | h
  · exact .inl ⟨h1, q, h2, s1, s2, h3, h4.set3 hb _ _ _ rfl rfl, h5.set3 hb _ _ _ rfl rfl⟩
  · exact .inr h

set_option maxRecDepth 100000 in
set_option maxHeartbeats 2000000 in
theorem readr_slash (s : ByteArray) (neg : Bool) (D E : List UInt8) (hp : Parts s.data.toList neg D (47 :: E)) (hD : D.all isDig = true)
    (w : World) (hE : Env w) (hs : s.size ≤ 122) (R : Ending → World → Prop)
    (hR : ∀ v e w', FracOut w' neg D E v e → Below w.heap.size w w' → R (.returned (.tuple #[v, e])) w') :
    Calls Tryz.prog 72 #[.string s] w R := by
  have HR2 := Lib.hid hR; clear hR
  have hsi : ¬ (122 : Int) < (s.size : Int) := by omega
  have hDs : (D ++ 47 :: E).length ≤ 122 := by
    have h1 := congrArg List.length hp.1
    rw [List.length_append, size_list] at h1
    omega
  have HE := Lib.hid hE
  have HDS := Lib.hid hDs
  have HP := Lib.hid hp
  have HDD := Lib.hid hD
  obtain ⟨L, hL⟩ : ∃ L, L = w.alloc (.cells #[.bool false, .slice none 0 0, .slice none 0 0] 85) := ⟨_, rfl⟩
  have hbL : Below w.heap.size w L := by rw [hL]; exact (Below.refl _ _).alloc (Nat.le_refl _) _
  have hLs : L.heap.size = w.heap.size + 1 := by rw [hL]; simp
  have HL := Lib.hid hL
  have HBL := Lib.hid hbL
  have HLS := Lib.hid hLs
  have HBX : Hid (Box3 L w.heap.size (.bool false) (.slice none 0 0) (.slice none 0 0) 85) := Lib.hid (by rw [hL]; exact Box3.made _ _ _ _ _)
  clear hL hbL hLs hE hs hDs hp hD
  go_enter Tryz.func72, Tryz.ntmps72
  go_wp2_with fail
  refine cutp_any s neg D (47 :: E) HP.out _ _ ?_
  intro T hT
  have HT := Lib.hid hT
  have hTl : T.data.toList.length = D.length + 1 + E.length := by rw [hT]; simp; omega
  obtain ⟨i, hiD⟩ : ∃ i, i = D.length := ⟨_, rfl⟩
  have HID := Lib.hid hiD
  have hit : i < T.data.toList.length := by omega
  have HB2 : Hid (isDig T.data.toList[i] = false ∧ T.data.toList[i] = 47) := Lib.hid (by subst hiD; simp [hT, isDig])
  have HTK : Hid ((T.data.toList.take i).all isDig = true) := Lib.hid (by subst hiD; rw [hT, List.take_left]; exact HDD.out)
  have hsz : i + 1 ≤ T.size := by rw [← size_list]; omega
  have hs1 : ((i : Nat) : Int) ≤ (T.size : Int) := by omega
  have hs2 : ((i : Nat) : Int) + 1 ≤ (T.size : Int) := by omega
  have hs3 : (0 : Int) ≤ ((i : Nat) : Int) := by omega
  have hs4 : (0 : Int) ≤ ((i : Nat) : Int) + 1 := by omega
  have hTz : T.size ≤ 122 := by rw [← size_list, hT]; have := HDS.out; omega
  have hw1 : IntKind.i64.wrap (((i : Nat) : Int) + 1) = (((i + 1 : Nat)) : Int) := IntWalk.i64_in _ (by omega)
  have HSD : Hid ((T.extract 0 i).data.toList = D ∧ (T.extract (i + 1) T.size).data.toList = E) := Lib.hid (by
    constructor
    · rw [ByteArray.data_extract, Array.toList_extract, hT, hiD]
      simp [List.extract]
    · have : T.size = D.length + 1 + E.length := by rw [← size_list]; omega
      rw [ByteArray.data_extract, Array.toList_extract, hT, hiD, this]
      simp [List.extract])
  have HZ : Hid ((T.extract 0 i).size ≤ 250 ∧ (T.extract (i + 1) T.size).size ≤ 250) := Lib.hid (by
    constructor
    · rw [← size_list, HSD.out.1]; have := HDS.out; simp at this; omega
    · rw [← size_list, HSD.out.2]; have := HDS.out; simp at this; omega)
  clear hTl hiD
  clear hT
  dsimp only
  go_wp2_with fail
  rw [← HL.out]
  refine readd_bad T i hit L HTK.out HB2.out.1 (by rw [← size_list, HT.out]; have := HDS.out; omega) _ ?_
  intro e w1 he hb1
  rw [decide_eq_true HB2.out.2] at he
  obtain ⟨b, rr, rfl, hbx, hrr⟩ := he
  have hreq : rr = 47 := by simpa using hrr.symm
  subst hreq
  have hB1 := HBL.out.trans (hb1.mono (by have := HLS.out; omega))
  have hX1 := HBX.out.later hb1 (by have := HLS.out; omega)
  have hbs : Below w1.heap.size w1 (w1.alloc (.cells #[.pointer none] 160)) := (Below.refl _ _).alloc (Nat.le_refl _) _
  have HB1 := Lib.hid (hB1.trans (hbs.mono hB1.size))
  have HX1 := Lib.hid (hX1.later hbs (lt_of_block hX1))
  have HE1 := Lib.hid (((HE.out.later HBL.out (Nat.le_refl _)).later hb1 (Nat.le_refl _)).later hbs (Nat.le_refl _))
  have hble := lt_of_block hbx
  have HBE := Lib.hid (Box2.later hbx hbs hble)
  have HBL1 := Lib.hid hble
  have HX0 := Lib.hid (lt_of_block hX1)
  clear hb1 hB1 hX1 hbs hbx hrr hble
  dsimp only
  go_wp2_with fail
  refine as_hitR _ w1.heap.size (.pointer none) _ HE1.out (by simp) (by simp) _ ?_
  intro w2 hb2 hc2
  have HB2b := Lib.hid (HB1.out.trans (hb2.mono (by have := HX0.out; omega)))
  have HX2 := Lib.hid (HX1.out.later hb2 HX0.out)
  obtain ⟨hP0, hP1, hP2, hP3⟩ := Box2.cells (Box2.later HBE.out hb2 HBL1.out)
  obtain ⟨⟨hR0, hR1, hR2⟩, hF0, hF1, hF2⟩ := Box3.cells HX2.out
  clear hb2
  have HE2 := Lib.hid (HE.out.later HB2b.out (Nat.le_refl _))
  dsimp only
  go_upto_region 7 with fail
  go_region_law (go_simp; go_at_call 135; refine readf_one neg _ _ _ (HE2.out.later (Below.refl _ _).drew (Nat.le_refl _)) HZ.out.1 HZ.out.2 _ ?_; intro bb a1 n1 c1 a2 n2 c2 e3 w3 hb3' ho3; have hb3 : Below w2.heap.size w2 w3 := below_unDrew hb3'; have HO3 := Lib.hid ho3; have HX3 := Lib.hid (HX2.out.later hb3 (lt_of_block HX2.out)); have HB3 := Lib.hid (HB2b.out.trans (hb3.mono HB2b.out.size)); clear hb3 hb3' ho3 hR0 hR1 hR2 hF0 hF1 hF2; obtain ⟨⟨hR0, hR1, hR2⟩, hF0, hF1, hF2⟩ := Box3.cells HX3.out; dsimp only)
  all_goals
    have HNI := Lib.hid (HX3.out.noInt rfl rfl rfl)
    go_wp2
    refine bodyPost_ret_at (by simp [results, Tryz.results72, go_sem, hR0, hR1, hR2, hF0, hF1, hF2] <;> rfl) rfl ?_
    have ho := HO3.out
    rw [HSD.out.1, HSD.out.2] at ho
    refine HR2.out _ _ _ ?_ ?_
    · first | exact fracOut_set HNI.out ho | exact (fracOut_set HNI.out ho)
    · first | exact (below_set3 HB3.out (Nat.le_refl _) _ _ _).drew | exact (below_set3 HB3.out (Nat.le_refl _) _ _ _)
end Go.Proofs.YtdkjcdfkoahfkaaGreatDoor

namespace Go.Proofs.YtdkjcdfkoahfkaaGreatDoor
open Go Go.RowKit

theorem not_dig47 : isDig 47 = false := rfl

theorem readr_any (s : ByteArray) (w : World) (hE : Env w) (R : Ending → World → Prop)
    (hR : ∀ v q w', s.data.toList = textQ q → few q → IsR w' v q → Below w.heap.size w w' → R (.returned (.tuple #[v, .nilIface])) w')
    (hR2 : ∀ e w', numB s.data.toList = false → ErrV e → Below w.heap.size w w' → R (.returned (.tuple #[zeroR, e])) w') :
    Calls Tryz.prog 72 #[.string s] w R := by
  by_cases hs : s.size ≤ 122
  · obtain ⟨neg, D, r, hp⟩ := parts_exist s.data.toList
    by_cases hall : (D ++ r).all isDig = true
    · have hr : r = [] := by
        rcases hp.2.2.2 with h | ⟨E, rfl⟩
        · exact h
        · rw [List.all_append, List.all_cons, not_dig47] at hall; simp at hall
      subst hr
      rw [List.append_nil] at hall
      refine readr_digits s neg D hp hall w hE hs R ?_ ?_
      · intro v w' h1 h2 hv hb
        obtain ⟨h3, h4⟩ := (num_iff hp _).1 ⟨h1, .inl ⟨rfl, h2, rfl⟩⟩
        exact hR v _ w' h3 h4 hv hb
      · intro e w' h he hb
        refine hR2 e w' (numB_parts hp fun q hq => h ?_) he hb
        obtain ⟨h1, ⟨_, h2, _⟩ | ⟨E, h2, _⟩⟩ := hq
        · exact ⟨h1, h2⟩
        · cases h2
    · obtain ⟨i, hi, h1, h2⟩ := first_bad (D ++ r) (by simpa using hall)
      have htk : D.length ≤ i → (D ++ r).take i = D ++ r.take (i - D.length) := fun h => by
        rw [List.take_append, List.take_of_length_le h]
      by_cases h47 : (D ++ r)[i] = 47
      · have hDi : D.length ≤ i := by
          refine Nat.le_of_not_lt fun h => ?_
          rw [List.getElem_append_left h] at h47
          exact hp.2.2.1 _ (List.getElem_mem h) h47
        have hD : D.all isDig = true := by
          rw [htk hDi, List.all_append, Bool.and_eq_true] at h1
          exact h1.1
        rcases hp.2.2.2 with rfl | ⟨E, rfl⟩
        · simp at hi; omega
        · refine readr_slash s neg D E hp hD w hE hs R ?_
          intro v e w' ho hb
          rcases ho with ⟨rfl, q, ⟨g1, g2, g3, g4, g5, g6⟩, hv⟩ | ⟨he, rfl, hn⟩
          · obtain ⟨h3, h4⟩ := (num_iff hp q).1 ⟨g1, .inr ⟨E, rfl, g2, g3, g4, g5, g6⟩⟩
            exact hR v q w' h3 h4 hv hb
          · refine hR2 e w' (numB_parts hp fun q hq => hn ?_) he hb
            obtain ⟨g1, ⟨g2, _⟩ | ⟨E', g2, g3, g4, g5, _⟩⟩ := hq
            · cases g2
            · obtain rfl := (List.cons.inj g2).2
              exact ⟨g1, g3, g4, g5⟩
      · refine readr_bad s neg D r hp i hi h1 h2 h47 w hE hs R fun e w' he hb => hR2 e w' (numB_parts hp fun q hq => ?_) he hb
        have hD := (digB_iff.1 hq.1).1
        have hDi : D.length ≤ i := by
          refine Nat.le_of_not_lt fun h => ?_
          rw [List.getElem_append_left h] at h2
          rw [List.all_eq_true.1 hD _ (List.getElem_mem h)] at h2
          cases h2
        rcases hp.2.2.2 with rfl | ⟨E, rfl⟩
        · simp at hi; omega
        · rw [htk hDi, List.all_append, Bool.and_eq_true] at h1
          rw [List.getElem_append_right hDi] at h47
          rcases Nat.eq_or_lt_of_le hDi with h | h
          · subst h; simp at h47
          · obtain ⟨k, hk⟩ : ∃ k, i - D.length = k + 1 := ⟨i - D.length - 1, by omega⟩
            rw [hk, List.take_succ_cons, List.all_cons, not_dig47] at h1
            simp at h1
  · exact readr_long s w hE (by omega) R fun e w' he hb => hR2 e w' (numB_len (by rw [size_list]; omega)) he hb
end Go.Proofs.YtdkjcdfkoahfkaaGreatDoor
