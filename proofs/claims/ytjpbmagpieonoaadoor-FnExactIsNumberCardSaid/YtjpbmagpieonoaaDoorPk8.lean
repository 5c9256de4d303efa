/- For every text, impl.IsNumber answers as the model does: the law FnExactIsNumber returns true, under the conditions that the given row states (the two errors and the handle of the type error hold what they hold at the start). -/
import Derived.Test.YtjpbmagpieonoaaDoorPk7
import Derived.Lib.Strings
import Derived.Test.YtjpbmagpieonoaaDoorTie
import Derived.Test.YtjpbmagpieonoaaDoorCards
import Derived.ProofKit
import Derived.LaidMore
import Derived.LaidHandle
import Derived.OpenShut
import Derived.ChangeVars
import Derived.ChangeMaps5
import Derived.Stop.Joined
import Derived.Stop.JoinedAt
import Derived.Stop.Texts
import Derived.Stop.ErrReads
import Derived.Stop.LaidErr
import Derived.SevenTiedAt
import Derived.Lib.AppendIntMem
import Derived.Lib.LaidTab
import Derived.WalkSmall
namespace Go.Proofs.YtjpbmagpieonoaaDoor
open Go Go.RowKit

theorem str_eq {s : ByteArray} {L : List UInt8} (h : L = s.data.toList) : s = ⟨L.toArray⟩ := by rw [h]

theorem size_parts1 {s : ByteArray} {neg : Bool} {D r : List UInt8} (hp : Parts s.data.toList neg D r) (hr : r = []) (h : digB D = true) : s.size ≤ 100000 := by
  have h1 := congrArg List.length hp.1
  have h2 := (digB_iff.1 h).2.2.1
  subst hr
  rw [List.length_append, List.length_append, size_list] at h1
  have hn : (if neg = true then [45] else ([] : List UInt8)).length ≤ 1 := by cases neg <;> simp
  simp at h1; omega
theorem size_parts2 {s : ByteArray} {neg : Bool} {D r E : List UInt8} (hp : Parts s.data.toList neg D r) (hr : r = 47 :: E) (h : digB D = true) (h' : digB E = true) : s.size ≤ 100000 := by
  have h1 := congrArg List.length hp.1
  have h2 := (digB_iff.1 h).2.2.1
  have h3 := (digB_iff.1 h').2.2.1
  subst hr
  rw [List.length_append, List.length_append, size_list] at h1
  have hn : (if neg = true then [45] else ([] : List UInt8)).length ≤ 1 := by cases neg <;> simp
  simp at h1; omega

set_option maxRecDepth 100000 in
set_option maxHeartbeats 4000000 in
theorem is_any (s : ByteArray) (w : World) (hs : s.size ≤ 1100000)
    (R : Ending → World → Prop) (hR : ∀ w', Below w.heap.size w w' → R (.returned (.bool (numB s.data.toList))) w') :
    Calls Tryd.prog 27 #[.string s] w R := by
  have HR := Lib.hid hR; clear hR
  obtain ⟨neg, D, r, hp⟩ := parts_exist s.data.toList
  have HP := Lib.hid hp
  obtain ⟨h1, h2, h3, h4⟩ := hp
  have H3 := Lib.hid h3
  have H4 := Lib.hid h4
  obtain ⟨t, Ht, Hn, Hts⟩ : ∃ t : ByteArray, Hid (t.data.toList = D ++ r) ∧ Hid (t = if neg then s.extract 1 s.size else s) ∧ t.size ≤ 1100000 := by
    cases neg
    · refine ⟨s, Lib.hid (by simpa using h1), Lib.hid rfl, hs⟩
    · refine ⟨s.extract 1 s.size, Lib.hid (sign_rest (by simpa using h1)), Lib.hid rfl, by rw [ext_size _ _ _ (Nat.le_refl _)]; omega⟩
  have hst2 : t.size = D.length + r.length := by rw [← size_list, Ht.out, List.length_append]
  obtain ⟨dl, hdl⟩ : ∃ dl, dl = D.length := ⟨_, rfl⟩
  rw [← hdl] at hst2
  have HDL := Lib.hid hdl
  have hdlt : dl ≤ t.size := by omega
  have hlast : dl < t.size → ∃ E, r = 47 :: E := by
    intro h
    rcases h4 with rfl | h'
    · simp at hst2; omega
    · exact h'
  have hend : ¬ dl < t.size → r = [] := by
    intro h
    rcases h4 with rfl | ⟨E, rfl⟩
    · rfl
    · simp at hst2; omega
  have HLAST := Lib.hid hlast
  have HEND := Lib.hid hend
  clear hst2 hdl hlast hend h3 h4
  have hm45 : (neg = true → ∃ h : 0 < s.size, s[0] = 45) ∧ (neg = false → ∀ h : 0 < s.size, s[0] ≠ 45) := by
    constructor
    · rintro rfl
      have hpos : 0 < s.size := by rw [← size_list, h1]; simp
      refine ⟨hpos, ?_⟩
      rw [byte_at s 0 hpos (by rw [size_list]; exact hpos)]; simp [h1]
    · intro hn hpos e
      have := h2 hn
      rw [head_at _ (by rw [size_list]; exact hpos), ← byte_at s 0 hpos (by rw [size_list]; exact hpos), e] at this
      exact this rfl
  clear h1 h2
  have hgo : ∀ (W : World), Below w.heap.size w W → True := fun _ _ => trivial
  clear hgo
  cases neg
  · have ht : t = s := Hn.out
    subst ht
    have key : True := trivial
    by_cases hpos : 0 < t.size
    · have e45 : ((t[0].toNat : Int) == 45) = false := by
        have := hm45.2 rfl hpos
        have : t[0].toNat ≠ 45 := fun h => this (UInt8.toNat_inj.1 h)
        simp; omega
      clear hm45
      go_enter Tryd.func27, Tryd.ntmps27
      go_wp2
      clear e45
      go_loop [4] (fun i => ∃ k : Nat, i = .int .i64 k ∧ k ≤ dl) (fun i => dl - (intOf i).toNat)
      case atStart => exact ⟨0, rfl, Nat.zero_le _⟩
      case round =>
        obtain ⟨k, rfl, hk⟩ := hrel
        by_cases hkd : k < dl
        · have hkt : k < t.size := by omega
          have hkD : k < D.length := by rw [← HDL.out]; exact hkd
          have hne : t[k].toNat ≠ 47 := by
            rw [at_D Ht.out k hkD hkt]
            intro h
            exact H3.out D[k] (List.getElem_mem hkD) (UInt8.toNat_inj.1 h)
          have e47 : ((t[k].toNat : Int) != 47) = true := by rw [bne_iff_ne]; omega
          clear hne
          go_wp2
          go_round
          case rel => exact ⟨k + 1, by go_num, by omega⟩
          case measure => simp [intOf]; omega
        · obtain rfl : k = dl := by omega
          clear hkd hk
          have HX : Hid ((t.extract 0 k).data.toList = D) := Lib.hid (by rw [HDL.out, part_D Ht.out])
          by_cases hkt : k < t.size
          · obtain ⟨E, hE⟩ := HLAST.out hkt
            have HE := Lib.hid hE
            clear hE
            have e47 : ((t[k].toNat : Int) != 47) = false := by
              have := at_slash (t := t) (D := D) (E := E) (by rw [Ht.out, HE.out]) (by rw [← HDL.out]; exact hkt)
              have h2 : t[k] = 47 := by rw [← this]; congr 1
              rw [h2]; rfl
            have HX2 : Hid ((t.extract (k + 1) t.size).data.toList = E) := Lib.hid (by rw [HDL.out, part_E (t := t) (D := D) (E := E) (by rw [Ht.out, HE.out])])
            have hsz2 : (t.extract (k + 1) t.size).size ≤ 1100000 := by rw [ext_size _ _ _ (by omega)]; omega
            go_wp2_with fail
            refine digB_any _ _ (by rw [ext_size _ _ _ (by omega)]; omega) _ ?_
            have HDB := Lib.hid (congrArg digB HX.out)
            obtain ⟨bD, hbD⟩ : ∃ b, b = digB (t.extract 0 k).data.toList := ⟨_, rfl⟩
            rw [← hbD]
            have HBD := Lib.hid (hbD.trans HDB.out)
            clear hbD
            cases bD
            · have hnb : numB t.data.toList = false := numB_parts HP.out fun q hq => by have := hq.1; rw [← HBD.out] at this; cases this
              rw [hnb] at HR
              clear hnb
              dsimp only
              go_wp2
              first | go_ret | skip
              exact HR.out _ (Below.refl _ _)
            · dsimp only
              go_wp2_with fail
              refine digB_any _ _ (by omega) _ ?_
              have HEB := Lib.hid (congrArg digB HX2.out)
              obtain ⟨bE, hbE⟩ : ∃ b, b = digB (t.extract (k + 1) t.size).data.toList := ⟨_, rfl⟩
              rw [← hbE]
              have HBE := Lib.hid (hbE.trans HEB.out)
              clear hbE
              cases bE
              · have hnb : numB t.data.toList = false := numB_parts HP.out fun q hq => by
                  rcases hq.2 with ⟨h, _⟩ | ⟨E', h, hE', _⟩
                  · rw [HE.out] at h; cases h
                  · rw [HE.out] at h
                    obtain rfl := (List.cons.inj h).2
                    rw [← HBE.out] at hE'; cases hE'
                rw [hnb] at HR
                clear hnb
                dsimp only
                go_wp2
                first | go_ret | skip
                exact HR.out _ (Below.refl _ _)
              · by_cases hz : E = [48]
                · have hnb : numB t.data.toList = false := numB_parts HP.out fun q hq => by
                    rcases hq.2 with ⟨h, _⟩ | ⟨E', h, hE', h2, _⟩
                    · rw [HE.out] at h; cases h
                    · rw [HE.out] at h
                      obtain rfl := (List.cons.inj h).2
                      rw [hz] at h2
                      simp [rdec] at h2
                  rw [hnb] at HR
                  clear hnb
                  have hx : ((t.extract (k + 1) t.size).toList == [48]) = true := by rw [Lib.toList_data, HX2.out, hz]; rfl
                  clear hz
                  dsimp only
                  go_wp2
                  first | go_ret | skip
                  exact HR.out _ (Below.refl _ _)
                · have hx : ((t.extract (k + 1) t.size).toList == [48]) = false := by rw [Lib.toList_data, HX2.out, beq_eq_false_iff_ne]; exact hz
                  have hm0 : rdec E ≠ 0 := fun h => hz (by have := decs_rdec HBE.out.symm; rw [h] at this; rw [← this]; rfl)
                  have HM0 := Lib.hid hm0
                  clear hz hm0
                  dsimp only
                  go_wp2_with fail
                  refine of_any t false D r (rdec E) _ HP.out (digB_iff.1 HBD.out.symm).1 (digB_iff.1 HBD.out.symm).2.1 (.inr ⟨E, HE.out, (digB_iff.1 HBE.out.symm).1, rfl, HM0.out⟩) (size_parts2 HP.out HE.out HBD.out.symm HBE.out.symm) _ ?_
                  have hnb : numB t.data.toList = _ := numB_of HP.out HBD.out.symm (.inr ⟨E, HE.out, HBE.out.symm, rfl, HM0.out⟩)
                  have hdl := divInt_le (sgn false (rdec D)) (rdec E) HM0.out
                  rw [sgn_abs] at hdl
                  have hl1 := Nat.le_trans (dig_length_mono (B := 10000) (by omega) hdl.1) (rdec_len D (digB_iff.1 HBD.out.symm).1 60 (digB_iff.1 HBD.out.symm).2.2.1)
                  have hl2 := Nat.le_trans (dig_length_mono (B := 10000) (by omega) hdl.2) (rdec_len E (digB_iff.1 HBE.out.symm).1 60 (digB_iff.1 HBE.out.symm).2.2.1)
                  obtain ⟨q, hq⟩ : ∃ q, q = Rat.divInt (sgn false (rdec D)) (rdec E : Int) := ⟨_, rfl⟩
                  rw [← hq] at hnb hl1 hl2 ⊢
                  have HNB := Lib.hid hnb
                  clear hnb hq hdl
                  intro v1 w1 hq1 hb1
                  obtain ⟨ng, a1, n1, c1, a2, n2, c2, rfl, _, _⟩ := hq1.parts
                  dsimp only
                  go_wp2_with fail
                  refine text_any _ q _ hq1 (by omega) (by omega) _ ?_
                  intro w2 hb2
                  have HB := Lib.hid (hb1.trans (hb2.mono hb1.size))
                  clear hb1 hb2 hq1
                  dsimp only
                  obtain ⟨T, hT⟩ : ∃ T, T = textQ q := ⟨_, rfl⟩
                  rw [← hT] at HNB ⊢
                  clear hT
                  by_cases hTs : T = t.data.toList
                  · have e9 : (T == t.toList) = true := by rw [Lib.toList_data, hTs]; exact beq_self_eq_true _
                    rw [HNB.out, decide_eq_true hTs] at HR
                    clear hTs
                    go_wp2
                    first | go_ret | skip
                    exact HR.out _ HB.out
                  · have e9 : (T == t.toList) = false := by rw [Lib.toList_data, beq_eq_false_iff_ne]; exact hTs
                    rw [HNB.out, decide_eq_false hTs] at HR
                    clear hTs
                    go_wp2
                    first | go_ret | skip
                    exact HR.out _ HB.out
          · have hr0 := HEND.out hkt
            have HR0 := Lib.hid hr0
            clear hr0
            go_wp2_with fail
            refine digB_any _ _ (by rw [ext_size _ _ _ (by omega)]; omega) _ ?_
            have HDB := Lib.hid (congrArg digB HX.out)
            obtain ⟨bD, hbD⟩ : ∃ b, b = digB (t.extract 0 k).data.toList := ⟨_, rfl⟩
            rw [← hbD]
            have HBD := Lib.hid (hbD.trans HDB.out)
            clear hbD
            cases bD
            · have hnb : numB t.data.toList = false := numB_parts HP.out fun q hq => by have := hq.1; rw [← HBD.out] at this; cases this
              rw [hnb] at HR
              clear hnb
              dsimp only
              go_wp2
              first | go_ret | skip
              exact HR.out _ (Below.refl _ _)
            · dsimp only
              go_wp2_with fail
              refine of_any t false D r 1 _ HP.out (digB_iff.1 HBD.out.symm).1 (digB_iff.1 HBD.out.symm).2.1 (.inl ⟨HR0.out, rfl⟩) (size_parts1 HP.out HR0.out HBD.out.symm) _ ?_
              have hnb : numB t.data.toList = _ := numB_of HP.out HBD.out.symm (.inl ⟨HR0.out, rfl⟩)
              have hdl := divInt_le (sgn false (rdec D)) 1 (by omega)
              rw [sgn_abs] at hdl
              have hl1 := Nat.le_trans (dig_length_mono (B := 10000) (by omega) hdl.1) (rdec_len D (digB_iff.1 HBD.out.symm).1 60 (digB_iff.1 HBD.out.symm).2.2.1)
              have hl2 := Nat.le_trans (dig_length_mono (B := 10000) (by omega) hdl.2) (show _ ≤ 60 by rw [dig_small (by omega) (by omega)]; simp)
              obtain ⟨q, hq⟩ : ∃ q, q = Rat.divInt (sgn false (rdec D)) ((1 : Nat) : Int) := ⟨_, rfl⟩
              rw [← hq] at hnb hl1 hl2 ⊢
              have HNB := Lib.hid hnb
              clear hnb hq hdl
              intro v1 w1 hq1 hb1
              obtain ⟨ng, a1, n1, c1, a2, n2, c2, rfl, _, _⟩ := hq1.parts
              dsimp only
              go_wp2_with fail
              refine text_any _ q _ hq1 (by omega) (by omega) _ ?_
              intro w2 hb2
              have HB := Lib.hid (hb1.trans (hb2.mono hb1.size))
              clear hb1 hb2 hq1
              dsimp only
              obtain ⟨T, hT⟩ : ∃ T, T = textQ q := ⟨_, rfl⟩
              rw [← hT] at HNB ⊢
              clear hT
              by_cases hTs : T = t.data.toList
              · have e9 : (T == t.toList) = true := by rw [Lib.toList_data, hTs]; exact beq_self_eq_true _
                rw [HNB.out, decide_eq_true hTs] at HR
                clear hTs
                go_wp2
                first | go_ret | skip
                exact HR.out _ HB.out
              · have e9 : (T == t.toList) = false := by rw [Lib.toList_data, beq_eq_false_iff_ne]; exact hTs
                rw [HNB.out, decide_eq_false hTs] at HR
                clear hTs
                go_wp2
                first | go_ret | skip
                exact HR.out _ HB.out
    · clear hm45
      go_enter Tryd.func27, Tryd.ntmps27
      go_wp2
      go_loop [4] (fun i => ∃ k : Nat, i = .int .i64 k ∧ k ≤ dl) (fun i => dl - (intOf i).toNat)
      case atStart => exact ⟨0, rfl, Nat.zero_le _⟩
      case round =>
        obtain ⟨k, rfl, hk⟩ := hrel
        by_cases hkd : k < dl
        · have hkt : k < t.size := by omega
          have hkD : k < D.length := by rw [← HDL.out]; exact hkd
          have hne : t[k].toNat ≠ 47 := by
            rw [at_D Ht.out k hkD hkt]
            intro h
            exact H3.out D[k] (List.getElem_mem hkD) (UInt8.toNat_inj.1 h)
          have e47 : ((t[k].toNat : Int) != 47) = true := by rw [bne_iff_ne]; omega
          clear hne
          go_wp2
          go_round
          case rel => exact ⟨k + 1, by go_num, by omega⟩
          case measure => simp [intOf]; omega
        · obtain rfl : k = dl := by omega
          clear hkd hk
          have HX : Hid ((t.extract 0 k).data.toList = D) := Lib.hid (by rw [HDL.out, part_D Ht.out])
          by_cases hkt : k < t.size
          · obtain ⟨E, hE⟩ := HLAST.out hkt
            have HE := Lib.hid hE
            clear hE
            have e47 : ((t[k].toNat : Int) != 47) = false := by
              have := at_slash (t := t) (D := D) (E := E) (by rw [Ht.out, HE.out]) (by rw [← HDL.out]; exact hkt)
              have h2 : t[k] = 47 := by rw [← this]; congr 1
              rw [h2]; rfl
            have HX2 : Hid ((t.extract (k + 1) t.size).data.toList = E) := Lib.hid (by rw [HDL.out, part_E (t := t) (D := D) (E := E) (by rw [Ht.out, HE.out])])
            have hsz2 : (t.extract (k + 1) t.size).size ≤ 1100000 := by rw [ext_size _ _ _ (by omega)]; omega
            go_wp2_with fail
            refine digB_any _ _ (by rw [ext_size _ _ _ (by omega)]; omega) _ ?_
            have HDB := Lib.hid (congrArg digB HX.out)
            obtain ⟨bD, hbD⟩ : ∃ b, b = digB (t.extract 0 k).data.toList := ⟨_, rfl⟩
            rw [← hbD]
            have HBD := Lib.hid (hbD.trans HDB.out)
            clear hbD
            cases bD
            · have hnb : numB t.data.toList = false := numB_parts HP.out fun q hq => by have := hq.1; rw [← HBD.out] at this; cases this
              rw [hnb] at HR
              clear hnb
              dsimp only
              go_wp2
              first | go_ret | skip
              exact HR.out _ (Below.refl _ _)
            · dsimp only
              go_wp2_with fail
              refine digB_any _ _ (by omega) _ ?_
              have HEB := Lib.hid (congrArg digB HX2.out)
              obtain ⟨bE, hbE⟩ : ∃ b, b = digB (t.extract (k + 1) t.size).data.toList := ⟨_, rfl⟩
              rw [← hbE]
              have HBE := Lib.hid (hbE.trans HEB.out)
              clear hbE
              cases bE
              · have hnb : numB t.data.toList = false := numB_parts HP.out fun q hq => by
                  rcases hq.2 with ⟨h, _⟩ | ⟨E', h, hE', _⟩
                  · rw [HE.out] at h; cases h
                  · rw [HE.out] at h
                    obtain rfl := (List.cons.inj h).2
                    rw [← HBE.out] at hE'; cases hE'
                rw [hnb] at HR
                clear hnb
                dsimp only
                go_wp2
                first | go_ret | skip
                exact HR.out _ (Below.refl _ _)
              · by_cases hz : E = [48]
                · have hnb : numB t.data.toList = false := numB_parts HP.out fun q hq => by
                    rcases hq.2 with ⟨h, _⟩ | ⟨E', h, hE', h2, _⟩
                    · rw [HE.out] at h; cases h
                    · rw [HE.out] at h
                      obtain rfl := (List.cons.inj h).2
                      rw [hz] at h2
                      simp [rdec] at h2
                  rw [hnb] at HR
                  clear hnb
                  have hx : ((t.extract (k + 1) t.size).toList == [48]) = true := by rw [Lib.toList_data, HX2.out, hz]; rfl
                  clear hz
                  dsimp only
                  go_wp2
                  first | go_ret | skip
                  exact HR.out _ (Below.refl _ _)
                · have hx : ((t.extract (k + 1) t.size).toList == [48]) = false := by rw [Lib.toList_data, HX2.out, beq_eq_false_iff_ne]; exact hz
                  have hm0 : rdec E ≠ 0 := fun h => hz (by have := decs_rdec HBE.out.symm; rw [h] at this; rw [← this]; rfl)
                  have HM0 := Lib.hid hm0
                  clear hz hm0
                  dsimp only
                  go_wp2_with fail
                  refine of_any t false D r (rdec E) _ HP.out (digB_iff.1 HBD.out.symm).1 (digB_iff.1 HBD.out.symm).2.1 (.inr ⟨E, HE.out, (digB_iff.1 HBE.out.symm).1, rfl, HM0.out⟩) (size_parts2 HP.out HE.out HBD.out.symm HBE.out.symm) _ ?_
                  have hnb : numB t.data.toList = _ := numB_of HP.out HBD.out.symm (.inr ⟨E, HE.out, HBE.out.symm, rfl, HM0.out⟩)
                  have hdl := divInt_le (sgn false (rdec D)) (rdec E) HM0.out
                  rw [sgn_abs] at hdl
                  have hl1 := Nat.le_trans (dig_length_mono (B := 10000) (by omega) hdl.1) (rdec_len D (digB_iff.1 HBD.out.symm).1 60 (digB_iff.1 HBD.out.symm).2.2.1)
                  have hl2 := Nat.le_trans (dig_length_mono (B := 10000) (by omega) hdl.2) (rdec_len E (digB_iff.1 HBE.out.symm).1 60 (digB_iff.1 HBE.out.symm).2.2.1)
                  obtain ⟨q, hq⟩ : ∃ q, q = Rat.divInt (sgn false (rdec D)) (rdec E : Int) := ⟨_, rfl⟩
                  rw [← hq] at hnb hl1 hl2 ⊢
                  have HNB := Lib.hid hnb
                  clear hnb hq hdl
                  intro v1 w1 hq1 hb1
                  obtain ⟨ng, a1, n1, c1, a2, n2, c2, rfl, _, _⟩ := hq1.parts
                  dsimp only
                  go_wp2_with fail
                  refine text_any _ q _ hq1 (by omega) (by omega) _ ?_
                  intro w2 hb2
                  have HB := Lib.hid (hb1.trans (hb2.mono hb1.size))
                  clear hb1 hb2 hq1
                  dsimp only
                  obtain ⟨T, hT⟩ : ∃ T, T = textQ q := ⟨_, rfl⟩
                  rw [← hT] at HNB ⊢
                  clear hT
                  by_cases hTs : T = t.data.toList
                  · have e9 : (T == t.toList) = true := by rw [Lib.toList_data, hTs]; exact beq_self_eq_true _
                    rw [HNB.out, decide_eq_true hTs] at HR
                    clear hTs
                    go_wp2
                    first | go_ret | skip
                    exact HR.out _ HB.out
                  · have e9 : (T == t.toList) = false := by rw [Lib.toList_data, beq_eq_false_iff_ne]; exact hTs
                    rw [HNB.out, decide_eq_false hTs] at HR
                    clear hTs
                    go_wp2
                    first | go_ret | skip
                    exact HR.out _ HB.out
          · have hr0 := HEND.out hkt
            have HR0 := Lib.hid hr0
            clear hr0
            go_wp2_with fail
            refine digB_any _ _ (by rw [ext_size _ _ _ (by omega)]; omega) _ ?_
            have HDB := Lib.hid (congrArg digB HX.out)
            obtain ⟨bD, hbD⟩ : ∃ b, b = digB (t.extract 0 k).data.toList := ⟨_, rfl⟩
            rw [← hbD]
            have HBD := Lib.hid (hbD.trans HDB.out)
            clear hbD
            cases bD
            · have hnb : numB t.data.toList = false := numB_parts HP.out fun q hq => by have := hq.1; rw [← HBD.out] at this; cases this
              rw [hnb] at HR
              clear hnb
              dsimp only
              go_wp2
              first | go_ret | skip
              exact HR.out _ (Below.refl _ _)
            · dsimp only
              go_wp2_with fail
              refine of_any t false D r 1 _ HP.out (digB_iff.1 HBD.out.symm).1 (digB_iff.1 HBD.out.symm).2.1 (.inl ⟨HR0.out, rfl⟩) (size_parts1 HP.out HR0.out HBD.out.symm) _ ?_
              have hnb : numB t.data.toList = _ := numB_of HP.out HBD.out.symm (.inl ⟨HR0.out, rfl⟩)
              have hdl := divInt_le (sgn false (rdec D)) 1 (by omega)
              rw [sgn_abs] at hdl
              have hl1 := Nat.le_trans (dig_length_mono (B := 10000) (by omega) hdl.1) (rdec_len D (digB_iff.1 HBD.out.symm).1 60 (digB_iff.1 HBD.out.symm).2.2.1)
              have hl2 := Nat.le_trans (dig_length_mono (B := 10000) (by omega) hdl.2) (show _ ≤ 60 by rw [dig_small (by omega) (by omega)]; simp)
              obtain ⟨q, hq⟩ : ∃ q, q = Rat.divInt (sgn false (rdec D)) ((1 : Nat) : Int) := ⟨_, rfl⟩
              rw [← hq] at hnb hl1 hl2 ⊢
              have HNB := Lib.hid hnb
              clear hnb hq hdl
              intro v1 w1 hq1 hb1
              obtain ⟨ng, a1, n1, c1, a2, n2, c2, rfl, _, _⟩ := hq1.parts
              dsimp only
              go_wp2_with fail
              refine text_any _ q _ hq1 (by omega) (by omega) _ ?_
              intro w2 hb2
              have HB := Lib.hid (hb1.trans (hb2.mono hb1.size))
              clear hb1 hb2 hq1
              dsimp only
              obtain ⟨T, hT⟩ : ∃ T, T = textQ q := ⟨_, rfl⟩
              rw [← hT] at HNB ⊢
              clear hT
              by_cases hTs : T = t.data.toList
              · have e9 : (T == t.toList) = true := by rw [Lib.toList_data, hTs]; exact beq_self_eq_true _
                rw [HNB.out, decide_eq_true hTs] at HR
                clear hTs
                go_wp2
                first | go_ret | skip
                exact HR.out _ HB.out
              · have e9 : (T == t.toList) = false := by rw [Lib.toList_data, beq_eq_false_iff_ne]; exact hTs
                rw [HNB.out, decide_eq_false hTs] at HR
                clear hTs
                go_wp2
                first | go_ret | skip
                exact HR.out _ HB.out
  · obtain ⟨hpos, h45⟩ := hm45.1 rfl
    have e45 : ((s[0].toNat : Int) == 45) = true := by
      rw [h45]; rfl
    clear hm45 h45
    go_enter Tryd.func27, Tryd.ntmps27
    go_wp2
    have ht : t = s.extract 1 s.size := Hn.out
    rw [← ht]
    clear ht
    go_loop [4] (fun i => ∃ k : Nat, i = .int .i64 k ∧ k ≤ dl) (fun i => dl - (intOf i).toNat)
    case atStart => exact ⟨0, rfl, Nat.zero_le _⟩
    case round =>
      obtain ⟨k, rfl, hk⟩ := hrel
      by_cases hkd : k < dl
      · have hkt : k < t.size := by omega
        have hkD : k < D.length := by rw [← HDL.out]; exact hkd
        have hne : t[k].toNat ≠ 47 := by
          rw [at_D Ht.out k hkD hkt]
          intro h
          exact H3.out D[k] (List.getElem_mem hkD) (UInt8.toNat_inj.1 h)
        have e47 : ((t[k].toNat : Int) != 47) = true := by rw [bne_iff_ne]; omega
        clear hne
        go_wp2
        go_round
        case rel => exact ⟨k + 1, by go_num, by omega⟩
        case measure => simp [intOf]; omega
      · obtain rfl : k = dl := by omega
        clear hkd hk
        have HX : Hid ((t.extract 0 k).data.toList = D) := Lib.hid (by rw [HDL.out, part_D Ht.out])
        by_cases hkt : k < t.size
        · obtain ⟨E, hE⟩ := HLAST.out hkt
          have HE := Lib.hid hE
          clear hE
          have e47 : ((t[k].toNat : Int) != 47) = false := by
            have := at_slash (t := t) (D := D) (E := E) (by rw [Ht.out, HE.out]) (by rw [← HDL.out]; exact hkt)
            have h2 : t[k] = 47 := by rw [← this]; congr 1
            rw [h2]; rfl
          have HX2 : Hid ((t.extract (k + 1) t.size).data.toList = E) := Lib.hid (by rw [HDL.out, part_E (t := t) (D := D) (E := E) (by rw [Ht.out, HE.out])])
          have hsz2 : (t.extract (k + 1) t.size).size ≤ 1100000 := by rw [ext_size _ _ _ (by omega)]; omega
          go_wp2_with fail
          refine digB_any _ _ (by rw [ext_size _ _ _ (by omega)]; omega) _ ?_
          have HDB := Lib.hid (congrArg digB HX.out)
          obtain ⟨bD, hbD⟩ : ∃ b, b = digB (t.extract 0 k).data.toList := ⟨_, rfl⟩
          rw [← hbD]
          have HBD := Lib.hid (hbD.trans HDB.out)
          clear hbD
          cases bD
          · have hnb : numB s.data.toList = false := numB_parts HP.out fun q hq => by have := hq.1; rw [← HBD.out] at this; cases this
            rw [hnb] at HR
            clear hnb
            dsimp only
            go_wp2
            first | go_ret | skip
            exact HR.out _ (Below.refl _ _)
          · dsimp only
            go_wp2_with fail
            refine digB_any _ _ (by omega) _ ?_
            have HEB := Lib.hid (congrArg digB HX2.out)
            obtain ⟨bE, hbE⟩ : ∃ b, b = digB (t.extract (k + 1) t.size).data.toList := ⟨_, rfl⟩
            rw [← hbE]
            have HBE := Lib.hid (hbE.trans HEB.out)
            clear hbE
            cases bE
            · have hnb : numB s.data.toList = false := numB_parts HP.out fun q hq => by
                rcases hq.2 with ⟨h, _⟩ | ⟨E', h, hE', _⟩
                · rw [HE.out] at h; cases h
                · rw [HE.out] at h
                  obtain rfl := (List.cons.inj h).2
                  rw [← HBE.out] at hE'; cases hE'
              rw [hnb] at HR
              clear hnb
              dsimp only
              go_wp2
              first | go_ret | skip
              exact HR.out _ (Below.refl _ _)
            · by_cases hz : E = [48]
              · have hnb : numB s.data.toList = false := numB_parts HP.out fun q hq => by
                  rcases hq.2 with ⟨h, _⟩ | ⟨E', h, hE', h2, _⟩
                  · rw [HE.out] at h; cases h
                  · rw [HE.out] at h
                    obtain rfl := (List.cons.inj h).2
                    rw [hz] at h2
                    simp [rdec] at h2
                rw [hnb] at HR
                clear hnb
                have hx : ((t.extract (k + 1) t.size).toList == [48]) = true := by rw [Lib.toList_data, HX2.out, hz]; rfl
                clear hz
                dsimp only
                go_wp2
                first | go_ret | skip
                exact HR.out _ (Below.refl _ _)
              · have hx : ((t.extract (k + 1) t.size).toList == [48]) = false := by rw [Lib.toList_data, HX2.out, beq_eq_false_iff_ne]; exact hz
                have hm0 : rdec E ≠ 0 := fun h => hz (by have := decs_rdec HBE.out.symm; rw [h] at this; rw [← this]; rfl)
                have HM0 := Lib.hid hm0
                clear hz hm0
                dsimp only
                go_wp2_with fail
                refine of_any s true D r (rdec E) _ HP.out (digB_iff.1 HBD.out.symm).1 (digB_iff.1 HBD.out.symm).2.1 (.inr ⟨E, HE.out, (digB_iff.1 HBE.out.symm).1, rfl, HM0.out⟩) (size_parts2 HP.out HE.out HBD.out.symm HBE.out.symm) _ ?_
                have hnb : numB s.data.toList = _ := numB_of HP.out HBD.out.symm (.inr ⟨E, HE.out, HBE.out.symm, rfl, HM0.out⟩)
                have hdl := divInt_le (sgn true (rdec D)) (rdec E) HM0.out
                rw [sgn_abs] at hdl
                have hl1 := Nat.le_trans (dig_length_mono (B := 10000) (by omega) hdl.1) (rdec_len D (digB_iff.1 HBD.out.symm).1 60 (digB_iff.1 HBD.out.symm).2.2.1)
                have hl2 := Nat.le_trans (dig_length_mono (B := 10000) (by omega) hdl.2) (rdec_len E (digB_iff.1 HBE.out.symm).1 60 (digB_iff.1 HBE.out.symm).2.2.1)
                obtain ⟨q, hq⟩ : ∃ q, q = Rat.divInt (sgn true (rdec D)) (rdec E : Int) := ⟨_, rfl⟩
                rw [← hq] at hnb hl1 hl2 ⊢
                have HNB := Lib.hid hnb
                clear hnb hq hdl
                intro v1 w1 hq1 hb1
                obtain ⟨ng, a1, n1, c1, a2, n2, c2, rfl, _, _⟩ := hq1.parts
                dsimp only
                go_wp2_with fail
                refine text_any _ q _ hq1 (by omega) (by omega) _ ?_
                intro w2 hb2
                have HB := Lib.hid (hb1.trans (hb2.mono hb1.size))
                clear hb1 hb2 hq1
                dsimp only
                obtain ⟨T, hT⟩ : ∃ T, T = textQ q := ⟨_, rfl⟩
                rw [← hT] at HNB ⊢
                clear hT
                by_cases hTs : T = s.data.toList
                · have e9 : (T == s.toList) = true := by rw [Lib.toList_data, hTs]; exact beq_self_eq_true _
                  rw [HNB.out, decide_eq_true hTs] at HR
                  clear hTs
                  go_wp2
                  first | go_ret | skip
                  exact HR.out _ HB.out
                · have e9 : (T == s.toList) = false := by rw [Lib.toList_data, beq_eq_false_iff_ne]; exact hTs
                  rw [HNB.out, decide_eq_false hTs] at HR
                  clear hTs
                  go_wp2
                  first | go_ret | skip
                  exact HR.out _ HB.out
        · have hr0 := HEND.out hkt
          have HR0 := Lib.hid hr0
          clear hr0
          go_wp2_with fail
          refine digB_any _ _ (by rw [ext_size _ _ _ (by omega)]; omega) _ ?_
          have HDB := Lib.hid (congrArg digB HX.out)
          obtain ⟨bD, hbD⟩ : ∃ b, b = digB (t.extract 0 k).data.toList := ⟨_, rfl⟩
          rw [← hbD]
          have HBD := Lib.hid (hbD.trans HDB.out)
          clear hbD
          cases bD
          · have hnb : numB s.data.toList = false := numB_parts HP.out fun q hq => by have := hq.1; rw [← HBD.out] at this; cases this
            rw [hnb] at HR
            clear hnb
            dsimp only
            go_wp2
            first | go_ret | skip
            exact HR.out _ (Below.refl _ _)
          · dsimp only
            go_wp2_with fail
            refine of_any s true D r 1 _ HP.out (digB_iff.1 HBD.out.symm).1 (digB_iff.1 HBD.out.symm).2.1 (.inl ⟨HR0.out, rfl⟩) (size_parts1 HP.out HR0.out HBD.out.symm) _ ?_
            have hnb : numB s.data.toList = _ := numB_of HP.out HBD.out.symm (.inl ⟨HR0.out, rfl⟩)
            have hdl := divInt_le (sgn true (rdec D)) 1 (by omega)
            rw [sgn_abs] at hdl
            have hl1 := Nat.le_trans (dig_length_mono (B := 10000) (by omega) hdl.1) (rdec_len D (digB_iff.1 HBD.out.symm).1 60 (digB_iff.1 HBD.out.symm).2.2.1)
            have hl2 := Nat.le_trans (dig_length_mono (B := 10000) (by omega) hdl.2) (show _ ≤ 60 by rw [dig_small (by omega) (by omega)]; simp)
            obtain ⟨q, hq⟩ : ∃ q, q = Rat.divInt (sgn true (rdec D)) ((1 : Nat) : Int) := ⟨_, rfl⟩
            rw [← hq] at hnb hl1 hl2 ⊢
            have HNB := Lib.hid hnb
            clear hnb hq hdl
            intro v1 w1 hq1 hb1
            obtain ⟨ng, a1, n1, c1, a2, n2, c2, rfl, _, _⟩ := hq1.parts
            dsimp only
            go_wp2_with fail
            refine text_any _ q _ hq1 (by omega) (by omega) _ ?_
            intro w2 hb2
            have HB := Lib.hid (hb1.trans (hb2.mono hb1.size))
            clear hb1 hb2 hq1
            dsimp only
            obtain ⟨T, hT⟩ : ∃ T, T = textQ q := ⟨_, rfl⟩
            rw [← hT] at HNB ⊢
            clear hT
            by_cases hTs : T = s.data.toList
            · have e9 : (T == s.toList) = true := by rw [Lib.toList_data, hTs]; exact beq_self_eq_true _
              rw [HNB.out, decide_eq_true hTs] at HR
              clear hTs
              go_wp2
              first | go_ret | skip
              exact HR.out _ HB.out
            · have e9 : (T == s.toList) = false := by rw [Lib.toList_data, beq_eq_false_iff_ne]; exact hTs
              rw [HNB.out, decide_eq_false hTs] at HR
              clear hTs
              go_wp2
              first | go_ret | skip
              exact HR.out _ HB.out
end Go.Proofs.YtjpbmagpieonoaaDoor

namespace Go.Proofs.YtjpbmagpieonoaaDoor
open Go Go.RowKit

set_option maxRecDepth 100000 in
set_option maxHeartbeats 1000000 in
theorem spec_isNumber (s : ByteArray) (w : World) (hs : s.size ≤ 1048576)
    (R : Ending → World → Prop) (hR : ∀ w', Below w.heap.size w w' → R (.returned (.bool (numB s.data.toList))) w') :
    Calls Tryd.prog 10 #[.string s] w R := by
  have HR := Lib.hid hR; clear hR
  go_enter Tryd.func10, Tryd.ntmps10
  go_wp2_with fail
  refine is_any s _ (by omega) _ ?_
  intro w1 hb1
  have HB := Lib.hid hb1
  obtain ⟨x, hx⟩ : ∃ x, x = numB s.data.toList := ⟨_, rfl⟩
  rw [← hx] at HR ⊢
  clear hb1 hx
  dsimp only
  go_wp2
  first | go_ret | skip
  exact HR.out _ HB.out

set_option maxRecDepth 100000 in
set_option maxHeartbeats 1000000 in
theorem law_isNumber (s : ByteArray) (w : World) (hE : Env w) (R : Ending → World → Prop)
    (hR : ∀ w', Below w.heap.size w w' → R (.returned (.bool true)) w') :
    Calls Tryd.prog 3 #[.string s] w R := by
  have HR := Lib.hid hR; clear hR
  have HE := Lib.hid hE; clear hE
  by_cases hs : s.size ≤ 1048576
  · have hsi : ¬ (1048576 : Int) < (s.size : Int) := by omega
    have HS := Lib.hid hs
    clear hs
    go_enter Tryd.func3, Tryd.ntmps3
    go_wp2_with fail
    refine spec_isNumber s _ HS.out _ ?_
    intro w1 hb1
    obtain ⟨x, hx⟩ : ∃ x, x = numB s.data.toList := ⟨_, rfl⟩
    have HX := Lib.hid hx
    have HB1 := Lib.hid hb1
    rw [← hx]
    clear hb1 hx
    dsimp only
    go_wp2_with fail
    refine isnumber_any s _ (HE.out.later HB1.out (Nat.le_refl _)) _ ?_
    intro w2 hb2
    rw [← HX.out]
    have HB2 := Lib.hid (HB1.out.trans (hb2.mono HB1.out.size))
    clear hb2
    dsimp only
    cases x <;>
    · go_wp2
      first | go_ret | skip
      exact HR.out _ HB2.out
  · have hsi : (1048576 : Int) < (s.size : Int) := by omega
    clear hs
    go_enter Tryd.func3, Tryd.ntmps3
    go_wp2
    first | go_ret | skip
    exact HR.out _ (Below.refl _ _)
end Go.Proofs.YtjpbmagpieonoaaDoor

namespace Go.Proofs.YtjpbmagpieonoaaDoor.EnvLaid
open Go Go.ChangeShapes Go.WideShapes Go.ChangeAt Go.RowKit

theorem own : ownKnob Tryd.prog.godebug = none := by kernel_rfl
theorem gForm : Tryd.prog.globalNamed "loop.example/g01120/impl.errForm" = some 1 := by kernel_rfl
theorem gSize : Tryd.prog.globalNamed "loop.example/g01120/impl.errSize" = some 0 := by kernel_rfl
theorem gType : Tryd.prog.globalNamed "errors.errorType" = some 2 := by kernel_rfl
theorem tForm : (Tryd.prog.globals[1]?).map (·.type) = some 43 := by kernel_rfl
theorem tSize : (Tryd.prog.globals[0]?).map (·.type) = some 43 := by kernel_rfl
theorem rt : (Tryd.prog.cutTypes.find? (·.1 == "internal/reflectlite.rtype")).map (·.2) = some 127 := by kernel_rfl
theorem size : Tryd.prog.types.size = 202 := by kernel_rfl
theorem oneRow : ((List.range 202).filter fun t => Tryd.prog.rowNamed t [101, 114, 114, 111, 114]) = [43] := by kernel_rfl
theorem star : "*" ++ "errors.errorString" = "*errors.errorString" := by decide
theorem rowPtr (u : TypeId) (h : Tryd.prog.typeName? 3 u = some "*errors.errorString") : u = 169 :=
  typeName_ptr_named (nm := "errors.errorString") (by rw [star]; kernel_rfl) (by kernel_rfl) (by decide) u (by rw [star]; exact h)
theorem cells190 : Tryd.prog.cellsOf 190 = 1 := by kernel_rfl
theorem cells9 : Tryd.prog.cellsOf 9 = 1 := by kernel_rfl

theorem handle_of {W : World} (h : handlesMet Tryd.prog [("errors.errorType", Rows.laid_errors_errorType)] W) :
    W.cell? ⟨2, 0, none⟩ = some (.iface 127 (.agg #[.pointer (some ⟨8, 43, none⟩)])) := by
  obtain ⟨name, u, ty, e1, e2, e3, e4, e5⟩ := h _ (List.mem_singleton.2 rfl)
  have en : name = [101, 114, 114, 111, 114] := (Option.some.inj e1).symm
  subst en
  obtain rfl := Option.some.inj (rt.symm.trans e2)
  have hm : ty ∈ (List.range 202).filter fun t => Tryd.prog.rowNamed t [101, 114, 114, 111, 114] := List.mem_filter.2 ⟨List.mem_range.2 (by rw [← size]; exact e3), e4⟩
  rw [oneRow] at hm
  obtain rfl := List.mem_singleton.1 hm
  have hh : typeHandle Tryd.prog 43 = .pointer (some ⟨8, 43, none⟩) := by kernel_rfl
  rw [hh] at e5
  simpa using World.var?_cell gType e5 0

/-- what a row's condition gives -/
theorem env_of {W : World} (h : laidMetH Tryd.prog [("errors.errorType", Rows.laid_errors_errorType), ("loop.example/g01120/impl.errForm", Rows.laid_loop_example_g01120_impl_errForm), ("loop.example/g01120/impl.errSize", Rows.laid_loop_example_g01120_impl_errSize)] W) :
    Env W ∧ (∃ a, W.var? Tryd.prog "loop.example/g01120/impl.errForm" = some #[.iface 169 (.pointer (some a))]) ∧ (∃ a, W.var? Tryd.prog "loop.example/g01120/impl.errSize" = some #[.iface 169 (.pointer (some a))]) := by
  have h' : laidMet Tryd.prog [("loop.example/g01120/impl.errForm", Rows.laid_loop_example_g01120_impl_errForm), ("loop.example/g01120/impl.errSize", Rows.laid_loop_example_g01120_impl_errSize)] W ∧ handlesMet Tryd.prog [("errors.errorType", Rows.laid_errors_errorType)] W := h
  obtain ⟨a1, s1, hv1, hc1, _, _⟩ := laid_sentinel h'.1 gForm tForm Tryd.underlying43 rowPtr Tryd.underlying169 Tryd.underlying190 rfl rfl Tryd.underlying9 cells190 cells9
  obtain ⟨a2, s2, hv2, hc2, _, _⟩ := laid_sentinel (laidMet.tail h'.1) gSize tSize Tryd.underlying43 rowPtr Tryd.underlying169 Tryd.underlying190 rfl rfl Tryd.underlying9 cells190 cells9
  exact ⟨⟨⟨a1, by simpa using World.var?_cell gForm hv1 0⟩, ⟨a2, by simpa using World.var?_cell gSize hv2 0⟩, handle_of h'.2⟩, ⟨a1, hv1⟩, ⟨a2, hv2⟩⟩
end Go.Proofs.YtjpbmagpieonoaaDoor.EnvLaid

namespace Go.Proofs.YtjpbmagpieonoaaDoor
open Go Go.RowKit

theorem decDigits_decs (n : Nat) : Lib.decDigits n = decs n := by
  induction n using Nat.strongRecOn with
  | _ n ih =>
    rw [Lib.decDigits]
    by_cases h : n < 10
    · rw [dif_pos h]
      by_cases h0 : n = 0
      · subst h0; rfl
      · rw [decs, if_neg h0, dig_small h0 h]; rfl
    · rw [dif_neg h, ih (n / 10) (by omega), decs, decs, if_neg (by omega), if_neg (by omega), dig_pos (by omega) (by omega : n ≠ 0)]
      simp [chr]

theorem itoa_textQ (n : Int) : Lib.itoa n = textQ (n : Rat) := by
  have h1 : ((n : Rat)).num = n := rfl
  have h2 : ((n : Rat)).den = 1 := rfl
  rw [Lib.itoa, textQ, h1, h2, decDigits_decs, decDigits_decs]
  by_cases h : n < 0
  · rw [if_pos h, if_pos h]; simp
  · rw [if_neg h, if_neg h]
    have : n.toNat = n.natAbs := by omega
    rw [this]; simp

theorem var?_later {P : Program} {W W' : World} {n : String} {cs : Array Value} (h : Below W.heap.size W W') (hv : W.var? P n = some cs) : W'.var? P n = some cs := by
  have hv' := hv
  unfold World.var? at hv'
  cases hg : P.globalNamed n with
  | none => rw [hg] at hv'; simp at hv'
  | some g =>
    refine var?_below h hg ?_ hv
    rw [hg] at hv'
    simp only [Option.bind_some] at hv'
    rcases Nat.lt_or_ge g W.heap.size with h | h
    · exact h
    · rw [Array.getElem?_eq_none (by omega)] at hv'; simp at hv'

set_option maxRecDepth 100000 in
theorem spec_numberOf (n : Int) (w : World) (h1 : -9223372036854775807 - 1 ≤ n) (h2 : n ≤ 9223372036854775807) (R : Ending → World → Prop)
    (hR : ∀ w', Below w.heap.size w w' → R (.returned (.string ⟨(textQ (n : Rat)).toArray⟩)) w') :
    Calls Tryd.prog 19 #[.int .i64 n] w R := by
  have HR := Lib.hid hR; clear hR
  go_enter Tryd.func19, Tryd.ntmps19
  go_wp2_with fail
  refine int_any n _ h1 h2 _ ?_
  intro v w1 hq hb1
  have hv := hq.open
  obtain ⟨a1, n1, c1, a2, n2, c2, rfl, e1, e2, _, _⟩ := hv
  clear e1 e2
  dsimp only
  go_wp2_with fail
  refine text_any _ _ _ hq (Nat.le_trans (dig_length_ten (e := 20) (by omega) (by show n.natAbs < _; omega)) (by omega)) (by show (dig 10000 1).length ≤ _; rw [dig_small (by omega) (by omega)]; simp) _ ?_
  intro w2 hb2
  have HB := Lib.hid (hb1.trans (hb2.mono hb1.size))
  clear hb1 hb2 hq
  dsimp only
  go_wp2
  first | go_ret | skip
  exact HR.out _ HB.out

set_option maxRecDepth 100000 in
theorem impl_numberOf (n : Int) (w : World) (h1 : -9223372036854775808 ≤ n) (h2 : n ≤ 9223372036854775807) (htab : Lib.TabIs Tryd.prog w "internal/strconv.uint64pow10" .u64 Lib.pow10Tab) (R : Ending → World → Prop)
    (hR : ∀ w', Below w.heap.size w w' → R (.returned (.string ⟨(textQ (n : Rat)).toArray⟩)) w') :
    Calls Tryd.prog 20 #[.int .i64 n] w R := by
  have HR := Lib.hid hR; clear hR
  have HT := Lib.hid htab; clear htab
  have H1 := Lib.hid h1
  have H2 := Lib.hid h2
  clear h1 h2
  go_enter Tryd.func20, Tryd.ntmps20
  go_wp2_with fail
  refine (Tryd.strconv_FormatInt_10 n H1.out H2.out _ HT.out).mono ?_
  rintro e w1 ⟨rfl, k, os, rfl⟩
  rw [itoa_textQ]
  have HB := Lib.hid (Lib.below_grow w.heap.size w (Nat.le_refl _) k os)
  dsimp only
  go_wp2
  first | go_ret | skip
  exact HR.out _ HB.out

set_option maxRecDepth 100000 in
theorem law_numberOf (n : Int) (w : World) (h1 : -9223372036854775808 ≤ n) (h2 : n ≤ 9223372036854775807) (htab : Lib.TabIs Tryd.prog w "internal/strconv.uint64pow10" .u64 Lib.pow10Tab) (R : Ending → World → Prop)
    (hR : ∀ w', Below w.heap.size w w' → R (.returned (.bool true)) w') :
    Calls Tryd.prog 6 #[.int .i64 n] w R := by
  have HR := Lib.hid hR; clear hR
  have HT := Lib.hid htab; clear htab
  have H1 := Lib.hid h1
  have H2 := Lib.hid h2
  clear h1 h2
  go_enter Tryd.func6, Tryd.ntmps6
  go_wp2_with fail
  refine spec_numberOf n _ (by have := H1.out; omega) H2.out _ ?_
  intro w1 hb1
  have htab1 := HT.out
  dsimp only
  go_wp2_with fail
  refine impl_numberOf n _ H1.out H2.out ?_ _ ?_
  · exact var?_later hb1 htab1
  · intro w2 hb2
    have HB := Lib.hid (hb1.trans (hb2.mono hb1.size))
    obtain ⟨T, hT⟩ : ∃ T, T = textQ (n : Rat) := ⟨_, rfl⟩
    rw [← hT]
    clear hb1 hb2 hT htab1
    dsimp only
    go_wp2
    first | go_ret | skip
    exact HR.out _ HB.out
end Go.Proofs.YtjpbmagpieonoaaDoor

namespace Go.Proofs.YtjpbmagpieonoaaDoor.RowIsNumber
open Go Go.ChangeShapes Go.WideShapes Go.ChangeAt Go.RowKit EnvLaid

theorem door_met (os : Os) (args : Array Value) : laidMetH Tryd.prog Rows.fnExactIsNumberRow.laid ((World.doorLaid Tryd.prog 400 os).forCall (fun _ _ => 0) ⟨#[], args, []⟩).memory :=
  laidMetH_of_parts3 (fuel := 8) (laidMet_of_run' 8 (by kernel_rfl) (by kernel_rfl)) (by kernel_rfl) (by kernel_rfl)

set_option maxRecDepth 100000 in
theorem lifted (os : Os) (started : os.Started) (H : Type) (enc : TypeId × Value → H) :
    ReturnsInHanded {} Tryd.checked os 3 .any (fun w args => (Rows.fnExactIsNumberSpec.pre enc Tryd.prog Tryd.f3 [] false w args ∧ laidMetH Tryd.prog Rows.fnExactIsNumberRow.laid w) ∧ sizedMet enc Tryd.prog Tryd.f3 (OpenSpec.ofChange Rows.fnExactIsNumberSpec) false w args)
      (Rows.fnExactIsNumberSpec.post enc Tryd.prog Tryd.f3 false true false false) := by
  refine returnsInHanded_of_change_and (C := Tryd.checked) (X := fun w _ => laidMetH Tryd.prog Rows.fnExactIsNumberRow.laid w) (fun _ _ _ hh h => h.of_heap hh) own started (by kernel_rfl) Tryd.func3
    (ChangeSpec.witness_shaped (enc := enc) (C := Tryd.checked) (os := os) (X := fun w _ => laidMetH Tryd.prog Rows.fnExactIsNumberRow.laid w) false (World.doorLaid Tryd.prog 400 os) #[.string ⟨#[]⟩] 8 rfl (World.shaped_of_RefB (by kernel_rfl) (by kernel_rfl)) (by kernel_rfl) (by kernel_rfl) (by kernel_rfl) (door_met os _)) ?_
  intro W base args ds gs before hval0 hW _ _ hL _
  have hval : ∀ (j : Nat) t v, Tryd.f3.params[j]? = some t → args[j]? = some v → Value.okWide Tryd.prog W .any base t v := hval0
  have hW' := hW
  obtain ⟨p, q, hA0, hV0, rfl, hfz, hnd⟩ := hW
  have hA : DataW.TrodAll enc Tryd.prog W 0 (fun _ => true) true Tryd.f3.params.toList args.toList ds p := hA0
  have hV : DataW.TrodVars enc Tryd.prog W (fun _ => true) ["loop.example/g01120/impl.errSize", "loop.example/g01120/impl.errForm"] gs q := hV0
  rw [Tryd.params3] at hA hval
  obtain ⟨v0, d0, rfl, rfl, h0⟩ := trodAll_one hA
  obtain ⟨hE, ⟨a1, hv1⟩, ⟨a2, hv2⟩⟩ := env_of hL
  obtain ⟨rfl, rfl⟩ := hV.unique (vars_read2 enc gSize tSize Tryd.underlying43 hv2 trivial gForm tForm Tryd.underlying43 hv1 trivial _)
  obtain ⟨s, rfl, rfl, rfl, ws⟩ := Go.ChangeMaps.open_string Tryd.underlying9 (hval 0 9 v0 rfl rfl) h0
  clear hA0 hV0 hval0
  refine law_isNumber s W hE _ fun W' hbel => ?_
  exact ⟨_, rfl, ⟨_, _, _, [], [], _, hW', trodAll_mk1 (shut_bool Tryd.underlying4 _), trodAll_mk1 (Go.ChangeMaps.shut_string Tryd.underlying9 ws),
    vars_read2 enc gSize tSize Tryd.underlying43 (var?_later hbel hv2) trivial gForm tForm Tryd.underlying43 (var?_later hbel hv1) trivial _, hbel.frame _, fun h => by cases h⟩⟩

theorem row_holds : Rows.FnExactIsNumberSaid :=
  OpenClaim.holds_of_wide 3 Tryd.f3 rfl rfl rfl rfl rfl rfl rfl ⟨rfl, rfl, rfl, rfl, rfl⟩ rfl rfl rfl rfl rfl (by kernel_rfl) Tryd.func3 (by kernel_rfl)
    (of_decide_eq_true (by kernel_rfl)) (by unfold Func.isWrapper; first | (rw [if_pos (by decide +kernel)]; kernel_rfl) | (rw [if_neg (by decide +kernel)]; exact ⟨rfl, rfl⟩))
    (fun os started H enc _ => lifted os started H enc)

theorem card_holds : Rows.FnExactIsNumberCardSaid :=
  Claim7.holds_tied_plain_at .later [] [.handle, .sentinel, .sentinel] true _ true
    row_holds (fun _ h => by cases h) (by kernel_rfl) (fun _ h => by cases h) fnExactIsNumber_row_tie rfl ⟨rfl, rfl⟩ (by kernel_rfl) rfl
    (fun f fn hf hfn => by
      obtain rfl : f = 3 := Option.some.inj ((show Tryd.prog.funcNamed "loop.example/g01120/laws.FnExactIsNumber" = some 3 by kernel_rfl).symm.trans hf) |>.symm
      obtain rfl : fn = Tryd.f3 := (Option.some.inj (Tryd.func3.symm.trans hfn)).symm
      exact ⟨by kernel_rfl, fun j t ht => by
        rw [Tryd.params3] at ht
        have h3 : t = 9 := by
          rcases j with _ | j
          · simpa using ht.symm
          · simp at ht
        subst h3
        exact (show Tryd.prog.wantsStandIn 9 = false by kernel_rfl)⟩)
    (by kernel_rfl)
end Go.Proofs.YtjpbmagpieonoaaDoor.RowIsNumber
