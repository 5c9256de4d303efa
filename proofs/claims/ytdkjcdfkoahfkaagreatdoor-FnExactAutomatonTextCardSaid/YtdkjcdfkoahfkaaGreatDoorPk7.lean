/- Contracts of functions of the program and of the model: IsW, NumO, Set2, Scaled, TextI, Out, RatM, Bnd, IsT, Comb, PlusN, Limbs, OverN, TimesI, Read2, TimesQ, PlusI. -/
import Derived.Test.YtdkjcdfkoahfkaaGreatDoorPk6
import Derived.Lib.Strings
import Derived.Deep.RegionHeld3
set_option linter.all false
set_option linter.unusedVariables false
set_option linter.unusedSimpArgs false
set_option linter.unnecessarySimpa false
set_option linter.deprecated false
namespace Go.Proofs.YtdkjcdfkoahfkaaGreatDoor
open Go Go.RowKit

theorem str_eq {s : ByteArray} {L : List UInt8} (h : L = s.data.toList) : s = ⟨L.toArray⟩ := by rw [h]

theorem size_parts1 {s : ByteArray} {neg : Bool} {D r : List UInt8} (hp : Parts s.data.toList neg D r) (hr : r = []) (h : digB D = true) : s.size ≤ 100000 := by
  have h1 := congrArg List.length hp.1
  have h2 := (digB_iff.1 h).2.2.1
  subst hr
  rw [List.length_append, List.length_append, size_list] at h1
  have hn : (if neg = true then [45] else ([] : List UInt8)).length ≤ 1 := by cases neg <;> simp
  simp at h1; omega
theorem size_parts2 {s : ByteArray} {neg : Bool} {D r E : List UInt8} (hp : Parts s.data.toList neg D r) (hr : r = 47 :: E) (h : digB D = true) (h' : digB E = true) : s.size ≤ 100000 := by
  have h1 := congrArg List.length hp.1
  have h2 := (digB_iff.1 h).2.2.1
  have h3 := (digB_iff.1 h').2.2.1
  subst hr
  rw [List.length_append, List.length_append, size_list] at h1
  have hn : (if neg = true then [45] else ([] : List UInt8)).length ≤ 1 := by cases neg <;> simp
  simp at h1; omega

set_option maxRecDepth 100000 in
set_option maxHeartbeats 4000000 in
theorem is_any (s : ByteArray) (w : World) (hs : s.size ≤ 1100000)
    (R : Ending → World → Prop) (hR : ∀ w', Below w.heap.size w w' → R (.returned (.bool (numB s.data.toList))) w') :
    Calls Tryz.prog 122 #[.string s] w R := by
  have HR := Lib.hid hR; clear hR
  obtain ⟨neg, D, r, hp⟩ := parts_exist s.data.toList
  have HP := Lib.hid hp
  obtain ⟨h1, h2, h3, h4⟩ := hp
  have H3 := Lib.hid h3
  have H4 := Lib.hid h4
  obtain ⟨t, Ht, Hn, Hts⟩ : ∃ t : ByteArray, Hid (t.data.toList = D ++ r) ∧ Hid (t = if neg then s.extract 1 s.size else s) ∧ t.size ≤ 1100000 := by
    cases neg
    · refine ⟨s, Lib.hid (by simpa using h1), Lib.hid rfl, hs⟩
    · refine ⟨s.extract 1 s.size, Lib.hid (sign_rest (by simpa using h1)), Lib.hid rfl, by rw [ext_size _ _ _ (Nat.le_refl _)]; omega⟩
  have hst2 : t.size = D.length + r.length := by rw [← size_list, Ht.out, List.length_append]
  obtain ⟨dl, hdl⟩ : ∃ dl, dl = D.length := ⟨_, rfl⟩
  rw [← hdl] at hst2
  have HDL := Lib.hid hdl
  have hdlt : dl ≤ t.size := by omega
  have hlast : dl < t.size → ∃ E, r = 47 :: E := by
    intro h
    rcases h4 with rfl | h'
    · simp at hst2; omega
    · exact h'
  have hend : ¬ dl < t.size → r = [] := by
    intro h
    rcases h4 with rfl | ⟨E, rfl⟩
    · rfl
    · simp at hst2; omega
  have HLAST := Lib.hid hlast
  have HEND := Lib.hid hend
  clear hst2 hdl hlast hend h3 h4
  have hm45 : (neg = true → ∃ h : 0 < s.size, s[0] = 45) ∧ (neg = false → ∀ h : 0 < s.size, s[0] ≠ 45) := by
    constructor
    · rintro rfl
      have hpos : 0 < s.size := by rw [← size_list, h1]; simp
      refine ⟨hpos, ?_⟩
      rw [byte_at s 0 hpos (by rw [size_list]; exact hpos)]; simp [h1]
    · intro hn hpos e
      have := h2 hn
      rw [head_at _ (by rw [size_list]; exact hpos), ← byte_at s 0 hpos (by rw [size_list]; exact hpos), e] at this
      exact this rfl
  clear h1 h2
  have hgo : ∀ (W : World), Below w.heap.size w W → True := fun _ _ => trivial
  clear hgo
  cases neg
  · have ht : t = s := Hn.out
    subst ht
    have key : True := trivial
    by_cases hpos : 0 < t.size
    · have e45 : ((t[0].toNat : Int) == 45) = false := by
        have := hm45.2 rfl hpos
        have : t[0].toNat ≠ 45 := fun h => this (UInt8.toNat_inj.1 h)
        simp; omega
      clear hm45
      go_enter Tryz.func122, Tryz.ntmps122
      go_wp2
      clear e45
      go_loop [4] (fun i => ∃ k : Nat, i = .int .i64 k ∧ k ≤ dl) (fun i => dl - (intOf i).toNat)
      case atStart => exact ⟨0, rfl, Nat.zero_le _⟩
      case round =>
        obtain ⟨k, rfl, hk⟩ := hrel
        by_cases hkd : k < dl
        · have hkt : k < t.size := by omega
          have hkD : k < D.length := by rw [← HDL.out]; exact hkd
          have hne : t[k].toNat ≠ 47 := by
            rw [at_D Ht.out k hkD hkt]
            intro h
            exact H3.out D[k] (List.getElem_mem hkD) (UInt8.toNat_inj.1 h)
          have e47 : ((t[k].toNat : Int) != 47) = true := by rw [bne_iff_ne]; omega
          clear hne
          go_wp2
          go_round
          case rel => exact ⟨k + 1, by go_num, by omega⟩
          case measure => simp [intOf]; omega
        · obtain rfl : k = dl := by omega
          clear hkd hk
          have HX : Hid ((t.extract 0 k).data.toList = D) := Lib.hid (by rw [HDL.out, part_D Ht.out])
          by_cases hkt : k < t.size
          · obtain ⟨E, hE⟩ := HLAST.out hkt
            have HE := Lib.hid hE
            clear hE
            have e47 : ((t[k].toNat : Int) != 47) = false := by
              have := at_slash (t := t) (D := D) (E := E) (by rw [Ht.out, HE.out]) (by rw [← HDL.out]; exact hkt)
              have h2 : t[k] = 47 := by rw [← this]; congr 1
              rw [h2]; rfl
            have HX2 : Hid ((t.extract (k + 1) t.size).data.toList = E) := Lib.hid (by rw [HDL.out, part_E (t := t) (D := D) (E := E) (by rw [Ht.out, HE.out])])
            have hsz2 : (t.extract (k + 1) t.size).size ≤ 1100000 := by rw [ext_size _ _ _ (by omega)]; omega
            go_wp2_with fail
            refine digB_any _ _ (by rw [ext_size _ _ _ (by omega)]; omega) _ ?_
            have HDB := Lib.hid (congrArg digB HX.out)
            obtain ⟨bD, hbD⟩ : ∃ b, b = digB (t.extract 0 k).data.toList := ⟨_, rfl⟩
            rw [← hbD]
            have HBD := Lib.hid (hbD.trans HDB.out)
            clear hbD
            cases bD
            · have hnb : numB t.data.toList = false := numB_parts HP.out fun q hq => by have := hq.1; rw [← HBD.out] at this; cases this
              rw [hnb] at HR
              clear hnb
              dsimp only
              go_wp2
              first | go_ret | skip
              exact HR.out _ (Below.refl _ _)
            · dsimp only
              go_wp2_with fail
              refine digB_any _ _ (by omega) _ ?_
              have HEB := Lib.hid (congrArg digB HX2.out)
              obtain ⟨bE, hbE⟩ : ∃ b, b = digB (t.extract (k + 1) t.size).data.toList := ⟨_, rfl⟩
              rw [← hbE]
              have HBE := Lib.hid (hbE.trans HEB.out)
              clear hbE
              cases bE
              · have hnb : numB t.data.toList = false := numB_parts HP.out fun q hq => by
                  rcases hq.2 with ⟨h, _⟩ | ⟨E', h, hE', _⟩
                  · rw [HE.out] at h; cases h
                  · rw [HE.out] at h
                    obtain rfl := (List.cons.inj h).2
                    rw [← HBE.out] at hE'; cases hE'
                rw [hnb] at HR
                clear hnb
                dsimp only
                go_wp2
                first | go_ret | skip
                exact HR.out _ (Below.refl _ _)
              · by_cases hz : E = [48]
                · have hnb : numB t.data.toList = false := numB_parts HP.out fun q hq => by
                    rcases hq.2 with ⟨h, _⟩ | ⟨E', h, hE', h2, _⟩
                    · rw [HE.out] at h; cases h
                    · rw [HE.out] at h
                      obtain rfl := (List.cons.inj h).2
                      rw [hz] at h2
                      simp [rdec] at h2
                  rw [hnb] at HR
                  clear hnb
                  have hx : ((t.extract (k + 1) t.size).toList == [48]) = true := by rw [Lib.toList_data, HX2.out, hz]; rfl
                  clear hz
                  dsimp only
                  go_wp2
                  first | go_ret | skip
                  exact HR.out _ (Below.refl _ _)
                · have hx : ((t.extract (k + 1) t.size).toList == [48]) = false := by rw [Lib.toList_data, HX2.out, beq_eq_false_iff_ne]; exact hz
                  have hm0 : rdec E ≠ 0 := fun h => hz (by have := decs_rdec HBE.out.symm; rw [h] at this; rw [← this]; rfl)
                  have HM0 := Lib.hid hm0
                  clear hz hm0
                  dsimp only
                  go_wp2_with fail
                  refine of_any t false D r (rdec E) _ HP.out (digB_iff.1 HBD.out.symm).1 (digB_iff.1 HBD.out.symm).2.1 (.inr ⟨E, HE.out, (digB_iff.1 HBE.out.symm).1, rfl, HM0.out⟩) (size_parts2 HP.out HE.out HBD.out.symm HBE.out.symm) _ ?_
                  have hnb : numB t.data.toList = _ := numB_of HP.out HBD.out.symm (.inr ⟨E, HE.out, HBE.out.symm, rfl, HM0.out⟩)
                  have hdl := divInt_le (sgn false (rdec D)) (rdec E) HM0.out
                  rw [sgn_abs] at hdl
                  have hl1 := Nat.le_trans (dig_length_mono (B := 10000) (by omega) hdl.1) (rdec_len D (digB_iff.1 HBD.out.symm).1 60 (digB_iff.1 HBD.out.symm).2.2.1)
                  have hl2 := Nat.le_trans (dig_length_mono (B := 10000) (by omega) hdl.2) (rdec_len E (digB_iff.1 HBE.out.symm).1 60 (digB_iff.1 HBE.out.symm).2.2.1)
                  obtain ⟨q, hq⟩ : ∃ q, q = Rat.divInt (sgn false (rdec D)) (rdec E : Int) := ⟨_, rfl⟩
                  rw [← hq] at hnb hl1 hl2 ⊢
                  have HNB := Lib.hid hnb
                  clear hnb hq hdl
                  intro v1 w1 hq1 hb1
                  obtain ⟨ng, a1, n1, c1, a2, n2, c2, rfl, _, _⟩ := hq1.parts
                  dsimp only
                  go_wp2_with fail
                  refine text_any _ q _ hq1 (by omega) (by omega) _ ?_
                  intro w2 hb2
                  have HB := Lib.hid (hb1.trans (hb2.mono hb1.size))
                  clear hb1 hb2 hq1
                  dsimp only
                  obtain ⟨T, hT⟩ : ∃ T, T = textQ q := ⟨_, rfl⟩
                  rw [← hT] at HNB ⊢
                  clear hT
                  by_cases hTs : T = t.data.toList
                  · have e9 : (T == t.toList) = true := by rw [Lib.toList_data, hTs]; exact beq_self_eq_true _
                    rw [HNB.out, decide_eq_true hTs] at HR
                    clear hTs
                    go_wp2
                    first | go_ret | skip
                    exact HR.out _ HB.out
                  · have e9 : (T == t.toList) = false := by rw [Lib.toList_data, beq_eq_false_iff_ne]; exact hTs
                    rw [HNB.out, decide_eq_false hTs] at HR
                    clear hTs
                    go_wp2
                    first | go_ret | skip
                    exact HR.out _ HB.out
          · have hr0 := HEND.out hkt
            have HR0 := Lib.hid hr0
            clear hr0
            go_wp2_with fail
            refine digB_any _ _ (by rw [ext_size _ _ _ (by omega)]; omega) _ ?_
            have HDB := Lib.hid (congrArg digB HX.out)
            obtain ⟨bD, hbD⟩ : ∃ b, b = digB (t.extract 0 k).data.toList := ⟨_, rfl⟩
            rw [← hbD]
            have HBD := Lib.hid (hbD.trans HDB.out)
            clear hbD
            cases bD
            · have hnb : numB t.data.toList = false := numB_parts HP.out fun q hq => by have := hq.1; rw [← HBD.out] at this; cases this
              rw [hnb] at HR
              clear hnb
              dsimp only
              go_wp2
              first | go_ret | skip
              exact HR.out _ (Below.refl _ _)
            · dsimp only
              go_wp2_with fail
              refine of_any t false D r 1 _ HP.out (digB_iff.1 HBD.out.symm).1 (digB_iff.1 HBD.out.symm).2.1 (.inl ⟨HR0.out, rfl⟩) (size_parts1 HP.out HR0.out HBD.out.symm) _ ?_
              have hnb : numB t.data.toList = _ := numB_of HP.out HBD.out.symm (.inl ⟨HR0.out, rfl⟩)
              have hdl := divInt_le (sgn false (rdec D)) 1 (by omega)
              rw [sgn_abs] at hdl
              have hl1 := Nat.le_trans (dig_length_mono (B := 10000) (by omega) hdl.1) (rdec_len D (digB_iff.1 HBD.out.symm).1 60 (digB_iff.1 HBD.out.symm).2.2.1)
              have hl2 := Nat.le_trans (dig_length_mono (B := 10000) (by omega) hdl.2) (show _ ≤ 60 by rw [dig_small (by omega) (by omega)]; simp)
              obtain ⟨q, hq⟩ : ∃ q, q = Rat.divInt (sgn false (rdec D)) ((1 : Nat) : Int) := ⟨_, rfl⟩
              rw [← hq] at hnb hl1 hl2 ⊢
              have HNB := Lib.hid hnb
              clear hnb hq hdl
              intro v1 w1 hq1 hb1
              obtain ⟨ng, a1, n1, c1, a2, n2, c2, rfl, _, _⟩ := hq1.parts
              dsimp only
              go_wp2_with fail
              refine text_any _ q _ hq1 (by omega) (by omega) _ ?_
              intro w2 hb2
              have HB := Lib.hid (hb1.trans (hb2.mono hb1.size))
              clear hb1 hb2 hq1
              dsimp only
              obtain ⟨T, hT⟩ : ∃ T, T = textQ q := ⟨_, rfl⟩
              rw [← hT] at HNB ⊢
              clear hT
              by_cases hTs : T = t.data.toList
              · have e9 : (T == t.toList) = true := by rw [Lib.toList_data, hTs]; exact beq_self_eq_true _
                rw [HNB.out, decide_eq_true hTs] at HR
                clear hTs
                go_wp2
                first | go_ret | skip
                exact HR.out _ HB.out
              · have e9 : (T == t.toList) = false := by rw [Lib.toList_data, beq_eq_false_iff_ne]; exact hTs
                rw [HNB.out, decide_eq_false hTs] at HR
                clear hTs
                go_wp2
                first | go_ret | skip
                exact HR.out _ HB.out
    · clear hm45
      go_enter Tryz.func122, Tryz.ntmps122
      go_wp2
      go_loop [4] (fun i => ∃ k : Nat, i = .int .i64 k ∧ k ≤ dl) (fun i => dl - (intOf i).toNat)
      case atStart => exact ⟨0, rfl, Nat.zero_le _⟩
      case round =>
        obtain ⟨k, rfl, hk⟩ := hrel
        by_cases hkd : k < dl
        · have hkt : k < t.size := by omega
          have hkD : k < D.length := by rw [← HDL.out]; exact hkd
          have hne : t[k].toNat ≠ 47 := by
            rw [at_D Ht.out k hkD hkt]
            intro h
            exact H3.out D[k] (List.getElem_mem hkD) (UInt8.toNat_inj.1 h)
          have e47 : ((t[k].toNat : Int) != 47) = true := by rw [bne_iff_ne]; omega
          clear hne
          go_wp2
          go_round
          case rel => exact ⟨k + 1, by go_num, by omega⟩
          case measure => simp [intOf]; omega
        · obtain rfl : k = dl := by omega
          clear hkd hk
          have HX : Hid ((t.extract 0 k).data.toList = D) := Lib.hid (by rw [HDL.out, part_D Ht.out])
          by_cases hkt : k < t.size
          · obtain ⟨E, hE⟩ := HLAST.out hkt
            have HE := Lib.hid hE
            clear hE
            have e47 : ((t[k].toNat : Int) != 47) = false := by
              have := at_slash (t := t) (D := D) (E := E) (by rw [Ht.out, HE.out]) (by rw [← HDL.out]; exact hkt)
              have h2 : t[k] = 47 := by rw [← this]; congr 1
              rw [h2]; rfl
            have HX2 : Hid ((t.extract (k + 1) t.size).data.toList = E) := Lib.hid (by rw [HDL.out, part_E (t := t) (D := D) (E := E) (by rw [Ht.out, HE.out])])
            have hsz2 : (t.extract (k + 1) t.size).size ≤ 1100000 := by rw [ext_size _ _ _ (by omega)]; omega
            go_wp2_with fail
            refine digB_any _ _ (by rw [ext_size _ _ _ (by omega)]; omega) _ ?_
            have HDB := Lib.hid (congrArg digB HX.out)
            obtain ⟨bD, hbD⟩ : ∃ b, b = digB (t.extract 0 k).data.toList := ⟨_, rfl⟩
            rw [← hbD]
            have HBD := Lib.hid (hbD.trans HDB.out)
            clear hbD
            cases bD
            · have hnb : numB t.data.toList = false := numB_parts HP.out fun q hq => by have := hq.1; rw [← HBD.out] at this; cases this
              rw [hnb] at HR
              clear hnb
              dsimp only
              go_wp2
              first | go_ret | skip
              exact HR.out _ (Below.refl _ _)
            · dsimp only
              go_wp2_with fail
              refine digB_any _ _ (by omega) _ ?_
              have HEB := Lib.hid (congrArg digB HX2.out)
              obtain ⟨bE, hbE⟩ : ∃ b, b = digB (t.extract (k + 1) t.size).data.toList := ⟨_, rfl⟩
              rw [← hbE]
              have HBE := Lib.hid (hbE.trans HEB.out)
              clear hbE
              cases bE
              · have hnb : numB t.data.toList = false := numB_parts HP.out fun q hq => by
                  rcases hq.2 with ⟨h, _⟩ | ⟨E', h, hE', _⟩
                  · rw [HE.out] at h; cases h
                  · rw [HE.out] at h
                    obtain rfl := (List.cons.inj h).2
                    rw [← HBE.out] at hE'; cases hE'
                rw [hnb] at HR
                clear hnb
                dsimp only
                go_wp2
                first | go_ret | skip
                exact HR.out _ (Below.refl _ _)
              · by_cases hz : E = [48]
                · have hnb : numB t.data.toList = false := numB_parts HP.out fun q hq => by
                    rcases hq.2 with ⟨h, _⟩ | ⟨E', h, hE', h2, _⟩
                    · rw [HE.out] at h; cases h
                    · rw [HE.out] at h
                      obtain rfl := (List.cons.inj h).2
                      rw [hz] at h2
                      simp [rdec] at h2
                  rw [hnb] at HR
                  clear hnb
                  have hx : ((t.extract (k + 1) t.size).toList == [48]) = true := by rw [Lib.toList_data, HX2.out, hz]; rfl
                  clear hz
                  dsimp only
                  go_wp2
                  first | go_ret | skip
                  exact HR.out _ (Below.refl _ _)
                · have hx : ((t.extract (k + 1) t.size).toList == [48]) = false := by rw [Lib.toList_data, HX2.out, beq_eq_false_iff_ne]; exact hz
                  have hm0 : rdec E ≠ 0 := fun h => hz (by have := decs_rdec HBE.out.symm; rw [h] at this; rw [← this]; rfl)
                  have HM0 := Lib.hid hm0
                  clear hz hm0
                  dsimp only
                  go_wp2_with fail
                  refine of_any t false D r (rdec E) _ HP.out (digB_iff.1 HBD.out.symm).1 (digB_iff.1 HBD.out.symm).2.1 (.inr ⟨E, HE.out, (digB_iff.1 HBE.out.symm).1, rfl, HM0.out⟩) (size_parts2 HP.out HE.out HBD.out.symm HBE.out.symm) _ ?_
                  have hnb : numB t.data.toList = _ := numB_of HP.out HBD.out.symm (.inr ⟨E, HE.out, HBE.out.symm, rfl, HM0.out⟩)
                  have hdl := divInt_le (sgn false (rdec D)) (rdec E) HM0.out
                  rw [sgn_abs] at hdl
                  have hl1 := Nat.le_trans (dig_length_mono (B := 10000) (by omega) hdl.1) (rdec_len D (digB_iff.1 HBD.out.symm).1 60 (digB_iff.1 HBD.out.symm).2.2.1)
                  have hl2 := Nat.le_trans (dig_length_mono (B := 10000) (by omega) hdl.2) (rdec_len E (digB_iff.1 HBE.out.symm).1 60 (digB_iff.1 HBE.out.symm).2.2.1)
                  obtain ⟨q, hq⟩ : ∃ q, q = Rat.divInt (sgn false (rdec D)) (rdec E : Int) := ⟨_, rfl⟩
                  rw [← hq] at hnb hl1 hl2 ⊢
                  have HNB := Lib.hid hnb
                  clear hnb hq hdl
                  intro v1 w1 hq1 hb1
                  obtain ⟨ng, a1, n1, c1, a2, n2, c2, rfl, _, _⟩ := hq1.parts
                  dsimp only
                  go_wp2_with fail
                  refine text_any _ q _ hq1 (by omega) (by omega) _ ?_
                  intro w2 hb2
                  have HB := Lib.hid (hb1.trans (hb2.mono hb1.size))
                  clear hb1 hb2 hq1
                  dsimp only
                  obtain ⟨T, hT⟩ : ∃ T, T = textQ q := ⟨_, rfl⟩
                  rw [← hT] at HNB ⊢
                  clear hT
                  by_cases hTs : T = t.data.toList
                  · have e9 : (T == t.toList) = true := by rw [Lib.toList_data, hTs]; exact beq_self_eq_true _
                    rw [HNB.out, decide_eq_true hTs] at HR
                    clear hTs
                    go_wp2
                    first | go_ret | skip
                    exact HR.out _ HB.out
                  · have e9 : (T == t.toList) = false := by rw [Lib.toList_data, beq_eq_false_iff_ne]; exact hTs
                    rw [HNB.out, decide_eq_false hTs] at HR
                    clear hTs
                    go_wp2
                    first | go_ret | skip
                    exact HR.out _ HB.out
          · have hr0 := HEND.out hkt
            have HR0 := Lib.hid hr0
            clear hr0
            go_wp2_with fail
            refine digB_any _ _ (by rw [ext_size _ _ _ (by omega)]; omega) _ ?_
            have HDB := Lib.hid (congrArg digB HX.out)
            obtain ⟨bD, hbD⟩ : ∃ b, b = digB (t.extract 0 k).data.toList := ⟨_, rfl⟩
            rw [← hbD]
            have HBD := Lib.hid (hbD.trans HDB.out)
            clear hbD
            cases bD
            · have hnb : numB t.data.toList = false := numB_parts HP.out fun q hq => by have := hq.1; rw [← HBD.out] at this; cases this
              rw [hnb] at HR
              clear hnb
              dsimp only
              go_wp2
              first | go_ret | skip
              exact HR.out _ (Below.refl _ _)
            · dsimp only
              go_wp2_with fail
              refine of_any t false D r 1 _ HP.out (digB_iff.1 HBD.out.symm).1 (digB_iff.1 HBD.out.symm).2.1 (.inl ⟨HR0.out, rfl⟩) (size_parts1 HP.out HR0.out HBD.out.symm) _ ?_
              have hnb : numB t.data.toList = _ := numB_of HP.out HBD.out.symm (.inl ⟨HR0.out, rfl⟩)
              have hdl := divInt_le (sgn false (rdec D)) 1 (by omega)
              rw [sgn_abs] at hdl
              have hl1 := Nat.le_trans (dig_length_mono (B := 10000) (by omega) hdl.1) (rdec_len D (digB_iff.1 HBD.out.symm).1 60 (digB_iff.1 HBD.out.symm).2.2.1)
              have hl2 := Nat.le_trans (dig_length_mono (B := 10000) (by omega) hdl.2) (show _ ≤ 60 by rw [dig_small (by omega) (by omega)]; simp)
              obtain ⟨q, hq⟩ : ∃ q, q = Rat.divInt (sgn false (rdec D)) ((1 : Nat) : Int) := ⟨_, rfl⟩
              rw [← hq] at hnb hl1 hl2 ⊢
              have HNB := Lib.hid hnb
              clear hnb hq hdl
              intro v1 w1 hq1 hb1
              obtain ⟨ng, a1, n1, c1, a2, n2, c2, rfl, _, _⟩ := hq1.parts
              dsimp only
              go_wp2_with fail
              refine text_any _ q _ hq1 (by omega) (by omega) _ ?_
              intro w2 hb2
              have HB := Lib.hid (hb1.trans (hb2.mono hb1.size))
              clear hb1 hb2 hq1
              dsimp only
              obtain ⟨T, hT⟩ : ∃ T, T = textQ q := ⟨_, rfl⟩
              rw [← hT] at HNB ⊢
              clear hT
              by_cases hTs : T = t.data.toList
              · have e9 : (T == t.toList) = true := by rw [Lib.toList_data, hTs]; exact beq_self_eq_true _
                rw [HNB.out, decide_eq_true hTs] at HR
                clear hTs
                go_wp2
                first | go_ret | skip
                exact HR.out _ HB.out
              · have e9 : (T == t.toList) = false := by rw [Lib.toList_data, beq_eq_false_iff_ne]; exact hTs
                rw [HNB.out, decide_eq_false hTs] at HR
                clear hTs
                go_wp2
                first | go_ret | skip
                exact HR.out _ HB.out
  · obtain ⟨hpos, h45⟩ := hm45.1 rfl
    have e45 : ((s[0].toNat : Int) == 45) = true := by
      rw [h45]; rfl
    clear hm45 h45
    go_enter Tryz.func122, Tryz.ntmps122
    go_wp2
    have ht : t = s.extract 1 s.size := Hn.out
    rw [← ht]
    clear ht
    go_loop [4] (fun i => ∃ k : Nat, i = .int .i64 k ∧ k ≤ dl) (fun i => dl - (intOf i).toNat)
    case atStart => exact ⟨0, rfl, Nat.zero_le _⟩
    case round =>
      obtain ⟨k, rfl, hk⟩ := hrel
      by_cases hkd : k < dl
      · have hkt : k < t.size := by omega
        have hkD : k < D.length := by rw [← HDL.out]; exact hkd
        have hne : t[k].toNat ≠ 47 := by
          rw [at_D Ht.out k hkD hkt]
          intro h
          exact H3.out D[k] (List.getElem_mem hkD) (UInt8.toNat_inj.1 h)
        have e47 : ((t[k].toNat : Int) != 47) = true := by rw [bne_iff_ne]; omega
        clear hne
        go_wp2
        go_round
        case rel => exact ⟨k + 1, by go_num, by omega⟩
        case measure => simp [intOf]; omega
      · obtain rfl : k = dl := by omega
        clear hkd hk
        have HX : Hid ((t.extract 0 k).data.toList = D) := Lib.hid (by rw [HDL.out, part_D Ht.out])
        by_cases hkt : k < t.size
        · obtain ⟨E, hE⟩ := HLAST.out hkt
          have HE := Lib.hid hE
          clear hE
          have e47 : ((t[k].toNat : Int) != 47) = false := by
            have := at_slash (t := t) (D := D) (E := E) (by rw [Ht.out, HE.out]) (by rw [← HDL.out]; exact hkt)
            have h2 : t[k] = 47 := by rw [← this]; congr 1
            rw [h2]; rfl
          have HX2 : Hid ((t.extract (k + 1) t.size).data.toList = E) := Lib.hid (by rw [HDL.out, part_E (t := t) (D := D) (E := E) (by rw [Ht.out, HE.out])])
          have hsz2 : (t.extract (k + 1) t.size).size ≤ 1100000 := by rw [ext_size _ _ _ (by omega)]; omega
          go_wp2_with fail
          refine digB_any _ _ (by rw [ext_size _ _ _ (by omega)]; omega) _ ?_
          have HDB := Lib.hid (congrArg digB HX.out)
          obtain ⟨bD, hbD⟩ : ∃ b, b = digB (t.extract 0 k).data.toList := ⟨_, rfl⟩
          rw [← hbD]
          have HBD := Lib.hid (hbD.trans HDB.out)
          clear hbD
          cases bD
          · have hnb : numB s.data.toList = false := numB_parts HP.out fun q hq => by have := hq.1; rw [← HBD.out] at this; cases this
            rw [hnb] at HR
            clear hnb
            dsimp only
            go_wp2
            first | go_ret | skip
            exact HR.out _ (Below.refl _ _)
          · dsimp only
            go_wp2_with fail
            refine digB_any _ _ (by omega) _ ?_
            have HEB := Lib.hid (congrArg digB HX2.out)
            obtain ⟨bE, hbE⟩ : ∃ b, b = digB (t.extract (k + 1) t.size).data.toList := ⟨_, rfl⟩
            rw [← hbE]
            have HBE := Lib.hid (hbE.trans HEB.out)
            clear hbE
            cases bE
            · have hnb : numB s.data.toList = false := numB_parts HP.out fun q hq => by
                rcases hq.2 with ⟨h, _⟩ | ⟨E', h, hE', _⟩
                · rw [HE.out] at h; cases h
                · rw [HE.out] at h
                  obtain rfl := (List.cons.inj h).2
                  rw [← HBE.out] at hE'; cases hE'
              rw [hnb] at HR
              clear hnb
              dsimp only
              go_wp2
              first | go_ret | skip
              exact HR.out _ (Below.refl _ _)
            · by_cases hz : E = [48]
              · have hnb : numB s.data.toList = false := numB_parts HP.out fun q hq => by
                  rcases hq.2 with ⟨h, _⟩ | ⟨E', h, hE', h2, _⟩
                  · rw [HE.out] at h; cases h
                  · rw [HE.out] at h
                    obtain rfl := (List.cons.inj h).2
                    rw [hz] at h2
                    simp [rdec] at h2
                rw [hnb] at HR
                clear hnb
                have hx : ((t.extract (k + 1) t.size).toList == [48]) = true := by rw [Lib.toList_data, HX2.out, hz]; rfl
                clear hz
                dsimp only
                go_wp2
                first | go_ret | skip
                exact HR.out _ (Below.refl _ _)
              · have hx : ((t.extract (k + 1) t.size).toList == [48]) = false := by rw [Lib.toList_data, HX2.out, beq_eq_false_iff_ne]; exact hz
                have hm0 : rdec E ≠ 0 := fun h => hz (by have := decs_rdec HBE.out.symm; rw [h] at this; rw [← this]; rfl)
                have HM0 := Lib.hid hm0
                clear hz hm0
                dsimp only
                go_wp2_with fail
                refine of_any s true D r (rdec E) _ HP.out (digB_iff.1 HBD.out.symm).1 (digB_iff.1 HBD.out.symm).2.1 (.inr ⟨E, HE.out, (digB_iff.1 HBE.out.symm).1, rfl, HM0.out⟩) (size_parts2 HP.out HE.out HBD.out.symm HBE.out.symm) _ ?_
                have hnb : numB s.data.toList = _ := numB_of HP.out HBD.out.symm (.inr ⟨E, HE.out, HBE.out.symm, rfl, HM0.out⟩)
                have hdl := divInt_le (sgn true (rdec D)) (rdec E) HM0.out
                rw [sgn_abs] at hdl
                have hl1 := Nat.le_trans (dig_length_mono (B := 10000) (by omega) hdl.1) (rdec_len D (digB_iff.1 HBD.out.symm).1 60 (digB_iff.1 HBD.out.symm).2.2.1)
                have hl2 := Nat.le_trans (dig_length_mono (B := 10000) (by omega) hdl.2) (rdec_len E (digB_iff.1 HBE.out.symm).1 60 (digB_iff.1 HBE.out.symm).2.2.1)
                obtain ⟨q, hq⟩ : ∃ q, q = Rat.divInt (sgn true (rdec D)) (rdec E : Int) := ⟨_, rfl⟩
                rw [← hq] at hnb hl1 hl2 ⊢
                have HNB := Lib.hid hnb
                clear hnb hq hdl
                intro v1 w1 hq1 hb1
                obtain ⟨ng, a1, n1, c1, a2, n2, c2, rfl, _, _⟩ := hq1.parts
                dsimp only
                go_wp2_with fail
                refine text_any _ q _ hq1 (by omega) (by omega) _ ?_
                intro w2 hb2
                have HB := Lib.hid (hb1.trans (hb2.mono hb1.size))
                clear hb1 hb2 hq1
                dsimp only
                obtain ⟨T, hT⟩ : ∃ T, T = textQ q := ⟨_, rfl⟩
                rw [← hT] at HNB ⊢
                clear hT
                by_cases hTs : T = s.data.toList
                · have e9 : (T == s.toList) = true := by rw [Lib.toList_data, hTs]; exact beq_self_eq_true _
                  rw [HNB.out, decide_eq_true hTs] at HR
                  clear hTs
                  go_wp2
                  first | go_ret | skip
                  exact HR.out _ HB.out
                · have e9 : (T == s.toList) = false := by rw [Lib.toList_data, beq_eq_false_iff_ne]; exact hTs
                  rw [HNB.out, decide_eq_false hTs] at HR
                  clear hTs
                  go_wp2
                  first | go_ret | skip
                  exact HR.out _ HB.out
        · have hr0 := HEND.out hkt
          have HR0 := Lib.hid hr0
          clear hr0
          go_wp2_with fail
          refine digB_any _ _ (by rw [ext_size _ _ _ (by omega)]; omega) _ ?_
          have HDB := Lib.hid (congrArg digB HX.out)
          obtain ⟨bD, hbD⟩ : ∃ b, b = digB (t.extract 0 k).data.toList := ⟨_, rfl⟩
          rw [← hbD]
          have HBD := Lib.hid (hbD.trans HDB.out)
          clear hbD
          cases bD
          · have hnb : numB s.data.toList = false := numB_parts HP.out fun q hq => by have := hq.1; rw [← HBD.out] at this; cases this
            rw [hnb] at HR
            clear hnb
            dsimp only
            go_wp2
            first | go_ret | skip
            exact HR.out _ (Below.refl _ _)
          · dsimp only
            go_wp2_with fail
            refine of_any s true D r 1 _ HP.out (digB_iff.1 HBD.out.symm).1 (digB_iff.1 HBD.out.symm).2.1 (.inl ⟨HR0.out, rfl⟩) (size_parts1 HP.out HR0.out HBD.out.symm) _ ?_
            have hnb : numB s.data.toList = _ := numB_of HP.out HBD.out.symm (.inl ⟨HR0.out, rfl⟩)
            have hdl := divInt_le (sgn true (rdec D)) 1 (by omega)
            rw [sgn_abs] at hdl
            have hl1 := Nat.le_trans (dig_length_mono (B := 10000) (by omega) hdl.1) (rdec_len D (digB_iff.1 HBD.out.symm).1 60 (digB_iff.1 HBD.out.symm).2.2.1)
            have hl2 := Nat.le_trans (dig_length_mono (B := 10000) (by omega) hdl.2) (show _ ≤ 60 by rw [dig_small (by omega) (by omega)]; simp)
            obtain ⟨q, hq⟩ : ∃ q, q = Rat.divInt (sgn true (rdec D)) ((1 : Nat) : Int) := ⟨_, rfl⟩
            rw [← hq] at hnb hl1 hl2 ⊢
            have HNB := Lib.hid hnb
            clear hnb hq hdl
            intro v1 w1 hq1 hb1
            obtain ⟨ng, a1, n1, c1, a2, n2, c2, rfl, _, _⟩ := hq1.parts
            dsimp only
            go_wp2_with fail
            refine text_any _ q _ hq1 (by omega) (by omega) _ ?_
            intro w2 hb2
            have HB := Lib.hid (hb1.trans (hb2.mono hb1.size))
            clear hb1 hb2 hq1
            dsimp only
            obtain ⟨T, hT⟩ : ∃ T, T = textQ q := ⟨_, rfl⟩
            rw [← hT] at HNB ⊢
            clear hT
            by_cases hTs : T = s.data.toList
            · have e9 : (T == s.toList) = true := by rw [Lib.toList_data, hTs]; exact beq_self_eq_true _
              rw [HNB.out, decide_eq_true hTs] at HR
              clear hTs
              go_wp2
              first | go_ret | skip
              exact HR.out _ HB.out
            · have e9 : (T == s.toList) = false := by rw [Lib.toList_data, beq_eq_false_iff_ne]; exact hTs
              rw [HNB.out, decide_eq_false hTs] at HR
              clear hTs
              go_wp2
              first | go_ret | skip
              exact HR.out _ HB.out
end Go.Proofs.YtdkjcdfkoahfkaaGreatDoor

namespace Go.Proofs.YtdkjcdfkoahfkaaGreatDoor
open Go Go.RowKit

theorem numIs_det {neg : Bool} {D r : List UInt8} {q q' : Rat} (h : NumIs neg D r q) (h' : NumIs neg D r q') : q = q' := by
  rcases h.2 with ⟨h1, _, h3⟩ | ⟨E, h1, _, _, _, h5, h6⟩
  · rcases h'.2 with ⟨_, _, h3'⟩ | ⟨E', h1', _⟩
    · rw [h3, h3']
    · rw [h1] at h1'; cases h1'
  · rcases h'.2 with ⟨h1', _⟩ | ⟨E', h1', _, _, _, h5', h6'⟩
    · rw [h1] at h1'; cases h1'
    · rw [h1] at h1'
      obtain rfl := (List.cons.inj h1').2
      exact Rat.ext (h5.trans h5'.symm) (h6.trans h6'.symm)

theorem textQ_inj {q q' : Rat} (h : few q) (h' : few q') (e : textQ q = textQ q') : q = q' := by
  obtain ⟨neg, D, r, hp, hn⟩ := parts_text q h
  exact numIs_det hn ((num_iff hp q').2 ⟨e, h'⟩)

/-- the number that a text is -/
noncomputable def numO (L : List UInt8) : Option Rat := @dite _ (∃ q, L = textQ q ∧ few q) (Classical.propDecidable _) (fun h => some h.choose) (fun _ => none)

theorem numO_some {L : List UInt8} {q : Rat} : numO L = some q ↔ L = textQ q ∧ few q := by
  unfold numO
  split
  · rename_i h
    constructor
    · intro e
      obtain rfl := Option.some.inj e
      exact h.choose_spec
    · rintro ⟨h1, h2⟩
      have := h.choose_spec
      exact congrArg some (textQ_inj this.2 h2 (this.1.symm.trans h1))
  · rename_i h
    constructor
    · intro e; cases e
    · rintro ⟨h1, h2⟩; exact absurd ⟨q, h1, h2⟩ h

theorem numB_numO (L : List UInt8) : numB L = (numO L).isSome := by
  cases h : numO L with
  | some q => exact numB_true.2 ⟨q, numO_some.1 h⟩
  | none =>
    refine numB_false fun q h1 h2 => ?_
    rw [numO_some.2 ⟨h1, h2⟩] at h; cases h

theorem numO_few {L : List UInt8} {q : Rat} (h : numO L = some q) : few q := (numO_some.1 h).2
theorem numO_text {L : List UInt8} {q : Rat} (h : numO L = some q) : L = textQ q := (numO_some.1 h).1

theorem decs_lt (n k : Nat) (h : (decs n).length ≤ k) (hk : 1 ≤ k) : n < 10 ^ k := by
  by_cases h0 : n = 0
  · subst h0; exact Nat.pow_pos (by omega)
  · unfold decs at h
    rw [if_neg h0, List.length_map, List.length_reverse] at h
    exact Nat.lt_of_lt_of_le (lt_pow_dig (by omega) n) (Nat.pow_le_pow_right (by omega) h)

theorem few_lt {q : Rat} (h : few q) : q.num.natAbs < 10 ^ 60 ∧ q.den < 10 ^ 60 := ⟨decs_lt _ _ h.1 (by omega), decs_lt _ _ h.2 (by omega)⟩

/-- a number with few digits has few digits to whatever base -/
theorem few_len {q : Rat} (h : few q) {B : Nat} (hB : 10 ≤ B) : (dig B q.num.natAbs).length ≤ 60 ∧ (dig B q.den).length ≤ 60 := by
  obtain ⟨h1, h2⟩ := few_lt h
  exact ⟨dig_length_ten hB h1, dig_length_ten hB h2⟩

theorem numO_size {s : ByteArray} {q : Rat} (h : numO s.data.toList = some q) : s.size ≤ 122 := by
  refine Nat.le_of_not_lt fun h9 => ?_
  have : numB s.data.toList = false := numB_len (by rw [size_list]; omega)
  rw [numB_numO, h] at this; cases this

/-- the model's fraction of a text that is a number -/
theorem ofq_any (s : ByteArray) (q : Rat) (w : World) (h : numO s.data.toList = some q) (R : Ending → World → Prop)
    (hR : ∀ v w', IsQ w' v q → Below w.heap.size w w' → R (.returned v) w') :
    Calls Tryz.prog 92 #[.string s] w R := by
  have hsz := numO_size h
  obtain ⟨h1, h2⟩ := numO_some.1 h
  obtain ⟨neg, D, r, hp, hn⟩ := parts_text q h2
  rw [← h1] at hp
  obtain ⟨hD, hn⟩ := hn
  obtain ⟨hD1, hD2, _, _⟩ := digB_iff.1 hD
  rcases hn with ⟨hr, _, e⟩ | ⟨E, hr, hE, hE2, _, e1, e2⟩
  · refine of_any s neg D r 1 w hp hD1 hD2 (.inl ⟨hr, rfl⟩) (by omega) R fun v w' hq hb => hR v w' ?_ hb
    have e9 : q = Rat.divInt (sgn neg (rdec D)) ((1 : Nat) : Int) := by
      rw [e, Rat.divInt_ofNat, Rat.mkRat_one]
    rw [e9]; exact hq
  · refine of_any s neg D r (rdec E) w hp hD1 hD2 (.inr ⟨E, hr, (digB_iff.1 hE).1, rfl, by omega⟩) (by omega) R fun v w' hq hb => hR v w' ?_ hb
    have e9 : q = Rat.divInt (sgn neg (rdec D)) ((rdec E : Nat) : Int) := by
      rw [← e1, ← e2, Rat.num_divInt_den]
    rw [e9]; exact hq

/-- the model's test of a text -/
theorem isq_any (s : ByteArray) (w : World) (hs : s.size ≤ 1100000) (R : Ending → World → Prop)
    (hR : ∀ w', Below w.heap.size w w' → R (.returned (.bool (numO s.data.toList).isSome)) w') :
    Calls Tryz.prog 122 #[.string s] w R :=
  is_any s w hs R fun w' hb => by rw [numB_numO]; exact hR w' hb

/-- the program's reading of a text -/
theorem readq_any (s : ByteArray) (w : World) (hE : Env w) (R : Ending → World → Prop)
    (hR : ∀ v q w', numO s.data.toList = some q → IsR w' v q → Below w.heap.size w w' → R (.returned (.tuple #[v, .nilIface])) w')
    (hR2 : ∀ e w', numO s.data.toList = none → ErrV e → Below w.heap.size w w' → R (.returned (.tuple #[zeroR, e])) w') :
    Calls Tryz.prog 72 #[.string s] w R :=
  readr_any s w hE R (fun v q w' h1 h2 hv hb => hR v q w' (numO_some.2 ⟨h1, h2⟩) hv hb)
    (fun e w' h he hb => hR2 e w' (by rw [numB_numO] at h; cases hn : numO s.data.toList with
      | none => rfl
      | some q => rw [hn] at h; cases h) he hb)
end Go.Proofs.YtdkjcdfkoahfkaaGreatDoor

namespace Go.Proofs.YtdkjcdfkoahfkaaGreatDoor
open Go Go.RowKit

/-- the zero value of the program's type of integers -/
def zeroI : Value := .agg #[.bool false, .slice none 0 0]

theorem below_set2 {B : Nat} {a w : World} (h : Below B a w) {b : Nat} (hb : B ≤ b) (y0 y1 : Value) : Below B a ((w.setCell ⟨b, 0, none⟩ y0).setCell ⟨b, 1, none⟩ y1) :=
  (h.setCell hb _).setCell hb _
theorem IsN.set2 {w : World} {v : Value} {n : Nat} (h : IsN w v n) {b : Nat} (hb : NoInt w b) (y0 y1 : Value) (h0 : notInt y0 = true) : IsN ((w.setCell ⟨b, 0, none⟩ y0).setCell ⟨b, 1, none⟩ y1) v n :=
  (Sl.set h hb 0 y0).set (hb.set 0 _ h0) 1 y1

end Go.Proofs.YtdkjcdfkoahfkaaGreatDoor

namespace Go.Proofs.YtdkjcdfkoahfkaaGreatDoor
open Go Go.RowKit

theorem sgn_of (z : Int) : z = sgn (decide (z < 0)) z.natAbs := by
  unfold sgn
  by_cases h : z < 0
  · simp [h]; omega
  · simp [h]; omega

theorem sgn_mul (z : Int) (b : Nat) : sgn (decide (z < 0)) (z.natAbs * b) = z * (b : Int) := by
  have h := sgn_of z
  unfold sgn at *
  by_cases hz : z < 0
  · simp [hz] at h ⊢
    rw [← Int.neg_mul, ← h]
  · simp [hz] at h ⊢
    rw [← h]

theorem IsI.parts {w : World} {v : Value} {z : Int} (h : IsI w v z) : ∃ ng a n c, ng = decide (z < 0) ∧ v = .agg #[.bool ng, .slice a n c] ∧ IsN w (.slice a n c) z.natAbs := by
  obtain ⟨s, rfl, hs⟩ := h
  obtain ⟨a, n, c, rfl, hs'⟩ := hs.op
  exact ⟨_, a, n, c, rfl, rfl, hs'⟩

theorem IsI.mk {w : World} {s : Value} {z : Int} {ng : Bool} (hng : ng = decide (z < 0)) (hs : IsN w s z.natAbs) : IsI w (.agg #[.bool ng, s]) z := ⟨s, by rw [hng], hs⟩

theorem IsR.parts {w : World} {v : Value} {q : Rat} (h : IsR w v q) : ∃ ng a1 n1 c1 a2 n2 c2, ng = decide (q.num < 0) ∧ v = .agg #[.bool ng, .slice a1 n1 c1, .slice a2 n2 c2] ∧ IsN w (.slice a1 n1 c1) q.num.natAbs ∧ IsN w (.slice a2 n2 c2) q.den := by
  obtain ⟨s1, s2, rfl, h1, h2⟩ := h
  obtain ⟨a1, n1, c1, rfl, h1'⟩ := h1.op
  obtain ⟨a2, n2, c2, rfl, h2'⟩ := h2.op
  exact ⟨_, a1, n1, c1, a2, n2, c2, rfl, rfl, h1', h2'⟩

set_option maxRecDepth 100000 in
set_option maxHeartbeats 4000000 in
theorem scaled_any (va vb : Value) (z : Int) (b : Nat) (w : World) (ha : IsI w va z) (hb : IsN w vb b) (hla : (dig W64 z.natAbs).length ≤ 10000000) (hlb : (dig W64 b).length ≤ 10000000) (R : Ending → World → Prop)
    (hR : ∀ v' w', IsI w' v' (z * (b : Int)) → Below w.heap.size w w' → R (.returned v') w') :
    Calls Tryz.prog 116 #[va, vb] w R := by
  have HR := Lib.hid hR; clear hR
  obtain ⟨ng, a1, n1, c1, hng, rfl, hn1⟩ := ha.parts
  obtain ⟨a2, n2, c2, rfl, hn2⟩ := hb.op
  have HNG := Lib.hid hng
  obtain ⟨L, hL⟩ : ∃ L, L = (w.alloc (.cells #[.bool ng, .slice a1 n1 c1] 83)).alloc (.cells #[.bool false, .slice none 0 0] 83) := ⟨_, rfl⟩
  have hb1 : Below (w.heap.size + 1) (w.alloc (.cells #[.bool ng, .slice a1 n1 c1] 83)) L := by rw [hL]; exact (Below.refl _ _).alloc (by simp) _
  have B0 : Box2 L w.heap.size (.bool ng) (.slice a1 n1 c1) 83 := (Box2.made w _ _ _).later hb1 (by omega)
  have B1 : Box2 L (w.heap.size + 1) (.bool false) (.slice none 0 0) 83 := by
    have := Box2.made (w.alloc (.cells #[.bool ng, .slice a1 n1 c1] 83)) (.bool false) (.slice none 0 0) 83
    rw [World.size_alloc, ← hL] at this; exact this
  have HEXT : Hid (Below w.heap.size w L) := Lib.hid (by rw [hL]; exact ((Below.refl w.heap.size w).alloc (Nat.le_refl _) _).alloc (by simp) _)
  have hLs : L.heap.size = w.heap.size + 2 := by rw [hL]; simp
  have hk : w.heap.size + 1 < L.heap.size := by omega
  have HL := Lib.hid hL
  have Y1 := Lib.hid (hn1.later HEXT.out (Nat.le_refl _))
  have Y2 := Lib.hid (hn2.later HEXT.out (Nat.le_refl _))
  have HLN := Lib.hid (And.intro hla hlb)
  have HSOF : Hid (∀ w', Below (w.heap.size + 1) L w' → (Below (w.heap.size + 1) L w' ∧ w'.cell? ⟨w.heap.size, 0, none⟩ = some (.bool ng) ∧ w'.cell? ⟨w.heap.size, 1, none⟩ = some (.slice a1 n1 c1))) :=
    Lib.hid fun w' hb => ⟨hb, (B0.later hb (by omega)).cells.1, (B0.later hb (by omega)).cells.2.1⟩
  have HB1 := Lib.hid B1
  have HK := Lib.hid hk
  clear hng ha hb hn1 hn2 hla hlb hb1 B0 B1 hL hLs hk
  go_enter Tryz.func116, Tryz.ntmps116
  go_wp2_with fail
  rw [← HL.out]
  go_region_held3 (fun w' => Below (w.heap.size + 1) L w' ∧ w'.cell? ⟨w.heap.size, 0, none⟩ = some (.bool ng) ∧ w'.cell? ⟨w.heap.size, 1, none⟩ = some (.slice a1 n1 c1))
    (first
      | exact HSOF.out _ HQ2.out
      | exact HSOF.out _ HQ1.out
      | exact HSOF.out _ (Below.refl _ _).drew
      | exact HSOF.out _ ((HQ2.out.setCell (by simp) _).setCell (by simp) _))
    (first
      | (go_at_call 80; refine integerOf_z ng v1 (z.natAbs * b) _ HV1.out _ ?_; intro v2 w2 hv2 hb2; rw [HNG.out, sgn_mul] at hv2; obtain ⟨m2, a5, m5, c5, hm2, rfl, hn5⟩ := hv2.parts; have HV5 := Lib.hid hn5; have HM2 := Lib.hid hm2; have HT2 := Lib.hid (HT1.out.trans (hb2.mono HT1.out.size)); have HQ2 := Lib.hid (HT2.out.mono (Nat.le_of_lt HK.out)); have d2 := HB1.out.later HT2.out HK.out; obtain ⟨hR0, hR1, hR2, hR3⟩ := d2.cells; have HD2 := Lib.hid d2; clear hv2 hb2 d2 hn5 hm2; dsimp only)
      | (go_at_call 119; refine ntimes_any _ _ z.natAbs b _ (Y1.out.later (Below.refl _ _).drew (Nat.le_refl _)) (Y2.out.later (Below.refl _ _).drew (Nat.le_refl _)) (Nat.le_trans HLN.out.1 (by omega)) (Nat.le_trans HLN.out.2 (by omega)) _ ?_; intro v1 w1 hv1 hb1; have HV1 := Lib.hid hv1; have HT1 : Hid (Below L.heap.size L w1) := Lib.hid (below_unDrew hb1); have HQ1 := Lib.hid (HT1.out.mono (Nat.le_of_lt HK.out)); clear hv1 hb1; dsimp only))
  all_goals
    go_wp2
    refine bodyPost_ret_at (by simp [results, Tryz.results116, go_sem, hR0, hR1, hR2, hR3] <;> rfl) rfl ?_
    refine HR.out _ _ (IsI.mk HM2.out (HV5.out.set2 (HD2.out.noInt rfl rfl) _ _ rfl)) ((((HEXT.out.trans (HT2.out.mono HEXT.out.size)).setCell (by simp) _).setCell (by simp) _))
end Go.Proofs.YtdkjcdfkoahfkaaGreatDoor

namespace Go.Proofs.YtdkjcdfkoahfkaaGreatDoor
open Go Go.RowKit

set_option maxRecDepth 100000 in
set_option maxHeartbeats 4000000 in
theorem rtext_any (v : Value) (q : Rat) (w : World) (h : IsR w v q) (htab : Lib.TabIs Tryz.prog w "internal/strconv.uint64pow10" .u64 Lib.pow10Tab) (R : Ending → World → Prop)
    (hR : ∀ w', few q → Below w.heap.size w w' → R (.returned (.tuple #[.string ⟨(textQ q).toArray⟩, .bool true])) w')
    (hR2 : ∀ w', ¬ few q → Below w.heap.size w w' → R (.returned (.tuple #[.string ⟨#[]⟩, .bool false])) w') :
    Calls Tryz.prog 71 #[v] w R := by
  have HR := Lib.hid hR; clear hR
  have HR2 := Lib.hid hR2; clear hR2
  obtain ⟨na, a1, n1, c1, a2, n2, c2, hna, rfl, hn1, hn2⟩ := h.parts
  obtain ⟨L, hL⟩ : ∃ L, L = w.alloc (.cells #[.bool na, .slice a1 n1 c1, .slice a2 n2 c2] 85) := ⟨_, rfl⟩
  have B0 : Hid (Box3 L w.heap.size (.bool na) (.slice a1 n1 c1) (.slice a2 n2 c2) 85) := Lib.hid (by rw [hL]; exact Box3.made w _ _ _ _)
  have HEXT : Hid (Below w.heap.size w L) := Lib.hid (by rw [hL]; exact (Below.refl w.heap.size w).alloc (Nat.le_refl _) _)
  have hLs : L.heap.size = w.heap.size + 1 := by rw [hL]; simp
  have HLS := Lib.hid hLs
  have HL := Lib.hid hL
  have HN := Lib.hid (hn1.later HEXT.out (Nat.le_refl _))
  have HDD := Lib.hid (hn2.later HEXT.out (Nat.le_refl _))
  have HTAB := Lib.hid (tab_later htab HEXT.out (Nat.le_refl _))
  have HNA := Lib.hid hna
  obtain ⟨⟨hA, hB, hC⟩, _, _, _⟩ := B0.out.cells
  rw [hL] at hA hB hC
  clear h hn1 hn2 htab hna hL hLs
  go_enter Tryz.func71, Tryz.ntmps71
  go_wp2_with fail
  rw [← HL.out]
  refine digits_any _ q.num.natAbs L HN.out HTAB.out _ ?_ ?_
  · intro w1 hl1 hb1
    have HL1 := Lib.hid hl1
    have HB1 := Lib.hid hb1
    obtain ⟨s1, hs1⟩ : ∃ s : ByteArray, s = ⟨(decs q.num.natAbs).toArray⟩ := ⟨_, rfl⟩
    rw [← hs1]
    have HS1D : Hid (s1.data.toList = decs q.num.natAbs) := Lib.hid (by rw [hs1])
    have HS1 : Hid (s1.size ≤ 60) := Lib.hid (by rw [← size_list, HS1D.out]; exact hl1)
    have k1 := B0.out.later hb1 (by have := HLS.out; omega)
    clear hA hB hC hl1 hb1 hs1
    obtain ⟨⟨hA, hB, hC⟩, _, _, _⟩ := k1.cells
    clear k1
    dsimp only
    go_wp2_with fail
    refine digits_any _ q.den _ (HDD.out.later HB1.out (Nat.le_refl _)) (tab_later HTAB.out HB1.out (Nat.le_refl _)) _ ?_ ?_
    · intro w2 hl2 hb2
      have HFEW : Hid (few q) := Lib.hid ⟨HL1.out, hl2⟩
      have HB2 := Lib.hid (HB1.out.trans (hb2.mono HB1.out.size))
      obtain ⟨s2, hs2⟩ : ∃ s : ByteArray, s = ⟨(decs q.den).toArray⟩ := ⟨_, rfl⟩
      rw [← hs2]
      have HS2D : Hid (s2.data.toList = decs q.den) := Lib.hid (by rw [hs2])
      have HS2 : Hid (s2.size ≤ 60) := Lib.hid (by rw [← size_list, HS2D.out]; exact hl2)
      clear hA hB hC hl2 hb2 hs2
      obtain ⟨b, hb⟩ : ∃ b, b = w2.heap.size := ⟨_, rfl⟩
      obtain ⟨W3, hW3⟩ : ∃ W3, W3 = w2.alloc (.cells #[.pointer none, .slice none 0 0] 153) := ⟨_, rfl⟩
      have HW3 := Lib.hid hW3
      have HBD := Lib.hid hb
      have HIB3 : Hid (IsB W3 b []) := Lib.hid (by rw [hW3, hb]; exact IsB.fresh w2)
      have HB23 : Hid (Below b w2 W3) := Lib.hid (by rw [hW3, hb]; exact (Below.refl _ _).alloc (Nat.le_refl _) _)
      have HBW : Hid (Below w.heap.size w w2) := Lib.hid (HEXT.out.trans (HB2.out.mono HEXT.out.size))
      have HLT : Hid (w.heap.size < b ∧ L.heap.size ≤ b ∧ w2.heap.size = b) := Lib.hid (by have := HLS.out; have := HB2.out.size; omega)
      have HBOX : Hid (Box3 w2 w.heap.size (.bool na) (.slice a1 n1 c1) (.slice a2 n2 c2) 85) := Lib.hid (B0.out.later HB2.out (by have := HLS.out; omega))
      have HD : Hid (IsN w2 (.slice a2 n2 c2) q.den) := Lib.hid (HDD.out.later HB2.out (Nat.le_refl _))
      have k3 := HBOX.out.later HB23.out (by have := HLT.out; omega)
      obtain ⟨⟨hA, hB, hC⟩, _, _, _⟩ := k3.cells
      rw [hW3] at hA hB hC
      clear k3 hW3
      cases na with
      | true =>
        have HNEG : Hid (q.num < 0) := Lib.hid (of_decide_eq_true HNA.out.symm)
        dsimp only
        go_wp2_with fail
        rw [← HW3.out, ← hb]
        refine bwb_any b [] 45 45 rfl _ HIB3.out (by simp) _ ?_
        intro w4 hib4 hb4
        have HBS := Lib.hid (HB23.out.trans hb4)
        have HIBS : Hid (IsB w4 b [45]) := Lib.hid hib4
        clear hA hB hC hb hib4 hb4
        dsimp only
        go_wp2_with fail
        refine bws_any b [45] s1 _ HIBS.out (by simp; have := HS1.out; omega) _ ?_
        intro w5 hib5 hb5
        have HB5 := Lib.hid (HBS.out.trans hb5)
        have HIB5 := Lib.hid hib5
        have k5 := HBOX.out.later HB5.out (by have := HLT.out; omega)
        obtain ⟨⟨hA, hB, hC⟩, _, _, _⟩ := k5.cells
        clear hib5 hb5
        dsimp only
        go_wp2_with fail
        refine none_any _ q.den _ (HD.out.later HB5.out (by have := HLT.out; omega)) _ ?_
        by_cases hd1 : q.den = 1
        · have hdd : decide (q.den = 1) = true := decide_eq_true hd1
          have HTX : Hid (textQ q = [45] ++ s1.data.toList) := Lib.hid (by unfold textQ; rw [if_pos HNEG.out, HS1D.out, if_pos hd1]; simp)
          rw [hdd]
          clear hdd hd1 hA hB hC
          dsimp only
          go_wp2_with fail
          refine bstr_any b _ _ HIB5.out _ ?_
          intro w6 hb6
          have HB6 := Lib.hid (HB5.out.trans hb6)
          rw [← HTX.out]
          obtain ⟨T, hT⟩ : ∃ T, T = textQ q := ⟨_, rfl⟩
          rw [← hT] at HR ⊢
          clear hT hb6
          dsimp only
          go_wp2
          first | go_ret | skip
          exact HR.out _ HFEW.out (HBW.out.trans (HB6.out.mono (by have := HLT.out; omega)))
        · have hdd : decide (q.den = 1) = false := decide_eq_false hd1
          have HTX : Hid (textQ q = (([45] ++ s1.data.toList) ++ [47]) ++ s2.data.toList) := Lib.hid (by unfold textQ; rw [if_pos HNEG.out, HS1D.out, HS2D.out, if_neg hd1]; simp)
          rw [hdd]
          clear hdd hd1 hA hB hC
          dsimp only
          go_wp2_with fail
          refine bwb_any b _ 47 47 rfl _ HIB5.out (by have := HS1.out; simp; have := size_list s1; simp only [Array.length_toList] at this; omega) _ ?_
          intro w6 hib6 hb6
          have HB6 := Lib.hid (HB5.out.trans hb6)
          have HIB6 := Lib.hid hib6
          clear hib6 hb6
          dsimp only
          go_wp2_with fail
          refine bws_any b _ s2 _ HIB6.out (by have := HS1.out; have := HS2.out; simp; have := size_list s1; simp only [Array.length_toList] at this; omega) _ ?_
          intro w7 hib7 hb7
          have HB7 := Lib.hid (HB6.out.trans hb7)
          have HIB7 := Lib.hid hib7
          clear hib7 hb7
          dsimp only
          go_wp2_with fail
          refine bstr_any b _ _ HIB7.out _ ?_
          intro w8 hb8
          have HB8 := Lib.hid (HB7.out.trans hb8)
          rw [← HTX.out]
          obtain ⟨T, hT⟩ : ∃ T, T = textQ q := ⟨_, rfl⟩
          rw [← hT] at HR ⊢
          clear hT hb8
          dsimp only
          go_wp2
          first | go_ret | skip
          exact HR.out _ HFEW.out (HBW.out.trans (HB8.out.mono (by have := HLT.out; omega)))
      | false =>
        have HNEG : Hid (¬ q.num < 0) := Lib.hid (of_decide_eq_false HNA.out.symm)
        have HBS : Hid (Below b w2 W3) := Lib.hid HB23.out
        have HIBS : Hid (IsB W3 b []) := Lib.hid HIB3.out
        dsimp only
        go_wp2_with fail
        rw [← HW3.out, ← hb]
        clear hA hB hC hb
        refine bws_any b [] s1 _ HIBS.out (by simp; have := HS1.out; omega) _ ?_
        intro w5 hib5 hb5
        have HB5 := Lib.hid (HBS.out.trans hb5)
        have HIB5 := Lib.hid hib5
        have k5 := HBOX.out.later HB5.out (by have := HLT.out; omega)
        obtain ⟨⟨hA, hB, hC⟩, _, _, _⟩ := k5.cells
        clear hib5 hb5
        dsimp only
        go_wp2_with fail
        refine none_any _ q.den _ (HD.out.later HB5.out (by have := HLT.out; omega)) _ ?_
        by_cases hd1 : q.den = 1
        · have hdd : decide (q.den = 1) = true := decide_eq_true hd1
          have HTX : Hid (textQ q = [] ++ s1.data.toList) := Lib.hid (by unfold textQ; rw [if_neg (show ¬ q.num < 0 by have := HNEG.out; omega), HS1D.out, if_pos hd1]; simp)
          rw [hdd]
          clear hdd hd1 hA hB hC
          dsimp only
          go_wp2_with fail
          refine bstr_any b _ _ HIB5.out _ ?_
          intro w6 hb6
          have HB6 := Lib.hid (HB5.out.trans hb6)
          rw [← HTX.out]
          obtain ⟨T, hT⟩ : ∃ T, T = textQ q := ⟨_, rfl⟩
          rw [← hT] at HR ⊢
          clear hT hb6
          dsimp only
          go_wp2
          first | go_ret | skip
          exact HR.out _ HFEW.out (HBW.out.trans (HB6.out.mono (by have := HLT.out; omega)))
        · have hdd : decide (q.den = 1) = false := decide_eq_false hd1
          have HTX : Hid (textQ q = (([] ++ s1.data.toList) ++ [47]) ++ s2.data.toList) := Lib.hid (by unfold textQ; rw [if_neg (show ¬ q.num < 0 by have := HNEG.out; omega), HS1D.out, HS2D.out, if_neg hd1]; simp)
          rw [hdd]
          clear hdd hd1 hA hB hC
          dsimp only
          go_wp2_with fail
          refine bwb_any b _ 47 47 rfl _ HIB5.out (by have := HS1.out; simp; have := size_list s1; simp only [Array.length_toList] at this; omega) _ ?_
          intro w6 hib6 hb6
          have HB6 := Lib.hid (HB5.out.trans hb6)
          have HIB6 := Lib.hid hib6
          clear hib6 hb6
          dsimp only
          go_wp2_with fail
          refine bws_any b _ s2 _ HIB6.out (by have := HS1.out; have := HS2.out; simp; have := size_list s1; simp only [Array.length_toList] at this; omega) _ ?_
          intro w7 hib7 hb7
          have HB7 := Lib.hid (HB6.out.trans hb7)
          have HIB7 := Lib.hid hib7
          clear hib7 hb7
          dsimp only
          go_wp2_with fail
          refine bstr_any b _ _ HIB7.out _ ?_
          intro w8 hb8
          have HB8 := Lib.hid (HB7.out.trans hb8)
          rw [← HTX.out]
          obtain ⟨T, hT⟩ : ∃ T, T = textQ q := ⟨_, rfl⟩
          rw [← hT] at HR ⊢
          clear hT hb8
          dsimp only
          go_wp2
          first | go_ret | skip
          exact HR.out _ HFEW.out (HBW.out.trans (HB8.out.mono (by have := HLT.out; omega)))
    · intro s w2 hl2 hb2
      have HF : Hid (¬ few q) := Lib.hid fun h => hl2 h.2
      have HB2 := Lib.hid (HB1.out.trans (hb2.mono HB1.out.size))
      clear hA hB hC hl2 hb2
      dsimp only
      go_wp2
      first | go_ret | skip
      exact HR2.out _ HF.out (HEXT.out.trans (HB2.out.mono HEXT.out.size))
  · intro s w1 hl1 hb1
    have HF : Hid (¬ few q) := Lib.hid fun h => hl1 h.1
    have HB1 := Lib.hid hb1
    clear hA hB hC hl1 hb1
    dsimp only
    go_wp2
    first | go_ret | skip
    exact HR2.out _ HF.out (HEXT.out.trans (HB1.out.mono HEXT.out.size))
end Go.Proofs.YtdkjcdfkoahfkaaGreatDoor

namespace Go.Proofs.YtdkjcdfkoahfkaaGreatDoor
open Go Go.RowKit

instance (q : Rat) : Decidable (few q) := by unfold few; infer_instance
/-- the text that is returned -/
def outS (o : Option Rat) : ByteArray := match o with
  | some q => if few q then ⟨(textQ q).toArray⟩ else ⟨#[]⟩
  | none => ⟨#[]⟩
/-- whether there is one -/
def outB (o : Option Rat) : Bool := match o with
  | some q => decide (few q)
  | none => false

theorem give_o (v : Value) (q : Rat) (w : World) (hq : IsQ w v q) (hl1 : (dig 10000 q.num.natAbs).length ≤ 1000000000) (hl2 : (dig 10000 q.den).length ≤ 1000000000) (R : Ending → World → Prop)
    (hR : ∀ w', Below w.heap.size w w' → R (.returned (.tuple #[.string (outS (some q)), .bool (outB (some q))])) w') :
    Calls Tryz.prog 123 #[v] w R :=
  give_any v q w hq hl1 hl2 R (fun w' hf hb => by have := hR w' hb; simp only [outS, outB, if_pos hf, decide_eq_true hf] at this; exact this)
    (fun w' hf hb => by have := hR w' hb; simp only [outS, outB, if_neg hf, decide_eq_false hf] at this; exact this)

theorem rtext_o (v : Value) (q : Rat) (w : World) (h : IsR w v q) (htab : Lib.TabIs Tryz.prog w "internal/strconv.uint64pow10" .u64 Lib.pow10Tab) (R : Ending → World → Prop)
    (hR : ∀ w', Below w.heap.size w w' → R (.returned (.tuple #[.string (outS (some q)), .bool (outB (some q))])) w') :
    Calls Tryz.prog 71 #[v] w R :=
  rtext_any v q w h htab R (fun w' hf hb => by have := hR w' hb; simp only [outS, outB, if_pos hf, decide_eq_true hf] at this; exact this)
    (fun w' hf hb => by have := hR w' hb; simp only [outS, outB, if_neg hf, decide_eq_false hf] at this; exact this)
end Go.Proofs.YtdkjcdfkoahfkaaGreatDoor

namespace Go.Proofs.YtdkjcdfkoahfkaaGreatDoor

theorem rmul_num (a b : Rat) : (a * b).num = a.num.tdiv (Nat.gcd a.num.natAbs b.den) * b.num.tdiv (Nat.gcd b.num.natAbs a.den) := by
  show (Rat.mul a b).num = _
  unfold Rat.mul
  simp only [Int.divExact_eq_tdiv]

theorem rmul_den (a b : Rat) : (a * b).den = a.den / Nat.gcd b.num.natAbs a.den * (b.den / Nat.gcd a.num.natAbs b.den) := by
  show (Rat.mul a b).den = _
  unfold Rat.mul
  simp only [Nat.divExact_eq_div]

/-- what the program's sum has above, before it is reduced -/
def addTop (a b : Rat) : Int := a.num * ((b.den / Nat.gcd a.den b.den : Nat) : Int) + b.num * ((a.den / Nat.gcd a.den b.den : Nat) : Int)

theorem radd_parts (a b : Rat) : (a + b).num = (addTop a b).tdiv (Nat.gcd (addTop a b).natAbs (Nat.gcd a.den b.den)) ∧
    (a + b).den = a.den / Nat.gcd a.den b.den * (b.den / Nat.gcd (addTop a b).natAbs (Nat.gcd a.den b.den)) := by
  have hgb : Nat.gcd a.den b.den ∣ b.den := Nat.gcd_dvd_right _ _
  have h1 : Nat.gcd (addTop a b).natAbs (Nat.gcd a.den b.den) ∣ b.den := Nat.dvd_trans (Nat.gcd_dvd_right _ _) hgb
  constructor
  · show (Rat.add a b).num = _
    unfold Rat.add
    simp only []
    split
    · rename_i hg
      simp only [addTop, hg, Nat.div_one, Nat.gcd_one_right, Int.natCast_one, Int.tdiv_one]
    · unfold Rat.maybeNormalize
      split
      · rename_i hg h
        have h' : Nat.gcd (addTop a b).natAbs (Nat.gcd a.den b.den) = 1 := h
        rw [h']
        simp only [addTop, Int.natCast_one, Int.tdiv_one]
      · simp only [Int.divExact_eq_tdiv]
        rfl
  · show (Rat.add a b).den = _
    unfold Rat.add
    simp only []
    split
    · rename_i hg
      simp only [addTop, hg, Nat.div_one, Nat.gcd_one_right]
    · unfold Rat.maybeNormalize
      split
      · rename_i hg h
        have h' : Nat.gcd (addTop a b).natAbs (Nat.gcd a.den b.den) = 1 := h
        rw [h', Nat.div_one]
      · simp only [Nat.divExact_eq_div]
        exact Nat.mul_div_assoc _ h1

theorem sgn_tdiv (z : Int) (d : Nat) : (if z < 0 then -((z.natAbs / d : Nat) : Int) else ((z.natAbs / d : Nat) : Int)) = z.tdiv (d : Int) := by
  by_cases h : z < 0
  · obtain ⟨n, rfl⟩ : ∃ n : Nat, z = -(n : Int) := ⟨z.natAbs, by omega⟩
    rw [if_pos h, Int.neg_tdiv, Int.natAbs_neg, Int.natAbs_natCast]
    rfl
  · obtain ⟨n, rfl⟩ : ∃ n : Nat, z = (n : Int) := ⟨z.natAbs, by omega⟩
    rw [if_neg h, Int.natAbs_natCast]
    rfl

theorem floor_neg (n d : Nat) (hd : 0 < d) : (-(n : Int)) / (d : Int) = -((n / d + (if n % d = 0 then 0 else 1) : Nat) : Int) := by
  have hdm := Nat.div_add_mod n d
  have hlt := Nat.mod_lt n hd
  by_cases h : n % d = 0
  · rw [if_pos h, Nat.add_zero]
    refine ((Int.ediv_emod_unique (by omega)).2 ⟨?_, Int.le_refl 0, by omega⟩).1
    rw [h, Nat.add_zero] at hdm
    have e : (n : Int) = (d : Int) * ((n / d : Nat) : Int) := by rw [← Int.natCast_mul, hdm]
    rw [Int.mul_neg]
    omega
  · rw [if_neg h]
    refine ((Int.ediv_emod_unique (r := ((d - n % d : Nat) : Int)) (by omega)).2 ⟨?_, by omega, by omega⟩).1
    have e : (n : Int) = (d : Int) * ((n / d : Nat) : Int) + ((n % d : Nat) : Int) := by
      rw [← Int.natCast_mul, ← Int.natCast_add, hdm]
    rw [Int.natCast_add, Int.mul_neg, Int.mul_add]
    omega
end Go.Proofs.YtdkjcdfkoahfkaaGreatDoor

namespace Go.Proofs.YtdkjcdfkoahfkaaGreatDoor

/-- a fraction with fewer than N digits above and below -/
def Bd (N : Nat) (q : Rat) : Prop := q.num.natAbs < 10 ^ N ∧ q.den < 10 ^ N
theorem Bd.of {q : Rat} (h : few q) : Bd 60 q := few_lt h
theorem Bd.mono {N M : Nat} {q : Rat} (h : Bd N q) (hm : N ≤ M) : Bd M q :=
  ⟨Nat.lt_of_lt_of_le h.1 (Nat.pow_le_pow_right (by omega) hm), Nat.lt_of_lt_of_le h.2 (Nat.pow_le_pow_right (by omega) hm)⟩
theorem Bd.len {N : Nat} {q : Rat} (h : Bd N q) {B : Nat} (hB : 10 ≤ B) : (dig B q.num.natAbs).length ≤ N ∧ (dig B q.den).length ≤ N :=
  ⟨dig_length_le (by omega) _ _ (Nat.lt_of_lt_of_le h.1 (Nat.pow_le_pow_left hB N)), dig_length_le (by omega) _ _ (Nat.lt_of_lt_of_le h.2 (Nat.pow_le_pow_left hB N))⟩
theorem Bd.zero : Bd 1 0 := ⟨by decide, by decide⟩
theorem Bd.one : Bd 1 1 := ⟨by decide, by decide⟩

theorem tdiv_le (z : Int) (d : Nat) : (z.tdiv (d : Int)).natAbs ≤ z.natAbs := by
  rw [Int.natAbs_tdiv, Int.natAbs_natCast]; exact Nat.div_le_self _ _

theorem Bd.mul {N M : Nat} {a b : Rat} (ha : Bd N a) (hb : Bd M b) : Bd (N + M) (a * b) := by
  unfold Bd
  rw [rmul_num, rmul_den, Nat.pow_add, Int.natAbs_mul]
  exact ⟨Nat.mul_lt_mul'' (Nat.lt_of_le_of_lt (tdiv_le _ _) ha.1) (Nat.lt_of_le_of_lt (tdiv_le _ _) hb.1),
    Nat.mul_lt_mul'' (Nat.lt_of_le_of_lt (Nat.div_le_self _ _) ha.2) (Nat.lt_of_le_of_lt (Nat.div_le_self _ _) hb.2)⟩

theorem Bd.add {N M : Nat} {a b : Rat} (ha : Bd N a) (hb : Bd M b) : Bd (N + M + 1) (a + b) := by
  have hp := radd_parts a b
  unfold Bd
  rw [hp.1, hp.2, Nat.pow_succ, Nat.pow_add]
  have h1 : (a.num * ((b.den / Nat.gcd a.den b.den : Nat) : Int)).natAbs < 10 ^ N * 10 ^ M := by
    rw [Int.natAbs_mul, Int.natAbs_natCast]
    exact Nat.mul_lt_mul'' ha.1 (Nat.lt_of_le_of_lt (Nat.div_le_self _ _) hb.2)
  have h2 : (b.num * ((a.den / Nat.gcd a.den b.den : Nat) : Int)).natAbs < 10 ^ N * 10 ^ M := by
    rw [Int.natAbs_mul, Int.natAbs_natCast, Nat.mul_comm]
    exact Nat.mul_lt_mul'' (Nat.lt_of_le_of_lt (Nat.div_le_self _ _) ha.2) hb.1
  have h3 : a.den / Nat.gcd a.den b.den * (b.den / Nat.gcd (addTop a b).natAbs (Nat.gcd a.den b.den)) < 10 ^ N * 10 ^ M :=
    Nat.mul_lt_mul'' (Nat.lt_of_le_of_lt (Nat.div_le_self _ _) ha.2) (Nat.lt_of_le_of_lt (Nat.div_le_self _ _) hb.2)
  have h4 : (addTop a b).natAbs < 10 ^ N * 10 ^ M + 10 ^ N * 10 ^ M := by
    unfold addTop
    have := Int.natAbs_add_le (a.num * ((b.den / Nat.gcd a.den b.den : Nat) : Int)) (b.num * ((a.den / Nat.gcd a.den b.den : Nat) : Int))
    omega
  have h5 := tdiv_le (addTop a b) (Nat.gcd (addTop a b).natAbs (Nat.gcd a.den b.den))
  generalize 10 ^ N * 10 ^ M = z at *
  exact ⟨by omega, by omega⟩

theorem Bd.neg {N : Nat} {a : Rat} (h : Bd N a) : Bd N (-a) := by
  unfold Bd
  rw [Rat.neg_num, Rat.neg_den, Int.natAbs_neg]
  exact h
theorem Bd.int (n : Nat) (N : Nat) (h : n < 10 ^ N) (hN : 1 ≤ N) : Bd N ((n : Nat) : Rat) := by
  have h2 : 10 ^ 1 ≤ 10 ^ N := Nat.pow_le_pow_right (by omega) hN
  refine ⟨?_, ?_⟩
  · show ((n : Int)).natAbs < _
    rw [Int.natAbs_natCast]; exact h
  · show 1 < _
    omega
theorem sub_bd {N M : Nat} {a b : Rat} (ha : Bd N a) (hb : Bd M b) : Bd (N + M + 1) (a - b) := by
  rw [Rat.sub_eq_add_neg]; exact ha.add hb.neg
end Go.Proofs.YtdkjcdfkoahfkaaGreatDoor

namespace Go.Proofs.YtdkjcdfkoahfkaaGreatDoor
open Go Go.RowKit

theorem decs_le {n : Nat} (h : n < 10 ^ 60) : (decs n).length ≤ 60 := by
  unfold decs
  split
  · simp
  · rw [List.length_map, List.length_reverse]; exact dig_length_le (by omega) _ _ h
theorem few_bd {q : Rat} (h : Bd 60 q) : few q := ⟨decs_le h.1, decs_le h.2⟩

/-- the text of a number with few digits -/
def IsT (A : ByteArray) (p : Rat) : Prop := A = ⟨(textQ p).toArray⟩ ∧ few p
theorem IsT.num {A : ByteArray} {p : Rat} (h : IsT A p) : numO A.data.toList = some p := by
  obtain ⟨rfl, hf⟩ := h
  exact numO_some.2 ⟨by simp, hf⟩
theorem IsT.size {A : ByteArray} {p : Rat} (h : IsT A p) : A.size ≤ 122 := numO_size h.num
theorem IsT.eq {A B : ByteArray} {p q : Rat} (h : IsT A p) (k : IsT B q) (e : p = q) : A = B := by subst e; rw [h.1, k.1]
theorem IsT.ne {A B : ByteArray} {p q : Rat} (h : IsT A p) (k : IsT B q) (e : p ≠ q) : A ≠ B := by
  intro hab
  have h1 := h.num
  rw [hab, k.num] at h1
  exact e (by injection h1 with h1; exact h1.symm)
theorem out_t {q : Rat} (h : few q) : IsT (outS (some q)) q ∧ outB (some q) = true := by
  refine ⟨⟨?_, h⟩, ?_⟩
  · simp only [outS, if_pos h]
  · simp only [outB, decide_eq_true h]
theorem textQ_zero : textQ 0 = [48] := by
  have h1 : (0 : Rat).num = 0 := rfl
  have h2 : (0 : Rat).den = 1 := rfl
  unfold textQ
  rw [h1, h2]
  simp [decs]
theorem isT_zero : IsT ⟨#[48]⟩ 0 := ⟨by rw [textQ_zero], by
  refine few_bd ⟨?_, ?_⟩
  · show (0 : Nat) < _; exact Nat.pow_pos (by omega)
  · show (1 : Nat) < _; exact Nat.one_lt_pow (by omega) (by omega)⟩
theorem text_neq {A : ByteArray} {c : UInt8} (h : A ≠ ⟨#[c]⟩) : (A.toList == [c]) = false := by
  rw [beq_eq_false_iff_ne]
  intro e
  rw [Lib.toList_data] at e
  exact h (by cases A; simp at e ⊢; rw [← Array.toList_inj]; exact e)
theorem textQ_1 : textQ 1 = [49] := by
  have h1 : (1 : Rat).num = 1 := rfl
  have h2 : (1 : Rat).den = 1 := rfl
  unfold textQ
  rw [h1, h2]
  simp [decs, dig_small]
  rfl
theorem isT_one : IsT ⟨#[49]⟩ 1 := ⟨by rw [textQ_1], few_bd (Bd.one.mono (by omega))⟩
end Go.Proofs.YtdkjcdfkoahfkaaGreatDoor

namespace Go.Proofs.YtdkjcdfkoahfkaaGreatDoor
open Go Go.RowKit

/-- what two texts that are numbers make together -/
noncomputable def combO (f : Rat → Rat → Rat) (s t : List UInt8) : Option Rat := match numO s, numO t with
  | some a, some b => some (f a b)
  | _, _ => none
theorem combO_some {f : Rat → Rat → Rat} {s t : List UInt8} {a b : Rat} (ha : numO s = some a) (hb : numO t = some b) : combO f s t = some (f a b) := by unfold combO; rw [ha, hb]
theorem combO_none {f : Rat → Rat → Rat} {s t : List UInt8} (h : numO s = none ∨ numO t = none) : combO f s t = none := by
  unfold combO
  rcases h with h | h
  · rw [h]
  · rw [h]; cases numO s <;> rfl

theorem dig_mul_len {B x y N M : Nat} (hB : 2 ≤ B) (hx : (dig B x).length ≤ N) (hy : (dig B y).length ≤ M) : (dig B (x * y)).length ≤ N + M := by
  refine dig_length_le hB _ _ ?_
  have h1 := Nat.lt_of_lt_of_le (lt_pow_dig hB x) (Nat.pow_le_pow_right (by omega) hx)
  have h2 := Nat.lt_of_lt_of_le (lt_pow_dig hB y) (Nat.pow_le_pow_right (by omega) hy)
  rw [Nat.pow_add]
  exact Nat.mul_lt_mul'' h1 h2

end Go.Proofs.YtdkjcdfkoahfkaaGreatDoor

namespace Go.Proofs.YtdkjcdfkoahfkaaGreatDoor
open Go Go.RowKit

theorem app_lt {xs : List Nat} (h : ∀ d ∈ xs, d < W64) : ∀ d ∈ xs ++ [0], d < W64 := by
  intro d hd
  rcases List.mem_append.1 hd with h1 | h1
  · exact h d h1
  · simp at h1; subst h1; rw [W64_eq]; omega

theorem addc_parts (x y c s m : Nat) (hx : x < W64) (hy : y < W64) (hc : c ≤ 1) (hs : s = (x + y + c) % W64) (hm : m = (x + y + c) / W64) : x + y + c = s + W64 * m ∧ m ≤ 1 ∧ s < W64 := by
  rw [W64_eq] at *
  omega

def PlusRel (w : World) (g n : Nat) (xs ys : List Nat) (cv iv : Value) (wr : World) : Prop :=
  ∃ (k c : Nat) (cur : List Nat), iv = .int .i64 ((k : Nat) : Int) ∧ cv = .int .u64 ((c : Nat) : Int) ∧ k ≤ n ∧ c ≤ 1 ∧ Arr .u64 99 wr g cur ∧ cur.length = n + 1 ∧ (∀ d ∈ cur, d < W64) ∧
    cur.drop k = xs.drop k ++ [0] ∧ val W64 (cur.take k) + W64 ^ k * c = val W64 (xs.take k) + val W64 (ys.take k) ∧ Below w.heap.size w wr ∧ wr.heap.size = w.heap.size + 1

theorem take_set_same (xs : List Nat) (k s : Nat) : (xs.set k s).take k = xs.take k := by
  rw [List.take_set_of_le (Nat.le_refl _)]

theorem val_take_y (ys : List Nat) (k y : Nat) (hy : y = ys.getD k 0) : val W64 (ys.take (k + 1)) = val W64 (ys.take k) + W64 ^ k * y := by
  by_cases h : k < ys.length
  · rw [val_take_succ W64 ys k h, hy]
  · rw [List.take_of_length_le (by omega), List.take_of_length_le (by omega), hy]
    simp [List.getD, List.getElem?_eq_none (by omega : ys.length ≤ k)]

theorem plus_fin (cur : List Nat) (k c : Nat) (hl : cur.length = k + 1) : val W64 (cur.set k c) = val W64 (cur.take k) + W64 ^ k * c := by
  have h := val_take_succ W64 (cur.set k c) k (by simp [hl])
  rw [List.take_of_length_le (by simp [hl]), take_set_same] at h
  rw [h]
  simp [List.getD, hl]

theorem plus_rel (w wr : World) (g n k c x y s m : Nat) (xs ys cur : List Nat) (hk : k < n) (hxl : xs.length = n) (hA : Arr .u64 99 wr g cur) (hl : cur.length = n + 1) (hlt : ∀ d ∈ cur, d < W64)
    (hd : cur.drop k = xs.drop k ++ [0]) (hv : val W64 (cur.take k) + W64 ^ k * c = val W64 (xs.take k) + val W64 (ys.take k)) (hb : Below w.heap.size w wr) (hs : wr.heap.size = w.heap.size + 1) (hg : w.heap.size ≤ g)
    (hx : cur.getD k 0 = x) (hy : y = ys.getD k 0) (hsm : x + y + c = s + W64 * m) (hm : m ≤ 1) (hsl : s < W64) :
    PlusRel w g n xs ys (.int .u64 ((m : Nat) : Int)) (.int .i64 ((k + 1 : Nat) : Int)) (wr.setCell ⟨g, k, none⟩ (.int .u64 ((s : Nat) : Int))) := by
  refine ⟨k + 1, m, cur.set k s, rfl, rfl, by omega, hm, hA.set _ _, by simp [hl], set_ltN _ _ _ hlt hsl, ?_, ?_, hb.setCell hg _, by simp [hs]⟩
  · rw [drop_set_out _ _ _ _ (by omega)]
    have h2 := congrArg (List.drop 1) hd
    rw [List.drop_drop, List.drop_append_of_le_length (by rw [List.length_drop, hxl]; omega), List.drop_drop] at h2
    exact h2
  · have hxx : xs.getD k 0 = x := by
      have h2 := congrArg (fun l => l.getD 0 0) hd
      simp only [List.getD, List.getElem?_drop, Nat.add_zero, List.getElem?_append, List.length_drop] at h2
      rw [if_pos (by omega)] at h2
      rw [← hx]
      simp only [List.getD]
      exact h2.symm
    rw [val_take_succ W64 (cur.set k s) k (by simp [hl]; omega), take_set_same, val_take_succ W64 xs k (by omega), hxx, val_take_y ys k y hy, Nat.pow_succ]
    have e : (cur.set k s).getD k 0 = s := by simp [List.getD, hl, show k < n + 1 by omega]
    rw [e]
    generalize W64 ^ k = P at *
    generalize val W64 (cur.take k) = A at *
    generalize val W64 (xs.take k) = X at *
    generalize val W64 (ys.take k) = Y at *
    generalize W64 = W at *
    grind

set_option maxRecDepth 100000 in
set_option maxHeartbeats 2000000 in
theorem nplus_any (va vb : Value) (a b : Nat) (w : World) (ha : IsN w va a) (hb : IsN w vb b) (hlen : (dig W64 a).length ≤ 10000000) (hlenb : (dig W64 b).length ≤ 10000000) (R : Ending → World → Prop)
    (hR : ∀ v' w', IsN w' v' (a + b) → Below w.heap.size w w' → R (.returned v') w') :
    Calls Tryz.prog 137 #[va, vb] w R := by
  have HR := Lib.hid hR; clear hR
  obtain ⟨ao, n, cap, rfl, hn, hsa⟩ := ha.open
  obtain ⟨bo, nb, capb, rfl, hnb, hsb⟩ := hb.open
  obtain ⟨xs, hxs⟩ : ∃ xs, xs = dig W64 a := ⟨_, rfl⟩
  obtain ⟨ys, hys⟩ : ∃ ys, ys = dig W64 b := ⟨_, rfl⟩
  have hvx : val W64 xs = a := by rw [hxs]; exact val_dig W64_two _
  have hvy : val W64 ys = b := by rw [hys]; exact val_dig W64_two _
  have hx : ∀ d ∈ xs, d < W64 := by rw [hxs]; exact limb_lt _
  have hy : ∀ d ∈ ys, d < W64 := by rw [hys]; exact limb_lt _
  unfold IsN at hsa hsb
  rw [← hn] at hlen
  rw [← hnb] at hlenb
  rw [← hxs] at hsa hn
  rw [← hys] at hsb hnb
  have HN := Lib.hid hn
  have HNB := Lib.hid hnb
  have HVX := Lib.hid hvx
  have HVY := Lib.hid hvy
  have HX := Lib.hid hx
  have HY := Lib.hid hy
  have HSA := Lib.hid hsa
  have HSB := Lib.hid hsb
  clear ha hb hn hnb hxs hys hvx hvy hx hy hsa hsb
  by_cases hab : n < nb
  · have hlt : (n : Int) < (nb : Int) := by omega
    go_enter Tryz.func137, Tryz.ntmps137
    go_wp2_with (at_make; go_must (refine wpList_makez _ rfl (.tmp 18) 80 rfl 99 .u64 8 Tryz.underlying80 info_u64 (by omega) .i64 _ (nb + 1) (by rfl) (by omega) (by omega) ?_))
    intro W hA hbW hsW
    go_wp2_with (with_reducible refine wpList_copy_nums rfl (.tmp 20) (.tmp 21) 80 81 rfl 99 Tryz.underlying80 (by kernel_rfl) .u64 99 w.heap.size (nb + 1) (nb + 1) (List.replicate (nb + 1) 0) ys hA rfl (.slice bo nb capb) rfl (HSB.out.later hbW (Nat.le_refl _)) (by rw [← HNB.out]; omega) (by simp) ?_)
    intro W2 hA2 hbut2 hsz2
    have hst : PlusRel w w.heap.size nb ys xs (.int .u64 0) (.int .i64 0) W2 := by
      refine ⟨0, 0, ys ++ [0], rfl, rfl, Nat.zero_le _, Nat.zero_le _, ?_, by simp [← HNB.out], app_lt HY.out, by simp, by simp [val], hbW.trans (hbut2.below (Nat.le_refl _) (by omega)), by omega⟩
      have := hA2
      rwa [← HNB.out, Nat.add_sub_cancel_left, List.replicate_one] at this
    have HST := Lib.hid hst
    clear hst hA hbW hsW hA2 hbut2 hsz2
    go_wp2
    go_loopw [6, 25] (fun c i wr => PlusRel w w.heap.size nb ys xs c i wr) (fun _ i _ => nb - (intOf i).toNat)
    case atStart => exact HST.out
    case round =>
      clear HST
      obtain ⟨k, c, cur, rfl, rfl, hk, hc, hA, hl, hlt, hd, hv, hbel, hsz⟩ := hrel
      have HL := Lib.hid hl
      have HLT := Lib.hid hlt
      have HD := Lib.hid hd
      have HV := Lib.hid hv
      have HB := Lib.hid hbel
      have HSZ := Lib.hid hsz
      clear hl hlt hd hv hsz
      by_cases hkn : k < nb
      · obtain ⟨x, hx⟩ : ∃ x, x = cur.getD k 0 := ⟨_, rfl⟩
        obtain ⟨y, hy⟩ : ∃ y, y = xs.getD k 0 := ⟨_, rfl⟩
        have hck := hA.cell k (by rw [HL.out]; omega)
        have hfk := hA.frozen k
        rw [← hx] at hck
        have hxl : x < W64 := by rw [hx]; exact getD_lt (by rw [W64_eq]; omega) _ HLT.out _
        have hyl : y < W64 := by rw [hy]; exact getD_lt (by rw [W64_eq]; omega) _ HX.out _
        obtain ⟨s, hs⟩ : ∃ s, s = (x + y + c) % W64 := ⟨_, rfl⟩
        obtain ⟨m, hm⟩ : ∃ m, m = (x + y + c) / W64 := ⟨_, rfl⟩
        obtain ⟨h1, h2, h3⟩ := addc_parts x y c s m hxl hyl hc hs hm
        have HREL := Lib.hid (plus_rel w wr w.heap.size nb k c x y s m ys xs cur hkn HNB.out.symm hA HL.out HLT.out HD.out HV.out HB.out HSZ.out (Nat.le_refl _) hx.symm hy h1 h2 h3)
        have ea := add64_at x y c hc s m hs hm
        have Hy := Lib.hid hy
        have hkn2 : (k : Int) < (nb : Int) := by omega
        have hkn3 : (k : Int) < (nb : Int) + 1 := by omega
        clear hx hy hxl hyl hs hm h1 h2 h3 hA
        by_cases hkb : k < n
        · obtain ⟨b, o, rfl, hb1, hc1⟩ := Sl.at HSA.out k hkb
          rw [← hbel.cell (p := ⟨b, o + k, none⟩) hb1, ← Hy.out] at hc1
          have hkb2 : (k : Int) < (n : Int) := by omega
          clear hbel
          go_wp2_with (simp only [ea])
          go_roundw
          case rel => exact HREL.out
          case measure => simp [intOf]; omega
        · have hkb2 : ¬ (k : Int) < (n : Int) := by omega
          have hy0 : y = 0 := by rw [Hy.out]; simp [List.getD, List.getElem?_eq_none (by rw [← HN.out]; omega : xs.length ≤ k)]
          clear hbel
          subst hy0
          have ea0 := ea
          rw [show ((0 : Nat) : Int) = 0 from rfl] at ea0
          clear ea
          go_wp2_with (simp only [ea0])
          go_roundw
          case rel => exact HREL.out
          case measure => simp [intOf]; omega
      · obtain rfl : k = nb := by omega
        have hfin : val W64 (cur.set k c) = a + b := by
          rw [plus_fin cur k c HL.out, HV.out, List.take_of_length_le (by rw [← HNB.out]; exact Nat.le_refl _), List.take_of_length_le (by rw [← HN.out]; omega), HVX.out, HVY.out, Nat.add_comm]
        have HF := Lib.hid hfin
        have hfk := hA.frozen k
        have hck := hA.cell k (by rw [HL.out]; omega)
        have hA3 := hA.set k c
        have HLT3 : Hid (∀ d ∈ cur.set k c, d < W64) := Lib.hid (set_ltN _ _ _ HLT.out (by rw [W64_eq]; omega))
        have HA3 := Lib.hid hA3
        have HB3 := Lib.hid (hbel.setCell (Nat.le_refl _) (p := ⟨w.heap.size, k, none⟩) (.int .u64 ((c : Nat) : Int)))
        clear hfin hbel hA hA3
        go_wp2_with fail
        refine trimmed_any _ (cur.set k c) _ (HA3.out.sl _ _ (by rw [List.length_set, HL.out]) (Nat.le_refl _)) HLT3.out (by rw [List.length_set, HL.out]; omega) _ ?_
        intro v' hv' _
        rw [HF.out] at hv'
        dsimp only
        go_wp2
        first | go_ret | skip
        exact HR.out _ _ hv' HB3.out
  · have hlt : ¬ (n : Int) < (nb : Int) := by omega
    go_enter Tryz.func137, Tryz.ntmps137
    go_wp2_with (at_make; go_must (refine wpList_makez _ rfl (.tmp 18) 80 rfl 99 .u64 8 Tryz.underlying80 info_u64 (by omega) .i64 _ (n + 1) (by rfl) (by omega) (by omega) ?_))
    intro W hA hbW hsW
    go_wp2_with (with_reducible refine wpList_copy_nums rfl (.tmp 20) (.tmp 21) 80 81 rfl 99 Tryz.underlying80 (by kernel_rfl) .u64 99 w.heap.size (n + 1) (n + 1) (List.replicate (n + 1) 0) xs hA rfl (.slice ao n cap) rfl (HSA.out.later hbW (Nat.le_refl _)) (by rw [← HN.out]; omega) (by simp) ?_)
    intro W2 hA2 hbut2 hsz2
    have hst : PlusRel w w.heap.size n xs ys (.int .u64 0) (.int .i64 0) W2 := by
      refine ⟨0, 0, xs ++ [0], rfl, rfl, Nat.zero_le _, Nat.zero_le _, ?_, by simp [← HN.out], app_lt HX.out, by simp, by simp [val], hbW.trans (hbut2.below (Nat.le_refl _) (by omega)), by omega⟩
      have := hA2
      rwa [← HN.out, Nat.add_sub_cancel_left, List.replicate_one] at this
    have HST := Lib.hid hst
    clear hst hA hbW hsW hA2 hbut2 hsz2
    go_wp2
    go_loopw [6, 25] (fun c i wr => PlusRel w w.heap.size n xs ys c i wr) (fun _ i _ => n - (intOf i).toNat)
    case atStart => exact HST.out
    case round =>
      clear HST
      obtain ⟨k, c, cur, rfl, rfl, hk, hc, hA, hl, hlt, hd, hv, hbel, hsz⟩ := hrel
      have HL := Lib.hid hl
      have HLT := Lib.hid hlt
      have HD := Lib.hid hd
      have HV := Lib.hid hv
      have HB := Lib.hid hbel
      have HSZ := Lib.hid hsz
      clear hl hlt hd hv hsz
      by_cases hkn : k < n
      · obtain ⟨x, hx⟩ : ∃ x, x = cur.getD k 0 := ⟨_, rfl⟩
        obtain ⟨y, hy⟩ : ∃ y, y = ys.getD k 0 := ⟨_, rfl⟩
        have hck := hA.cell k (by rw [HL.out]; omega)
        have hfk := hA.frozen k
        rw [← hx] at hck
        have hxl : x < W64 := by rw [hx]; exact getD_lt (by rw [W64_eq]; omega) _ HLT.out _
        have hyl : y < W64 := by rw [hy]; exact getD_lt (by rw [W64_eq]; omega) _ HY.out _
        obtain ⟨s, hs⟩ : ∃ s, s = (x + y + c) % W64 := ⟨_, rfl⟩
        obtain ⟨m, hm⟩ : ∃ m, m = (x + y + c) / W64 := ⟨_, rfl⟩
        obtain ⟨h1, h2, h3⟩ := addc_parts x y c s m hxl hyl hc hs hm
        have HREL := Lib.hid (plus_rel w wr w.heap.size n k c x y s m xs ys cur hkn HN.out.symm hA HL.out HLT.out HD.out HV.out HB.out HSZ.out (Nat.le_refl _) hx.symm hy h1 h2 h3)
        have ea := add64_at x y c hc s m hs hm
        have Hy := Lib.hid hy
        have hkn2 : (k : Int) < (n : Int) := by omega
        have hkn3 : (k : Int) < (n : Int) + 1 := by omega
        clear hx hy hxl hyl hs hm h1 h2 h3 hA
        by_cases hkb : k < nb
        · obtain ⟨b, o, rfl, hb1, hc1⟩ := Sl.at HSB.out k hkb
          rw [← hbel.cell (p := ⟨b, o + k, none⟩) hb1, ← Hy.out] at hc1
          have hkb2 : (k : Int) < (nb : Int) := by omega
          clear hbel
          go_wp2_with (simp only [ea])
          go_roundw
          case rel => exact HREL.out
          case measure => simp [intOf]; omega
        · have hkb2 : ¬ (k : Int) < (nb : Int) := by omega
          have hy0 : y = 0 := by rw [Hy.out]; simp [List.getD, List.getElem?_eq_none (by rw [← HNB.out]; omega : ys.length ≤ k)]
          clear hbel
          subst hy0
          have ea0 := ea
          rw [show ((0 : Nat) : Int) = 0 from rfl] at ea0
          clear ea
          go_wp2_with (simp only [ea0])
          go_roundw
          case rel => exact HREL.out
          case measure => simp [intOf]; omega
      · obtain rfl : k = n := by omega
        have hfin : val W64 (cur.set k c) = a + b := by
          rw [plus_fin cur k c HL.out, HV.out, List.take_of_length_le (by rw [← HN.out]; exact Nat.le_refl _), List.take_of_length_le (by rw [← HNB.out]; omega), HVX.out, HVY.out]
        have HF := Lib.hid hfin
        have hfk := hA.frozen k
        have hck := hA.cell k (by rw [HL.out]; omega)
        have hA3 := hA.set k c
        have HLT3 : Hid (∀ d ∈ cur.set k c, d < W64) := Lib.hid (set_ltN _ _ _ HLT.out (by rw [W64_eq]; omega))
        have HA3 := Lib.hid hA3
        have HB3 := Lib.hid (hbel.setCell (Nat.le_refl _) (p := ⟨w.heap.size, k, none⟩) (.int .u64 ((c : Nat) : Int)))
        clear hfin hbel hA hA3
        go_wp2_with fail
        refine trimmed_any _ (cur.set k c) _ (HA3.out.sl _ _ (by rw [List.length_set, HL.out]) (Nat.le_refl _)) HLT3.out (by rw [List.length_set, HL.out]; omega) _ ?_
        intro v' hv' _
        rw [HF.out] at hv'
        dsimp only
        go_wp2
        first | go_ret | skip
        exact HR.out _ _ hv' HB3.out
end Go.Proofs.YtdkjcdfkoahfkaaGreatDoor

namespace Go.Proofs.YtdkjcdfkoahfkaaGreatDoor
open Go Go.RowKit

/-- a product has few limbs where its factors have -/
theorem mul_limbs (x y N M : Nat) (hx : (dig W64 x).length ≤ N) (hy : (dig W64 y).length ≤ M) : (dig W64 (x * y)).length ≤ N + M := by
  apply dig_length_le W64_two
  have h1 := Nat.lt_of_lt_of_le (lt_pow_dig W64_two x) (Nat.pow_le_pow_right (by rw [W64_eq]; omega) hx)
  have h2 := Nat.lt_of_lt_of_le (lt_pow_dig W64_two y) (Nat.pow_le_pow_right (by rw [W64_eq]; omega) hy)
  rw [Nat.pow_add]
  exact Nat.mul_lt_mul'' h1 h2

end Go.Proofs.YtdkjcdfkoahfkaaGreatDoor

namespace Go.Proofs.YtdkjcdfkoahfkaaGreatDoor
open Go Go.RowKit

set_option maxRecDepth 100000 in
set_option maxHeartbeats 1000000 in
theorem nover_any (va vb : Value) (a b : Nat) (w : World) (ha : IsN w va a) (hb : IsN w vb b) (hla : (dig W64 a).length ≤ 10000000) (hlb : (dig W64 b).length ≤ 10000000) (hb0 : b ≠ 0) (R : Ending → World → Prop)
    (hR : ∀ v' w', IsN w' v' (a / b) → Below w.heap.size w w' → R (.returned v') w') :
    Calls Tryz.prog 115 #[va, vb] w R := by
  have HR := Lib.hid hR; clear hR
  obtain ⟨a1, n1, c1, rfl, ha'⟩ := ha.op
  obtain ⟨a2, n2, c2, rfl, hb'⟩ := hb.op
  have HA := Lib.hid ha'
  have HB := Lib.hid hb'
  have HLL := Lib.hid (And.intro hla (And.intro hlb hb0))
  clear ha hb ha' hb' hla hlb hb0
  go_enter Tryz.func115, Tryz.ntmps115
  go_wp2_with fail
  refine none_any _ b _ HB.out _ ?_
  by_cases h1 : b = 1
  · have hd : decide (b = 1) = true := decide_eq_true h1
    have HD : Hid (a = a / b) := Lib.hid (by rw [h1, Nat.div_one])
    rw [hd]
    clear hd h1
    dsimp only
    go_wp2
    first | go_ret | skip
    exact HR.out _ _ (HA.out.cast HD.out) (Below.refl _ _)
  · have hd : decide (b = 1) = false := decide_eq_false h1
    rw [hd]
    clear hd h1
    dsimp only
    go_wp2_with fail
    refine divide_any _ _ a b _ HA.out HB.out HLL.out.1 HLL.out.2.1 HLL.out.2.2 _ ?_
    intro v1 v2 w1 hv1 hv2 hb1
    obtain ⟨a3, n3, c3, rfl, hv1'⟩ := hv1.op
    obtain ⟨a4, n4, c4, rfl, hv2'⟩ := hv2.op
    have HV1 := Lib.hid hv1'
    have HB1 := Lib.hid hb1
    clear hv1 hv2 hv1' hv2' hb1
    dsimp only
    go_wp2
    first | go_ret | skip
    exact HR.out _ _ HV1.out HB1.out

theorem sgn_div (z : Int) (d : Nat) : sgn (decide (z < 0)) (z.natAbs / d) = z.tdiv (d : Int) := by
  rw [← sgn_tdiv]
  unfold sgn
  by_cases h : z < 0
  · rw [decide_eq_true h, if_pos rfl, if_pos h]
  · rw [decide_eq_false h, if_neg (by decide), if_neg h]

set_option maxRecDepth 100000 in
set_option maxHeartbeats 4000000 in
theorem iover_any (va vb : Value) (z : Int) (b : Nat) (w : World) (ha : IsI w va z) (hb : IsN w vb b) (hla : (dig W64 z.natAbs).length ≤ 10000000) (hlb : (dig W64 b).length ≤ 10000000) (hb0 : b ≠ 0) (R : Ending → World → Prop)
    (hR : ∀ v' w', IsI w' v' (z.tdiv (b : Int)) → Below w.heap.size w w' → R (.returned v') w') :
    Calls Tryz.prog 118 #[va, vb] w R := by
  have HR := Lib.hid hR; clear hR
  obtain ⟨ng, a1, n1, c1, hng, rfl, hn1⟩ := ha.parts
  obtain ⟨a2, n2, c2, rfl, hn2⟩ := hb.op
  have HNG := Lib.hid hng
  obtain ⟨L, hL⟩ : ∃ L, L = (w.alloc (.cells #[.bool ng, .slice a1 n1 c1] 83)).alloc (.cells #[.bool false, .slice none 0 0] 83) := ⟨_, rfl⟩
  have hb1 : Below (w.heap.size + 1) (w.alloc (.cells #[.bool ng, .slice a1 n1 c1] 83)) L := by rw [hL]; exact (Below.refl _ _).alloc (by simp) _
  have B0 : Box2 L w.heap.size (.bool ng) (.slice a1 n1 c1) 83 := (Box2.made w _ _ _).later hb1 (by omega)
  have B1 : Box2 L (w.heap.size + 1) (.bool false) (.slice none 0 0) 83 := by
    have := Box2.made (w.alloc (.cells #[.bool ng, .slice a1 n1 c1] 83)) (.bool false) (.slice none 0 0) 83
    rw [World.size_alloc, ← hL] at this; exact this
  have HEXT : Hid (Below w.heap.size w L) := Lib.hid (by rw [hL]; exact ((Below.refl w.heap.size w).alloc (Nat.le_refl _) _).alloc (by simp) _)
  have hLs : L.heap.size = w.heap.size + 2 := by rw [hL]; simp
  have hk : w.heap.size + 1 < L.heap.size := by omega
  have HL := Lib.hid hL
  have Y1 := Lib.hid (hn1.later HEXT.out (Nat.le_refl _))
  have Y2 := Lib.hid (hn2.later HEXT.out (Nat.le_refl _))
  have HLN := Lib.hid (And.intro hla (And.intro hlb hb0))
  have HSOF : Hid (∀ w', Below (w.heap.size + 1) L w' → (Below (w.heap.size + 1) L w' ∧ w'.cell? ⟨w.heap.size, 0, none⟩ = some (.bool ng) ∧ w'.cell? ⟨w.heap.size, 1, none⟩ = some (.slice a1 n1 c1))) :=
    Lib.hid fun w' hb => ⟨hb, (B0.later hb (by omega)).cells.1, (B0.later hb (by omega)).cells.2.1⟩
  have HB1 := Lib.hid B1
  have HK := Lib.hid hk
  clear hng ha hb hn1 hn2 hla hlb hb0 hb1 B0 B1 hL hLs hk
  go_enter Tryz.func118, Tryz.ntmps118
  go_wp2_with fail
  rw [← HL.out]
  go_region_held3 (fun w' => Below (w.heap.size + 1) L w' ∧ w'.cell? ⟨w.heap.size, 0, none⟩ = some (.bool ng) ∧ w'.cell? ⟨w.heap.size, 1, none⟩ = some (.slice a1 n1 c1))
    (first
      | exact HSOF.out _ HQ2.out
      | exact HSOF.out _ HQ1.out
      | exact HSOF.out _ (Below.refl _ _).drew
      | exact HSOF.out _ ((HQ2.out.setCell (by simp) _).setCell (by simp) _))
    (first
      | (go_at_call 80; refine integerOf_z ng v1 (z.natAbs / b) _ HV1.out _ ?_; intro v2 w2 hv2 hb2; rw [HNG.out, sgn_div] at hv2; obtain ⟨m2, a5, m5, c5, hm2, rfl, hn5⟩ := hv2.parts; have HV5 := Lib.hid hn5; have HM2 := Lib.hid hm2; have HT2 := Lib.hid (HT1.out.trans (hb2.mono HT1.out.size)); have HQ2 := Lib.hid (HT2.out.mono (Nat.le_of_lt HK.out)); have d2 := HB1.out.later HT2.out HK.out; obtain ⟨hR0, hR1, hR2, hR3⟩ := d2.cells; have HD2 := Lib.hid d2; clear hv2 hb2 d2 hn5 hm2; dsimp only)
      | (go_at_call 115; refine nover_any _ _ z.natAbs b _ (Y1.out.later (Below.refl _ _).drew (Nat.le_refl _)) (Y2.out.later (Below.refl _ _).drew (Nat.le_refl _)) HLN.out.1 HLN.out.2.1 HLN.out.2.2 _ ?_; intro v1 w1 hv1 hb1; have HV1 := Lib.hid hv1; have HT1 : Hid (Below L.heap.size L w1) := Lib.hid (below_unDrew hb1); have HQ1 := Lib.hid (HT1.out.mono (Nat.le_of_lt HK.out)); clear hv1 hb1; dsimp only))
  all_goals
    go_wp2
    refine bodyPost_ret_at (by simp [results, Tryz.results118, go_sem, hR0, hR1, hR2, hR3] <;> rfl) rfl ?_
    refine HR.out _ _ (IsI.mk HM2.out (HV5.out.set2 (HD2.out.noInt rfl rfl) _ _ rfl)) ((((HEXT.out.trans (HT2.out.mono HEXT.out.size)).setCell (by simp) _).setCell (by simp) _))
end Go.Proofs.YtdkjcdfkoahfkaaGreatDoor

namespace Go.Proofs.YtdkjcdfkoahfkaaGreatDoor
open Go Go.RowKit

theorem sgn_times (a b : Int) : sgn (decide (a < 0) != decide (b < 0)) (a.natAbs * b.natAbs) = a * b := by
  by_cases ha : a < 0
  · obtain ⟨n, rfl⟩ : ∃ n : Nat, a = -(n : Int) := ⟨a.natAbs, by omega⟩
    by_cases hb : b < 0
    · obtain ⟨m, rfl⟩ : ∃ m : Nat, b = -(m : Int) := ⟨b.natAbs, by omega⟩
      rw [decide_eq_true ha, decide_eq_true hb, Int.natAbs_neg, Int.natAbs_neg, Int.natAbs_natCast, Int.natAbs_natCast, Int.neg_mul_neg]
      simp [sgn]
    · obtain ⟨m, rfl⟩ : ∃ m : Nat, b = (m : Int) := ⟨b.natAbs, by omega⟩
      rw [decide_eq_true ha, decide_eq_false hb, Int.natAbs_neg, Int.natAbs_natCast, Int.natAbs_natCast, Int.neg_mul]
      simp [sgn]
  · obtain ⟨n, rfl⟩ : ∃ n : Nat, a = (n : Int) := ⟨a.natAbs, by omega⟩
    by_cases hb : b < 0
    · obtain ⟨m, rfl⟩ : ∃ m : Nat, b = -(m : Int) := ⟨b.natAbs, by omega⟩
      rw [decide_eq_false ha, decide_eq_true hb, Int.natAbs_neg, Int.natAbs_natCast, Int.natAbs_natCast, Int.mul_neg]
      simp [sgn]
    · obtain ⟨m, rfl⟩ : ∃ m : Nat, b = (m : Int) := ⟨b.natAbs, by omega⟩
      rw [decide_eq_false ha, decide_eq_false hb, Int.natAbs_natCast, Int.natAbs_natCast]
      simp [sgn]

set_option maxRecDepth 100000 in
set_option maxHeartbeats 4000000 in
theorem itimes_any (va vb : Value) (a b : Int) (w : World) (ha : IsI w va a) (hb : IsI w vb b) (hla : (dig W64 a.natAbs).length ≤ 10000000) (hlb : (dig W64 b.natAbs).length ≤ 10000000) (R : Ending → World → Prop)
    (hR : ∀ v' w', IsI w' v' (a * b) → Below w.heap.size w w' → R (.returned v') w') :
    Calls Tryz.prog 120 #[va, vb] w R := by
  have HR := Lib.hid hR; clear hR
  obtain ⟨ng, a1, n1, c1, hng, rfl, hn1⟩ := ha.parts
  obtain ⟨mg, a2, n2, c2, hmg, rfl, hn2⟩ := hb.parts
  have HNG := Lib.hid hng
  have HMG := Lib.hid hmg
  obtain ⟨L, hL⟩ : ∃ L, L = ((w.alloc (.cells #[.bool ng, .slice a1 n1 c1] 83)).alloc (.cells #[.bool mg, .slice a2 n2 c2] 83)).alloc (.cells #[.bool false, .slice none 0 0] 83) := ⟨_, rfl⟩
  have HEXT : Hid (Below w.heap.size w L) := Lib.hid (by rw [hL]; exact (((Below.refl w.heap.size w).alloc (Nat.le_refl _) _).alloc (by simp) _).alloc (by simp; omega) _)
  have hLs : L.heap.size = w.heap.size + 3 := by rw [hL]; simp
  have B0 : Box2 L w.heap.size (.bool ng) (.slice a1 n1 c1) 83 := by rw [hL]; exact ((Box2.made w _ _ _).alloc _).alloc _
  have B1 : Box2 L (w.heap.size + 1) (.bool mg) (.slice a2 n2 c2) 83 := by
    have := (Box2.made (w.alloc (.cells #[.bool ng, .slice a1 n1 c1] 83)) (.bool mg) (.slice a2 n2 c2) 83).alloc (.cells #[.bool false, .slice none 0 0] 83)
    rw [World.size_alloc, ← hL] at this; exact this
  have B2 : Box2 L (w.heap.size + 1 + 1) (.bool false) (.slice none 0 0) 83 := by
    have := Box2.made ((w.alloc (.cells #[.bool ng, .slice a1 n1 c1] 83)).alloc (.cells #[.bool mg, .slice a2 n2 c2] 83)) (.bool false) (.slice none 0 0) 83
    rw [World.size_alloc, World.size_alloc, ← hL] at this; exact this
  have hk : w.heap.size + 2 < L.heap.size := by omega
  have HL := Lib.hid hL
  have Y1 := Lib.hid (hn1.later HEXT.out (Nat.le_refl _))
  have Y2 := Lib.hid (hn2.later HEXT.out (Nat.le_refl _))
  have HLN := Lib.hid (And.intro hla hlb)
  have HSOF : Hid (∀ w', Below (w.heap.size + 2) L w' → (Below (w.heap.size + 2) L w' ∧ (w'.cell? ⟨w.heap.size, 0, none⟩ = some (.bool ng) ∧ w'.cell? ⟨w.heap.size, 1, none⟩ = some (.slice a1 n1 c1)) ∧ (w'.cell? ⟨w.heap.size + 1, 0, none⟩ = some (.bool mg) ∧ w'.cell? ⟨w.heap.size + 1, 1, none⟩ = some (.slice a2 n2 c2)))) :=
    Lib.hid fun w' hb => ⟨hb, ⟨(B0.later hb (by omega)).cells.1, (B0.later hb (by omega)).cells.2.1⟩, ⟨(B1.later hb (by omega)).cells.1, (B1.later hb (by omega)).cells.2.1⟩⟩
  have HB1 := Lib.hid B2
  have HK := Lib.hid hk
  clear hng hmg ha hb hn1 hn2 hla hlb B0 B1 B2 hL hLs hk
  go_enter Tryz.func120, Tryz.ntmps120
  go_wp2_with fail
  rw [← HL.out]
  go_region_held3 (fun w' => Below (w.heap.size + 2) L w' ∧ (w'.cell? ⟨w.heap.size, 0, none⟩ = some (.bool ng) ∧ w'.cell? ⟨w.heap.size, 1, none⟩ = some (.slice a1 n1 c1)) ∧ (w'.cell? ⟨w.heap.size + 1, 0, none⟩ = some (.bool mg) ∧ w'.cell? ⟨w.heap.size + 1, 1, none⟩ = some (.slice a2 n2 c2)))
    (first
      | exact HSOF.out _ HQ2.out
      | exact HSOF.out _ HQ1.out
      | exact HSOF.out _ (Below.refl _ _).drew
      | exact HSOF.out _ ((HQ2.out.setCell (by simp) _).setCell (by simp) _))
    (first
      | (go_at_call 80; refine integerOf_z (ng != mg) v1 (a.natAbs * b.natAbs) _ HV1.out _ ?_; intro v2 w2 hv2 hb2; rw [HNG.out, HMG.out, sgn_times] at hv2; obtain ⟨m2, a5, m5, c5, hm2, rfl, hn5⟩ := hv2.parts; have HV5 := Lib.hid hn5; have HM2 := Lib.hid hm2; have HT2 := Lib.hid (HT1.out.trans (hb2.mono HT1.out.size)); have HQ2 := Lib.hid (HT2.out.mono (Nat.le_of_lt HK.out)); have d2 := HB1.out.later HT2.out HK.out; obtain ⟨hR0, hR1, hR2, hR3⟩ := d2.cells; have HD2 := Lib.hid d2; clear hv2 hb2 d2 hn5 hm2; dsimp only)
      | (go_at_call 119; refine ntimes_any _ _ a.natAbs b.natAbs _ (Y1.out.later (Below.refl _ _).drew (Nat.le_refl _)) (Y2.out.later (Below.refl _ _).drew (Nat.le_refl _)) (Nat.le_trans HLN.out.1 (by omega)) (Nat.le_trans HLN.out.2 (by omega)) _ ?_; intro v1 w1 hv1 hb1; have HV1 := Lib.hid hv1; have HT1 : Hid (Below L.heap.size L w1) := Lib.hid (below_unDrew hb1); have HQ1 := Lib.hid (HT1.out.mono (Nat.le_of_lt HK.out)); clear hv1 hb1; dsimp only))
  all_goals
    go_wp2
    refine bodyPost_ret_at (by simp [results, Tryz.results120, go_sem, hR0, hR1, hR2, hR3] <;> rfl) rfl ?_
    refine HR.out _ _ (IsI.mk HM2.out (HV5.out.set2 (HD2.out.noInt rfl rfl) _ _ rfl)) ((((HEXT.out.trans (HT2.out.mono HEXT.out.size)).setCell (show w.heap.size ≤ w.heap.size + 1 + 1 by omega) _).setCell (show w.heap.size ≤ w.heap.size + 1 + 1 by omega) _))

end Go.Proofs.YtdkjcdfkoahfkaaGreatDoor

namespace Go.Proofs.YtdkjcdfkoahfkaaGreatDoor
open Go Go.RowKit

theorem IsR.drew {w : World} {v : Value} {q : Rat} (h : IsR w v q) : IsR w.drew v q := h
theorem NoInt.set3 {w : World} {b c : Nat} (h : NoInt w b) {y0 y1 y2 : Value} (h0 : notInt y0 = true) (h1 : notInt y1 = true) (h2 : notInt y2 = true) : NoInt (((w.setCell ⟨c, 0, none⟩ y0).setCell ⟨c, 1, none⟩ y1).setCell ⟨c, 2, none⟩ y2) b :=
  ((h.set 0 c h0).set 1 c h1).set 2 c h2
theorem IsR.set3 {w : World} {v : Value} {q : Rat} (h : IsR w v q) {b : Nat} (hb : NoInt w b) (y0 y1 y2 : Value) (h0 : notInt y0 = true) (h1 : notInt y1 = true) : IsR (((w.setCell ⟨b, 0, none⟩ y0).setCell ⟨b, 1, none⟩ y1).setCell ⟨b, 2, none⟩ y2) v q := by
  obtain ⟨s1, s2, e, h3, h4⟩ := h
  exact ⟨s1, s2, e, h3.set3 hb _ _ _ h0 h1, h4.set3 hb _ _ _ h0 h1⟩

set_option maxRecDepth 100000 in
set_option maxHeartbeats 4000000 in
theorem read2_any (s t : ByteArray) (w : World) (hE : Env w) (R : Ending → World → Prop)
    (hR : ∀ va vb a b w', numO s.data.toList = some a → numO t.data.toList = some b → IsR w' va a → IsR w' vb b → Below w.heap.size w w' → R (.returned (.tuple #[va, vb, .nilIface])) w')
    (hR2 : ∀ e w', (numO s.data.toList = none ∨ numO t.data.toList = none) → ErrV e → Below w.heap.size w w' → R (.returned (.tuple #[zeroR, zeroR, e])) w') :
    Calls Tryz.prog 66 #[.string s, .string t] w R := by
  have HR := Lib.hid hR; clear hR
  have HR2 := Lib.hid hR2; clear hR2
  have HE := Lib.hid hE; clear hE
  obtain ⟨L, hL⟩ : ∃ L, L = (w.alloc (.cells #[.bool false, .slice none 0 0, .slice none 0 0] 85)).alloc (.cells #[.bool false, .slice none 0 0, .slice none 0 0] 85) := ⟨_, rfl⟩
  have hb1 : Below (w.heap.size + 1) (w.alloc (.cells #[.bool false, .slice none 0 0, .slice none 0 0] 85)) L := by rw [hL]; exact (Below.refl _ _).alloc (by simp) _
  have B0 : Hid (Box3 L w.heap.size (.bool false) (.slice none 0 0) (.slice none 0 0) 85) := Lib.hid ((Box3.made w _ _ _ _).later hb1 (by omega))
  have B1 : Hid (Box3 L (w.heap.size + 1) (.bool false) (.slice none 0 0) (.slice none 0 0) 85) := Lib.hid (by
    have := Box3.made (w.alloc (.cells #[.bool false, .slice none 0 0, .slice none 0 0] 85)) (.bool false) (.slice none 0 0) (.slice none 0 0) 85
    rw [World.size_alloc, ← hL] at this; exact this)
  have HEXT : Hid (Below w.heap.size w L) := Lib.hid (by rw [hL]; exact ((Below.refl w.heap.size w).alloc (Nat.le_refl _) _).alloc (by simp) _)
  have HLS : Hid (L.heap.size = w.heap.size + 2) := Lib.hid (by rw [hL]; simp)
  have HL := Lib.hid hL
  clear hb1 hL
  go_enter Tryz.func66, Tryz.ntmps66
  go_wp2_with fail
  rw [← HL.out]
  refine readq_any s L (HE.out.later HEXT.out (Nat.le_refl _)) _ ?_ ?_
  · intro v1 a w1 ha hv1 hb1
    obtain ⟨na, a1, n1, c1, a2, n2, c2, hna, rfl, hn1, hn2⟩ := hv1.parts
    obtain ⟨W, hW⟩ : ∃ W, W = w1.alloc (.cells #[.bool na, .slice a1 n1 c1, .slice a2 n2 c2] 85) := ⟨_, rfl⟩
    have hbW : Below w1.heap.size w1 W := by rw [hW]; exact (Below.refl _ _).alloc (Nat.le_refl _) _
    have hLW : Below L.heap.size L W := hb1.trans (hbW.mono hb1.size)
    have HLW := Lib.hid hLW
    have HBW := Lib.hid (HEXT.out.trans (hLW.mono HEXT.out.size))
    have B2 : Hid (Box3 W w1.heap.size (.bool na) (.slice a1 n1 c1) (.slice a2 n2 c2) 85) := Lib.hid (by rw [hW]; exact Box3.made _ _ _ _ _)
    have HQA : Hid (IsR W (.agg #[.bool na, .slice a1 n1 c1, .slice a2 n2 c2]) a) := Lib.hid (hv1.later hbW (Nat.le_refl _))
    have HA := Lib.hid ha
    have HW := Lib.hid hW
    have HWS : Hid (W.heap.size = w1.heap.size + 1) := Lib.hid (by rw [hW]; simp)
    have HL1 := Lib.hid hb1.size
    clear hb1 hbW hLW hW ha hv1 hna hn1 hn2
    dsimp only
    go_wp2_with fail
    rw [← HW.out]
    refine readq_any t W (HE.out.later HBW.out (Nat.le_refl _)) _ ?_ ?_
    · intro v2 b w2 hb hv2 hb2
      obtain ⟨nb, a3, n3, c3, a4, n4, c4, hnb, rfl, hn3, hn4⟩ := hv2.parts
      obtain ⟨V, hV⟩ : ∃ V, V = w2.alloc (.cells #[.bool nb, .slice a3 n3 c3, .slice a4 n4 c4] 85) := ⟨_, rfl⟩
      have hbV : Below w2.heap.size w2 V := by rw [hV]; exact (Below.refl _ _).alloc (Nat.le_refl _) _
      have hWV : Below W.heap.size W V := hb2.trans (hbV.mono hb2.size)
      have hLV : Below L.heap.size L V := HLW.out.trans (hWV.mono HLW.out.size)
      have HBV := Lib.hid (HBW.out.trans (hWV.mono HBW.out.size))
      have B3 : Hid (Box3 V w2.heap.size (.bool nb) (.slice a3 n3 c3) (.slice a4 n4 c4) 85) := Lib.hid (by rw [hV]; exact Box3.made _ _ _ _ _)
      have B2' := Lib.hid (B2.out.later hWV (lt_of_block B2.out))
      have B0' := Lib.hid (B0.out.later hLV (lt_of_block B0.out))
      have B1' := Lib.hid (B1.out.later hLV (lt_of_block B1.out))
      have HQA' := Lib.hid (HQA.out.later hWV (Nat.le_refl _))
      have HQB : Hid (IsR V (.agg #[.bool nb, .slice a3 n3 c3, .slice a4 n4 c4]) b) := Lib.hid (hv2.later hbV (Nat.le_refl _))
      have hs1 : w.heap.size + 2 ≤ w1.heap.size := by rw [← HLS.out]; exact HL1.out
      have hs2 : w1.heap.size + 1 ≤ w2.heap.size := by rw [← HWS.out]; exact hb2.size
      have HBB := Lib.hid hb
      have HV := Lib.hid hV
      obtain ⟨⟨hP0, hP1, hP2⟩, _, _, _⟩ := B2'.out.cells
      obtain ⟨⟨hQ0, hQ1, hQ2⟩, _, _, _⟩ := B3.out.cells
      obtain ⟨⟨hR0, hR1, hR2⟩, hF0, hF1, hF2⟩ := B0'.out.cells
      obtain ⟨⟨hS0, hS1, hS2⟩, hG0, hG1, hG2⟩ := B1'.out.cells
      have e1 : ¬ w1.heap.size = w.heap.size := by omega
      have e2 : ¬ w1.heap.size = w.heap.size + 1 := by omega
      have e3 : ¬ w2.heap.size = w.heap.size := by omega
      have e4 : ¬ w2.heap.size = w.heap.size + 1 := by omega
      have e5 : ¬ w.heap.size = w.heap.size + 1 := by omega
      have e6 : ¬ w.heap.size + 1 = w.heap.size := by omega
      clear hb2 hbV hWV hLV hV hb hv2 hnb hn3 hn4 hs1 hs2
      dsimp only
      go_wp2
      rw [← HV.out]
      go_region
      all_goals
        go_wp2
        refine bodyPost_ret_at (by simp [results, Tryz.results66, go_sem, hR0, hR1, hR2, hF0, hF1, hF2, hS0, hS1, hS2, hG0, hG1, hG2] <;> rfl) rfl ?_
        have n0 := B0'.out.noInt rfl rfl rfl
        have n1' := B1'.out.noInt rfl rfl rfl
        refine HR.out _ _ a b _ HA.out HBB.out (IsR.drew ?_) (IsR.drew ?_) (below_set3 (below_set3 HBV.out (Nat.le_refl _) _ _ _) (by omega) _ _ _).drew
        · exact IsR.set3 (IsR.set3 HQA'.out n0 _ _ _ rfl rfl) (NoInt.set3 n1' rfl rfl rfl) _ _ _ rfl rfl
        · exact IsR.set3 (IsR.set3 HQB.out n0 _ _ _ rfl rfl) (NoInt.set3 n1' rfl rfl rfl) _ _ _ rfl rfl
    · intro e w2 hb he hb2
      obtain ⟨t', p, rfl⟩ := he
      obtain ⟨V, hV⟩ : ∃ V, V = w2.alloc (.cells #[.bool false, .slice none 0 0, .slice none 0 0] 85) := ⟨_, rfl⟩
      have hbV : Below w2.heap.size w2 V := by rw [hV]; exact (Below.refl _ _).alloc (Nat.le_refl _) _
      have hWV : Below W.heap.size W V := hb2.trans (hbV.mono hb2.size)
      have hLV : Below L.heap.size L V := HLW.out.trans (hWV.mono HLW.out.size)
      have HBV := Lib.hid (HBW.out.trans (hWV.mono HBW.out.size))
      have B0' := Lib.hid (B0.out.later hLV (lt_of_block B0.out))
      have B1' := Lib.hid (B1.out.later hLV (lt_of_block B1.out))
      have HNN : Hid (numO s.data.toList = none ∨ numO t.data.toList = none) := Lib.hid (.inr hb)
      obtain ⟨⟨hR0, hR1, hR2⟩, hF0, hF1, hF2⟩ := B0'.out.cells
      obtain ⟨⟨hS0, hS1, hS2⟩, hG0, hG1, hG2⟩ := B1'.out.cells
      have e5 : ¬ w.heap.size = w.heap.size + 1 := by omega
      have e6 : ¬ w.heap.size + 1 = w.heap.size := by omega
      have HV := Lib.hid hV
      clear hb2 hbV hWV hLV hV hb
      rw [HV.out] at hR0 hR1 hR2 hF0 hF1 hF2 hS0 hS1 hS2 hG0 hG1 hG2
      unfold zeroR
      dsimp only
      go_wp2
      rw [← HV.out] at hR0 hR1 hR2 hF0 hF1 hF2 hS0 hS1 hS2 hG0 hG1 hG2
      try rw [← HV.out]
      refine bodyPost_ret_at (by simp [results, Tryz.results66, go_sem, hR0, hR1, hR2, hF0, hF1, hF2, hS0, hS1, hS2, hG0, hG1, hG2] <;> rfl) rfl ?_
      exact HR2.out _ _ HNN.out ⟨_, _, rfl⟩ (below_set3 (below_set3 HBV.out (Nat.le_refl _) _ _ _) (by omega) _ _ _)
  · intro e w1 ha he hb1
    obtain ⟨t', p, rfl⟩ := he
    obtain ⟨W, hW⟩ : ∃ W, W = w1.alloc (.cells #[.bool false, .slice none 0 0, .slice none 0 0] 85) := ⟨_, rfl⟩
    have hbW : Below w1.heap.size w1 W := by rw [hW]; exact (Below.refl _ _).alloc (Nat.le_refl _) _
    have hLW : Below L.heap.size L W := hb1.trans (hbW.mono hb1.size)
    have HBW := Lib.hid (HEXT.out.trans (hLW.mono HEXT.out.size))
    have B0' := Lib.hid (B0.out.later hLW (lt_of_block B0.out))
    have B1' := Lib.hid (B1.out.later hLW (lt_of_block B1.out))
    have HNN : Hid (numO s.data.toList = none ∨ numO t.data.toList = none) := Lib.hid (.inl ha)
    obtain ⟨⟨hR0, hR1, hR2⟩, hF0, hF1, hF2⟩ := B0'.out.cells
    obtain ⟨⟨hS0, hS1, hS2⟩, hG0, hG1, hG2⟩ := B1'.out.cells
    have e5 : ¬ w.heap.size = w.heap.size + 1 := by omega
    have e6 : ¬ w.heap.size + 1 = w.heap.size := by omega
    have HW := Lib.hid hW
    clear hb1 hbW hLW hW ha
    rw [HW.out] at hR0 hR1 hR2 hF0 hF1 hF2 hS0 hS1 hS2 hG0 hG1 hG2
    unfold zeroR
    dsimp only
    go_wp2
    rw [← HW.out] at hR0 hR1 hR2 hF0 hF1 hF2 hS0 hS1 hS2 hG0 hG1 hG2
    try rw [← HW.out]
    refine bodyPost_ret_at (by simp [results, Tryz.results66, go_sem, hR0, hR1, hR2, hF0, hF1, hF2, hS0, hS1, hS2, hG0, hG1, hG2] <;> rfl) rfl ?_
    exact HR2.out _ _ HNN.out ⟨_, _, rfl⟩ (below_set3 (below_set3 HBW.out (Nat.le_refl _) _ _ _) (by omega) _ _ _)
end Go.Proofs.YtdkjcdfkoahfkaaGreatDoor

namespace Go.Proofs.YtdkjcdfkoahfkaaGreatDoor
open Go Go.RowKit

theorem dig_mono {B a b : Nat} (hB : 2 ≤ B) (h : a ≤ b) : (dig B a).length ≤ (dig B b).length :=
  dig_length_le hB _ _ (Nat.lt_of_le_of_lt h (lt_pow_dig hB b))

theorem gcd_le_den (x d : Nat) (hd : d ≠ 0) : Nat.gcd x d ≤ d ∧ Nat.gcd x d ≠ 0 :=
  ⟨Nat.gcd_le_right _ (by omega), fun h => hd (Nat.gcd_eq_zero_iff.1 h).2⟩

theorem tdiv_abs (z : Int) (d : Nat) : (z.tdiv (d : Int)).natAbs = z.natAbs / d := by
  rw [Int.natAbs_tdiv, Int.natAbs_natCast]; rfl

set_option maxRecDepth 100000 in
set_option maxHeartbeats 4000000 in
theorem rtimes_any (va vb : Value) (a b : Rat) (w : World) (ha : IsR w va a) (hb : IsR w vb b) (hla : (dig W64 a.num.natAbs).length ≤ 1000000) (hla2 : (dig W64 a.den).length ≤ 1000000)
    (hlb : (dig W64 b.num.natAbs).length ≤ 1000000) (hlb2 : (dig W64 b.den).length ≤ 1000000) (R : Ending → World → Prop)
    (hR : ∀ v' w', IsR w' v' (a * b) → Below w.heap.size w w' → R (.returned v') w') :
    Calls Tryz.prog 65 #[va, vb] w R := by
  have HR := Lib.hid hR; clear hR
  obtain ⟨na, a1, n1, c1, a2, n2, c2, hna, rfl, hn1, hn2⟩ := ha.parts
  obtain ⟨nb, a3, n3, c3, a4, n4, c4, hnb, rfl, hn3, hn4⟩ := hb.parts
  obtain ⟨L, hL⟩ : ∃ L, L = ((w.alloc (.cells #[.bool na, .slice a1 n1 c1, .slice a2 n2 c2] 85)).alloc (.cells #[.bool nb, .slice a3 n3 c3, .slice a4 n4 c4] 85)).alloc (.cells #[.bool false, .slice none 0 0, .slice none 0 0] 85) := ⟨_, rfl⟩
  have HEXT : Hid (Below w.heap.size w L) := Lib.hid (by rw [hL]; exact (((Below.refl w.heap.size w).alloc (Nat.le_refl _) _).alloc (by simp) _).alloc (by simp; omega) _)
  have hLs : L.heap.size = w.heap.size + 3 := by rw [hL]; simp
  have hb1 : Below (w.heap.size + 1) (w.alloc (.cells #[.bool na, .slice a1 n1 c1, .slice a2 n2 c2] 85)) L := by rw [hL]; exact ((Below.refl _ _).alloc (by simp) _).alloc (by simp) _
  have hb2 : Below (w.heap.size + 2) ((w.alloc (.cells #[.bool na, .slice a1 n1 c1, .slice a2 n2 c2] 85)).alloc (.cells #[.bool nb, .slice a3 n3 c3, .slice a4 n4 c4] 85)) L := by rw [hL]; exact (Below.refl _ _).alloc (by simp) _
  have B0 : Box3 L w.heap.size (.bool na) (.slice a1 n1 c1) (.slice a2 n2 c2) 85 := (Box3.made w _ _ _ _).later hb1 (by omega)
  have B1 : Box3 L (w.heap.size + 1) (.bool nb) (.slice a3 n3 c3) (.slice a4 n4 c4) 85 := by
    have := (Box3.made (w.alloc (.cells #[.bool na, .slice a1 n1 c1, .slice a2 n2 c2] 85)) (.bool nb) (.slice a3 n3 c3) (.slice a4 n4 c4) 85).later hb2 (by simp)
    rw [World.size_alloc] at this; exact this
  have B2 : Box3 L (w.heap.size + 1 + 1) (.bool false) (.slice none 0 0) (.slice none 0 0) 85 := by
    have := Box3.made ((w.alloc (.cells #[.bool na, .slice a1 n1 c1, .slice a2 n2 c2] 85)).alloc (.cells #[.bool nb, .slice a3 n3 c3, .slice a4 n4 c4] 85)) (.bool false) (.slice none 0 0) (.slice none 0 0) 85
    rw [World.size_alloc, World.size_alloc, ← hL] at this; exact this
  have HL := Lib.hid hL
  have HLS := Lib.hid hLs
  have HB2 := Lib.hid B2
  have X1 : Hid (IsI L (.agg #[.bool na, .slice a1 n1 c1]) a.num) := Lib.hid (IsI.mk hna (hn1.later HEXT.out (Nat.le_refl _)))
  have Y1 := Lib.hid (hn1.later HEXT.out (Nat.le_refl _))
  have X2 := Lib.hid (hn2.later HEXT.out (Nat.le_refl _))
  have X3 : Hid (IsI L (.agg #[.bool nb, .slice a3 n3 c3]) b.num) := Lib.hid (IsI.mk hnb (hn3.later HEXT.out (Nat.le_refl _)))
  have Y3 := Lib.hid (hn3.later HEXT.out (Nat.le_refl _))
  have X4 := Lib.hid (hn4.later HEXT.out (Nat.le_refl _))
  obtain ⟨g1, hg1⟩ : ∃ g, g = Nat.gcd a.num.natAbs b.den := ⟨_, rfl⟩
  obtain ⟨g2, hg2⟩ : ∃ g, g = Nat.gcd b.num.natAbs a.den := ⟨_, rfl⟩
  have HG1 := Lib.hid hg1
  have HG2 := Lib.hid hg2
  have k1 := gcd_le_den a.num.natAbs b.den b.den_nz
  have k2 := gcd_le_den b.num.natAbs a.den a.den_nz
  rw [← hg1] at k1
  rw [← hg2] at k2
  have HLN := Lib.hid (And.intro hla (And.intro hla2 (And.intro hlb hlb2)))
  have HGN : Hid (((dig W64 g1).length ≤ 1000000 ∧ (dig W64 g2).length ≤ 1000000) ∧ g1 ≠ 0 ∧ g2 ≠ 0) := Lib.hid ⟨⟨Nat.le_trans (dig_mono W64_two k1.1) hlb2, Nat.le_trans (dig_mono W64_two k2.1) hla2⟩, k1.2, k2.2⟩
  have HPN : Hid ((dig W64 (a.num.tdiv (g1 : Int)).natAbs).length ≤ 1000000 ∧ (dig W64 (b.num.tdiv (g2 : Int)).natAbs).length ≤ 1000000 ∧ (dig W64 (a.den / g2)).length ≤ 1000000 ∧ (dig W64 (b.den / g1)).length ≤ 1000000) := Lib.hid (by
    refine ⟨?_, ?_, Nat.le_trans (dig_mono W64_two (Nat.div_le_self _ _)) hla2, Nat.le_trans (dig_mono W64_two (Nat.div_le_self _ _)) hlb2⟩
    · rw [tdiv_abs]; exact Nat.le_trans (dig_mono W64_two (Nat.div_le_self _ _)) hla
    · rw [tdiv_abs]; exact Nat.le_trans (dig_mono W64_two (Nat.div_le_self _ _)) hlb)
  have HNUM : Hid (a.num.tdiv (g1 : Int) * b.num.tdiv (g2 : Int) = (a * b).num) := Lib.hid (by rw [rmul_num, hg1, hg2])
  have HDEN : Hid (a.den / g2 * (b.den / g1) = (a * b).den) := Lib.hid (by rw [rmul_den, hg1, hg2])
  have HSOF : Hid (∀ w', Below (w.heap.size + 2) L w' → (Below (w.heap.size + 2) L w' ∧ (w'.cell? ⟨w.heap.size, 0, none⟩ = some (.bool na) ∧ w'.cell? ⟨w.heap.size, 1, none⟩ = some (.slice a1 n1 c1) ∧ w'.cell? ⟨w.heap.size, 2, none⟩ = some (.slice a2 n2 c2)) ∧
      (w'.cell? ⟨w.heap.size + 1, 0, none⟩ = some (.bool nb) ∧ w'.cell? ⟨w.heap.size + 1, 1, none⟩ = some (.slice a3 n3 c3) ∧ w'.cell? ⟨w.heap.size + 1, 2, none⟩ = some (.slice a4 n4 c4)))) :=
    Lib.hid fun w' hb => ⟨hb, (B0.later hb (by omega)).cells.1, (B1.later hb (by omega)).cells.1⟩
  clear hna hnb ha hb hn1 hn2 hn3 hn4 hla hlb hla2 hlb2 hb1 hb2 B0 B1 B2 hL hLs hg1 hg2 k1 k2
  go_enter Tryz.func65, Tryz.ntmps65
  go_wp2_with fail
  rw [← HL.out]
  go_region_held3 (fun w' => Below (w.heap.size + 2) L w' ∧ (w'.cell? ⟨w.heap.size, 0, none⟩ = some (.bool na) ∧ w'.cell? ⟨w.heap.size, 1, none⟩ = some (.slice a1 n1 c1) ∧ w'.cell? ⟨w.heap.size, 2, none⟩ = some (.slice a2 n2 c2)) ∧
      (w'.cell? ⟨w.heap.size + 1, 0, none⟩ = some (.bool nb) ∧ w'.cell? ⟨w.heap.size + 1, 1, none⟩ = some (.slice a3 n3 c3) ∧ w'.cell? ⟨w.heap.size + 1, 2, none⟩ = some (.slice a4 n4 c4)))
    (first
      | exact HSOF.out _ HQ2.out
      | exact HSOF.out _ HQ1.out
      | exact HSOF.out _ (Below.refl _ _).drew)
    (first
      | (have hguard := HQ1; go_at_call 81; refine gcdn_any _ _ b.num.natAbs a.den _ (Y3.out.later HT1.out (Nat.le_refl _)) (X2.out.later HT1.out (Nat.le_refl _)) (Nat.le_trans HLN.out.2.2.1 (by omega)) (Nat.le_trans HLN.out.2.1 (by omega)) _ ?_; rw [← HG2.out]; intro v2 w2 hv2 hb2; obtain ⟨p2, q2, r2, rfl, hv2'⟩ := hv2.op; have HV2 := Lib.hid hv2'; have HV1' := Lib.hid (HV1.out.later hb2 (Nat.le_refl _)); have HT2 := Lib.hid (HT1.out.trans (hb2.mono HT1.out.size)); have HQ2 : Hid (Below (w.heap.size + 2) L w2) := Lib.hid (HT2.out.mono (by have := HLS.out; omega)); clear hguard hv2 hv2' hb2; dsimp only)
      | (go_at_call 81; refine gcdn_any _ _ a.num.natAbs b.den _ (Y1.out.later (Below.refl _ _).drew (Nat.le_refl _)) (X4.out.later (Below.refl _ _).drew (Nat.le_refl _)) (Nat.le_trans HLN.out.1 (by omega)) (Nat.le_trans HLN.out.2.2.2 (by omega)) _ ?_; rw [← HG1.out]; intro v1 w1 hv1 hb1; obtain ⟨p1, q1, r1, rfl, hv1'⟩ := hv1.op; have HV1 := Lib.hid hv1'; have HT1 : Hid (Below L.heap.size L w1) := Lib.hid (below_unDrew hb1); have HQ1 : Hid (Below (w.heap.size + 2) L w1) := Lib.hid (HT1.out.mono (by have := HLS.out; omega)); clear hv1 hv1' hb1; dsimp only))
  all_goals
    have HS2 : Hid (∀ w', Below w2.heap.size w2 w' → (Below (w.heap.size + 2) L w' ∧ (w'.cell? ⟨w.heap.size, 0, none⟩ = some (.bool na) ∧ w'.cell? ⟨w.heap.size, 1, none⟩ = some (.slice a1 n1 c1) ∧ w'.cell? ⟨w.heap.size, 2, none⟩ = some (.slice a2 n2 c2)) ∧
        (w'.cell? ⟨w.heap.size + 1, 0, none⟩ = some (.bool nb) ∧ w'.cell? ⟨w.heap.size + 1, 1, none⟩ = some (.slice a3 n3 c3) ∧ w'.cell? ⟨w.heap.size + 1, 2, none⟩ = some (.slice a4 n4 c4)))) :=
      Lib.hid fun w' hb => HSOF.out w' ((HT2.out.trans (hb.mono HT2.out.size)).mono (by have := HLS.out; omega))
    have Z1 := Lib.hid (X1.out.later HT2.out (Nat.le_refl _))
    have Z2 := Lib.hid (X2.out.later HT2.out (Nat.le_refl _))
    have Z3 := Lib.hid (X3.out.later HT2.out (Nat.le_refl _))
    have Z4 := Lib.hid (X4.out.later HT2.out (Nat.le_refl _))
    go_wp2_with fail
    go_region_held3 (fun w' => Below (w.heap.size + 2) L w' ∧ (w'.cell? ⟨w.heap.size, 0, none⟩ = some (.bool na) ∧ w'.cell? ⟨w.heap.size, 1, none⟩ = some (.slice a1 n1 c1) ∧ w'.cell? ⟨w.heap.size, 2, none⟩ = some (.slice a2 n2 c2)) ∧
        (w'.cell? ⟨w.heap.size + 1, 0, none⟩ = some (.bool nb) ∧ w'.cell? ⟨w.heap.size + 1, 1, none⟩ = some (.slice a3 n3 c3) ∧ w'.cell? ⟨w.heap.size + 1, 2, none⟩ = some (.slice a4 n4 c4)))
      (first
        | exact HS2.out _ HW8.out
        | exact HS2.out _ HW7.out
        | exact HS2.out _ HW6.out
        | exact HS2.out _ HW5.out
        | exact HS2.out _ HW4.out
        | exact HS2.out _ HW3.out
        | exact HS2.out _ (Below.refl _ _).drew
        | exact HSOF.out _ (((HQ8.out.setCell (by simp) _).setCell (by simp) _).setCell (by simp) _))
      (first
        | (have hguard := HW7; go_at_call 119; refine ntimes_any _ _ (a.den / g2) (b.den / g1) _ (HV6.out.later HB7.out (Nat.le_refl _)) HV7.out (Nat.le_trans HPN.out.2.2.1 (by omega)) (Nat.le_trans HPN.out.2.2.2 (by omega)) _ ?_; rw [HDEN.out]; intro v8 w8 hv8 hb8; obtain ⟨p8, q8, r8, rfl, hv8'⟩ := hv8.op; have HV8 := Lib.hid hv8'; have HV5' := Lib.hid (HV5.out.later (HB67.out.trans (hb8.mono HB67.out.size)) (Nat.le_refl _)); have HW8 := Lib.hid (HW7.out.trans (hb8.mono HW7.out.size)); have HT8 := Lib.hid (HT2.out.trans (HW8.out.mono HT2.out.size)); have HQ8 : Hid (Below (w.heap.size + 2) L w8) := Lib.hid (HT8.out.mono (by have := HLS.out; omega)); have d8 := HB2.out.later HT8.out (by have := HLS.out; omega); obtain ⟨⟨hR0, hR1, hR2⟩, hF0, hF1, hF2⟩ := d8.cells; have HD8 := Lib.hid d8; clear hguard hv8 hv8' hb8 d8; dsimp only)
        | (have hguard := HW6; go_at_call 115; refine nover_any _ _ b.den g1 _ (Z4.out.later HW6.out (Nat.le_refl _)) (HV1'.out.later HW6.out (Nat.le_refl _)) (Nat.le_trans HLN.out.2.2.2 (by omega)) (Nat.le_trans HGN.out.1.1 (by omega)) HGN.out.2.1 _ ?_; intro v7 w7 hv7 hb7; obtain ⟨p7, q7, r7, rfl, hv7'⟩ := hv7.op; have HV7 := Lib.hid hv7'; have HB7 := Lib.hid hb7; have HB67 := Lib.hid (HB6.out.trans (hb7.mono HB6.out.size)); have HW7 := Lib.hid (HW6.out.trans (hb7.mono HW6.out.size)); clear hguard hv7 hv7' hb7; dsimp only)
        | (have hguard := HW5; go_at_call 115; refine nover_any _ _ a.den g2 _ (Z2.out.later HW5.out (Nat.le_refl _)) (HV2.out.later HW5.out (Nat.le_refl _)) (Nat.le_trans HLN.out.2.1 (by omega)) (Nat.le_trans HGN.out.1.2 (by omega)) HGN.out.2.2 _ ?_; intro v6 w6 hv6 hb6; obtain ⟨p6, q6, r6, rfl, hv6'⟩ := hv6.op; have HV6 := Lib.hid hv6'; have HB6 := Lib.hid hb6; have HW6 := Lib.hid (HW5.out.trans (hb6.mono HW5.out.size)); clear hguard hv6 hv6' hb6; dsimp only)
        | (have hguard := HW4; go_at_call 120; refine itimes_any _ _ (a.num.tdiv (g1 : Int)) (b.num.tdiv (g2 : Int)) _ (HV3.out.later HB4.out (Nat.le_refl _)) HV4.out (Nat.le_trans HPN.out.1 (by omega)) (Nat.le_trans HPN.out.2.1 (by omega)) _ ?_; rw [HNUM.out]; intro v5 w5 hv5 hb5; obtain ⟨m5, p5, q5, r5, hm5, rfl, hv5'⟩ := hv5.parts; have HM5 := Lib.hid hm5; have HV5 := Lib.hid hv5'; have HW5 := Lib.hid (HW4.out.trans (hb5.mono HW4.out.size)); clear hguard hv5 hv5' hm5 hb5; dsimp only)
        | (have hguard := HW3; go_at_call 118; refine iover_any _ _ b.num g2 _ (Z3.out.later HW3.out (Nat.le_refl _)) (HV2.out.later HW3.out (Nat.le_refl _)) (Nat.le_trans HLN.out.2.2.1 (by omega)) (Nat.le_trans HGN.out.1.2 (by omega)) HGN.out.2.2 _ ?_; intro v4 w4 hv4 hb4; obtain ⟨m4, p4, q4, r4, hm4, rfl, hv4'⟩ := hv4.parts; have HV4 := Lib.hid (IsI.mk hm4 hv4'); have HB4 := Lib.hid hb4; have HW4 := Lib.hid (HW3.out.trans (hb4.mono HW3.out.size)); clear hguard hv4 hv4' hm4 hb4; dsimp only)
        | (go_at_call 118; refine iover_any _ _ a.num g1 _ (Z1.out.later (Below.refl _ _).drew (Nat.le_refl _)) (HV1'.out.later (Below.refl _ _).drew (Nat.le_refl _)) (Nat.le_trans HLN.out.1 (by omega)) (Nat.le_trans HGN.out.1.1 (by omega)) HGN.out.2.1 _ ?_; intro v3 w3 hv3 hb3; obtain ⟨m3, p3, q3, r3, hm3, rfl, hv3'⟩ := hv3.parts; have HV3 := Lib.hid (IsI.mk hm3 hv3'); have HW3 : Hid (Below w2.heap.size w2 w3) := Lib.hid (below_unDrew hb3); clear hv3 hv3' hm3 hb3; dsimp only))
    all_goals
      go_wp2
      refine bodyPost_ret_at (by simp [results, Tryz.results65, go_sem, hR0, hR1, hR2, hF0, hF1, hF2] <;> rfl) rfl ?_
      have hq : IsR w8 (.agg #[.bool m5, .slice p5 q5 r5, .slice p8 q8 r8]) (a * b) := ⟨_, _, by rw [HM5.out], HV5'.out, HV8.out⟩
      refine HR.out _ _ (IsR.set3 hq (HD8.out.noInt rfl rfl rfl) _ _ _ rfl rfl) ?_
      exact (((HEXT.out.trans (HT8.out.mono HEXT.out.size)).setCell (show w.heap.size ≤ w.heap.size + 1 + 1 by omega) _).setCell (show w.heap.size ≤ w.heap.size + 1 + 1 by omega) _).setCell (show w.heap.size ≤ w.heap.size + 1 + 1 by omega) _
end Go.Proofs.YtdkjcdfkoahfkaaGreatDoor

namespace Go.Proofs.YtdkjcdfkoahfkaaGreatDoor
open Go Go.RowKit

theorem sgn_same {a b : Int} (h : decide (a < 0) = decide (b < 0)) : sgn (decide (a < 0)) (a.natAbs + b.natAbs) = a + b := by
  have h' : a < 0 ↔ b < 0 := decide_eq_decide.1 h
  unfold sgn
  by_cases ha : a < 0
  · rw [decide_eq_true ha, if_pos rfl]; have := h'.1 ha; omega
  · rw [decide_eq_false ha, if_neg (by decide)]; have : ¬ b < 0 := fun hb => ha (h'.2 hb); omega
theorem sgn_diff {a b : Int} (h : decide (a < 0) ≠ decide (b < 0)) (hl : ¬ a.natAbs < b.natAbs) : sgn (decide (a < 0)) (a.natAbs - b.natAbs) = a + b := by
  have h' : ¬ (a < 0 ↔ b < 0) := fun e => h (decide_eq_decide.2 e)
  unfold sgn
  by_cases ha : a < 0
  · rw [decide_eq_true ha, if_pos rfl]; have : ¬ b < 0 := fun hb => h' ⟨fun _ => hb, fun _ => ha⟩; omega
  · rw [decide_eq_false ha, if_neg (by decide)]; have : b < 0 := by by_cases hb : b < 0; exact hb; exact absurd ⟨fun x => absurd x ha, fun x => absurd x hb⟩ h'
    omega

theorem cmpN_neg {x y : Nat} (h : cmpN x y < 0) : x < y := by
  unfold cmpN at h
  split at h
  · assumption
  · split at h <;> omega

set_option maxRecDepth 100000 in
set_option maxHeartbeats 4000000 in
theorem iplus_any (va vb : Value) (a b : Int) (w : World) (ha : IsI w va a) (hb : IsI w vb b) (hla : (dig W64 a.natAbs).length ≤ 10000000) (hlb : (dig W64 b.natAbs).length ≤ 10000000) (R : Ending → World → Prop)
    (hR : ∀ v' w', IsI w' v' (a + b) → Below w.heap.size w w' → R (.returned v') w') :
    Calls Tryz.prog 117 #[va, vb] w R := by
  have HR := Lib.hid hR; clear hR
  obtain ⟨ng, a1, n1, c1, hng, rfl, hn1⟩ := ha.parts
  obtain ⟨mg, a2, n2, c2, hmg, rfl, hn2⟩ := hb.parts
  have HNG := Lib.hid hng
  have HMG := Lib.hid hmg
  obtain ⟨L, hL⟩ : ∃ L, L = ((w.alloc (.cells #[.bool ng, .slice a1 n1 c1] 83)).alloc (.cells #[.bool mg, .slice a2 n2 c2] 83)).alloc (.cells #[.bool false, .slice none 0 0] 83) := ⟨_, rfl⟩
  have HEXT : Hid (Below w.heap.size w L) := Lib.hid (by rw [hL]; exact (((Below.refl w.heap.size w).alloc (Nat.le_refl _) _).alloc (by simp) _).alloc (by simp; omega) _)
  have hLs : L.heap.size = w.heap.size + 3 := by rw [hL]; simp
  have B0 : Hid (Box2 L w.heap.size (.bool ng) (.slice a1 n1 c1) 83) := Lib.hid (by rw [hL]; exact ((Box2.made w _ _ _).alloc _).alloc _)
  have B1 : Hid (Box2 L (w.heap.size + 1) (.bool mg) (.slice a2 n2 c2) 83) := Lib.hid (by
    have := (Box2.made (w.alloc (.cells #[.bool ng, .slice a1 n1 c1] 83)) (.bool mg) (.slice a2 n2 c2) 83).alloc (.cells #[.bool false, .slice none 0 0] 83)
    rw [World.size_alloc, ← hL] at this; exact this)
  have B2 : Hid (Box2 L (w.heap.size + 1 + 1) (.bool false) (.slice none 0 0) 83) := Lib.hid (by
    have := Box2.made ((w.alloc (.cells #[.bool ng, .slice a1 n1 c1] 83)).alloc (.cells #[.bool mg, .slice a2 n2 c2] 83)) (.bool false) (.slice none 0 0) 83
    rw [World.size_alloc, World.size_alloc, ← hL] at this; exact this)
  have HK : Hid (w.heap.size + 2 < L.heap.size) := Lib.hid (by omega)
  have HL := Lib.hid hL
  have Y1 := Lib.hid (hn1.later HEXT.out (Nat.le_refl _))
  have Y2 := Lib.hid (hn2.later HEXT.out (Nat.le_refl _))
  have HLN := Lib.hid (And.intro hla hlb)
  obtain ⟨hA, hB, _, _⟩ := B0.out.cells
  obtain ⟨hC, hD, _, _⟩ := B1.out.cells
  rw [hL] at hA hB hC hD
  clear hng hmg ha hb hn1 hn2 hla hlb hL hLs
  by_cases hsame : ng = mg
  · have e0 : (ng == mg) = true := by simp [hsame]
    have HSG : Hid (sgn ng (a.natAbs + b.natAbs) = a + b) := Lib.hid (by rw [HNG.out]; exact sgn_same (by rw [← HNG.out, ← HMG.out]; exact hsame))
    clear hsame
    go_enter Tryz.func117, Tryz.ntmps117
    go_wp2_with fail
    rw [← HL.out]
    clear hA hB hC hD e0
    have HSOF : Hid (∀ w', Below (w.heap.size + 2) L w' → (Below (w.heap.size + 2) L w' ∧ (w'.cell? ⟨w.heap.size, 0, none⟩ = some (.bool ng) ∧ w'.cell? ⟨w.heap.size, 1, none⟩ = some (.slice a1 n1 c1)) ∧ (w'.cell? ⟨w.heap.size + 1, 0, none⟩ = some (.bool mg) ∧ w'.cell? ⟨w.heap.size + 1, 1, none⟩ = some (.slice a2 n2 c2)))) :=
      Lib.hid fun w' hb => ⟨hb, ⟨(B0.out.later hb (by omega)).cells.1, (B0.out.later hb (by omega)).cells.2.1⟩, ⟨(B1.out.later hb (by omega)).cells.1, (B1.out.later hb (by omega)).cells.2.1⟩⟩
    go_region_held3 (fun w' => Below (w.heap.size + 2) L w' ∧ (w'.cell? ⟨w.heap.size, 0, none⟩ = some (.bool ng) ∧ w'.cell? ⟨w.heap.size, 1, none⟩ = some (.slice a1 n1 c1)) ∧ (w'.cell? ⟨w.heap.size + 1, 0, none⟩ = some (.bool mg) ∧ w'.cell? ⟨w.heap.size + 1, 1, none⟩ = some (.slice a2 n2 c2)))
      (first
        | exact HSOF.out _ HQ2.out
        | exact HSOF.out _ HQ1.out
        | exact HSOF.out _ (Below.refl _ _).drew
        | exact HSOF.out _ ((HQ2.out.setCell (by simp) _).setCell (by simp) _))
      (first
        | (go_at_call 80; refine integerOf_z ng v1 (a.natAbs + b.natAbs) _ HV1.out _ ?_; intro v2 w2 hv2 hb2; rw [HSG.out] at hv2; obtain ⟨m2, a5, m5, c5, hm2, rfl, hn5⟩ := hv2.parts; have HV5 := Lib.hid hn5; have HM2 := Lib.hid hm2; have HT2 := Lib.hid (HT1.out.trans (hb2.mono HT1.out.size)); have HQ2 := Lib.hid (HT2.out.mono (Nat.le_of_lt HK.out)); have d2 := B2.out.later HT2.out HK.out; obtain ⟨hR0, hR1, hR2, hR3⟩ := d2.cells; have HD2 := Lib.hid d2; clear hv2 hb2 d2 hn5 hm2; dsimp only)
        | (go_at_call 137; refine nplus_any _ _ a.natAbs b.natAbs _ (Y1.out.later (Below.refl _ _).drew (Nat.le_refl _)) (Y2.out.later (Below.refl _ _).drew (Nat.le_refl _)) (Nat.le_trans HLN.out.1 (by omega)) (Nat.le_trans HLN.out.2 (by omega)) _ ?_; intro v1 w8 hv1 hb1; have HV1 := Lib.hid hv1; have HT1 : Hid (Below L.heap.size L w8) := Lib.hid (below_unDrew hb1); have HQ1 := Lib.hid (HT1.out.mono (Nat.le_of_lt HK.out)); clear hv1 hb1; dsimp only))
    all_goals
      go_wp2
      refine bodyPost_ret_at (by simp [results, Tryz.results117, go_sem, hR0, hR1, hR2, hR3] <;> rfl) rfl ?_
      refine HR.out _ _ (IsI.mk HM2.out (HV5.out.set2 (HD2.out.noInt rfl rfl) _ _ rfl)) ((((HEXT.out.trans (HT2.out.mono HEXT.out.size)).setCell (show w.heap.size ≤ w.heap.size + 1 + 1 by omega) _).setCell (show w.heap.size ≤ w.heap.size + 1 + 1 by omega) _))
  · have e0 : (ng == mg) = false := by simp [hsame]
    have HDF : Hid (decide (a < 0) ≠ decide (b < 0)) := Lib.hid (by rw [← HNG.out, ← HMG.out]; exact hsame)
    clear hsame
    go_enter Tryz.func117, Tryz.ntmps117
    go_wp2_with fail
    rw [← HL.out]
    refine ncmp_any _ _ a.natAbs b.natAbs _ Y1.out Y2.out (Nat.le_trans HLN.out.1 (by omega)) (Nat.le_trans HLN.out.2 (by omega)) _ ?_
    intro w1 hb1 hs1
    have hB0 := B0.out.later hb1 (by have := HK.out; omega)
    have hB1 := B1.out.later hb1 (by have := HK.out; omega)
    have hB2 := B2.out.later hb1 HK.out
    have hY1 := Y1.out.later hb1 (Nat.le_refl _)
    have hY2 := Y2.out.later hb1 (Nat.le_refl _)
    have hEX := HEXT.out.trans (hb1.mono HEXT.out.size)
    have hK1 : w.heap.size + 2 < w1.heap.size := by have := HK.out; omega
    obtain ⟨r, hr⟩ : ∃ r, r = cmpN a.natAbs b.natAbs := ⟨_, rfl⟩
    rw [← hr]
    clear hA hB hC hD B0 B1 B2 Y1 Y2 HEXT HK e0 hb1 hs1 HL
    obtain ⟨hA, hB, hF0, hF1⟩ := hB0.cells
    obtain ⟨hC, hD, hF2, hF3⟩ := hB1.cells
    by_cases hlt : a.natAbs < b.natAbs
    · have hr0 : r < 0 := by rw [hr, cmpN_lt hlt]; omega
      have HSG : Hid (sgn mg (b.natAbs - a.natAbs) = a + b) := Lib.hid (by rw [HMG.out, Int.add_comm]; exact sgn_diff (fun e => HDF.out e.symm) (by omega))
      have HLE : Hid (a.natAbs ≤ b.natAbs) := Lib.hid (by omega)
      obtain ⟨X, hX⟩ : ∃ X, X = (((w1.setCell ⟨w.heap.size, 0, none⟩ (.bool mg)).setCell ⟨w.heap.size, 1, none⟩ (.slice a2 n2 c2)).setCell ⟨w.heap.size + 1, 0, none⟩ (.bool ng)).setCell ⟨w.heap.size + 1, 1, none⟩ (.slice a1 n1 c1) := ⟨_, rfl⟩
      have N0 := hB0.noInt rfl rfl
      have N1 := hB1.noInt rfl rfl
      have B0 : Hid (Box2 X w.heap.size (.bool mg) (.slice a2 n2 c2) 83) := Lib.hid (by rw [hX]; exact ((hB0.set01 _ _).setOther (by omega) _ _).setOther (by omega) _ _)
      have B1 : Hid (Box2 X (w.heap.size + 1) (.bool ng) (.slice a1 n1 c1) 83) := Lib.hid (by rw [hX]; exact Box2.set01 ((hB1.setOther (by omega) _ _).setOther (by omega) _ _) _ _)
      have B2 : Hid (Box2 X (w.heap.size + 1 + 1) (.bool false) (.slice none 0 0) 83) := Lib.hid (by rw [hX]; exact (((hB2.setOther (by omega) _ _).setOther (by omega) _ _).setOther (by omega) _ _).setOther (by omega) _ _)
      have Y1 : Hid (IsN X (.slice a2 n2 c2) b.natAbs) := Lib.hid (by rw [hX]; exact (hY2.set2 N0 _ _ rfl).set2 ((N1.set _ _ rfl).set _ _ rfl) _ _ rfl)
      have Y2 : Hid (IsN X (.slice a1 n1 c1) a.natAbs) := Lib.hid (by rw [hX]; exact (hY1.set2 N0 _ _ rfl).set2 ((N1.set _ _ rfl).set _ _ rfl) _ _ rfl)
      have HEXT : Hid (Below w.heap.size w X) := Lib.hid (by rw [hX]; exact (((hEX.setCell (Nat.le_refl _) _).setCell (Nat.le_refl _) _).setCell (show w.heap.size ≤ w.heap.size + 1 by omega) _).setCell (show w.heap.size ≤ w.heap.size + 1 by omega) _)
      have HK : Hid (w.heap.size + 2 < X.heap.size) := Lib.hid (by rw [hX]; simp only [heap_size_set]; exact hK1)
      have HX := Lib.hid hX
      clear hlt hr hX N0 N1 hB0 hB1 hB2 hY1 hY2 hEX hK1
      dsimp only
      go_wp2_with fail
      rw [← HX.out]
      clear hA hB hC hD hF0 hF1 hF2 hF3 hr0
      have HSOF : Hid (∀ w', Below (w.heap.size + 2) X w' → (Below (w.heap.size + 2) X w' ∧ (w'.cell? ⟨w.heap.size, 0, none⟩ = some (.bool mg) ∧ w'.cell? ⟨w.heap.size, 1, none⟩ = some (.slice a2 n2 c2)) ∧ (w'.cell? ⟨w.heap.size + 1, 0, none⟩ = some (.bool ng) ∧ w'.cell? ⟨w.heap.size + 1, 1, none⟩ = some (.slice a1 n1 c1)))) :=
        Lib.hid fun w' hb => ⟨hb, ⟨(B0.out.later hb (by omega)).cells.1, (B0.out.later hb (by omega)).cells.2.1⟩, ⟨(B1.out.later hb (by omega)).cells.1, (B1.out.later hb (by omega)).cells.2.1⟩⟩
      go_region_held3 (fun w' => Below (w.heap.size + 2) X w' ∧ (w'.cell? ⟨w.heap.size, 0, none⟩ = some (.bool mg) ∧ w'.cell? ⟨w.heap.size, 1, none⟩ = some (.slice a2 n2 c2)) ∧ (w'.cell? ⟨w.heap.size + 1, 0, none⟩ = some (.bool ng) ∧ w'.cell? ⟨w.heap.size + 1, 1, none⟩ = some (.slice a1 n1 c1)))
        (first
          | exact HSOF.out _ HQ2.out
          | exact HSOF.out _ HQ1.out
          | exact HSOF.out _ (Below.refl _ _).drew
          | exact HSOF.out _ ((HQ2.out.setCell (by simp) _).setCell (by simp) _))
        (first
          | (go_at_call 80; refine integerOf_z mg v1 (b.natAbs - a.natAbs) _ HV1.out _ ?_; intro v2 w2 hv2 hb2; rw [HSG.out] at hv2; obtain ⟨m2, a5, m5, c5, hm2, rfl, hn5⟩ := hv2.parts; have HV5 := Lib.hid hn5; have HM2 := Lib.hid hm2; have HT2 := Lib.hid (HT1.out.trans (hb2.mono HT1.out.size)); have HQ2 := Lib.hid (HT2.out.mono (Nat.le_of_lt HK.out)); have d2 := B2.out.later HT2.out HK.out; obtain ⟨hR0, hR1, hR2, hR3⟩ := d2.cells; have HD2 := Lib.hid d2; clear hv2 hb2 d2 hn5 hm2; dsimp only)
          | (go_at_call 177; refine minus_any _ _ b.natAbs a.natAbs _ (Y1.out.later (Below.refl _ _).drew (Nat.le_refl _)) (Y2.out.later (Below.refl _ _).drew (Nat.le_refl _)) HLE.out (Nat.le_trans HLN.out.2 (by omega)) _ ?_; intro v1 w8 hv1 hb1; have HV1 := Lib.hid hv1; have HT1 : Hid (Below X.heap.size X w8) := Lib.hid (below_unDrew hb1); have HQ1 := Lib.hid (HT1.out.mono (Nat.le_of_lt HK.out)); clear hv1 hb1; dsimp only))
      all_goals
        go_wp2
        refine bodyPost_ret_at (by simp [results, Tryz.results117, go_sem, hR0, hR1, hR2, hR3] <;> rfl) rfl ?_
        refine HR.out _ _ (IsI.mk HM2.out (HV5.out.set2 (HD2.out.noInt rfl rfl) _ _ rfl)) ((((HEXT.out.trans (HT2.out.mono HEXT.out.size)).setCell (show w.heap.size ≤ w.heap.size + 1 + 1 by omega) _).setCell (show w.heap.size ≤ w.heap.size + 1 + 1 by omega) _))
    · have hr0 : ¬ r < 0 := by rw [hr]; intro h9; exact hlt (cmpN_neg h9)
      have HSG : Hid (sgn ng (a.natAbs - b.natAbs) = a + b) := Lib.hid (by rw [HNG.out]; exact sgn_diff HDF.out hlt)
      have HLE : Hid (b.natAbs ≤ a.natAbs) := Lib.hid (by omega)
      have B0 := Lib.hid hB0
      have B1 := Lib.hid hB1
      have B2 := Lib.hid hB2
      have Y1 := Lib.hid hY1
      have Y2 := Lib.hid hY2
      have HEXT := Lib.hid hEX
      have HK := Lib.hid hK1
      clear hlt hr hB0 hB1 hB2 hY1 hY2 hEX hK1
      dsimp only
      go_wp2_with fail
      clear hA hB hC hD hF0 hF1 hF2 hF3 hr0
      have HSOF : Hid (∀ w', Below (w.heap.size + 2) w1 w' → (Below (w.heap.size + 2) w1 w' ∧ (w'.cell? ⟨w.heap.size, 0, none⟩ = some (.bool ng) ∧ w'.cell? ⟨w.heap.size, 1, none⟩ = some (.slice a1 n1 c1)) ∧ (w'.cell? ⟨w.heap.size + 1, 0, none⟩ = some (.bool mg) ∧ w'.cell? ⟨w.heap.size + 1, 1, none⟩ = some (.slice a2 n2 c2)))) :=
        Lib.hid fun w' hb => ⟨hb, ⟨(B0.out.later hb (by omega)).cells.1, (B0.out.later hb (by omega)).cells.2.1⟩, ⟨(B1.out.later hb (by omega)).cells.1, (B1.out.later hb (by omega)).cells.2.1⟩⟩
      go_region_held3 (fun w' => Below (w.heap.size + 2) w1 w' ∧ (w'.cell? ⟨w.heap.size, 0, none⟩ = some (.bool ng) ∧ w'.cell? ⟨w.heap.size, 1, none⟩ = some (.slice a1 n1 c1)) ∧ (w'.cell? ⟨w.heap.size + 1, 0, none⟩ = some (.bool mg) ∧ w'.cell? ⟨w.heap.size + 1, 1, none⟩ = some (.slice a2 n2 c2)))
        (first
          | exact HSOF.out _ HQ2.out
          | exact HSOF.out _ HQ1.out
          | exact HSOF.out _ (Below.refl _ _).drew
          | exact HSOF.out _ ((HQ2.out.setCell (by simp) _).setCell (by simp) _))
        (first
          | (go_at_call 80; refine integerOf_z ng v1 (a.natAbs - b.natAbs) _ HV1.out _ ?_; intro v2 w2 hv2 hb2; rw [HSG.out] at hv2; obtain ⟨m2, a5, m5, c5, hm2, rfl, hn5⟩ := hv2.parts; have HV5 := Lib.hid hn5; have HM2 := Lib.hid hm2; have HT2 := Lib.hid (HT1.out.trans (hb2.mono HT1.out.size)); have HQ2 := Lib.hid (HT2.out.mono (Nat.le_of_lt HK.out)); have d2 := B2.out.later HT2.out HK.out; obtain ⟨hR0, hR1, hR2, hR3⟩ := d2.cells; have HD2 := Lib.hid d2; clear hv2 hb2 d2 hn5 hm2; dsimp only)
          | (go_at_call 177; refine minus_any _ _ a.natAbs b.natAbs _ (Y1.out.later (Below.refl _ _).drew (Nat.le_refl _)) (Y2.out.later (Below.refl _ _).drew (Nat.le_refl _)) HLE.out (Nat.le_trans HLN.out.1 (by omega)) _ ?_; intro v1 w8 hv1 hb1; have HV1 := Lib.hid hv1; have HT1 : Hid (Below w1.heap.size w1 w8) := Lib.hid (below_unDrew hb1); have HQ1 := Lib.hid (HT1.out.mono (Nat.le_of_lt HK.out)); clear hv1 hb1; dsimp only))
      all_goals
        go_wp2
        refine bodyPost_ret_at (by simp [results, Tryz.results117, go_sem, hR0, hR1, hR2, hR3] <;> rfl) rfl ?_
        refine HR.out _ _ (IsI.mk HM2.out (HV5.out.set2 (HD2.out.noInt rfl rfl) _ _ rfl)) ((((HEXT.out.trans (HT2.out.mono HEXT.out.size)).setCell (show w.heap.size ≤ w.heap.size + 1 + 1 by omega) _).setCell (show w.heap.size ≤ w.heap.size + 1 + 1 by omega) _))
end Go.Proofs.YtdkjcdfkoahfkaaGreatDoor
