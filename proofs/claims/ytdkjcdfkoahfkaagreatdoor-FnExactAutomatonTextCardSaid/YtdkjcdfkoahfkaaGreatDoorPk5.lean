/- Contracts of functions of the program and of the model: TakeMW, DivN, NCmp, DivNW, ZRead, DigN, TimesN, DivNB, Bits, Decid, GcdS, GcdN. -/
import Derived.Test.YtdkjcdfkoahfkaaGreatDoorPk4
set_option linter.all false
set_option linter.unusedVariables false
set_option linter.unusedSimpArgs false
set_option linter.unnecessarySimpa false
set_option linter.deprecated false
namespace Go.Proofs.YtdkjcdfkoahfkaaGreatDoor
open Go Go.RowKit

/-- the guess -/
theorem guess_ok (rs ds : List Nat) (off n : Nat) (hn : 1 ≤ n) (hds : ds.length = n) (hw : off + n + 1 ≤ rs.length) (hr : ∀ d ∈ rs, d < W64) (hd0 : 0 < ds.getD (n - 1) 0) :
    win rs off n / val W64 ds ≤ (rs.getD (off + n) 0 * W64 + rs.getD (off + n - 1) 0) / ds.getD (n - 1) 0 := by
  have h1 := win_top rs off n hn hw hr
  have h2 := top_le ds (n - 1) (by omega)
  exact knuth_ge W64 (W64 ^ (n - 1)) _ _ _ _ _ h1 h2 hd0

theorem add_parts (x c s m : Nat) (hx : x < W64) (hc : c < W64) (hs : s = (x + c) % W64) (hm : m = (x + c) / W64) : s + W64 * m = x + c ∧ m ≤ 1 ∧ s < W64 := by
  rw [W64_eq] at *
  omega

theorem div64_quiet (hi lo y : Nat) (w : World) (hlo : lo < W64) (hy : y < W64) (hlt : hi < y) (q r : Nat) (hq : q = (hi * W64 + lo) / y) (hr : r = (hi * W64 + lo) % y) :
    Calls Tryz.prog 199 #[.int .u64 ((hi : Nat) : Int), .int .u64 ((lo : Nat) : Int), .int .u64 ((y : Nat) : Int)] w fun e w' => e = .returned (.tuple #[.int .u64 ((q : Nat) : Int), .int .u64 ((r : Nat) : Int)]) ∧ ∃ m, w' = w.drewN m :=
  div64_any hi lo y w hlo hy hlt q r hq hr _ fun n => ⟨rfl, n, rfl⟩

set_option maxRecDepth 100000 in
set_option maxHeartbeats 2000000 in
theorem takem_any (g off n cap : Nat) (rs ds : List Nat) (ao : Option Addr) (capd : Nat) (w : World) (hA : Arr .u64 99 w g rs) (hd : Sl .u64 w (.slice ao n capd) ds) (hne : 0 < ds.length → blk (.slice ao n capd) ≠ some g)
    (hn : 1 ≤ n) (hds : ds.length = n) (hw : off + n + 1 ≤ rs.length) (hrs : ∀ d ∈ rs, d < W64) (hdl : ∀ d ∈ ds, d < W64) (hlen : rs.length ≤ 1000000000) (hd0 : 0 < ds.getD (n - 1) 0)
    (q : Nat) (hq : q = win rs off n / val W64 ds) (hqw : q < W64) (R : Ending → World → Prop)
    (hR : ∀ cur w', Arr .u64 99 w' g cur → cur.length = rs.length → (∀ d ∈ cur, d < W64) → cur.take off = rs.take off → cur.drop (off + n + 1) = rs.drop (off + n + 1) →
      val W64 cur + W64 ^ off * (q * val W64 ds) = val W64 rs → But g w w' → w'.heap.size = w.heap.size → R (.returned (.int .u64 ((q : Nat) : Int))) w') :
    Calls Tryz.prog 194 #[.slice (some ⟨g, off, none⟩) (n + 1) cap, .slice ao n capd] w R := by
  have HR := Lib.hid hR; clear hR
  obtain ⟨k, rfl⟩ : ∃ k, n = k + 1 := ⟨n - 1, by omega⟩
  rw [Nat.add_sub_cancel] at hd0
  have hDpos : 0 < val W64 ds := by
    have := top_le ds k hds
    have h2 := Nat.mul_pos hd0 (pow_pos' k)
    omega
  have hgu := guess_ok rs ds off (k + 1) hn hds hw hrs (by rw [Nat.add_sub_cancel]; exact hd0)
  rw [← hq, Nat.add_sub_cancel, show off + (k + 1) - 1 = off + k by omega] at hgu
  obtain ⟨b, o, rfl, hb1, hc1⟩ := Sl.at hd k (by omega)
  have hbg : b ≠ g := fun e => hne (by omega) (by rw [e]; rfl)
  obtain ⟨d, hde⟩ : ∃ d, d = ds.getD k 0 := ⟨_, rfl⟩
  obtain ⟨x, hx⟩ : ∃ x, x = rs.getD (off + (k + 1)) 0 := ⟨_, rfl⟩
  obtain ⟨y, hy⟩ : ∃ y, y = rs.getD (off + k) 0 := ⟨_, rfl⟩
  have hc2 := hA.cell (off + (k + 1)) (by omega)
  have hc3 := hA.cell (off + k) (by omega)
  rw [← hde] at hc1 hgu hd0
  rw [← hx] at hc2 hgu
  rw [← hy] at hc3 hgu
  have hdw : d < W64 := by rw [hde]; exact getD_lt (by rw [W64_eq]; omega) _ hdl _
  have hxw : x < W64 := by rw [hx]; exact getD_lt (by rw [W64_eq]; omega) _ hrs _
  have hyw : y < W64 := by rw [hy]; exact getD_lt (by rw [W64_eq]; omega) _ hrs _
  have HGU := Lib.hid hgu
  have HDS := Lib.hid hds
  have HW := Lib.hid hw
  have HRS := Lib.hid hrs
  have HDL := Lib.hid hdl
  have HQ := Lib.hid hq
  have HQW := Lib.hid hqw
  have HNE := Lib.hid hne
  have HX := Lib.hid hx
  have HDW := Lib.hid hdw
  have HXW := Lib.hid hxw
  have HYW := Lib.hid hyw
  have HLEN := Lib.hid hlen
  have HD := Lib.hid hd
  have hk0 : (0 : Int) ≤ (k : Int) := by omega
  have hkn : (k : Int) ≤ 1000000000 := by omega
  have es : (k : Int) + 1 - 1 = (k : Int) := by omega
  have hk1 : (0 : Int) ≤ (k : Int) + 1 := by omega
  have hk2 : (k : Int) + 1 < (k : Int) + 1 + 1 := by omega
  have hk3 : (k : Int) < (k : Int) + 1 + 1 := by omega
  have hk4 : (k : Int) < (k : Int) + 1 := by omega
  clear hgu hds hw hrs hdl hq hqw hne hx hy hde hdw hxw hyw hlen hd
  go_enter Tryz.func194, Tryz.ntmps194
  go_wp2
  by_cases hlt : x < d
  · have hlti : (x : Int) < (d : Int) := by omega
    go_quiet (fail)
    go_wp2
    obtain ⟨W1, hW1⟩ : ∃ W1, W1 = w.drewN nq := ⟨_, rfl⟩
    have hcd1 : W1.cell? ⟨b, o + k, none⟩ = some (.int .u64 d) := by rw [hW1]; exact hc1
    have hcd2 : W1.cell? ⟨g, off + (k + 1), none⟩ = some (.int .u64 x) := by rw [hW1]; exact hc2
    have hcd3 : W1.cell? ⟨g, off + k, none⟩ = some (.int .u64 y) := by rw [hW1]; exact hc3
    have HW1 := Lib.hid hW1
    rw [← hW1]
    obtain ⟨G, hG⟩ : ∃ G, G = (x * W64 + y) / d := ⟨_, rfl⟩
    obtain ⟨G2, hG2⟩ : ∃ G2, G2 = (x * W64 + y) % d := ⟨_, rfl⟩
    have HG := Lib.hid hG
    have HG2 := Lib.hid hG2
    clear hG hG2 hW1
    go_quiet ((go_at_call 199; exact Calls.quiet_of (div64_quiet x y d _ HYW.out HDW.out hlt G G2 HG.out HG2.out)))
    obtain ⟨W0, hW0'⟩ : ∃ W0, W0 = W1.drewN nq := ⟨_, rfl⟩
    obtain ⟨na, nb, hW0⟩ : ∃ na nb, W0 = (w.drewN na).drewN nb := ⟨_, _, by rw [hW0', HW1.out]⟩
    go_wp2
    rw [← hW0']
    have hqG : q ≤ G := by rw [HG.out]; exact HGU.out
    have hGw : G < W64 := by
      have h1 := HYW.out
      have h2 : (x + 1) * W64 ≤ d * W64 := Nat.mul_le_mul_right _ hlt
      rw [HG.out, Nat.div_lt_iff_lt_mul hd0, Nat.mul_comm W64]
      rw [Nat.add_mul, Nat.one_mul] at h2
      omega
    clear hW0' hcd1 hcd2 hcd3
    have HB0 : Hid (But g w W0) := Lib.hid (by rw [hW0]; exact But.ofBelow (below_draws (below_draws (Below.refl _ _) _) _))
    have HS0 : Hid (W0.heap.size = w.heap.size) := Lib.hid (by rw [hW0]; rfl)
    have hA0 : Arr .u64 99 W0 g rs := by rw [hW0]; exact hA
    have HD0 : Hid (Sl .u64 W0 (.slice (some ⟨b, o, none⟩) (k + 1) capd) ds) := Lib.hid (by rw [hW0]; exact HD.out)
    have hx0 : W0.cell? ⟨g, off + (k + 1), none⟩ = some (.int .u64 x) := by rw [hW0]; exact hc2
    have hf0 := hA0.frozen (off + (k + 1))
    have hqG' := Lib.hid hqG
    have hGw' := Lib.hid hGw
    have hGb : (G : Int) ≤ 18446744073709551615 := by rw [W64_eq] at hGw; omega
    clear hc1 hc2 hc3 hW0 hlt hlti hqG hGw
    go_cut [7] (fun mv wx => TMRel w g off (k + 1) rs ds q (.int .u64 ((G : Nat) : Int)) mv wx)
    case first =>
      go_region_law (go_simp; go_at_call 235; refine takep_any g off (k + 1 + 1) cap rs ds _ G _ hA0.drew (Sl.drw HD0.out) HNE.out (by rw [HDS.out]; have := HW.out; omega) (by rw [HDS.out]; omega) HRS.out HDL.out hGw'.out HLEN.out _ ?_; intro zs c w1 hz1 hz2 hz3 hz4 hz5 hz6 hz7 hz8 hz9; obtain ⟨s, hs⟩ : ∃ s, s = (x + W64 - c) % W64 := ⟨_, rfl⟩; obtain ⟨m, hm⟩ : ∃ m, m = if x < c then 1 else 0 := ⟨_, rfl⟩; obtain ⟨ht1, ht2, ht3⟩ := borrow_parts x c s m W64 HXW.out hz7 hs hm; have hzd := hz5; rw [HDS.out] at hzd; have hxz : zs.getD (off + (k + 1)) 0 = x := (by rw [HX.out]; exact getD_of_drop hzd); have hcz := hz1.cell (off + (k + 1)) (by rw [hz2]; have := HW.out; omega); rw [hxz] at hcz; have hfz := hz1.frozen (off + (k + 1)); have hst := tm_first w w1 g off (k + 1) q G c s m x rs ds zs HW.out HDS.out hz1 hz2 hz3 hz4 hz5 hz6 (HB0.out.trans hz8.ofDrew) (hz9.trans HS0.out) hqG'.out hGw'.out HX.out ht1 ht2 ht3; have HST := Lib.hid hst; have ea := sub64_0 x c s m hs hm; clear hz1 hz2 hz3 hz4 hz5 hz6 hz7 hz8 hz9 hs hm ht1 ht2 ht3 hzd hxz hst; dsimp only)
      all_goals (go_wp2_with fail; go_meet; exact HST.out)
    case rest =>
      clear hx0 hf0 hA0
      go_wp2
      go_loopw [6, 7] (fun gv mv wr => TMRel w g off (k + 1) rs ds q gv mv wr) (fun gv _ _ => (intOf gv).toNat)
      case atStart => exact hcut
      case round =>
        clear hcut
        obtain ⟨G, m, cur, rfl, rfl, hm, hqG, hGw, hA, hl, hlt, ht, hd, hv, hbut, hsz⟩ := hrel
        have HL := Lib.hid hl
        have HLT := Lib.hid hlt
        have HT := Lib.hid ht
        have HDR := Lib.hid hd
        have HV := Lib.hid hv
        have HB := Lib.hid hbut
        have HSZ := Lib.hid hsz
        have HQG := Lib.hid hqG
        have HGW := Lib.hid hGw
        have hGb2 : (G : Int) ≤ 18446744073709551615 := by rw [W64_eq] at hGw; omega
        clear hl hlt ht hd hv hbut hsz hqG hGw
        rcases (by omega : m = 0 ∨ m = 1) with h0 | h1
        · subst h0
          have hGq := tm_done cur rs ds off (k + 1) q G HL.out HW.out HT.out HDR.out HV.out HQ.out hDpos HQG.out
          subst hGq
          have hfin := HR.out cur wr hA HL.out HLT.out HT.out HDR.out (by have := HV.out; rwa [Nat.mul_zero, Nat.add_zero] at this) HB.out HSZ.out
          have HFIN := Lib.hid hfin
          clear hfin hA
          go_wp2
          first | go_ret | skip
          exact HFIN.out
        · subst h1
          have hge := tm_more cur rs ds off (k + 1) q G HL.out HW.out HLT.out HT.out HDR.out HV.out HQ.out hDpos
          have HGE := Lib.hid hge
          have hG1 : (1 : Int) ≤ (G : Int) := by omega
          obtain ⟨x', hx'⟩ : ∃ x', x' = cur.getD (off + (k + 1)) 0 := ⟨_, rfl⟩
          have hcx := hA.cell (off + (k + 1)) (by rw [HL.out]; have := HW.out; omega)
          have hfx := hA.frozen (off + (k + 1))
          rw [← hx'] at hcx
          have hxw' : x' < W64 := by rw [hx']; exact getD_lt (by rw [W64_eq]; omega) _ HLT.out _
          have HX' := Lib.hid hx'
          have HXW' := Lib.hid hxw'
          have HDW2 : Hid (Sl .u64 wr (.slice (some ⟨b, o, none⟩) (k + 1) capd) ds) := Lib.hid (HD.out.but HB.out HNE.out)
          have HA' := Lib.hid hA
          clear hge hx' hxw' hA
          go_wp2
          go_cut [8] (fun cv wx => ∃ m : Nat, m ≤ 1 ∧ cv = .int .u64 ((m : Nat) : Int) ∧ TMRel w g off (k + 1) rs ds q (.int .u64 ((G : Int) - 1)) (.int .u64 (1 - (m : Int))) wx)
          case first =>
            go_region_law (go_simp; go_at_call 178; refine addp_any g off (k + 1 + 1) cap cur ds _ 1 _ HA'.out.drew (Sl.drw HDW2.out) HNE.out (by rw [HDS.out, HL.out]; have := HW.out; omega) (by rw [HDS.out]; omega) HLT.out HDL.out (by rw [W64_eq]; omega) (by rw [HL.out]; exact HLEN.out) _ ?_; intro zs c w1 hz1 hz2 hz3 hz4 hz5 hz6 hz7 hz8 hz9; obtain ⟨s, hs⟩ : ∃ s, s = (x' + c) % W64 := ⟨_, rfl⟩; obtain ⟨m, hm⟩ : ∃ m, m = (x' + c) / W64 := ⟨_, rfl⟩; obtain ⟨ht1, ht2, ht3⟩ := add_parts x' c s m HXW'.out hz7 hs hm; have hzd := hz5; rw [HDS.out] at hzd; have hxz : zs.getD (off + (k + 1)) 0 = x' := (by rw [HX'.out]; exact getD_of_drop hzd); have hcz := hz1.cell (off + (k + 1)) (by rw [hz2, HL.out]; have := HW.out; omega); rw [hxz] at hcz; have hfz := hz1.frozen (off + (k + 1)); have hst := tm_back w wr w1 g off (k + 1) q G c s m x' rs ds cur zs HW.out HDS.out HL.out HT.out HDR.out HV.out HB.out HSZ.out hz1 hz2 hz3 hz4 hz5 hz6 hz8.ofDrew hz9 HGE.out HGW.out HX'.out ht1 ht2 ht3 _ _ rfl rfl; have HST := Lib.hid hst; have HM1 := Lib.hid ht2; have ea := add64_0 x' c s m hs hm; clear hz1 hz2 hz3 hz4 hz5 hz6 hz7 hz8 hz9 hs hm ht1 ht2 ht3 hzd hxz hst; dsimp only)
            all_goals (go_wp2_with fail; go_meet; exact ⟨m, HM1.out, rfl, HST.out⟩)
          case rest =>
            clear hcx hfx
            obtain ⟨m, hm1, rfl, hrel⟩ := hcut
            have HREL := Lib.hid hrel
            have hmi : (m : Int) ≤ 1 := by omega
            clear hrel
            go_wp2
            go_roundw
            case rel => exact HREL.out
            case measure => simp [intOf]; omega
  · have hlti : ¬ (x : Int) < (d : Int) := by omega
    go_quiet (fail)
    go_wp2
    obtain ⟨W0, hW0'⟩ : ∃ W0, W0 = w.drewN nq := ⟨_, rfl⟩
    obtain ⟨na, nb, hW0⟩ : ∃ na nb, W0 = (w.drewN na).drewN nb := ⟨nq, 0, hW0'⟩
    rw [← hW0']
    obtain ⟨G, hG⟩ : ∃ G : Nat, G = 18446744073709551615 := ⟨_, rfl⟩
    have hGi : (18446744073709551615 : Int) = ((G : Nat) : Int) := by rw [hG]; rfl
    rw [hGi]
    have hGw : G < W64 := by rw [hG, W64_eq]; omega
    have hqG : q ≤ G := by have := HQW.out; rw [W64_eq] at this; rw [hG]; omega
    clear hGi hG hW0'
    have HB0 : Hid (But g w W0) := Lib.hid (by rw [hW0]; exact But.ofBelow (below_draws (below_draws (Below.refl _ _) _) _))
    have HS0 : Hid (W0.heap.size = w.heap.size) := Lib.hid (by rw [hW0]; rfl)
    have hA0 : Arr .u64 99 W0 g rs := by rw [hW0]; exact hA
    have HD0 : Hid (Sl .u64 W0 (.slice (some ⟨b, o, none⟩) (k + 1) capd) ds) := Lib.hid (by rw [hW0]; exact HD.out)
    have hx0 : W0.cell? ⟨g, off + (k + 1), none⟩ = some (.int .u64 x) := by rw [hW0]; exact hc2
    have hf0 := hA0.frozen (off + (k + 1))
    have hqG' := Lib.hid hqG
    have hGw' := Lib.hid hGw
    have hGb : (G : Int) ≤ 18446744073709551615 := by rw [W64_eq] at hGw; omega
    clear hc1 hc2 hc3 hW0 hlt hlti hqG hGw
    go_cut [7] (fun mv wx => TMRel w g off (k + 1) rs ds q (.int .u64 ((G : Nat) : Int)) mv wx)
    case first =>
      go_region_law (go_simp; go_at_call 235; refine takep_any g off (k + 1 + 1) cap rs ds _ G _ hA0.drew (Sl.drw HD0.out) HNE.out (by rw [HDS.out]; have := HW.out; omega) (by rw [HDS.out]; omega) HRS.out HDL.out hGw'.out HLEN.out _ ?_; intro zs c w1 hz1 hz2 hz3 hz4 hz5 hz6 hz7 hz8 hz9; obtain ⟨s, hs⟩ : ∃ s, s = (x + W64 - c) % W64 := ⟨_, rfl⟩; obtain ⟨m, hm⟩ : ∃ m, m = if x < c then 1 else 0 := ⟨_, rfl⟩; obtain ⟨ht1, ht2, ht3⟩ := borrow_parts x c s m W64 HXW.out hz7 hs hm; have hzd := hz5; rw [HDS.out] at hzd; have hxz : zs.getD (off + (k + 1)) 0 = x := (by rw [HX.out]; exact getD_of_drop hzd); have hcz := hz1.cell (off + (k + 1)) (by rw [hz2]; have := HW.out; omega); rw [hxz] at hcz; have hfz := hz1.frozen (off + (k + 1)); have hst := tm_first w w1 g off (k + 1) q G c s m x rs ds zs HW.out HDS.out hz1 hz2 hz3 hz4 hz5 hz6 (HB0.out.trans hz8.ofDrew) (hz9.trans HS0.out) hqG'.out hGw'.out HX.out ht1 ht2 ht3; have HST := Lib.hid hst; have ea := sub64_0 x c s m hs hm; clear hz1 hz2 hz3 hz4 hz5 hz6 hz7 hz8 hz9 hs hm ht1 ht2 ht3 hzd hxz hst; dsimp only)
      all_goals (go_wp2_with fail; go_meet; exact HST.out)
    case rest =>
      clear hx0 hf0 hA0
      go_wp2
      go_loopw [6, 7] (fun gv mv wr => TMRel w g off (k + 1) rs ds q gv mv wr) (fun gv _ _ => (intOf gv).toNat)
      case atStart => exact hcut
      case round =>
        clear hcut
        obtain ⟨G, m, cur, rfl, rfl, hm, hqG, hGw, hA, hl, hlt, ht, hd, hv, hbut, hsz⟩ := hrel
        have HL := Lib.hid hl
        have HLT := Lib.hid hlt
        have HT := Lib.hid ht
        have HDR := Lib.hid hd
        have HV := Lib.hid hv
        have HB := Lib.hid hbut
        have HSZ := Lib.hid hsz
        have HQG := Lib.hid hqG
        have HGW := Lib.hid hGw
        have hGb2 : (G : Int) ≤ 18446744073709551615 := by rw [W64_eq] at hGw; omega
        clear hl hlt ht hd hv hbut hsz hqG hGw
        rcases (by omega : m = 0 ∨ m = 1) with h0 | h1
        · subst h0
          have hGq := tm_done cur rs ds off (k + 1) q G HL.out HW.out HT.out HDR.out HV.out HQ.out hDpos HQG.out
          subst hGq
          have hfin := HR.out cur wr hA HL.out HLT.out HT.out HDR.out (by have := HV.out; rwa [Nat.mul_zero, Nat.add_zero] at this) HB.out HSZ.out
          have HFIN := Lib.hid hfin
          clear hfin hA
          go_wp2
          first | go_ret | skip
          exact HFIN.out
        · subst h1
          have hge := tm_more cur rs ds off (k + 1) q G HL.out HW.out HLT.out HT.out HDR.out HV.out HQ.out hDpos
          have HGE := Lib.hid hge
          have hG1 : (1 : Int) ≤ (G : Int) := by omega
          obtain ⟨x', hx'⟩ : ∃ x', x' = cur.getD (off + (k + 1)) 0 := ⟨_, rfl⟩
          have hcx := hA.cell (off + (k + 1)) (by rw [HL.out]; have := HW.out; omega)
          have hfx := hA.frozen (off + (k + 1))
          rw [← hx'] at hcx
          have hxw' : x' < W64 := by rw [hx']; exact getD_lt (by rw [W64_eq]; omega) _ HLT.out _
          have HX' := Lib.hid hx'
          have HXW' := Lib.hid hxw'
          have HDW2 : Hid (Sl .u64 wr (.slice (some ⟨b, o, none⟩) (k + 1) capd) ds) := Lib.hid (HD.out.but HB.out HNE.out)
          have HA' := Lib.hid hA
          clear hge hx' hxw' hA
          go_wp2
          go_cut [8] (fun cv wx => ∃ m : Nat, m ≤ 1 ∧ cv = .int .u64 ((m : Nat) : Int) ∧ TMRel w g off (k + 1) rs ds q (.int .u64 ((G : Int) - 1)) (.int .u64 (1 - (m : Int))) wx)
          case first =>
            go_region_law (go_simp; go_at_call 178; refine addp_any g off (k + 1 + 1) cap cur ds _ 1 _ HA'.out.drew (Sl.drw HDW2.out) HNE.out (by rw [HDS.out, HL.out]; have := HW.out; omega) (by rw [HDS.out]; omega) HLT.out HDL.out (by rw [W64_eq]; omega) (by rw [HL.out]; exact HLEN.out) _ ?_; intro zs c w1 hz1 hz2 hz3 hz4 hz5 hz6 hz7 hz8 hz9; obtain ⟨s, hs⟩ : ∃ s, s = (x' + c) % W64 := ⟨_, rfl⟩; obtain ⟨m, hm⟩ : ∃ m, m = (x' + c) / W64 := ⟨_, rfl⟩; obtain ⟨ht1, ht2, ht3⟩ := add_parts x' c s m HXW'.out hz7 hs hm; have hzd := hz5; rw [HDS.out] at hzd; have hxz : zs.getD (off + (k + 1)) 0 = x' := (by rw [HX'.out]; exact getD_of_drop hzd); have hcz := hz1.cell (off + (k + 1)) (by rw [hz2, HL.out]; have := HW.out; omega); rw [hxz] at hcz; have hfz := hz1.frozen (off + (k + 1)); have hst := tm_back w wr w1 g off (k + 1) q G c s m x' rs ds cur zs HW.out HDS.out HL.out HT.out HDR.out HV.out HB.out HSZ.out hz1 hz2 hz3 hz4 hz5 hz6 hz8.ofDrew hz9 HGE.out HGW.out HX'.out ht1 ht2 ht3 _ _ rfl rfl; have HST := Lib.hid hst; have HM1 := Lib.hid ht2; have ea := add64_0 x' c s m hs hm; clear hz1 hz2 hz3 hz4 hz5 hz6 hz7 hz8 hz9 hs hm ht1 ht2 ht3 hzd hxz hst; dsimp only)
            all_goals (go_wp2_with fail; go_meet; exact ⟨m, HM1.out, rfl, HST.out⟩)
          case rest =>
            clear hcx hfx
            obtain ⟨m, hm1, rfl, hrel⟩ := hcut
            have HREL := Lib.hid hrel
            have hmi : (m : Int) ≤ 1 := by omega
            clear hrel
            go_wp2
            go_roundw
            case rel => exact HREL.out
            case measure => simp [intOf]; omega
end Go.Proofs.YtdkjcdfkoahfkaaGreatDoor

namespace Go.Proofs.YtdkjcdfkoahfkaaGreatDoor
open Go Go.RowKit

theorem dig_length_mono' {B a b : Nat} (hB : 2 ≤ B) (h : a ≤ b) : (dig B a).length ≤ (dig B b).length :=
  dig_length_le hB _ a (Nat.lt_of_le_of_lt h (lt_pow_dig hB b))

theorem pow_le_digN {B n : Nat} (hB : 2 ≤ B) (h : n ≠ 0) : B ^ ((dig B n).length - 1) ≤ n := by
  rcases Nat.lt_or_ge n (B ^ ((dig B n).length - 1)) with h1 | h1
  · have h2 := dig_length_le hB _ n h1
    have h3 : (dig B n).length ≠ 0 := fun e => h ((dig_eq_nil hB).1 (List.length_eq_zero_iff.1 e))
    omega
  · exact h1

theorem top_pos {B n : Nat} (hB : 2 ≤ B) (h : n ≠ 0) : 0 < (dig B n).getD ((dig B n).length - 1) 0 := by
  have h3 : (dig B n).length ≠ 0 := fun e => h ((dig_eq_nil hB).1 (List.length_eq_zero_iff.1 e))
  have h1 := getLast_cut (dig B n) _ (Nat.le_refl _)
  rw [take_cut hB _ (dig_lt hB n), val_dig hB] at h1
  rw [List.getLast?_eq_getElem?] at h1
  rw [List.getD_eq_getElem?_getD]
  rw [List.getElem?_eq_getElem (by omega)] at h1 ⊢
  simp at h1 ⊢
  omega

/-- a divisor that is shifted has as many limbs -/
theorem shifted_len (b s : Nat) (hb : b ≠ 0) (h1 : (dig W64 b).getD ((dig W64 b).length - 1) 0 * 2 ^ s < W64) (hs : s ≤ 64) : (dig W64 (2 ^ s * b)).length = (dig W64 b).length := by
  have h3 : (dig W64 b).length ≠ 0 := fun e => hb ((dig_eq_nil W64_two).1 (List.length_eq_zero_iff.1 e))
  obtain ⟨m, hm⟩ : ∃ m, (dig W64 b).length = m + 1 := ⟨(dig W64 b).length - 1, by omega⟩
  rw [hm, Nat.add_sub_cancel] at h1
  have hp : 0 < 2 ^ s := Nat.pow_pos (by omega)
  have hv : b = val W64 ((dig W64 b).take m) + W64 ^ m * (dig W64 b).getD m 0 := by
    have := val_take_succ W64 (dig W64 b) m (by omega)
    rw [List.take_of_length_le (by omega), val_dig W64_two] at this
    exact this
  have hl := val_lt (B := W64) ((dig W64 b).take m) (fun d hd => limb_lt b d (List.mem_of_mem_take hd))
  rw [List.length_take, Nat.min_eq_left (by omega)] at hl
  have hdq : ((dig W64 b).getD m 0 + 1) * 2 ^ s ≤ W64 := by
    generalize (dig W64 b).getD m 0 = t at *
    have hW := pow_split s hs
    rw [← hW, Nat.mul_comm (2 ^ s)] at h1
    have h5 := Nat.lt_of_mul_lt_mul_right h1
    rw [← hW, Nat.mul_comm (2 ^ s)]
    exact Nat.mul_le_mul_right _ h5
  apply Nat.le_antisymm
  · rw [hm]
    apply dig_length_le W64_two
    have h4 : b < ((dig W64 b).getD m 0 + 1) * W64 ^ m := by
      rw [Nat.add_mul, Nat.one_mul, Nat.mul_comm]; omega
    have h5 : 2 ^ s * b < 2 ^ s * (((dig W64 b).getD m 0 + 1) * W64 ^ m) := Nat.mul_lt_mul_of_pos_left h4 hp
    have h6 : ((dig W64 b).getD m 0 + 1) * 2 ^ s * W64 ^ m ≤ W64 * W64 ^ m := Nat.mul_le_mul_right _ hdq
    rw [Nat.pow_succ, Nat.mul_comm (W64 ^ m)]
    refine Nat.lt_of_lt_of_le h5 ?_
    rw [← Nat.mul_assoc, Nat.mul_comm (2 ^ s)]; exact h6
  · have h4 : b ≤ 2 ^ s * b := Nat.le_mul_of_pos_left b hp
    exact dig_length_le W64_two _ _ (Nat.lt_of_le_of_lt h4 (lt_pow_dig W64_two _))

/-- what holds at the head of the loop of a division -/
def DivRel (w : World) (g1 g3 la n : Nat) (D A : Nat) (dv : Value) (iv : Value) (wr : World) : Prop :=
  ∃ (k : Nat) (rs qs : List Nat), iv = .int .i64 ((k : Int) - 1) ∧ k ≤ la - n + 1 ∧ Arr .u64 99 wr g1 rs ∧ rs.length = la + 1 ∧ (∀ d ∈ rs, d < W64) ∧ Arr .u64 99 wr g3 qs ∧ qs.length = la - n + 1 ∧ (∀ d ∈ qs, d < W64) ∧
    val W64 rs + D * (W64 ^ k * val W64 (qs.drop k)) = A ∧ val W64 (rs.drop k) < D ∧ Sl .u64 wr dv (dig W64 D) ∧ Below w.heap.size w wr

theorem drop_win (rs : List Nat) (i n D : Nat) (hl : i + n + 1 ≤ rs.length) (hD : D < W64 ^ n) (hlt : ∀ d ∈ rs, d < W64) (h : val W64 (rs.drop (i + 1)) < D) :
    val W64 (rs.drop i) = win rs i n ∧ val W64 (rs.drop i) < W64 * D := by
  have h1 := val_drop W64 rs i (by omega)
  have h2 := getD_lt (B := W64) (by rw [W64_eq]; omega) rs hlt i
  have h3 : W64 * (val W64 (rs.drop (i + 1)) + 1) ≤ W64 * D := Nat.mul_le_mul_left _ h
  rw [Nat.mul_add, Nat.mul_one] at h3
  have h4 : val W64 (rs.drop i) < W64 * D := by omega
  refine ⟨?_, h4⟩
  have h5 := val_take_drop W64 (rs.drop i) (n + 1) (by rw [List.length_drop]; omega)
  rw [List.drop_drop] at h5
  have h6 : W64 * D < W64 ^ (n + 1) := by
    rw [Nat.pow_succ, Nat.mul_comm (W64 ^ n)]
    exact Nat.mul_lt_mul_of_pos_left hD (by rw [W64_eq]; omega)
  have h7 : val W64 (rs.drop (i + (n + 1))) = 0 := by
    rcases Nat.eq_zero_or_pos (val W64 (rs.drop (i + (n + 1)))) with h | h
    · exact h
    · have := Nat.mul_le_mul_left (W64 ^ (n + 1)) h
      rw [Nat.mul_one] at this
      omega
  rw [h7, Nat.mul_zero, Nat.add_zero] at h5
  exact h5

theorem div_rel (w wr w1 : World) (g1 g3 la n D A i q : Nat) (dv : Value) (rs qs cur : List Nat) (hi : i < la - n + 1) (hn : 1 ≤ n) (hnl : n ≤ la) (hl : rs.length = la + 1) (hlt : ∀ d ∈ rs, d < W64) (hA3 : Arr .u64 99 wr g3 qs) (hql : qs.length = la - n + 1) (hqlt : ∀ d ∈ qs, d < W64)
    (hv : val W64 rs + D * (W64 ^ (i + 1) * val W64 (qs.drop (i + 1))) = A) (hr : val W64 (rs.drop (i + 1)) < D) (hsl : Sl .u64 wr dv (dig W64 D)) (hne : 0 < (dig W64 D).length → blk dv ≠ some g1) (hne3 : 0 < (dig W64 D).length → blk dv ≠ some g3) (hb : Below w.heap.size w wr) (hD : D < W64 ^ n) (hD0 : 0 < D)
    (hq : q = win rs i n / D) (hqw : q < W64) (hA1 : Arr .u64 99 w1 g1 cur) (hcl : cur.length = rs.length) (hclt : ∀ d ∈ cur, d < W64) (hct : cur.take i = rs.take i)
    (hcv : val W64 cur + W64 ^ i * (q * D) = val W64 rs) (hbut : But g1 wr w1) (hg : g1 ≠ g3) (hg1 : w.heap.size ≤ g1) (hg3 : w.heap.size ≤ g3) (hgs : w.heap.size ≤ wr.heap.size) :
    DivRel w g1 g3 la n D A dv (.int .i64 ((i : Int) - 1)) (w1.setCell ⟨g3, i, none⟩ (.int .u64 ((q : Nat) : Int))) := by
  obtain ⟨hw1, hw2⟩ := drop_win rs i n D (by omega) hD hlt hr
  have h3 := hA3.but hbut (fun e => hg e.symm)
  refine ⟨i, cur, qs.set i q, rfl, by omega, hA1.other hg _ _, by omega, hclt, h3.set _ _, by simp [hql], set_ltN _ _ _ hqlt hqw, ?_, ?_, (hsl.but hbut hne).but ((But.refl g3 w1).setCell i _) hne3, (hb.trans (hbut.below hg1 hgs)).setCell hg3 _⟩
  · rw [drop_set_at _ _ _ (by omega), val_cons_pos]
    rw [Nat.pow_succ] at hv
    generalize val W64 (qs.drop (i + 1)) = X at *
    generalize W64 ^ i = P at *
    grind
  · have h5 := val_take_drop W64 cur i (by omega)
    have h6 := val_take_drop W64 rs i (by omega)
    rw [hct] at h5
    have h7 : W64 ^ i * (val W64 (cur.drop i) + q * D) = W64 ^ i * val W64 (rs.drop i) := by
      rw [Nat.mul_add]; omega
    have h8 := Nat.eq_of_mul_eq_mul_left (pow_pos' i) h7
    rw [hw1] at h8
    have h9 := Nat.div_add_mod (win rs i n) D
    have h10 := Nat.mod_lt (win rs i n) hD0
    rw [← hq, Nat.mul_comm] at h9
    omega

theorem div_start (a b la n s : Nat) (rs : List Nat) (hb : b ≠ 0) (hla : la = (dig W64 a).length) (hn : n = (dig W64 b).length) (hle : n ≤ la) (hl : rs.length = la + 1) (hv : val W64 rs = 2 ^ s * a) :
    val W64 (rs.drop (la - n + 1)) < 2 ^ s * b := by
  have h3 : (dig W64 b).length ≠ 0 := fun e => hb ((dig_eq_nil W64_two).1 (List.length_eq_zero_iff.1 e))
  have h1 := val_take_drop W64 rs (la - n + 1) (by omega)
  have h2 := lt_pow_dig W64_two a
  have h4 := pow_le_digN W64_two hb
  rw [← hla] at h2
  rw [← hn] at h4 h3
  have hp : 0 < 2 ^ s := Nat.pow_pos (by omega)
  have h5 : 2 ^ s * a < 2 ^ s * W64 ^ la := Nat.mul_lt_mul_of_pos_left h2 hp
  have h6 : W64 ^ la = W64 ^ (n - 1) * W64 ^ (la - n + 1) := by rw [← Nat.pow_add]; congr 1; omega
  have h7 : 2 ^ s * (W64 ^ (n - 1) * W64 ^ (la - n + 1)) ≤ 2 ^ s * (b * W64 ^ (la - n + 1)) := Nat.mul_le_mul_left _ (Nat.mul_le_mul_right _ h4)
  rw [h6] at h5
  have h8 : W64 ^ (la - n + 1) * val W64 (rs.drop (la - n + 1)) < W64 ^ (la - n + 1) * (2 ^ s * b) := by
    have e : 2 ^ s * (b * W64 ^ (la - n + 1)) = W64 ^ (la - n + 1) * (2 ^ s * b) := by
      rw [← Nat.mul_assoc, Nat.mul_comm]
    rw [← e]; omega
  exact Nat.lt_of_mul_lt_mul_left h8

theorem div_end (a b s R Q : Nat) (hb : b ≠ 0) (h : R + 2 ^ s * b * Q = 2 ^ s * a) (hR : R < 2 ^ s * b) : Q = a / b ∧ R / 2 ^ s = a % b := by
  have hp : 0 < 2 ^ s := Nat.pow_pos (by omega)
  have hD : 0 < 2 ^ s * b := Nat.mul_pos hp (by omega)
  have h1 : 2 ^ s * a / (2 ^ s * b) = Q := by
    rw [← h, Nat.add_mul_div_left _ _ hD, Nat.div_eq_of_lt hR, Nat.zero_add]
  have h2 : 2 ^ s * a % (2 ^ s * b) = R := by
    rw [← h, Nat.add_mul_mod_self_left, Nat.mod_eq_of_lt hR]
  rw [Nat.mul_div_mul_left _ _ hp] at h1
  rw [Nat.mul_mod_mul_left] at h2
  exact ⟨h1.symm, by rw [← h2, Nat.mul_div_cancel_left _ hp]⟩
end Go.Proofs.YtdkjcdfkoahfkaaGreatDoor

namespace Go.Proofs.YtdkjcdfkoahfkaaGreatDoor
open Go Go.RowKit

set_option maxRecDepth 100000 in
theorem cmpu_any (x y : Nat) (w : World) (R : Ending → World → Prop) (hR : R (.returned (.int .i64 (cmpN x y))) w) :
    Calls Tryz.prog 147 #[.int .u64 x, .int .u64 y] w R := by
  have HR := Lib.hid hR; clear hR
  rcases Nat.lt_trichotomy x y with h | h | h
  · rw [cmpN_lt h] at HR
    go_enter Tryz.func147, Tryz.ntmps147
    go_wp2
    first | go_ret | skip
    exact HR.out
  · subst h
    rw [cmpN_eq] at HR
    go_enter Tryz.func147, Tryz.ntmps147
    go_wp2
    first | go_ret | skip
    exact HR.out
  · rw [cmpN_gt h] at HR
    go_enter Tryz.func147, Tryz.ntmps147
    go_wp2
    first | go_ret | skip
    exact HR.out

theorem cmpu_same (x y : Nat) (w : World) : Calls Tryz.prog 147 #[.int .u64 x, .int .u64 y] w fun e w' => e = .returned (.int .i64 (cmpN x y)) ∧ w' = w :=
  cmpu_any x y w _ ⟨rfl, rfl⟩

theorem compareInt_nat (x y : Nat) : Lib.compareInt (x : Int) (y : Int) = cmpN x y := by
  unfold Lib.compareInt cmpN
  by_cases h : x < y
  · rw [if_pos h, if_pos (by omega)]
  · rw [if_neg h, if_neg (by omega)]
    by_cases h2 : y < x
    · rw [if_pos h2, if_pos (by omega)]
    · rw [if_neg h2, if_neg (by omega)]

set_option maxRecDepth 100000 in
set_option maxHeartbeats 1000000 in
theorem ncmp_any (va vb : Value) (a b : Nat) (w : World) (ha : IsN w va a) (hb : IsN w vb b) (hla : (dig W64 a).length ≤ 1000000000) (hlb : (dig W64 b).length ≤ 1000000000) (R : Ending → World → Prop)
    (hR : ∀ w', Below w.heap.size w w' → w'.heap.size = w.heap.size → R (.returned (.int .i64 (cmpN a b))) w') :
    Calls Tryz.prog 82 #[va, vb] w R := by
  obtain ⟨aa, na, ca, rfl, ena, hsa⟩ := ha.open
  obtain ⟨ab, nb, cb, rfl, enb, hsb⟩ := hb.open
  obtain ⟨xs, hxs⟩ : ∃ xs, xs = dig W64 a := ⟨_, rfl⟩
  obtain ⟨ys, hys⟩ : ∃ ys, ys = dig W64 b := ⟨_, rfl⟩
  have hx : ∀ d ∈ xs, d < W64 := by rw [hxs]; exact limb_lt _
  have hy : ∀ d ∈ ys, d < W64 := by rw [hys]; exact limb_lt _
  have hvx : val W64 xs = a := by rw [hxs]; exact val_dig W64_two _
  have hvy : val W64 ys = b := by rw [hys]; exact val_dig W64_two _
  have hlt : na < nb → a < b := fun h => lt_of_dig_length (B := W64) W64_two _ _ (by omega)
  have hgt : nb < na → b < a := fun h => lt_of_dig_length (B := W64) W64_two _ _ (by omega)
  unfold IsN at hsa hsb
  rw [← ena] at hla
  rw [← enb] at hlb
  rw [← hxs] at hsa ena
  rw [← hys] at hsb enb
  have HR := Lib.hid hR
  have Ena := Lib.hid ena
  have Enb := Lib.hid enb
  have Hvx := Lib.hid hvx
  have Hvy := Lib.hid hvy
  have Hx := Lib.hid hx
  have Hy := Lib.hid hy
  clear hR hxs hys ena enb hvx hvy ha hb hx hy
  by_cases hne : na = nb
  · obtain rfl := hne
    have e0 : ((na : Int) != (na : Int)) = false := by simp
    clear hlt hgt
    go_enter Tryz.func82, Tryz.ntmps82
    go_wp2
    go_loopw [5] (fun i wr => ∃ k : Nat, k ≤ na ∧ i = .int .i64 ((k : Int) - 1) ∧ xs.drop k = ys.drop k ∧ Below w.heap.size w wr ∧ wr.heap.size = w.heap.size) (fun i _ => (intOf i + 1).toNat)
    case atStart => exact ⟨na, Nat.le_refl _, rfl, by rw [Ena.out, List.drop_length, ← Ena.out, Enb.out, List.drop_length], Below.refl _ _, rfl⟩
    case round =>
      obtain ⟨k, hk, rfl, hdr, hbel, hsz⟩ := hrel
      have Hdr := Lib.hid hdr
      have HBEL := Lib.hid hbel
      have HSZ := Lib.hid hsz
      clear hdr hsz
      by_cases hk0 : k = 0
      · subst hk0
        have hxy : xs = ys := Hdr.out
        have hv : a = b := by rw [← Hvx.out, ← Hvy.out, hxy]
        rw [hv, cmpN_eq] at HR
        clear hv hxy hbel
        go_wp2
        first | go_ret | skip
        exact HR.out _ HBEL.out HSZ.out
      · obtain ⟨j, rfl⟩ : ∃ j, k = j + 1 := ⟨k - 1, by omega⟩
        obtain ⟨b1, o1, rfl, hb1, hc1⟩ := Sl.at hsa j (by omega)
        obtain ⟨b2, o2, rfl, hb2, hc2⟩ := Sl.at hsb j (by omega)
        rw [← hbel.cell (p := ⟨b1, o1 + j, none⟩) hb1] at hc1
        rw [← hbel.cell (p := ⟨b2, o2 + j, none⟩) hb2] at hc2
        obtain ⟨x, hxe⟩ : ∃ x, x = xs.getD j 0 := ⟨_, rfl⟩
        obtain ⟨y, hye⟩ : ∃ y, y = ys.getD j 0 := ⟨_, rfl⟩
        rw [← hxe] at hc1
        rw [← hye] at hc2
        have Hxe := Lib.hid hxe
        have Hye := Lib.hid hye
        have hjn : j < na := by omega
        have hji : (0 : Int) ≤ (j : Int) := by omega
        have hji2 : (j : Int) < (na : Int) := by omega
        clear hxe hye hbel
        have es : ((j + 1 : Nat) : Int) - 1 = (j : Int) := by omega
        rw [es]
        clear es
        by_cases hxy : x = y
        · subst hxy
          have hdr2 : xs.drop j = ys.drop j := by
            have l1 : j < xs.length := by rw [← Ena.out]; exact hjn
            have l2 : j < ys.length := by rw [← Enb.out]; exact hjn
            have d1 : xs.drop j = xs[j] :: xs.drop (j + 1) := List.drop_eq_getElem_cons l1
            have d2 : ys.drop j = ys[j] :: ys.drop (j + 1) := List.drop_eq_getElem_cons l2
            rw [d1, d2, Hdr.out, ← getD_eq l1, ← getD_eq l2, ← Hxe.out, ← Hye.out]
          have Hdr2 := Lib.hid hdr2
          have e1 : ((x : Int) != (x : Int)) = false := by simp
          clear hdr2
          go_wp2
          go_quiet (fail)
          go_wp2
          go_roundw
          case rel => exact ⟨j, by omega, by go_num, Hdr2.out, below_draws HBEL.out _, HSZ.out⟩
          case measure => simp [intOf]
        · have hcm : cmpN a b = cmpN x y := by
            rcases Nat.lt_trichotomy x y with h | h | h
            · rw [cmpN_lt h, cmpN_lt]
              rw [← Hvx.out, ← Hvy.out]
              exact val_lt_at xs ys Hx.out j (by rw [← Ena.out]; exact hjn) (by rw [← Enb.out]; exact hjn) Hdr.out (by rw [← Hxe.out, ← Hye.out]; exact h)
            · exact absurd h hxy
            · rw [cmpN_gt h, cmpN_gt]
              rw [← Hvx.out, ← Hvy.out]
              exact val_lt_at ys xs Hy.out j (by rw [← Enb.out]; exact hjn) (by rw [← Ena.out]; exact hjn) Hdr.out.symm (by rw [← Hxe.out, ← Hye.out]; exact h)
          rw [hcm] at HR
          have e1 : ((x : Int) != (y : Int)) = true := by simp; omega
          clear hcm
          go_wp2
          go_quiet (fail)
          obtain ⟨W, hW⟩ : ∃ W, W = wr.drewN nq := ⟨_, rfl⟩
          rw [← hW]
          have hc3 : W.cell? ⟨b1, o1 + j, none⟩ = some (.int .u64 x) := by rw [hW]; exact hc1
          have hc4 : W.cell? ⟨b2, o2 + j, none⟩ = some (.int .u64 y) := by rw [hW]; exact hc2
          have HB2 : Hid (Below w.heap.size w W) := Lib.hid (by rw [hW]; exact below_draws HBEL.out _)
          have HS2 : Hid (W.heap.size = w.heap.size) := Lib.hid (by rw [hW]; exact HSZ.out)
          clear hc1 hc2 hW
          go_wp2
          go_quiet ((go_at_call 147; exact Calls.quiet_of_same (cmpu_same _ _ _)))
          go_wp2
          first | go_ret | skip
          exact HR.out _ (below_draws HB2.out _) HS2.out
  · have e0 : ((na : Int) != (nb : Int)) = true := by simp; omega
    have hcm : cmpN a b = cmpN na nb := by
      rcases Nat.lt_trichotomy na nb with h | h | h
      · rw [cmpN_lt h, cmpN_lt (hlt h)]
      · exact absurd h hne
      · rw [cmpN_gt h, cmpN_gt (hgt h)]
    rw [hcm, ← compareInt_nat] at HR
    clear hlt hgt hsa hsb hcm
    go_enter Tryz.func82, Tryz.ntmps82
    go_wp2_with (go_at_call 146; refine (Tryz.cmp_Compare_int _ _ _).mono ?_; rintro e w' ⟨rfl, rfl⟩)
    first | go_ret | skip
    exact HR.out _ (Below.refl _ _) rfl
end Go.Proofs.YtdkjcdfkoahfkaaGreatDoor

namespace Go.Proofs.YtdkjcdfkoahfkaaGreatDoor
open Go Go.RowKit

theorem IsN.op {w : World} {v : Value} {n : Nat} (h : IsN w v n) : ∃ ao k cap, v = .slice ao k cap ∧ IsN w (.slice ao k cap) n := by
  obtain ⟨ao, k, cap, h1, _, h2⟩ := h.open
  exact ⟨ao, k, cap, h1, h2⟩

theorem IsN.nil (w : World) : IsN w (.slice none 0 0) 0 := by
  show Sl _ _ _ (dig W64 0)
  rw [dig_zero]; exact Sl.nil _ _ _ _

set_option maxRecDepth 100000 in
set_option maxHeartbeats 1000000 in
theorem divide_less (va vb : Value) (a b : Nat) (w : World) (ha : IsN w va a) (hb : IsN w vb b) (hla : (dig W64 a).length ≤ 10000000) (hlb : (dig W64 b).length ≤ 10000000) (hlt : a < b) (R : Ending → World → Prop)
    (hR : ∀ v1 v2 w', IsN w' v1 (a / b) → IsN w' v2 (a % b) → Below w.heap.size w w' → R (.returned (.tuple #[v1, v2])) w') :
    Calls Tryz.prog 136 #[va, vb] w R := by
  have HR := Lib.hid hR; clear hR
  have HLT := Lib.hid hlt
  clear hlt
  obtain ⟨aa, na, ca, rfl, ha'⟩ := ha.op
  obtain ⟨ab, nb, cb, rfl, hb'⟩ := hb.op
  have HA := Lib.hid ha'
  have HLA := Lib.hid hla
  have HLB := Lib.hid hlb
  clear hla hlb
  go_enter Tryz.func136, Tryz.ntmps136
  go_wp2_with fail
  refine ncmp_any _ _ a b _ ha hb (by have := HLA.out; omega) (by have := HLB.out; omega) _ ?_
  rw [cmpN_lt HLT.out]
  intro w1 hb1 _
  have HB := Lib.hid hb1
  clear ha hb ha' hb' hb1
  dsimp only
  go_wp2
  first | go_ret | skip
  have h1 : a / b = 0 := Nat.div_eq_of_lt HLT.out
  have h2 : a % b = a := Nat.mod_eq_of_lt HLT.out
  exact HR.out _ _ _ (by rw [h1]; exact IsN.nil _) (by rw [h2]; exact HA.out.later HB.out (Nat.le_refl _)) HB.out

set_option maxRecDepth 100000 in
set_option maxHeartbeats 1000000 in
theorem divide_one (va vb : Value) (a b : Nat) (w : World) (ha : IsN w va a) (hb : IsN w vb b) (hla : (dig W64 a).length ≤ 10000000) (hlb : (dig W64 b).length = 1) (hle : b ≤ a) (R : Ending → World → Prop)
    (hR : ∀ v1 v2 w', IsN w' v1 (a / b) → IsN w' v2 (a % b) → Below w.heap.size w w' → R (.returned (.tuple #[v1, v2])) w') :
    Calls Tryz.prog 136 #[va, vb] w R := by
  have HR := Lib.hid hR; clear hR
  obtain ⟨x, hx⟩ := List.length_eq_one_iff.1 hlb
  have hbx := dig_one W64_two b x hx
  subst hbx
  have hxw : b < W64 := limb_lt b b (by rw [hx]; simp)
  have hx0 : b ≠ 0 := by intro h; subst h; rw [dig_zero] at hx; cases hx
  obtain ⟨aa, na, ca, rfl, ha'⟩ := ha.op
  obtain ⟨ab, nb, cb, rfl, hnb, hb'⟩ := hb.open
  rw [hlb] at hnb
  subst hnb
  obtain ⟨bk, o, rfl, hbk, hc⟩ := Sl.at hb' 0 (by omega)
  rw [hx, Nat.add_zero] at hc
  have hc2 : w.cell? ⟨bk, o, none⟩ = some (.int .u64 (b : Int)) := hc
  have HA := Lib.hid ha'
  have HXW := Lib.hid hxw
  have HX0 := Lib.hid hx0
  have hcm : ¬ (cmpN a b < 0) := by unfold cmpN; rw [if_neg (by omega)]; split <;> omega
  obtain ⟨cm, hcmp⟩ : ∃ cm, cm = cmpN a b := ⟨_, rfl⟩
  rw [← hcmp] at hcm
  have HCM := Lib.hid hcmp
  have HLA := Lib.hid hla
  clear hc hcmp hx hlb hle hxw hx0 hla
  go_enter Tryz.func136, Tryz.ntmps136
  go_wp2_with fail
  refine ncmp_any _ _ a b _ ha hb (by have := HLA.out; omega) (by have := dig_length_le W64_two 1 b (by rw [Nat.pow_one]; exact HXW.out); omega) _ ?_
  rw [← HCM.out]
  intro w1 hb1 hs1
  rw [← hb1.cell (p := ⟨bk, o, none⟩) hbk] at hc2
  have HB := Lib.hid hb1
  clear ha hb ha' hb' hb1 hs1
  dsimp only
  go_wp2_with fail
  refine divs_any _ a b _ (HA.out.later HB.out (Nat.le_refl _)) (by have := HX0.out; omega) HXW.out (by have := HLA.out; omega) _ ?_
  intro v1 w2 hv1 hb2
  obtain ⟨a1, n1, c1, rfl, hv1'⟩ := hv1.op
  have HV1 := Lib.hid hv1'
  have HB2 := Lib.hid (HB.out.trans (hb2.mono HB.out.size))
  obtain ⟨r, hr⟩ : ∃ r, r = a % b := ⟨_, rfl⟩
  rw [← hr]
  have hrw : r < W64 := by rw [hr]; exact Nat.lt_trans (Nat.mod_lt _ (by have := HX0.out; omega)) HXW.out
  have HRM := Lib.hid hr
  have HRW := Lib.hid hrw
  clear hv1 hv1' hb2 hr hrw hc2
  dsimp only
  go_wp2_with fail
  refine trimmed_any _ [r] _ (Own.lit1 .u64 99 w2 0 r _ rfl (Nat.zero_le _)).sl (by intro d hd; simp at hd; rw [hd]; exact HRW.out) (by simp) _ ?_
  intro v2 hv2 _
  obtain ⟨a2, n2, c2, rfl, hv2'⟩ := hv2.op
  have hvr : val W64 [r] = r := by simp [val]
  have HV2 := Lib.hid hv2'
  have HVR := Lib.hid hvr
  clear hv2 hv2' hvr
  dsimp only
  go_wp2
  first | go_ret | skip
  refine HR.out _ _ _ (HV1.out.later ((Below.refl _ _).alloc (Nat.le_refl _) _) (Nat.le_refl _)) ?_ (HB2.out.alloc HB2.out.size _)
  have hv := HV2.out
  rw [HVR.out] at hv
  rw [← HRM.out]
  exact hv
end Go.Proofs.YtdkjcdfkoahfkaaGreatDoor

namespace Go.Proofs.YtdkjcdfkoahfkaaGreatDoor
open Go Go.RowKit

theorem byte_at (s : ByteArray) (j : Nat) (h : j < s.size) (h2 : j < s.data.toList.length) : s[j] = s.data.toList[j] := by
  rw [Array.getElem_toList]; rfl

theorem size_list (s : ByteArray) : s.data.toList.length = s.size := Array.length_toList

set_option maxRecDepth 100000 in
theorem zread_any (s : ByteArray) (w : World) (hd : s.data.toList.all isDig = true) (hs : s.size ≤ 1000000) (R : Ending → World → Prop)
    (hR : ∀ v w', IsZ w' v ((rdec s.data.toList : Nat) : Int) → Below w.heap.size w w' → R (.returned v) w') :
    Calls Tryz.prog 55 #[.string s] w R := by
  have HR := Lib.hid hR; clear hR
  have HD := Lib.hid hd; clear hd
  obtain ⟨n, hn⟩ : ∃ n, n = s.size := ⟨_, rfl⟩
  have HN := Lib.hid hn
  rw [← hn] at hs
  go_enter Tryz.func55, Tryz.ntmps55
  go_wp2
  rw [← HN.out]
  clear hn
  go_loopw [3, 4, 5, 6] (fun d e _ _ wr => ∃ (ds : List Nat) (z : Int), e = .int .i64 z ∧ z = (n : Int) - 4 * (ds.length : Int) ∧ -4 < z ∧ (∀ q ∈ ds, q < 10000) ∧
      val 10000 ds = rdec (s.data.toList.drop z.toNat) ∧ Own .i64 2 wr (w.heap.size + 1) d ds ∧ Below w.heap.size w wr ∧ Box2 wr w.heap.size (.bool false) (.slice none 0 0) 67) (fun _ e _ _ _ => (intOf e).toNat)
  case atStart =>
    refine ⟨[], (n : Int), rfl, by simp, by omega, by simp, ?_, by have := Own.lit .i64 2 (w.alloc (.cells #[.bool false, .slice none 0 0] 67)) (w.heap.size + 1) (by simp); simpa using this,
      ((Below.refl _ _).alloc (Nat.le_refl _) _).alloc (by simp) _, (Box2.made w _ _ _).alloc _⟩
    rw [List.drop_eq_nil_of_le (by rw [size_list, ← HN.out]; omega)]; rfl
  case round =>
    obtain ⟨ds, z, rfl, hz, hz4, hds, hv, hown, hbel, hbox⟩ := hrel
    have hsz := hbel.size
    obtain ⟨hA, hB, hA', hB'⟩ := hbox.cells
    have hdl : ds.length ≤ 1000000 := by omega
    have HZ := Lib.hid hz
    have HV := Lib.hid hv
    have HDS := Lib.hid hds
    clear hz hv hds
    by_cases h0 : 0 < z
    · obtain ⟨k, rfl⟩ : ∃ k : Nat, z = k := ⟨z.toNat, by omega⟩
      have hkn : k ≤ n := by have := HZ.out; omega
      go_wp2
      go_loop [5, 6] (fun x i => ∃ (j : Int) (X : Nat), i = .int .i64 j ∧ (k : Int) - 4 ≤ j ∧ j ≤ k ∧ x = .int .i64 X ∧ X = rdec ((s.data.toList.take j.toNat).drop (k - 4)) ∧ X < 10000) (fun _ i => ((k : Int) - intOf i).toNat)
      case atStart =>
        exact ⟨(k : Int) - 4, 0, rfl, by omega, by omega, rfl, (group_nil _ _ _ (by omega)).symm, by omega⟩
      case round =>
        obtain ⟨j, X, rfl, hj1, hj2, rfl, hX, hX4⟩ := hrel
        have HX := Lib.hid hX
        clear hX
        by_cases hjk : j < k
        · by_cases hj0 : 0 ≤ j
          · obtain ⟨i, rfl⟩ : ∃ i : Nat, j = i := ⟨j.toNat, by omega⟩
            have hin : i < s.size := by rw [← HN.out]; omega
            have hin2 : i < s.data.toList.length := by rw [size_list]; exact hin
            have hb := dig_at _ HD.out i hin2
            rw [← byte_at s i hin hin2] at hb
            obtain ⟨hb1, hb2⟩ := hb
            have hb3 : 48 ≤ (s[i].toNat : Int) := by omega
            have hb4 : (s[i].toNat : Int) ≤ 57 := by omega
            have hX3 : X ≤ 999 := by rw [HX.out]; exact group_le _ HD.out _ _ (by omega)
            have HS : Hid (rdec ((s.data.toList.take (i + 1)).drop (k - 4)) = 10 * X + (s[i].toNat - 48)) := Lib.hid (by
              rw [read_digit _ _ _ (by omega) hin2, ← byte_at s i hin hin2, HX.out]; rfl)
            have hin3 : i < n := by omega
            have HIN := HN.out ▸ hin3
            go_wp2
            go_round
            case rel => exact ⟨(i : Int) + 1, 10 * X + (s[i].toNat - 48), rfl, by omega, by omega, congrArg (Value.int .i64) (by omega), by rw [← HS.out]; rfl, by omega⟩
            case measure => simp [intOf]; omega
          · go_wp2
            go_round
            case rel => exact ⟨j + 1, X, rfl, by omega, by omega, rfl, by rw [HX.out, group_nil _ _ _ (by omega), group_nil _ _ _ (by omega)], hX4⟩
            case measure => simp [intOf]; omega
        · obtain rfl : j = k := by omega
          go_wp2_with (at_builtin; go_must (refine wpList_push rfl (.tmp 31) (.tmp 33) 65 rfl 2 .i64 8 Tryz.underlying65 info_i64 (by omega) (w.heap.size + 1) _ ds X rfl (hown.alloc _) wr.heap.size rfl (World.cell?_alloc_at _ _ _ _ rfl) (by omega) (by simp; omega) ?_))
          intro v' w1 hown1 hb1
          have hbox1 := (hbox.alloc (.cells #[.int .i64 X] 2)).later hb1 (by omega)
          have hb2 : Below w.heap.size w w1 := (hbel.alloc hsz _).trans (hb1.mono (by omega))
          clear hA hB hA' hB' hbox hown hb1
          go_wp2
          go_roundw
          case rel =>
            refine ⟨ds ++ [X], (k : Int) - 4, rfl, by have := HZ.out; simp; omega, by omega, ?_, ?_, hown1, hb2, hbox1⟩
            · intro q hq
              rcases List.mem_append.1 hq with hq | hq
              · exact HDS.out q hq
              · simp at hq; omega
            · have := read_step s.data.toList ds k X (by rw [size_list, ← HN.out]; exact hkn) (by rw [size_list, ← HN.out]; have := HZ.out; omega) HV.out (by rw [HX.out]; rfl)
              rw [this, show ((k : Int) - 4).toNat = k - 4 by omega]
          case measure => simp [intOf]; omega
    · have hall : val 10000 ds = rdec s.data.toList := by rw [HV.out, show z.toNat = 0 by omega, List.drop_zero]
      go_wp2_with fail
      refine cut_z false _ ds wr hown.sl HDS.out (by omega) ((rdec s.data.toList : Nat) : Int) (by rw [hall]; rfl) _ ?_
      intro v' w1 hz hb1
      obtain ⟨ao', n', cap', rfl, hn', hs'⟩ := hz.open
      obtain ⟨hA1, hB1, hA1', hB1'⟩ := (hbox.later hb1 (lt_of_block hbox)).cells
      have Hn' := Lib.hid hn'
      clear hA hB hA' hB' hall hn'
      dsimp only
      go_wp2
      refine bodyPost_ret_at (by simp [results, Tryz.results55, go_sem, hA1, hB1, hA1', hB1'] <;> rfl) rfl ?_
      have hbz : Below w.heap.size w w1 := hbel.trans (hb1.mono hsz)
      have hni := (hbox.later hb1 (lt_of_block hbox)).noInt rfl rfl
      exact HR.out _ _ ⟨_, rfl, (hs'.set hni 0 _).set (hni.set 0 _ rfl) 1 _⟩ ((hbz.setCell (by simp) _).setCell (by simp) _)
end Go.Proofs.YtdkjcdfkoahfkaaGreatDoor

namespace Go.Proofs.YtdkjcdfkoahfkaaGreatDoor
open Go Go.RowKit Go.Shelf

theorem C19_lt : C19 < W64 := by rw [C19_eq, W64_eq]; omega
theorem C19_pos : 0 < C19 := by rw [C19_eq]; omega

theorem tab_later {P : Program} {w w' : World} {name : String} {k : IntKind} {zs : List Int} {B : Nat} (h : Lib.TabIs P w name k zs) (hb : Below B w w') (hB : w.heap.size ≤ B) : Lib.TabIs P w' name k zs := by
  have hv' : w.var? P name = some (zs.map fun z => Value.int k z).toArray := h
  have hv := hv'
  unfold World.var? at hv'
  show w'.var? P name = some _
  cases hg : P.globalNamed name with
  | none => rw [hg] at hv'; simp at hv'
  | some g =>
    refine var?_below (hb.mono hB |> fun h => h) hg ?_ hv
    rw [hg] at hv'
    simp only [Option.bind_some] at hv'
    rcases Nat.lt_or_ge g w.heap.size with h | h
    · exact h
    · rw [Array.getElem?_eq_none (by omega)] at hv'; simp at hv'

theorem drop_val_ne (n j : Nat) (h : j < (dig C19 n).length) : val C19 ((dig C19 n).drop j) ≠ 0 := by
  intro h0
  have h1 := val_take_drop C19 (dig C19 n) j (by omega)
  rw [h0, val_dig C19_two, Nat.mul_zero, Nat.add_zero] at h1
  have h2 := val_lt (B := C19) ((dig C19 n).take j) (fun d hd => dig_lt C19_two n d (List.mem_of_mem_take hd))
  rw [← h1, List.length_take, Nat.min_eq_left (by omega)] at h2
  have := dig_length_le C19_two j n h2
  omega

def lenS : Value → Nat
  | .slice _ n _ => n
  | _ => 0

set_option maxRecDepth 100000 in
theorem divsC_any (v : Value) (a : Nat) (w : World) (h : IsN w v a) (hlen : (dig W64 a).length ≤ 4) (R : Ending → World → Prop)
    (hR : ∀ v' w', IsN w' v' (a / C19) → Below w.heap.size w w' → (∀ b, blk v' = some b → w.heap.size ≤ b) → R (.returned (.tuple #[v', .int .u64 ((a % C19 : Nat) : Int)])) w') :
    Calls Tryz.prog 181 #[v, .int .u64 10000000000000000000] w R := by
  have := divs_own v a C19 w h C19_pos C19_lt (by omega) R hR
  exact this

/-- a slice elsewhere, behind an append -/
theorem Sl.grown {k : IntKind} {w w' : World} {v : Value} {xs : List Nat} {row : Option Nat} (h : Sl k w v xs) (hg : w.grownBy w' row) (hr : ∀ g, row = some g → blk v ≠ some g) : Sl k w' v xs := by
  obtain ⟨ao, cap, hv, hc, hx⟩ := h
  refine ⟨ao, cap, hv, hc, fun i hi => ?_⟩
  obtain ⟨b, off, h1, h2, h3⟩ := hx i hi
  refine ⟨b, off, h1, Nat.lt_of_lt_of_le h2 hg.size, ?_⟩
  have hb : some b ≠ row := by
    intro e
    refine hr b e.symm ?_
    rw [hv, h1]; rfl
  have := World.cell?_of_block (w := w) (w' := w') (a := ⟨b, off + i, none⟩) (hg.block b h2 hb)
  rw [this]; exact h3

/-- one limb is appended to a slice that the call has made; nothing else changes -/
theorem wpList_pushg {P : Program} {w : World} {ops : Array Oper} {rest : List Oper} {o : Oper} {a : Act} {Q : Exit → Act → World → Prop} (hgd : o.guard = none) (s x : Operand) (t : TypeId)
    (ho : o.op = .call { callee := .builtin .append, args := #[s, x], argTypes := #[t, t] })
    (e : TypeId) (k : IntKind) (bytes : Nat) (ht : P.underlying t = some (.slice e)) (hi : (P.info? e).map (fun i => (i.zero, i.size, i.bytes)) = some (some (.int k 0), 1, bytes)) (hby : bytes ≤ 16)
    (B : Nat) (v : Value) (xs : List Nat) (n : Nat) (hs : a.eval s = v) (hown : Own k e w B v xs)
    (g : Nat) (hx : a.eval x = .slice (some ⟨g, 0, none⟩) 1 1) (hg : w.cell? ⟨g, 0, none⟩ = some (.int k ((n : Nat) : Int)))
    (hlen : xs.length ≤ 100000000) (hB : B ≤ w.heap.size)
    (h : ∀ v' w', Own k e w' B v' (xs ++ [n]) → Below B w w' → w.grownBy w' v.ownBlock → wpList P ops Q rest (a.put o.dst v') w') : wpList P ops Q (o :: rest) a w := by
  obtain ⟨i0, hi0, hz0, hz1, hz2⟩ := info_parts hi
  refine wpList_append_own w hgd s x t ho B e i0 (.int k 0) 1 bytes ht hi0 hz0 hz1 hz2 rfl (by decide) v xs.length (nums k xs) hs hown ⟨g, 0, none⟩ 1 1 [.int k ((n : Nat) : Int)] hx rfl ?_ ?_ ?_ ?_ hB ?_
  · intro j u hj
    match j, hj with
    | 0, hj => simp at hj; subst hj; simpa [Addr.add] using hg
  · intro u hu; simp at hu; subst hu; rfl
  · simp only [maxLen]; omega
  · have : (xs.length + 1) * bytes ≤ (xs.length + 1) * 16 := Nat.mul_le_mul_left _ hby
    omega
  · intro v' w' hown' hgrow _
    refine h v' w' ?_ ?_ hgrow
    · simpa [Own, nums] using hown'
    · refine (Below.refl B w).grown hgrow hB (fun g' hg' => ?_)
      exact (Own.ownBlock hown g' hg').1

theorem Own.shapeS {k : IntKind} {e : TypeId} {w : World} {B : Nat} {v : Value} {xs : List Nat} (h : Own k e w B v xs) : ∃ ao c, v = .slice ao xs.length c := by
  rcases h.2 with ⟨rfl, h2⟩ | ⟨g, cap, cur, rfl, _⟩
  · exact ⟨none, 0, by rw [h2]⟩
  · exact ⟨_, _, rfl⟩

/-- what the first loop keeps: the chunks so far, and what is left -/
def DigRel (w : World) (n : Nat) (av cv : Value) (wr : World) : Prop :=
  ∃ m cs, IsN wr av m ∧ Own .u64 99 wr w.heap.size cv cs ∧ cs ++ dig C19 m = dig C19 n ∧ (dig W64 m).length ≤ 4 ∧ Below w.heap.size w wr

theorem digs_step {n m : Nat} {cs : List Nat} (h : cs ++ dig C19 m = dig C19 n) (hm : m ≠ 0) : (cs ++ [m % C19]) ++ dig C19 (m / C19) = dig C19 n := by
  rw [← h, dig_pos C19_two hm]; simp

theorem limbs_div {m k : Nat} (h : (dig W64 m).length ≤ k) : (dig W64 (m / C19)).length ≤ k := by
  refine dig_length_le W64_two k _ ?_
  have h1 := Nat.lt_of_lt_of_le (lt_pow_dig W64_two m) (Nat.pow_le_pow_right (by rw [W64_eq]; omega) h)
  exact Nat.lt_of_le_of_lt (Nat.div_le_self _ _) h1

/-- what the second loop keeps -/
def OutRel (wr : World) (L : Nat) (cs : List Nat) (iv : Value) (wx : World) : Prop :=
  ∃ k : Nat, iv = .int .i64 ((k : Int) - 1) ∧ k ≤ L ∧ IsB wx wr.heap.size (decs (val C19 (cs.drop k))) ∧ Below wr.heap.size wr wx

theorem rep_zero (c : Nat) : Lib.repeatL [48] c = List.replicate c 48 := by
  induction c with
  | zero => rfl
  | succ c ih => rw [Lib.repeatL, ih, List.replicate_succ]; rfl

set_option maxRecDepth 100000 in
theorem rep48_any (c : Nat) (w : World) (hc : c ≤ 100) (R : Ending → World → Prop)
    (hR : ∀ w', Below w.heap.size w w' → R (.returned (.string ⟨(List.replicate c 48).toArray⟩)) w') :
    Calls Tryz.prog 183 #[.string ⟨#[48]⟩, .int .i64 (c : Int)] w R := by
  refine (Tryz.strings_Repeat ⟨#[48]⟩ c w (by omega) (by show 1 * c ≤ _; omega)).mono ?_
  rintro e w' ⟨rfl, hb⟩
  have := hR w' hb
  rw [← rep_zero] at this
  exact this

theorem bstrF_any (b : Nat) (T : List UInt8) (w : World) (h : IsB w b T) (R : Ending → World → Prop)
    (hR : ∀ w', Lib.IsBuilderF 153 5 b b (Lib.byteCells T) w' → Below b w w' → R (.returned (.string ⟨T.toArray⟩)) w') :
    Calls Tryz.prog 131 #[.pointer (some ⟨b, 0, none⟩)] w R := by
  refine (Tryz.Builder_String_any_f b b T w (Lib.IsBuilderF.of h) (Nat.le_of_lt h.lt)).mono ?_
  rintro e w' ⟨rfl, h1, h2⟩
  exact hR w' h1 h2

theorem blenF_any (b : Nat) (T : List UInt8) (w : World) (h : Lib.IsBuilderF 153 5 b b (Lib.byteCells T) w) (R : Ending → World → Prop)
    (hR : R (.returned (.int .i64 (T.length : Int))) w) :
    Calls Tryz.prog 184 #[.pointer (some ⟨b, 0, none⟩)] w R := by
  refine (Tryz.Builder_Len_f b b (Lib.byteCells T) w h).mono ?_
  rintro e w' ⟨rfl, rfl⟩
  rw [byteCells_length]
  exact hR

theorem chunk_step {n j L : Nat} {cs : List Nat} (hcs : cs = dig C19 n) (hL : cs.length = L + 1) (hj : j < L) :
    decs (val C19 (cs.drop j)) = decs (val C19 (cs.drop (j + 1))) ++ (List.replicate (19 - (decs (cs.getD j 0)).length) 48 ++ decs (cs.getD j 0)) := by
  rw [val_drop C19 cs j (by omega), Nat.add_comm, Nat.mul_comm]
  refine decs_chunk _ _ ?_ ?_
  · rw [hcs]; exact drop_val_ne n (j + 1) (by rw [← hcs]; omega)
  · rw [hcs]; exact dig_getD_lt C19_two n j

set_option maxRecDepth 100000 in
set_option maxHeartbeats 4000000 in
theorem digits_any (v : Value) (n : Nat) (w : World) (h : IsN w v n) (htab : Lib.TabIs Tryz.prog w "internal/strconv.uint64pow10" .u64 Lib.pow10Tab) (R : Ending → World → Prop)
    (hR : ∀ w', (decs n).length ≤ 60 → Below w.heap.size w w' → R (.returned (.tuple #[.string ⟨(decs n).toArray⟩, .bool true])) w')
    (hR2 : ∀ s w', ¬ (decs n).length ≤ 60 → Below w.heap.size w w' → R (.returned (.tuple #[.string s, .bool false])) w') :
    Calls Tryz.prog 127 #[v] w R := by
  have HR := Lib.hid hR; clear hR
  have HR2 := Lib.hid hR2; clear hR2
  have HTAB := Lib.hid htab; clear htab
  obtain ⟨ao, k, cap, rfl, hk, hs⟩ := h.open
  have HK := Lib.hid hk
  have HS := Lib.hid hs
  clear h hk hs
  by_cases h0 : n = 0
  · have HN0 := Lib.hid h0
    have hd : decide (n = 0) = true := decide_eq_true h0
    clear h0
    go_enter Tryz.func127, Tryz.ntmps127
    go_wp2_with fail
    refine nzero_any _ n _ HS.out _ ?_
    rw [hd]
    clear hd
    dsimp only
    go_wp2
    first | go_ret | skip
    have := HR.out w (by rw [HN0.out]; decide) (Below.refl _ _)
    rw [HN0.out] at this
    exact this
  · have hd : decide (n = 0) = false := decide_eq_false h0
    have HNZ := Lib.hid h0
    clear h0
    go_enter Tryz.func127, Tryz.ntmps127
    go_wp2_with fail
    refine nzero_any _ n _ HS.out _ ?_
    rw [hd]
    clear hd
    dsimp only
    by_cases h4 : k ≤ 4
    · have h4' : ¬ ((4 : Int) < (k : Int)) := by omega
      have H4 := Lib.hid h4
      clear h4
      go_wp2_with fail
      go_loopw [0, 4] (fun av cv wr => DigRel w n av cv wr) (fun _ cv _ => 5 - lenS cv)
      case atStart => exact ⟨n, [], HS.out, Own.nil _ _ _ _, rfl, by rw [← HK.out]; exact H4.out, Below.refl _ _⟩
      case round =>
        obtain ⟨m, cs, hv, hown, hcs, hl4, hbel⟩ := hrel
        obtain ⟨am, km, capm, rfl, hv'⟩ := IsN.op hv
        obtain ⟨ac, cc, hcv⟩ := hown.shapeS
        obtain ⟨lc, hlcE⟩ : ∃ lc, lc = cs.length := ⟨_, rfl⟩
        rw [← hlcE] at hcv
        subst hcv
        have HLE := Lib.hid hlcE
        clear hlcE
        have hln : (dig C19 n).length ≤ 5 := chunks_few (by have := H4.out; rw [HK.out, W64_eq] at this; exact this)
        have hlc : cs.length + (dig C19 m).length = (dig C19 n).length := by rw [← hcs, List.length_append]
        have HV := Lib.hid hv'
        have HOWN := Lib.hid hown
        have HCS := Lib.hid hcs
        have HL4 := Lib.hid hl4
        have HB := Lib.hid hbel
        have HLC := Lib.hid hlc
        have HLN := Lib.hid hln
        clear hv hv' hown hcs hl4 hbel hlc hln
        go_wp2_with fail
        refine nzero_any _ m _ HV.out _ ?_
        by_cases hm : m = 0
        · have hd : decide (m = 0) = true := decide_eq_true hm
          have HC : Hid (cs = dig C19 n) := Lib.hid (by have := HCS.out; rw [hm, dig_zero, List.append_nil] at this; exact this)
          rw [hd]
          clear hd hm
          dsimp only
          obtain ⟨wo, hwo⟩ : ∃ wo, wo = wr := ⟨_, rfl⟩
          subst hwo
          obtain ⟨L, rfl⟩ : ∃ L, lc = L + 1 := ⟨lc - 1, by
            have h1 : lc ≠ 0 := by
              rw [HLE.out, HC.out]; intro e; exact HNZ.out ((dig_eq_nil C19_two).1 (List.eq_nil_of_length_eq_zero e))
            omega⟩
          have hL5 : L ≤ 5 := by have := HLN.out; have := HLE.out; rw [HC.out] at this; omega
          obtain ⟨gb, go, rfl, hgl, hgc⟩ := HOWN.out.sl.at L (by omega)
          have HSL := Lib.hid HOWN.out.sl
          obtain ⟨u, hu⟩ : ∃ u, u = cs.getD L 0 := ⟨_, rfl⟩
          rw [← hu] at hgc
          have hu19 : u < C19 := by rw [hu, HC.out]; exact dig_getD_lt C19_two n L
          have HU64 : Hid (u < 18446744073709551616) := Lib.hid (Nat.lt_trans hu19 C19_lt)
          have HUV : Hid (decs (val C19 (cs.drop L)) = decs u) := Lib.hid (by
            rw [val_drop C19 cs L (by have := HLE.out; omega), ← hu, val_drop_all C19 cs (L + 1) (by have := HLE.out; omega), Nat.mul_zero, Nat.add_zero])
          have HU19 := Lib.hid (decs_len19 hu19)
          obtain ⟨W0, hW0⟩ : ∃ W0, W0 = wo.alloc (.cells #[.pointer none, .slice none 0 0] 153) := ⟨_, rfl⟩
          have HW0 := Lib.hid hW0
          have HWB : Hid (Below wo.heap.size wo W0) := Lib.hid (by rw [hW0]; exact (Below.refl _ _).alloc (Nat.le_refl _) _)
          have HIB : Hid (IsB W0 wo.heap.size []) := Lib.hid (by rw [hW0]; exact IsB.fresh wo)
          have HTAB0 : Hid (Lib.TabIs Tryz.prog W0 "internal/strconv.uint64pow10" .u64 Lib.pow10Tab) := Lib.hid (tab_later HTAB.out (HB.out.trans (HWB.out.mono HB.out.size)) (Nat.le_refl _))
          have hgc2 := hgc
          obtain ⟨gb', go', hg', _, hgc0⟩ := (HSL.out.later HWB.out (Nat.le_refl _)).at L (by omega)
          simp only [Option.some.injEq, Addr.mk.injEq, and_true] at hg'
          obtain ⟨rfl, rfl⟩ := hg'
          rw [← hu, hW0] at hgc0
          clear hu hu19 hW0 hgl hgc hgc2
          go_wp2_with fail
          rw [← HW0.out]
          refine fmtu_any u HU64.out _ HTAB0.out _ ?_
          intro w1 hb1
          obtain ⟨t, ht⟩ : ∃ t : ByteArray, t = ⟨(decs u).toArray⟩ := ⟨_, rfl⟩
          rw [← ht]
          have HT : Hid (t.data.toList = decs u) := Lib.hid (by rw [ht])
          have HTS : Hid (t.size ≤ 19) := Lib.hid (by rw [← size_list, HT.out]; exact HU19.out)
          have HIB1 := Lib.hid (HIB.out.later hb1)
          have HWB1 := Lib.hid (HWB.out.trans (hb1.mono HWB.out.size))
          clear ht hb1 hgc0
          dsimp only
          go_wp2_with fail
          refine bws_any wo.heap.size [] t w1 HIB1.out (by have := HTS.out; simp; omega) _ ?_
          intro w2 hib2 hb2
          have HREL : Hid (OutRel wo L cs (.int .i64 ((L : Int) - 1)) w2) := Lib.hid ⟨L, rfl, Nat.le_refl _, by rw [HUV.out, ← HT.out]; exact hib2, HWB1.out.trans hb2⟩
          clear hib2 hb2
          dsimp only
          go_wp2_with fail
          go_loopw [8] (fun iv wx => OutRel wo L cs iv wx) (fun iv _ => (intOf iv + 1).toNat)
          case atStart => exact HREL.out
          case round =>
            clear HREL
            obtain ⟨j, rfl, hjL, hib, hbx⟩ := hrel
            have HIBX := Lib.hid hib
            have HBX := Lib.hid hbx
            have HBWX := Lib.hid (HB.out.trans (hbx.mono HB.out.size))
            clear hib hbx
            by_cases hj0 : j = 0
            · subst hj0
              have HFIN : Hid (IsB _ wo.heap.size (decs n)) := Lib.hid (by have := HIBX.out; rw [List.drop_zero, HC.out, val_dig C19_two] at this; exact this)
              go_wp2_with fail
              refine bstrF_any _ _ _ HFIN.out _ ?_
              intro w3 hib3 hb3
              have HIB3 := Lib.hid hib3
              have HB3 := Lib.hid (HBWX.out.trans (hb3.mono HB.out.size))
              clear hib3 hb3
              obtain ⟨T, hT⟩ : ∃ T, T = decs n := ⟨_, rfl⟩
              rw [← hT] at HR HR2 HIB3 ⊢
              dsimp only
              go_wp2_with fail
              refine blenF_any _ _ _ HIB3.out _ ?_
              by_cases h60 : T.length ≤ 60
              · have h60' : ((T.length : Nat) : Int) ≤ 60 := by omega
                have HL := Lib.hid h60
                clear h60 hT
                dsimp only
                go_wp2
                first | go_ret | skip
                exact HR.out _ HL.out HB3.out
              · have h60' : ¬ ((T.length : Nat) : Int) ≤ 60 := by omega
                have HL := Lib.hid h60
                clear h60 hT
                dsimp only
                go_wp2
                first | go_ret | skip
                exact HR2.out _ _ HL.out HB3.out
            · obtain ⟨i, rfl⟩ : ∃ i, j = i + 1 := ⟨j - 1, by omega⟩
              rw [show ((i + 1 : Nat) : Int) - 1 = (i : Int) by omega]
              have hiL : i < L := by omega
              obtain ⟨gb', go', hg', _, hgc⟩ := (HSL.out.later HBX.out (Nat.le_refl _)).at i (by omega)
              simp only [Option.some.injEq, Addr.mk.injEq, and_true] at hg'
              obtain ⟨rfl, rfl⟩ := hg'
              obtain ⟨u, hu⟩ : ∃ u, u = cs.getD i 0 := ⟨_, rfl⟩
              rw [← hu] at hgc
              have hu19 : u < C19 := by rw [hu, HC.out]; exact dig_getD_lt C19_two n i
              have HU64 : Hid (u < 18446744073709551616) := Lib.hid (Nat.lt_trans hu19 C19_lt)
              have HU19 := Lib.hid (decs_len19 hu19)
              have HSTEP := Lib.hid (chunk_step HC.out HLE.out.symm hiL)
              have HU := Lib.hid hu
              have HTABX : Hid (Lib.TabIs Tryz.prog _ "internal/strconv.uint64pow10" .u64 Lib.pow10Tab) := Lib.hid (tab_later HTAB.out HBWX.out (Nat.le_refl _))
              clear hu hu19
              go_wp2_with fail
              refine fmtu_any u HU64.out _ HTABX.out _ ?_
              intro w3 hb3
              obtain ⟨t, ht⟩ : ∃ t : ByteArray, t = ⟨(decs u).toArray⟩ := ⟨_, rfl⟩
              rw [← ht]
              have HT : Hid (t.data.toList = decs u) := Lib.hid (by rw [ht])
              have hts : t.size ≤ 19 := by rw [← size_list, HT.out]; exact HU19.out
              obtain ⟨p, hp⟩ : ∃ p, p = 19 - t.size := ⟨_, rfl⟩
              have hpe : (19 : Int) - (t.size : Int) = (p : Int) := by omega
              have hpw : IntKind.i64.wrap ((19 : Int) - (t.size : Int)) = (p : Int) := by rw [hpe]; exact IntWalk.i64_in _ (by omega)
              have HP : Hid (p = 19 - (decs u).length ∧ p ≤ 19 ∧ t.size ≤ 19) := Lib.hid (by rw [← HT.out, size_list]; omega)
              have HIB3 := Lib.hid (HIBX.out.later hb3)
              have HB3 := Lib.hid (HBX.out.trans (hb3.mono HBX.out.size))
              clear ht hb3 hgc hp
              dsimp only
              go_wp2_with fail
              refine rep48_any p _ (by have := HP.out; omega) _ ?_
              intro w4 hb4
              obtain ⟨z, hz⟩ : ∃ z : ByteArray, z = ⟨(List.replicate p 48).toArray⟩ := ⟨_, rfl⟩
              rw [← hz]
              have HZ : Hid (z.data.toList = List.replicate p 48) := Lib.hid (by rw [hz])
              have HZS : Hid (z.size = p) := Lib.hid (by rw [← size_list, HZ.out, List.length_replicate])
              have HIB4 := Lib.hid (HIB3.out.later hb4)
              have HB4 := Lib.hid (HB3.out.trans (hb4.mono HB3.out.size))
              obtain ⟨T, hT⟩ : ∃ T, T = decs (val C19 (cs.drop (i + 1))) := ⟨_, rfl⟩
              rw [← hT] at HIB4 HSTEP
              have HTL : Hid (T.length ≤ 200) := Lib.hid (by
                rw [hT]
                refine decs_len_lt (by omega) ?_
                refine Nat.lt_of_lt_of_le (val_lt (B := C19) _ (fun d hd => dig_lt C19_two n d (by rw [HC.out] at hd; exact List.mem_of_mem_drop hd))) ?_
                rw [C19_pow, ← Nat.pow_mul]
                refine Nat.pow_le_pow_right (by omega) ?_
                rw [List.length_drop, ← HLE.out]
                omega)
              clear hz hb4 hpe hpw hT hts
              dsimp only
              go_wp2_with fail
              refine bws_any wo.heap.size T z w4 HIB4.out (by have := HTL.out; have := HZS.out; have := HP.out; omega) _ ?_
              intro w5 hib5 hb5
              have HIB5 := Lib.hid hib5
              have HB5 := Lib.hid (HB4.out.trans hb5)
              clear hib5 hb5
              dsimp only
              go_wp2_with fail
              refine bws_any wo.heap.size _ t w5 HIB5.out (by have := HTL.out; have h1 := HZS.out; have h2 := HP.out; rw [List.length_append, size_list]; omega) _ ?_
              intro w6 hib6 hb6
              have HREL : Hid (OutRel wo L cs (.int .i64 ((i : Int) - 1)) w6) := Lib.hid ⟨i, rfl, by omega, by
                rw [HSTEP.out, ← HU.out, ← HP.out.1, ← HT.out, ← HZ.out, ← List.append_assoc]; exact hib6, HB5.out.trans hb6⟩
              clear hib6 hb6
              dsimp only
              go_wp2
              go_roundw
              case rel => exact HREL.out
              case measure => (first | omega | (simp only [intOf]; omega))
        · have hd : decide (m = 0) = false := decide_eq_false hm
          have HM := Lib.hid hm
          rw [hd]
          clear hd hm
          dsimp only
          go_wp2_with fail
          refine divsC_any _ m _ HV.out HL4.out _ ?_
          intro v1 w1 hv1 hb1 hbl1
          obtain ⟨a1, n1, c1, rfl, hv1'⟩ := IsN.op hv1
          have HV1 := Lib.hid hv1'
          have HB1 := Lib.hid hb1
          have HBL := Lib.hid hbl1
          have HBB := Lib.hid (HB.out.trans (hb1.mono HB.out.size))
          have hown1 := HOWN.out.later hb1 (Nat.le_refl _)
          obtain ⟨r, hr⟩ : ∃ r, r = m % C19 := ⟨_, rfl⟩
          have HRR := Lib.hid hr
          rw [← hr]
          have hsz : w.heap.size ≤ w1.heap.size := HBB.out.size
          have hcl : cs.length ≤ 100000000 := by have := HLC.out; have := HLN.out; omega
          clear hv1 hv1' hb1 hr hbl1
          dsimp only
          go_wp2_with (at_builtin; go_must (refine wpList_pushg rfl (.tmp 23) (.tmp 25) 80 rfl 99 .u64 8 Tryz.underlying80 info_u64 (by omega) w.heap.size _ cs r rfl (hown1.alloc _) w1.heap.size rfl (World.cell?_alloc_at _ _ _ _ rfl) hcl (by simp; omega) ?_))
          intro v' w2 hown2 hbw hgr
          obtain ⟨a2, c2, hv2⟩ := hown2.shapeS
          have hb12 : Below w.heap.size w1 w2 := ((Below.refl w.heap.size w1).alloc hsz _).trans hbw
          have hv12 : IsN w2 (.slice a1 n1 c1) (m / C19) := Sl.grown (Sl.alloc HV1.out _) hgr (fun g hg e => by
            have h1 := (HOWN.out.ownBlock g hg).2
            have h2 := HBL.out g e
            omega)
          have HREL : Hid (DigRel w n (.slice a1 n1 c1) v' w2) := Lib.hid ⟨m / C19, cs ++ [r], hv12, hown2, by rw [HRR.out]; exact digs_step HCS.out HM.out, limbs_div HL4.out, HBB.out.trans hb12⟩
          have HM2 : Hid (lenS v' = lc + 1 ∧ lc < 5) := Lib.hid (by
            rw [HLE.out]
            refine ⟨by rw [hv2]; simp [lenS], ?_⟩
            have h1 := HLC.out
            rw [dig_pos C19_two HM.out] at h1
            have := HLN.out
            simp only [List.length_cons] at h1
            omega)
          clear hv12 hgr
          clear hown1 hown2 hbw hb12 hv2 hsz hcl
          go_wp2
          go_roundw
          case rel => exact HREL.out
          case measure => rw [HM2.out.1]; simp only [lenS]; have := HM2.out.2; omega
    · have h4' : ((4 : Int) < (k : Int)) := by omega
      have H4 := Lib.hid (show ¬ (decs n).length ≤ 60 from fun h => h4 (by rw [HK.out, W64_eq]; exact limbs_few h))
      clear h4
      go_wp2_with fail
      first | go_ret | skip
      exact HR2.out _ w H4.out (Below.refl _ _)
end Go.Proofs.YtdkjcdfkoahfkaaGreatDoor

namespace Go.Proofs.YtdkjcdfkoahfkaaGreatDoor
open Go Go.RowKit

def TimesRel (w : World) (g na nb : Nat) (xs : List Nat) (b : Nat) (iv : Value) (wr : World) : Prop :=
  ∃ (k : Nat) (zs : List Nat), iv = .int .i64 (k : Int) ∧ k ≤ na ∧ Arr .u64 99 wr g zs ∧ zs.length = na + nb ∧ (∀ d ∈ zs, d < W64) ∧ zs.drop (k + nb) = List.replicate (na - k) 0 ∧
    val W64 zs = val W64 (xs.take k) * b ∧ Below w.heap.size w wr ∧ wr.heap.size = w.heap.size + 1

theorem drop_zero_getD {zs : List Nat} {i m : Nat} (h : zs.drop i = List.replicate m 0) : zs.getD i 0 = 0 := by
  have h1 : (zs.drop i).getD 0 0 = zs.getD i 0 := by simp [List.getD_eq_getElem?_getD, List.getElem?_drop]
  rw [← h1, h]
  exact getD_zeros _ _

theorem times_rel (w wr w1 : World) (g na nb k x b c : Nat) (xs rs zs : List Nat) (zc : Int) (hk : k < na) (hxl : xs.length = na) (hx : x = xs.getD k 0)
    (hrl : rs.length = na + nb) (hrd : rs.drop (k + nb) = List.replicate (na - k) 0) (hrv : val W64 rs = val W64 (xs.take k) * b)
    (hA : Arr .u64 99 w1 g zs) (hzl : zs.length = rs.length) (hz : ∀ d ∈ zs, d < W64) (hzd : zs.drop (k + nb) = rs.drop (k + nb))
    (hzv : val W64 zs + W64 ^ (k + nb) * c = val W64 rs + W64 ^ k * (x * b)) (hc : c < W64) (hb : Below w.heap.size w wr) (hs : wr.heap.size = w.heap.size + 1) (hbut : But g wr w1) (hs1 : w1.heap.size = wr.heap.size) (hg : g = w.heap.size) (hzc : zc = (c : Int)) :
    TimesRel w g na nb xs b (.int .i64 ((k + 1 : Nat) : Int)) (w1.setCell ⟨g, k + nb, none⟩ (.int .u64 zc)) := by
  subst hzc hg
  refine ⟨k + 1, zs.set (k + nb) c, rfl, by omega, hA.set _ _, by simp [hzl, hrl], set_ltN _ _ _ hz hc, ?_, ?_, (hb.trans (hbut.below (Nat.le_refl _) (by omega))).setCell (by simp) _, by simp [hs, hs1]⟩
  · rw [drop_set_out _ _ _ _ (by omega)]
    have h2 := congrArg (List.drop 1) (hzd.trans hrd)
    rw [List.drop_drop, List.drop_replicate] at h2
    rw [show k + 1 + nb = k + nb + 1 by omega, h2]
    congr 1
  · have h1 := val_setN W64 zs (k + nb) c (by omega)
    rw [drop_zero_getD (hzd.trans hrd), Nat.mul_zero, Nat.add_zero] at h1
    rw [h1, hzv, hrv, val_take_succ W64 xs k (by omega), ← hx]
    rw [Nat.add_mul, Nat.mul_assoc]

set_option maxRecDepth 100000 in
set_option maxHeartbeats 1000000 in
theorem ntimes_any (va vb : Value) (a b : Nat) (w : World) (ha : IsN w va a) (hb : IsN w vb b) (hla : (dig W64 a).length ≤ 100000000) (hlb : (dig W64 b).length ≤ 100000000) (R : Ending → World → Prop)
    (hR : ∀ v' w', IsN w' v' (a * b) → Below w.heap.size w w' → R (.returned v') w') :
    Calls Tryz.prog 119 #[va, vb] w R := by
  have HR := Lib.hid hR; clear hR
  obtain ⟨aa, na, ca, rfl, hna, hsa⟩ := ha.open
  obtain ⟨ab, nb, cb, rfl, hnb, hsb⟩ := hb.open
  obtain ⟨xs, hxs⟩ : ∃ xs, xs = dig W64 a := ⟨_, rfl⟩
  have hvx : val W64 xs = a := by rw [hxs]; exact val_dig W64_two _
  have hxd : ∀ d ∈ xs, d < W64 := by rw [hxs]; exact limb_lt _
  unfold IsN at hsa hsb
  rw [← hna] at hla
  rw [← hnb] at hlb
  rw [← hxs] at hsa hna
  have HNA := Lib.hid hna
  have HNB := Lib.hid hnb
  have HVX := Lib.hid hvx
  have HXD := Lib.hid hxd
  have HSA := Lib.hid hsa
  have HSB := Lib.hid hsb
  have HBLK := Lib.hid (Sl.off hsb (Nat.le_refl w.heap.size))
  have hw0 : IntKind.i64.wrap ((na : Int) + (nb : Int)) = ((na + nb : Nat) : Int) := by rw [IntWalk.i64_in _ (by omega)]; omega
  obtain ⟨n, hn⟩ : ∃ n, n = na + nb := ⟨_, rfl⟩
  rw [← hn] at hw0
  have HNN := Lib.hid hn
  have hnle : n ≤ 1000000000 := by omega
  clear ha hb hna hnb hxs hvx hxd hsa hsb hn
  go_enter Tryz.func119, Tryz.ntmps119
  go_wp2_with (at_make; go_must (refine wpList_makez _ rfl (.tmp 12) 80 rfl 99 .u64 8 Tryz.underlying80 info_u64 (by omega) .i64 _ n rfl rfl (by omega) ?_))
  intro W hA hbW hsW
  have HST : Hid (TimesRel w w.heap.size na nb xs b (.int .i64 0) W) := Lib.hid ⟨0, _, rfl, Nat.zero_le _, hA, by simp [HNN.out], zeros_lt W64_two _, by simp [List.drop_replicate, HNN.out], by rw [val_zeros]; simp [val], hbW, hsW⟩
  clear hA hbW hsW hw0
  go_wp2
  go_loopw [16] (fun i wr => TimesRel w w.heap.size na nb xs b i wr) (fun i _ => na - (intOf i).toNat)
  case atStart => exact HST.out
  case round =>
    clear HST
    obtain ⟨k, rs, rfl, hk, hA, hrl, hrs, hrd, hrv, hbel, hsz⟩ := hrel
    have HRL := Lib.hid hrl
    have HRS := Lib.hid hrs
    have HRD := Lib.hid hrd
    have HRV := Lib.hid hrv
    have HB := Lib.hid hbel
    have HSZ := Lib.hid hsz
    clear hrl hrs hrd hrv hsz
    by_cases hkn : k = na
    · subst hkn
      have HF : Hid (val W64 rs = a * b) := Lib.hid (by rw [HRV.out, HNA.out, List.take_length, HVX.out])
      clear hbel
      go_wp2_with fail
      refine trimmed_any _ rs _ (hA.sl _ _ (by rw [HRL.out]; exact HNN.out) (Nat.le_refl _)) HRS.out (by rw [HRL.out, ← HNN.out]; omega) _ ?_
      intro v' hv' _
      rw [HF.out] at hv'
      dsimp only
      go_wp2
      first | go_ret | skip
      exact HR.out _ _ hv' HB.out
    · have hkl : k < na := by omega
      obtain ⟨b1, o1, rfl, hb1, hc1⟩ := Sl.at HSA.out k hkl
      rw [← hbel.cell (p := ⟨b1, o1 + k, none⟩) hb1] at hc1
      obtain ⟨x, hx⟩ : ∃ x, x = xs.getD k 0 := ⟨_, rfl⟩
      rw [← hx] at hc1
      have HX := Lib.hid hx
      have HXL := Lib.hid (show x < W64 by rw [hx]; exact getD_lt (by rw [W64_eq]; omega) _ HXD.out _)
      have hw1 : IntKind.i64.wrap ((k : Int) + (nb : Int)) = ((k + nb : Nat) : Int) := by rw [IntWalk.i64_in _ (by have := HNN.out; omega)]; omega
      have hw2 : IntKind.i64.wrap ((k : Int) + 1) = ((k + 1 : Nat) : Int) := by rw [IntWalk.i64_in _ (by omega)]; omega
      obtain ⟨j, hj⟩ : ∃ j, j = k + nb := ⟨_, rfl⟩
      rw [← hj] at hw1
      have HJ := Lib.hid hj
      have hjn : (j : Int) < (n : Int) := by have := HNN.out; omega
      have hj0 : (0 : Int) ≤ (j : Int) := by omega
      have hkn2 : (k : Int) ≤ (n : Int) := by have := HNN.out; omega
      have hk0 : (0 : Int) ≤ (k : Int) := by omega
      have hkc : ¬ n = k := by have := HNN.out; omega
      have HSBr := Lib.hid (HSB.out.later hbel (Nat.le_refl _))
      have HK := Lib.hid hkl
      clear hx hj hbel
      go_wp2_with fail
      refine addp_any w.heap.size k (n - k) (n - k) rs (dig W64 b) _ x _ hA HSBr.out HBLK.out (by rw [HRL.out, ← HNB.out]; omega) (by rw [← HNB.out]; have := HNN.out; omega) HRS.out (limb_lt _) HXL.out (by rw [HRL.out]; have := HNN.out; omega) _ ?_
      intro zs c w1 hz1 hz2 hz3 hz4 hz5 hz6 hz7 hz8 hz9
      rw [val_dig W64_two, ← HNB.out] at hz6
      rw [← HNB.out] at hz5
      have hREL := times_rel w wr w1 w.heap.size na nb k x b c xs rs zs (c : Int) HK.out HNA.out.symm HX.out HRL.out HRD.out HRV.out hz1 hz2 hz3 hz5 hz6 hz7 HB.out HSZ.out hz8 hz9 rfl rfl
      rw [← HJ.out] at hREL
      have HREL := Lib.hid hREL
      have hcj := hz1.cell j (by rw [hz2, HRL.out, HJ.out]; have := HK.out; omega)
      have hfj := hz1.frozen j
      clear hz1 hz2 hz3 hz4 hz5 hz6 hz7 hz8 hz9 hREL
      dsimp only
      go_wp2
      go_roundw
      case rel => exact HREL.out
      case measure => simp [intOf]; have := HK.out; omega
end Go.Proofs.YtdkjcdfkoahfkaaGreatDoor

namespace Go.Proofs.YtdkjcdfkoahfkaaGreatDoor
open Go Go.RowKit

set_option maxRecDepth 100000 in
set_option maxHeartbeats 2000000 in
theorem divide_big (va vb : Value) (a b : Nat) (w : World) (ha : IsN w va a) (hb : IsN w vb b) (hla : (dig W64 a).length ≤ 10000000) (hlb : 2 ≤ (dig W64 b).length) (hle : b ≤ a) (R : Ending → World → Prop)
    (hR : ∀ v1 v2 w', IsN w' v1 (a / b) → IsN w' v2 (a % b) → Below w.heap.size w w' → R (.returned (.tuple #[v1, v2])) w') :
    Calls Tryz.prog 136 #[va, vb] w R := by
  have HR := Lib.hid hR; clear hR
  have hb0 : b ≠ 0 := by intro h; subst h; rw [dig_zero] at hlb; simp at hlb
  have hnn : (dig W64 b).length ≤ (dig W64 a).length := dig_length_mono' W64_two hle
  obtain ⟨aa, la, ca, rfl, hlae, ha'⟩ := ha.open
  obtain ⟨ab, n, cb, rfl, hne, hb'⟩ := hb.open
  rw [← hlae] at hla hnn
  rw [← hne] at hlb hnn
  have htop := top_pos (B := W64) (n := b) W64_two hb0
  rw [← hne] at htop
  obtain ⟨d, hd⟩ : ∃ d, d = (dig W64 b).getD (n - 1) 0 := ⟨_, rfl⟩
  rw [← hd] at htop
  have hdw : d < W64 := by rw [hd]; exact getD_lt (by rw [W64_eq]; omega) _ (limb_lt b) _
  obtain ⟨s, hs64, hs, hn1, hn2⟩ := lead_spec d htop hdw
  have hslen := shifted_len b s hb0 (by rw [← hne, ← hd]; exact hn2) (by omega)
  rw [← hne] at hslen
  obtain ⟨bk, o, rfl, hbk, hc⟩ := Sl.at hb' (n - 1) (by omega)
  rw [← hd] at hc
  have hcm : ¬ (cmpN a b < 0) := by unfold cmpN; rw [if_neg (by omega)]; split <;> omega
  obtain ⟨cm, hcmp⟩ : ∃ cm, cm = cmpN a b := ⟨_, rfl⟩
  rw [← hcmp] at hcm
  have HCM := Lib.hid hcmp
  have HA := Lib.hid ha'
  have HBB := Lib.hid hb'
  have HLA := Lib.hid hlae
  have HNE := Lib.hid hne
  have HS := Lib.hid hs
  have HSL := Lib.hid hslen
  have HD := Lib.hid hd
  have hn1e : ((n : Int) == 1) = false := by simp; omega
  have hd1 : (0 : Int) ≤ (d : Int) := by omega
  have hd2 : (d : Int) ≤ 18446744073709551615 := by rw [W64_eq] at hdw; omega
  have hi1 : (0 : Int) ≤ (n : Int) - 1 := by omega
  have hi2 : (n : Int) - 1 < (n : Int) := by omega
  have hi3 : ((n : Int) - 1).toNat = n - 1 := by omega
  have HB0 := Lib.hid hb0
  clear hcmp ha' hb' hlae hne hs hslen hd hn1 hn2 htop hdw hle hb0
  go_enter Tryz.func136, Tryz.ntmps136
  go_wp2_with fail
  refine ncmp_any _ _ a b _ ha hb (by rw [← HLA.out]; omega) (by rw [← HNE.out]; omega) _ ?_
  rw [← HCM.out]
  intro w1 hb1 hs1
  rw [← hb1.cell (p := ⟨bk, o + (n - 1), none⟩) hbk] at hc
  have HB := Lib.hid hb1
  have HS1 := Lib.hid hs1
  clear ha hb hb1 hs1
  dsimp only
  go_wp2_with fail
  refine (Tryz.bits_LeadingZeros64 (d : Int) _ hd1 hd2).mono ?_
  rintro e w2 ⟨rfl, rfl⟩
  rw [HS.out]
  dsimp only
  go_wp2_with fail
  refine up_any _ a s _ (HA.out.later HB.out (Nat.le_refl _)) hs64 (by rw [← HLA.out]; omega) _ ?_
  rw [← HLA.out]
  intro rs W1 hA1 hl1 hlt1 hv1 hbW1 hsW1
  have HB1 := Lib.hid (HB.out.trans (hbW1.mono HB.out.size))
  obtain ⟨g1, hg1⟩ : ∃ g1, g1 = w2.heap.size := ⟨_, rfl⟩
  have hg1w : w.heap.size ≤ g1 := by rw [hg1]; exact HB.out.size
  rw [← hg1] at hA1 hsW1 ⊢
  have HA1 := Lib.hid hA1
  have HL1 := Lib.hid hl1
  have HLT1 := Lib.hid hlt1
  have HV1 := Lib.hid hv1
  have HSW1 := Lib.hid hsW1
  clear hA1 hl1 hlt1 hv1 hbW1 hsW1 hg1 hc
  dsimp only
  go_wp2_with fail
  refine up_any _ b s _ (HBB.out.later HB1.out (Nat.le_refl _)) hs64 (by rw [← HNE.out]; omega) _ ?_
  rw [← HNE.out]
  intro ds W2 hA2 hl2 hlt2 hv2 hbW2 hsW2
  have HB2 := Lib.hid (HB1.out.trans (hbW2.mono HB1.out.size))
  have HA1b := Lib.hid (HA1.out.later hbW2 HA1.out.lt)
  obtain ⟨g2, hg2⟩ : ∃ g2, g2 = W1.heap.size := ⟨_, rfl⟩
  have hg2w : w.heap.size ≤ g2 := by rw [hg2]; exact HB1.out.size
  have hg12 : g1 < g2 := by rw [hg2]; exact HA1.out.lt
  rw [← hg2] at hA2 hsW2 ⊢
  have HSW2 := Lib.hid hsW2
  clear hbW2 hsW2 hg2 HA1
  dsimp only
  go_wp2_with fail
  refine trimmed_any _ ds _ (hA2.sl _ _ (by rw [hl2]) (Nat.le_refl _)) hlt2 (by rw [hl2]; omega) _ ?_
  intro dv hdv hblk
  rw [hv2] at hdv
  obtain ⟨ad, nd, cd, rfl, hnd, hdv'⟩ := hdv.open
  have hndn : nd = n := by rw [hnd]; exact HSL.out
  clear hnd
  subst hndn
  have HDV := Lib.hid hdv'
  have HBLK : Hid (blk (.slice ad nd cd) = some g2) := Lib.hid hblk
  have HA2 := Lib.hid hA2
  clear hA2 hl2 hlt2 hv2 hdv hdv' hblk
  dsimp only
  have hLi : (la : Int) - (nd : Int) + 1 = ((la - nd + 1 : Nat) : Int) := by omega
  obtain ⟨L, hL⟩ : ∃ L, L = la - nd + 1 := ⟨_, rfl⟩
  rw [← hL] at hLi
  have HL := Lib.hid hL
  have hLb : L ≤ 10000001 := by omega
  clear hL
  go_wp2_with (at_make; go_must (refine wpList_makez _ rfl (.tmp 52) 80 rfl 99 .u64 8 Tryz.underlying80 info_u64 (by omega) .i64 _ L rfl (by omega) (by omega) ?_))
  intro W3 hA3 hbW3 hsW3
  have hsz2 : w.heap.size ≤ W2.heap.size := HB2.out.size
  have hg3w : w.heap.size ≤ W2.heap.size := hsz2
  have hD0 : 0 < 2 ^ s * b := Nat.mul_pos (Nat.pow_pos (by omega)) (by have := HB0.out; omega)
  have hDn : 2 ^ s * b < W64 ^ nd := by have := lt_pow_dig W64_two (2 ^ s * b); rwa [HSL.out] at this
  have hst : DivRel w g1 W2.heap.size la nd (2 ^ s * b) (2 ^ s * a) (.slice ad nd cd) (.int .i64 ((L : Int) - 1)) W3 := by
    refine ⟨L, rs, _, rfl, by rw [HL.out]; exact Nat.le_refl _, HA1b.out.later hbW3 HA1b.out.lt, HL1.out, HLT1.out, hA3, by rw [List.length_replicate]; exact HL.out, zeros_lt W64_two _, ?_, ?_, HDV.out.later hbW3 (Nat.le_refl _), HB2.out.trans (hbW3.mono hsz2)⟩
    · rw [List.drop_eq_nil_of_le (by rw [List.length_replicate]; exact Nat.le_refl _), HV1.out]; simp [val]
    · rw [HL.out]
      exact div_start a b la nd s rs HB0.out HLA.out HNE.out hnn HL1.out HV1.out
  have HST := Lib.hid hst
  obtain ⟨g3, hg3⟩ : ∃ g3, g3 = W2.heap.size := ⟨_, rfl⟩
  have hg13 : g1 ≠ g3 := by rw [hg3]; have := HA1b.out.lt; omega
  have hg23 : g2 ≠ g3 := by rw [hg3]; have := HA2.out.lt; omega
  rw [← hg3] at HST hg3w ⊢
  have HD0 := Lib.hid hD0
  have HDN := Lib.hid hDn
  have hnl : nd ≤ la := hnn
  obtain ⟨D, hD⟩ : ∃ D, D = 2 ^ s * b := ⟨_, rfl⟩
  obtain ⟨A, hA⟩ : ∃ A, A = 2 ^ s * a := ⟨_, rfl⟩
  rw [← hD, ← hA] at HST
  rw [← hD] at HD0 HDN HSL
  have HDD := Lib.hid hD
  have HAA := Lib.hid hA
  have hL1 : L = la - nd + 1 := HL.out
  have hLle : (L : Int) + (nd : Int) = (la : Int) + 1 := by omega
  clear hst hA3 hbW3 hsW3 HA1b HA2 hsz2 hg3 hD0 hDn hD hA hL1 hLi HL1 HLT1 HV1
  go_wp2
  go_loopw [12] (fun i wr => DivRel w g1 g3 la nd D A (.slice ad nd cd) i wr) (fun i _ => (intOf i + 1).toNat)
  case atStart => exact HST.out
  case round =>
    clear HST
    obtain ⟨k, rs, qs, rfl, hk, hA1, hl1, hlt1, hA3, hl3, hlt3, hv, hr, hsl, hbel⟩ := hrel
    have HA1 := Lib.hid hA1
    have HL1 := Lib.hid hl1
    have HLT1 := Lib.hid hlt1
    have HA3 := Lib.hid hA3
    have HL3 := Lib.hid hl3
    have HLT3 := Lib.hid hlt3
    have HV := Lib.hid hv
    have HRD := Lib.hid hr
    have HSD := Lib.hid hsl
    have HBL := Lib.hid hbel
    have hkL : k ≤ L := by rw [HL.out]; exact hk
    clear hk hA1 hl1 hlt1 hl3 hlt3 hv hr hsl hbel
    by_cases hk0 : k = 0
    · subst hk0
      have hend := div_end a b s (val W64 rs) (val W64 qs) HB0.out (by have h := HV.out; rw [List.drop_zero, Nat.pow_zero, Nat.one_mul, HDD.out, HAA.out] at h; exact h) (by have h := HRD.out; rw [List.drop_zero, HDD.out] at h; exact h)
      have HEND := Lib.hid hend
      clear hend
      go_wp2_with fail
      refine trimmed_any _ qs _ (hA3.sl _ _ (by rw [HL3.out, HL.out]) (Nat.le_refl _)) HLT3.out (by rw [HL3.out]; omega) _ ?_
      intro v1 hv1 _
      rw [HEND.out.1] at hv1
      obtain ⟨a1, n1, c1, rfl, hv1'⟩ := hv1.op
      have HV1 := Lib.hid hv1'
      clear hv1 hv1' hA3
      dsimp only
      go_wp2_with fail
      refine down_any _ rs s _ (HA1.out.sl (la + 1) (la + 1) (by rw [HL1.out]) (Nat.le_refl _)) HLT1.out hs64 (by rw [HL1.out]; omega) _ ?_
      rw [HL1.out]
      intro cur W4 hA4 hl4 hlt4 hv4 hbW4 hsW4
      rw [HEND.out.2] at hv4
      have HB4 := Lib.hid hbW4
      clear hbW4 hsW4
      dsimp only
      go_wp2_with fail
      refine trimmed_any _ cur _ (hA4.sl _ _ (by rw [hl4]) (Nat.le_refl _)) hlt4 (by rw [hl4]; omega) _ ?_
      intro v2 hv2 _
      rw [hv4] at hv2
      obtain ⟨a2, n2, c2, rfl, hv2'⟩ := hv2.op
      have HV2 := Lib.hid hv2'
      clear hv2 hv2' hA4 hl4 hlt4 hv4
      dsimp only
      go_wp2
      first | go_ret | skip
      exact HR.out _ _ _ (HV1.out.later HB4.out (Nat.le_refl _)) HV2.out (HBL.out.trans (HB4.out.mono HBL.out.size))
    · obtain ⟨i, rfl⟩ : ∃ i, k = i + 1 := ⟨k - 1, by omega⟩
      have es : ((i + 1 : Nat) : Int) - 1 = (i : Int) := by omega
      rw [es]
      have hiL : (i : Int) < (L : Int) := by omega
      have hii : (0 : Int) ≤ (i : Int) := by omega
      have hin : (i : Int) + (nd : Int) + 1 ≤ (la : Int) + 1 := by omega
      have hii2 : (i : Int) ≤ (i : Int) + (nd : Int) + 1 := by omega
      have hfz := hA3.frozen i
      have hcz := hA3.cell i (by rw [HL3.out, ← HL.out]; omega)
      clear es hk0
      have hdw := drop_win rs i nd D (by rw [HL1.out]; have := HL.out; omega) HDN.out HLT1.out HRD.out
      obtain ⟨q, hq⟩ : ∃ q, q = win rs i nd / D := ⟨_, rfl⟩
      have hqw : q < W64 := by
        rw [hq, Nat.div_lt_iff_lt_mul HD0.out, ← hdw.1]; exact hdw.2
      have hne1 : 0 < (dig W64 D).length → blk (.slice ad nd cd) ≠ some g1 := fun _ e => by rw [HBLK.out] at e; simp at e; omega
      have hne3 : 0 < (dig W64 D).length → blk (.slice ad nd cd) ≠ some g3 := fun _ e => by rw [HBLK.out] at e; simp at e; omega
      have htp : 0 < (dig W64 D).getD (nd - 1) 0 := by
        have := top_pos (B := W64) (n := D) W64_two (by have := HD0.out; omega)
        rwa [HSL.out] at this
      have hq2 : q = win rs i nd / val W64 (dig W64 D) := by rw [val_dig W64_two]; exact hq
      have HQ := Lib.hid hq
      have HQ2 := Lib.hid hq2
      have HQW := Lib.hid hqw
      have HN1 := Lib.hid hne1
      have HN3 := Lib.hid hne3
      have HTP := Lib.hid htp
      clear hdw hq hq2 hqw hne1 hne3 htp
      go_wp2_with fail
      rw [show i + nd + 1 - i = nd + 1 by omega]
      refine takem_any g1 i nd (la + 1 - i) rs (dig W64 D) ad cd wr HA1.out HSD.out HN1.out (by omega) HSL.out (by rw [HL1.out]; omega) HLT1.out (limb_lt D) (by rw [HL1.out]; omega) HTP.out q HQ2.out HQW.out _ ?_
      intro cur W4 hc1 hc2 hc3 hc4 hc5 hc6 hc7 hc8
      rw [val_dig W64_two] at hc6
      have hrel := div_rel w wr W4 g1 g3 la nd D A i q (.slice ad nd cd) rs qs cur (by rw [← HL.out]; omega) (by omega) hnl HL1.out HLT1.out HA3.out HL3.out HLT3.out HV.out HRD.out HSD.out HN1.out HN3.out HBL.out HDN.out HD0.out HQ.out HQW.out hc1 hc2 hc3 hc4 hc6 hc7 hg13 hg1w hg3w HBL.out.size
      have hA3' := HA3.out.but hc7 (fun e => hg13 e.symm)
      have hcz' := hA3'.cell i (by rw [HL3.out, ← HL.out]; omega)
      have hfz' := hA3'.frozen i
      have HREL := Lib.hid hrel
      clear hc1 hc2 hc3 hc4 hc5 hc6 hc7 hc8 hrel hA3' hfz hcz hA3
      dsimp only
      go_wp2
      go_roundw
      case rel => exact HREL.out
      case measure => simp [intOf]

theorem divide_any (va vb : Value) (a b : Nat) (w : World) (ha : IsN w va a) (hb : IsN w vb b) (hla : (dig W64 a).length ≤ 10000000) (hlb : (dig W64 b).length ≤ 10000000) (hb0 : b ≠ 0) (R : Ending → World → Prop)
    (hR : ∀ v1 v2 w', IsN w' v1 (a / b) → IsN w' v2 (a % b) → Below w.heap.size w w' → R (.returned (.tuple #[v1, v2])) w') :
    Calls Tryz.prog 136 #[va, vb] w R := by
  by_cases h : a < b
  · exact divide_less va vb a b w ha hb hla hlb h R hR
  · have h3 : (dig W64 b).length ≠ 0 := fun e => hb0 ((dig_eq_nil W64_two).1 (List.length_eq_zero_iff.1 e))
    by_cases h1 : (dig W64 b).length = 1
    · exact divide_one va vb a b w ha hb hla h1 (by omega) R hR
    · exact divide_big va vb a b w ha hb hla (by omega) (by omega) R hR

end Go.Proofs.YtdkjcdfkoahfkaaGreatDoor

namespace Go.Proofs.YtdkjcdfkoahfkaaGreatDoor
open Go Go.RowKit

/-- the bits at a place -/
def hib (a i s : Nat) : Nat := (dig W64 a).getD i 0 * 2 ^ s + (dig W64 a).getD (i - 1) 0 / 2 ^ (64 - s)

set_option maxRecDepth 100000 in
set_option maxHeartbeats 1000000 in
theorem bits_any (v : Value) (a i s : Nat) (w : World) (h : IsN w v a) (hi : 1 ≤ i) (hib2 : i ≤ 10000000) (hla : (dig W64 a).length ≤ 10000000) (hs64 : s < 64) (htop : (dig W64 a).getD i 0 * 2 ^ s < W64) (R : Ending → World → Prop)
    (hR : ∀ n, R (.returned (.int .u64 ((hib a i s : Nat) : Int))) (w.drewN n)) :
    Calls Tryz.prog 204 #[v, .int .i64 ((i : Nat) : Int), .int .i64 ((s : Nat) : Int)] w R := by
  have HR := Lib.hid hR; clear hR
  obtain ⟨ao, n, cap, rfl, hn, hsl⟩ := h.open
  obtain ⟨xs, hxs⟩ : ∃ xs, xs = dig W64 a := ⟨_, rfl⟩
  have hx : ∀ d ∈ xs, d < W64 := by rw [hxs]; exact limb_lt _
  unfold IsN at hsl
  unfold hib at HR
  rw [← hn] at hla
  rw [← hxs] at hsl hn htop HR
  obtain ⟨x, hxe⟩ : ∃ x, x = xs.getD i 0 := ⟨_, rfl⟩
  obtain ⟨y, hye⟩ : ∃ y, y = xs.getD (i - 1) 0 := ⟨_, rfl⟩
  have hxl : x < W64 := by rw [hxe]; exact getD_lt (by rw [W64_eq]; omega) _ hx _
  have hyl : y < W64 := by rw [hye]; exact getD_lt (by rw [W64_eq]; omega) _ hx _
  rw [← hxe] at htop HR
  rw [← hye] at HR
  have hq : 0 < 2 ^ (64 - s) := Nat.pow_pos (by omega)
  have hlq : y / 2 ^ (64 - s) < 2 ^ s := shr_lt y s (by omega) hyl
  have hyw : y / 2 ^ (64 - s) < W64 := Nat.lt_of_le_of_lt (Nat.div_le_self _ _) hyl
  have hor : x * 2 ^ s ||| y / 2 ^ (64 - s) = x * 2 ^ s + y / 2 ^ (64 - s) := by
    rw [Nat.or_comm, or_add _ _ _ hlq, Nat.add_comm]
  obtain ⟨p, hp⟩ : ∃ p, p = x * 2 ^ s := ⟨_, rfl⟩
  obtain ⟨r, hr⟩ : ∃ r, r = y / 2 ^ (64 - s) := ⟨_, rfl⟩
  have he1 : IntKind.u64.wrap ((x : Int) * 2 ^ s) = (p : Int) := by
    rw [hp, show ((x : Int) * 2 ^ s) = ((x * 2 ^ s : Nat) : Int) by rw [Int.natCast_mul, Int.natCast_pow]; rfl]
    exact Mul64.wrapN _ htop
  have he2 := shr_nat y (64 - s)
  rw [← hr] at he2 hor hyw HR
  rw [← hp] at hor htop HR
  obtain ⟨z, hz⟩ : ∃ z, z = p + r := ⟨_, rfl⟩
  have he3 : bits .or .u64 (p : Int) (r : Int) = (z : Int) := by rw [bits_or_u64_nat p r htop hyw, hor, hz]
  rw [← hz] at HR
  have hcn : (0 : Int) ≤ 64 - (s : Int) := by omega
  have hcn2 : ¬ (64 - (s : Int) < 0) := by omega
  have hcn3 : (64 - (s : Int)).toNat = 64 - s := by omega
  have hs0 : (0 : Int) ≤ (s : Int) := by omega
  have hs65 : (s : Int) < 64 := by omega
  have hi1 : (0 : Int) ≤ (i : Int) - 1 := by omega
  have hi3 : ((i : Int) - 1).toNat = i - 1 := by omega
  have HN := Lib.hid hn
  have HXE := Lib.hid hxe
  have HYE := Lib.hid hye
  clear h hxs hx hxl hyl htop hq hlq hyw hor hp hr hz hn hxe hye
  by_cases h1 : i < n
  · obtain ⟨b, o, rfl, hb1, hc1⟩ := Sl.at hsl i h1
    obtain ⟨b2, o2, he, _, hc2⟩ := Sl.at hsl (i - 1) (by omega)
    obtain ⟨rfl, rfl⟩ : b = b2 ∧ o = o2 := by cases he; exact ⟨rfl, rfl⟩
    rw [← HXE.out] at hc1
    rw [← HYE.out] at hc2
    have h1i : (i : Int) < (n : Int) := by omega
    have h2i : (i : Int) - 1 < (n : Int) := by omega
    clear he hsl
    go_enter Tryz.func204, Tryz.ntmps204
    go_wp2
    go_quiet (fail)
    go_wp2
    first | go_ret | skip
    exact HR.out _
  · have hx0 : x = 0 := by rw [HXE.out]; simp [List.getD, List.getElem?_eq_none (by rw [← HN.out]; omega : xs.length ≤ i)]
    have h1i : ¬ (i : Int) < (n : Int) := by omega
    subst hx0
    have he1' : IntKind.u64.wrap (0 * 2 ^ s) = (p : Int) := he1
    have hp0 : (p : Int) = 0 := by rw [← he1', Int.zero_mul]; rfl
    have hp0n : p = 0 := by omega
    subst hp0n
    by_cases h2 : i - 1 < n
    · obtain ⟨b2, o2, rfl, _, hc2⟩ := Sl.at hsl (i - 1) h2
      rw [← HYE.out] at hc2
      have h2i : (i : Int) - 1 < (n : Int) := by omega
      clear hsl he1 he1' hp0
      have he3' : bits .or .u64 0 (r : Int) = (z : Int) := he3
      clear he3
      go_enter Tryz.func204, Tryz.ntmps204
      go_wp2
      go_quiet (fail)
      go_wp2
      first | go_ret | skip
      exact HR.out _
    · have h2i : ¬ (i : Int) - 1 < (n : Int) := by omega
      have hy0 : y = 0 := by rw [HYE.out]; simp [List.getD, List.getElem?_eq_none (by rw [← HN.out]; omega : xs.length ≤ i - 1)]
      subst hy0
      have hr0 : (r : Int) = 0 := by rw [← he2]; simp
      have hr0n : r = 0 := by omega
      subst hr0n
      have hz0 : (z : Int) = 0 := by rw [← he3]; rfl
      have hz0n : z = 0 := by omega
      subst hz0n
      clear hsl he1 he1' hp0 he2 hr0 he3 hz0
      go_enter Tryz.func204, Tryz.ntmps204
      go_wp2
      go_quiet (fail)
      go_wp2
      first | go_ret | skip
      exact HR.out _

set_option maxRecDepth 100000 in
set_option maxHeartbeats 1000000 in
theorem after_any (c fA fB sA sB q : Nat) (w : World) (hc : c ≤ 1000000000000) (h1 : fA + q * sA < W64) (h2 : fB + q * sB < W64) (R : Ending → World → Prop)
    (hR : ∀ w', Below w.heap.size w w' → R (.returned (.agg #[.int .i64 ((c + 1 : Nat) : Int), .int .u64 ((sA : Nat) : Int), .int .u64 ((sB : Nat) : Int), .int .u64 ((fA + q * sA : Nat) : Int), .int .u64 ((fB + q * sB : Nat) : Int)])) w') :
    Calls Tryz.prog 205 #[.agg #[.int .i64 ((c : Nat) : Int), .int .u64 ((fA : Nat) : Int), .int .u64 ((fB : Nat) : Int), .int .u64 ((sA : Nat) : Int), .int .u64 ((sB : Nat) : Int)], .int .u64 ((q : Nat) : Int)] w R := by
  have HR := Lib.hid hR; clear hR
  obtain ⟨m1, hm1⟩ : ∃ m, m = q * sA := ⟨_, rfl⟩
  obtain ⟨m2, hm2⟩ : ∃ m, m = q * sB := ⟨_, rfl⟩
  have e1 : (q : Int) * (sA : Int) = (m1 : Int) := by rw [hm1]; exact (Int.natCast_mul q sA).symm
  have e2 : (q : Int) * (sB : Int) = (m2 : Int) := by rw [hm2]; exact (Int.natCast_mul q sB).symm
  rw [← hm1] at h1 HR
  rw [← hm2] at h2 HR
  have b1 : (fA : Int) + (m1 : Int) ≤ 18446744073709551615 := by rw [W64_eq] at h1; omega
  have b2 : (fB : Int) + (m2 : Int) ≤ 18446744073709551615 := by rw [W64_eq] at h2; omega
  have HC := Lib.hid hc
  have hc2 : (c : Int) ≤ 1000000000000 := by omega
  clear h1 h2 hm1 hm2 hc
  go_enter Tryz.func205, Tryz.ntmps205
  go_wp2
  refine bodyPost_ret_at (by simp [results, Tryz.results205, go_sem] <;> rfl) rfl ?_
  rw [show (c : Int) + 1 = ((c + 1 : Nat) : Int) by omega, show (fA : Int) + (m1 : Int) = ((fA + m1 : Nat) : Int) by omega, show (fB : Int) + (m2 : Int) = ((fB + m2 : Nat) : Int) by omega]
  exact HR.out _ (((Below.refl _ _).alloc (Nat.le_refl _) _).alloc (by simp) _)

/-- the two highest words of two numbers, the first one being at least the second: what is below them -/
theorem hib_parts (a b i s : Nat) (hi : 1 ≤ i) (hla : (dig W64 a).length = i + 1) (hle : b ≤ a) (hs : s < 64) (htop : (dig W64 a).getD i 0 * 2 ^ s < W64) :
    ∃ T a0 b0, a = hib a i s * T + a0 ∧ b = hib b i s * T + b0 ∧ a0 < T ∧ b0 < T ∧ hib b i s ≤ hib a i s ∧ hib a i s < W64 ∧ (dig W64 b).getD i 0 * 2 ^ s < W64 := by
  have hq : 0 < 2 ^ (64 - s) := Nat.pow_pos (by omega)
  have hpq := pow_split s (by omega)
  have hlb : (dig W64 b).length ≤ i + 1 := by rw [← hla]; exact dig_length_mono' W64_two hle
  have key : ∀ c : Nat, (dig W64 c).length ≤ i + 1 → ∃ c0, c = hib c i s * (W64 ^ (i - 1) * 2 ^ (64 - s)) + c0 ∧ c0 < W64 ^ (i - 1) * 2 ^ (64 - s) := by
    intro c hc
    obtain ⟨j, rfl⟩ : ∃ j, i = j + 1 := ⟨i - 1, by omega⟩
    have hv : c = val W64 ((dig W64 c).take j) + W64 ^ j * ((dig W64 c).getD j 0 + W64 * (dig W64 c).getD (j + 1) 0) := by
      have ht : ∀ k, val W64 ((dig W64 c).take (k + 1)) = val W64 ((dig W64 c).take k) + W64 ^ k * (dig W64 c).getD k 0 := by
        intro k
        by_cases hk : k < (dig W64 c).length
        · exact val_take_succ W64 _ k hk
        · rw [List.take_of_length_le (by omega), List.take_of_length_le (by omega)]
          simp [List.getD, List.getElem?_eq_none (by omega : (dig W64 c).length ≤ k)]
      have h1 := ht (j + 1)
      rw [List.take_of_length_le (by omega), val_dig W64_two, ht j, Nat.pow_succ] at h1
      generalize (dig W64 c).getD j 0 = y at *
      generalize (dig W64 c).getD (j + 1) 0 = x at *
      rw [Nat.mul_add, ← Nat.mul_assoc]
      omega
    have hl := val_lt (B := W64) ((dig W64 c).take j) (fun d hd => limb_lt c d (List.mem_of_mem_take hd))
    have hl2 : W64 ^ ((dig W64 c).take j).length ≤ W64 ^ j := Nat.pow_le_pow_right (by rw [W64_eq]; omega) (by rw [List.length_take]; omega)
    unfold hib
    rw [Nat.add_sub_cancel]
    have hdm := Nat.div_add_mod ((dig W64 c).getD j 0) (2 ^ (64 - s))
    have hml := Nat.mod_lt ((dig W64 c).getD j 0) hq
    refine ⟨val W64 ((dig W64 c).take j) + W64 ^ j * ((dig W64 c).getD j 0 % 2 ^ (64 - s)), ?_, ?_⟩
    · conv => lhs; rw [hv]
      generalize val W64 ((dig W64 c).take j) = v at *
      generalize (dig W64 c).getD (j + 1) 0 = x at *
      generalize (dig W64 c).getD j 0 % 2 ^ (64 - s) = m at *
      generalize (dig W64 c).getD j 0 / 2 ^ (64 - s) = d at *
      rw [← hdm, ← hpq]
      generalize W64 ^ j = P at *
      grind
    · have : W64 ^ j * ((dig W64 c).getD j 0 % 2 ^ (64 - s) + 1) ≤ W64 ^ j * 2 ^ (64 - s) := Nat.mul_le_mul_left _ hml
      rw [Nat.mul_add, Nat.mul_one] at this
      omega
  obtain ⟨a0, ha, ha0⟩ := key a (by omega)
  obtain ⟨b0, hb, hb0⟩ := key b hlb
  have hT : 0 < W64 ^ (i - 1) * 2 ^ (64 - s) := Nat.mul_pos (pow_pos' _) hq
  have hxb : (dig W64 b).getD i 0 ≤ (dig W64 a).getD i 0 := by
    have ht : ∀ c : Nat, (dig W64 c).length ≤ i + 1 → (dig W64 c).getD i 0 = c / W64 ^ i := by
      intro c hc
      have h1 : val W64 (dig W64 c) = val W64 ((dig W64 c).take i) + W64 ^ i * (dig W64 c).getD i 0 := by
        by_cases hk : i < (dig W64 c).length
        · have := val_take_succ W64 (dig W64 c) i hk
          rwa [List.take_of_length_le (by omega)] at this
        · rw [List.take_of_length_le (by omega)]
          simp [List.getD, List.getElem?_eq_none (by omega : (dig W64 c).length ≤ i)]
      have hl := val_lt (B := W64) ((dig W64 c).take i) (fun d hd => limb_lt c d (List.mem_of_mem_take hd))
      have hl2 : W64 ^ ((dig W64 c).take i).length ≤ W64 ^ i := Nat.pow_le_pow_right (by rw [W64_eq]; omega) (by rw [List.length_take]; omega)
      rw [val_dig W64_two] at h1
      conv => rhs; rw [h1, Nat.add_mul_div_left _ _ (pow_pos' i), Nat.div_eq_of_lt (by omega), Nat.zero_add]
    rw [ht a (by omega), ht b hlb]
    exact Nat.div_le_div_right hle
  have hAH : hib b i s ≤ hib a i s := by
    rcases Nat.lt_or_ge (hib a i s) (hib b i s) with h | h
    · exfalso
      have : (hib a i s + 1) * (W64 ^ (i - 1) * 2 ^ (64 - s)) ≤ hib b i s * (W64 ^ (i - 1) * 2 ^ (64 - s)) := Nat.mul_le_mul_right _ h
      rw [Nat.add_mul, Nat.one_mul] at this
      omega
    · exact h
  refine ⟨_, a0, b0, ha, hb, ha0, hb0, hAH, ?_, Nat.lt_of_le_of_lt (Nat.mul_le_mul_right _ hxb) htop⟩
  unfold hib
  have hlt := shr_lt ((dig W64 a).getD (i - 1) 0) s (by omega) (getD_lt (by rw [W64_eq]; omega) _ (limb_lt a) _)
  have h1 : ((dig W64 a).getD i 0 + 1) * 2 ^ s ≤ W64 := by
    generalize (dig W64 a).getD i 0 = t at *
    rw [← hpq, Nat.mul_comm (2 ^ s)] at htop
    have h5 := Nat.lt_of_mul_lt_mul_right htop
    rw [← hpq, Nat.mul_comm (2 ^ s)]
    exact Nat.mul_le_mul_right _ h5
  rw [Nat.add_mul, Nat.one_mul] at h1
  omega

end Go.Proofs.YtdkjcdfkoahfkaaGreatDoor

namespace Go.Proofs.YtdkjcdfkoahfkaaGreatDoor
open Go Go.RowKit

theorem below_unDrew {B : Nat} {w w' : World} (h : Below B w.drew w') : Below B w w' := ⟨h.os, h.tape, h.output, h.size, h.block⟩

/-- a block of five cells -/
def Box5 (w : World) (b : Nat) (x0 x1 x2 x3 x4 : Value) (t : TypeId) : Prop := w.heap[b]? = some (.cells #[x0, x1, x2, x3, x4] t (0, 0))
theorem Box5.cells {w : World} {b : Nat} {x0 x1 x2 x3 x4 : Value} {t : TypeId} (h : Box5 w b x0 x1 x2 x3 x4 t) :
    (w.cell? ⟨b, 0, none⟩ = some x0 ∧ w.cell? ⟨b, 1, none⟩ = some x1 ∧ w.cell? ⟨b, 2, none⟩ = some x2 ∧ w.cell? ⟨b, 3, none⟩ = some x3 ∧ w.cell? ⟨b, 4, none⟩ = some x4) ∧
    (w.frozen? ⟨b, 0, none⟩ = false ∧ w.frozen? ⟨b, 1, none⟩ = false ∧ w.frozen? ⟨b, 2, none⟩ = false ∧ w.frozen? ⟨b, 3, none⟩ = false ∧ w.frozen? ⟨b, 4, none⟩ = false) := by
  unfold Box5 at h
  simp [World.cell?, World.frozen?, h]
theorem Box5.later {w w' : World} {b : Nat} {x0 x1 x2 x3 x4 : Value} {t : TypeId} {B : Nat} (h : Box5 w b x0 x1 x2 x3 x4 t) (hb : Below B w w') (hB : b < B) : Box5 w' b x0 x1 x2 x3 x4 t := by
  unfold Box5 at *; rw [hb.block b hB]; exact h
theorem Box5.made (w : World) (x0 x1 x2 x3 x4 : Value) (t : TypeId) : Box5 (w.alloc (.cells #[x0, x1, x2, x3, x4] t)) w.heap.size x0 x1 x2 x3 x4 t := by
  show (w.heap.push _)[_]? = _
  simp
theorem Box5.alloc {w : World} {b : Nat} {x0 x1 x2 x3 x4 : Value} {t : TypeId} (h : Box5 w b x0 x1 x2 x3 x4 t) (o : Obj) : Box5 (w.alloc o) b x0 x1 x2 x3 x4 t :=
  h.later ((Below.refl w.heap.size w).alloc (Nat.le_refl _) o) (lt_of_block h)
theorem Box5.drew {w : World} {b : Nat} {x0 x1 x2 x3 x4 : Value} {t : TypeId} (h : Box5 w b x0 x1 x2 x3 x4 t) : Box5 w.drew b x0 x1 x2 x3 x4 t := h
theorem Box5.drewN {w : World} {b : Nat} {x0 x1 x2 x3 x4 : Value} {t : TypeId} (h : Box5 w b x0 x1 x2 x3 x4 t) (n : Nat) : Box5 (w.drewN n) b x0 x1 x2 x3 x4 t := h

/-- five stores into a block -/
def set5 (w : World) (b : Nat) (y0 y1 y2 y3 y4 : Value) : World := ((((w.setCell ⟨b, 0, none⟩ y0).setCell ⟨b, 1, none⟩ y1).setCell ⟨b, 2, none⟩ y2).setCell ⟨b, 3, none⟩ y3).setCell ⟨b, 4, none⟩ y4
theorem Box5.set5 {w : World} {b : Nat} {x0 x1 x2 x3 x4 : Value} {t : TypeId} (h : Box5 w b x0 x1 x2 x3 x4 t) (y0 y1 y2 y3 y4 : Value) : Box5 (set5 w b y0 y1 y2 y3 y4) b y0 y1 y2 y3 y4 t := by
  unfold Box5 Go.Proofs.YtdkjcdfkoahfkaaGreatDoor.set5 at *
  simp [World.setCell, Array.getElem?_modify, h]
theorem Box5.noSet5 {w : World} {g : Nat} {x0 x1 x2 x3 x4 : Value} {t : TypeId} (h : Box5 w g x0 x1 x2 x3 x4 t) {b : Nat} (hb : g ≠ b) (y0 y1 y2 y3 y4 : Value) : Box5 (Go.Proofs.YtdkjcdfkoahfkaaGreatDoor.set5 w b y0 y1 y2 y3 y4) g x0 x1 x2 x3 x4 t := by
  unfold Box5 Go.Proofs.YtdkjcdfkoahfkaaGreatDoor.set5 at *
  simp [World.setCell, Array.getElem?_modify, h, Ne.symm hb]
theorem below_set5 {B : Nat} {a w : World} (h : Below B a w) {b : Nat} (hb : B ≤ b) (y0 y1 y2 y3 y4 : Value) : Below B a (Go.Proofs.YtdkjcdfkoahfkaaGreatDoor.set5 w b y0 y1 y2 y3 y4) :=
  ((((h.setCell hb _).setCell hb _).setCell hb _).setCell hb _).setCell hb _

theorem parity (k : Nat) : (!(k % 2 == 0)) = ((k + 1) % 2 == 0) := by
  rcases (by omega : k % 2 = 0 ∨ k % 2 = 1) with h | h
  · have h2 : (k + 1) % 2 = 1 := by omega
    rw [h, h2]; rfl
  · have h2 : (k + 1) % 2 = 0 := by omega
    rw [h, h2]; rfl

/-- the value of the program's type of steps -/
def stepsV (k fA fB sA sB : Nat) : Value := .agg #[.int .i64 ((k : Nat) : Int), .int .u64 ((fA : Nat) : Int), .int .u64 ((fB : Nat) : Int), .int .u64 ((sA : Nat) : Int), .int .u64 ((sB : Nat) : Int)]

def StBox (w : World) (b : Nat) (k fA fB sA sB : Nat) : Prop := Box5 w b (.int .i64 ((k : Nat) : Int)) (.int .u64 ((fA : Nat) : Int)) (.int .u64 ((fB : Nat) : Int)) (.int .u64 ((sA : Nat) : Int)) (.int .u64 ((sB : Nat) : Int)) 170

def DecRel (w : World) (g8 g9 a b A H : Nat) (fv sv : Value) (wr : World) : Prop :=
  ∃ (kd : Nat) (evd : Bool) (dA dB dC dD kn : Nat) (evn : Bool) (nA nB nC nD f s : Nat), fv = .int .u64 ((f : Nat) : Int) ∧ sv = .int .u64 ((s : Nat) : Int) ∧ StBox wr g8 kd dA dB dC dD ∧ StBox wr g9 kn nA nB nC nD ∧ StBox wr w.heap.size 0 0 0 0 0 ∧
    Dec a b kd evd dA dB dC dD ∧ Nxt a b A H kn evn nA nB nC nD f s ∧ evd = (kd % 2 == 0) ∧ evn = (kn % 2 == 0) ∧ kd ≤ 1000000000000 ∧ dA < W64 ∧ dB < W64 ∧ dC < W64 ∧ dD < W64 ∧ nA < W64 ∧ nB < W64 ∧ nC < W64 ∧ nD < W64 ∧ f < W64 ∧ Below w.heap.size w wr

set_option maxRecDepth 100000 in
set_option maxHeartbeats 2000000 in
theorem decided_any (va vb : Value) (a b : Nat) (w : World) (ha : IsN w va a) (hb : IsN w vb b) (hla : (dig W64 a).length ≤ 10000000) (hlb : 2 ≤ (dig W64 b).length) (hle : b ≤ a) (R : Ending → World → Prop)
    (hR : ∀ k ev fA fB sA sB w', Dec a b k ev fA fB sA sB → ev = (k % 2 == 0) → k ≤ 1000000000000 → fA < W64 → fB < W64 → sA < W64 → sB < W64 → Below w.heap.size w w' → R (.returned (stepsV k fA fB sA sB)) w') :
    Calls Tryz.prog 142 #[va, vb] w R := by
  have HR := Lib.hid hR; clear hR
  have hnn : (dig W64 b).length ≤ (dig W64 a).length := dig_length_mono' W64_two hle
  obtain ⟨aa, la, ca, rfl, hlae, ha'⟩ := ha.open
  obtain ⟨ab, nb, cb, rfl, hb'⟩ := hb.op
  obtain ⟨i, hi⟩ : ∃ i, la = i + 1 := ⟨la - 1, by omega⟩
  subst hi
  have hi1 : 1 ≤ i := by omega
  have ha0 : a ≠ 0 := by intro h; subst h; rw [dig_zero] at hlae; simp at hlae
  have htop := top_pos (B := W64) (n := a) W64_two ha0
  rw [← hlae, Nat.add_sub_cancel] at htop
  obtain ⟨d, hd⟩ : ∃ d, d = (dig W64 a).getD i 0 := ⟨_, rfl⟩
  rw [← hd] at htop
  have hdw : d < W64 := by rw [hd]; exact getD_lt (by rw [W64_eq]; omega) _ (limb_lt a) _
  obtain ⟨s, hs64, hs, hn1, hn2⟩ := lead_spec d htop hdw
  obtain ⟨T, a0, b0, hpa, hpb, hpa0, hpb0, hAH, hAW, hbt⟩ := hib_parts a b i s hi1 hlae.symm hle hs64 (by rw [← hd]; exact hn2)
  obtain ⟨bk, o, rfl, hbk, hc⟩ := Sl.at ha' i (by omega)
  rw [← hd] at hc
  have hila : i ≤ 10000000 := by omega
  have HA := Lib.hid ha'
  have HB := Lib.hid hb'
  have HLA := Lib.hid hla
  have HLB := Lib.hid (Nat.le_trans hnn hla)
  have HS := Lib.hid hs
  have HT1 := Lib.hid (show (dig W64 a).getD i 0 * 2 ^ s < W64 by rw [← hd]; exact hn2)
  have HT2 := Lib.hid hbt
  have hd1 : (0 : Int) ≤ (d : Int) := by omega
  have hd2 : (d : Int) ≤ 18446744073709551615 := by rw [W64_eq] at hdw; omega
  have hii : (0 : Int) ≤ (i : Int) := by omega
  have hii2 : (i : Int) < (i : Int) + 1 := by omega
  obtain ⟨A, hA⟩ : ∃ A, A = hib a i s := ⟨_, rfl⟩
  obtain ⟨H, hH⟩ : ∃ H, H = hib b i s := ⟨_, rfl⟩
  rw [← hA, ← hH] at hAH
  rw [← hA] at hpa hAW
  rw [← hH] at hpb
  have HAE := Lib.hid hA
  have HHE := Lib.hid hH
  have HPA := Lib.hid hpa
  have HPB := Lib.hid hpb
  have HAW := Lib.hid hAW
  have B0 := Box5.made w (.int .i64 0) (.int .u64 0) (.int .u64 0) (.int .u64 0) (.int .u64 0) 170
  have HB0 := Lib.hid B0
  have hcw : (w.alloc (.cells #[.int .i64 0, .int .u64 0, .int .u64 0, .int .u64 0, .int .u64 0] 170)).cell? ⟨bk, o + i, none⟩ = some (.int .u64 (d : Int)) := by
    rw [World.cell?_alloc_past _ _ _ hbk]; exact hc
  clear ha hb ha' hb' hla hlb hle hnn hlae ha0 htop hd hdw hs hn1 hn2 hpa hpb hAW hbt hc hA hH B0
  go_enter Tryz.func142, Tryz.ntmps142
  go_wp2_with fail
  refine (Tryz.bits_LeadingZeros64 (d : Int) _ hd1 hd2).mono ?_
  rintro e w2 ⟨rfl, hw2⟩
  rw [hw2, HS.out]
  have HEXT : Hid (Below w.heap.size w (w.alloc (.cells #[.int .i64 0, .int .u64 0, .int .u64 0, .int .u64 0, .int .u64 0] 170))) := Lib.hid ((Below.refl _ _).alloc (Nat.le_refl _) _)
  clear hcw hw2
  dsimp only
  go_wp2_with fail
  refine bits_any _ a i s _ (HA.out.later HEXT.out (Nat.le_refl _)) hi1 hila HLA.out hs64 HT1.out _ ?_
  intro n1
  rw [← HAE.out]
  dsimp only
  go_wp2_with fail
  refine bits_any _ b i s _ ((HB.out.later HEXT.out (Nat.le_refl _)).drewN n1) hi1 hila HLB.out hs64 HT2.out _ ?_
  intro n2
  rw [← HHE.out]
  dsimp only
  obtain ⟨W0, hW0⟩ : ∃ W0, W0 = ((w.alloc (.cells #[.int .i64 0, .int .u64 0, .int .u64 0, .int .u64 0, .int .u64 0] 170)).drewN n1).drewN n2 := ⟨_, rfl⟩
  have HW1 : Hid (Below w.heap.size w W0) := Lib.hid (by rw [hW0]; exact below_draws (below_draws HEXT.out _) _)
  have HW2 : Hid (StBox W0 w.heap.size 0 0 0 0 0) := Lib.hid (by rw [hW0]; exact HB0.out)
  rw [← hW0]
  have hst : DecRel w W0.heap.size (W0.heap.size + 1) a b A H (.int .u64 ((A : Nat) : Int)) (.int .u64 ((H : Nat) : Int)) ((W0.alloc (.cells #[.int .i64 0, .int .u64 1, .int .u64 0, .int .u64 0, .int .u64 1] 170)).alloc (.cells #[.int .i64 0, .int .u64 1, .int .u64 0, .int .u64 0, .int .u64 1] 170)) := by
    have h1 : (0 : Nat) < W64 := by rw [W64_eq]; omega
    have h2 : (1 : Nat) < W64 := by rw [W64_eq]; omega
    refine ⟨0, true, 1, 0, 0, 1, 0, true, 1, 0, 0, 1, A, H, rfl, rfl, (Box5.made W0 _ _ _ _ _ _).alloc _, ?_, (HW2.out.alloc _).alloc _, Dec.start a b, Nxt.start a b A H hAH, rfl, rfl, by omega, h2, h1, h1, h2, h2, h1, h1, h2, HAW.out, (HW1.out.alloc HW1.out.size _).alloc (by have := HW1.out.size; simp; omega) _⟩
    have := Box5.made (W0.alloc (.cells #[.int .i64 0, .int .u64 1, .int .u64 0, .int .u64 0, .int .u64 1] 170)) (.int .i64 0) (.int .u64 1) (.int .u64 0) (.int .u64 0) (.int .u64 1) 170
    unfold StBox
    simpa using this
  have HST := Lib.hid hst
  have hg8 : w.heap.size < W0.heap.size := lt_of_block HW2.out
  obtain ⟨g8, hg8e⟩ : ∃ g, g = W0.heap.size := ⟨_, rfl⟩
  rw [← hg8e] at HST hg8
  have HG8 := Lib.hid hg8e
  clear hst hW0 hg8e HB0
  go_wp2
  rw [← HG8.out]
  go_loopw [6, 7] (fun f s wr => DecRel w g8 (g8 + 1) a b A H f s wr) (fun _ s _ => (intOf s).toNat)
  case atStart => exact HST.out
  case round =>
    clear HST
    obtain ⟨kd, evd, dA, dB, dC, dD, kn, evn, nA, nB, nC, nD, f, t, rfl, rfl, b8, b9, b0', hdec, hnxt, hevd, hevn, hkd, hdA, hdB, hdC, hdD, hnA, hnB, hnC, hnD, hf, hbel⟩ := hrel
    obtain ⟨⟨hP0, hP1, hP2, hP3, hP4⟩, hP5, hP6, hP7, hP8, hP9⟩ := Box5.cells b8
    obtain ⟨⟨hN0, hN1, hN2, hN3, hN4⟩, hN5, hN6, hN7, hN8, hN9⟩ := Box5.cells b9
    obtain ⟨⟨hR0, hR1, hR2, hR3, hR4⟩, hR5, hR6, hR7, hR8, hR9⟩ := Box5.cells b0'
    have HLI := Lib.hid hnxt.1
    have HDEC := Lib.hid hdec
    have HNXT := Lib.hid hnxt
    have HEVD := Lib.hid hevd
    have HEVN := Lib.hid hevn
    have HBEL := Lib.hid hbel
    have HDD := Lib.hid (And.intro hkd (And.intro hdA (And.intro hdB (And.intro hdC hdD))))
    have HNN := Lib.hid (And.intro hnA (And.intro hnB (And.intro hnC hnD)))
    have B8 := Lib.hid b8
    have B9 := Lib.hid b9
    have B0 := Lib.hid b0'
    have hfin : R (.returned (stepsV kd dA dB dC dD)) (set5 wr w.heap.size (.int .i64 ((kd : Nat) : Int)) (.int .u64 ((dA : Nat) : Int)) (.int .u64 ((dB : Nat) : Int)) (.int .u64 ((dC : Nat) : Int)) (.int .u64 ((dD : Nat) : Int))) :=
      HR.out _ _ _ _ _ _ _ hdec hevd hkd hdA hdB hdC hdD (below_set5 hbel (Nat.le_refl _) _ _ _ _ _)
    have HFIN := Lib.hid hfin
    have hf2 : (f : Int) ≤ 18446744073709551615 := by rw [W64_eq] at hf; omega
    have HF := Lib.hid hf
    have hpos := HLI.out.sB_pos
    have hsf := HLI.out.2.2.1
    clear b8 b9 b0' hdec hnxt hevd hevn hbel hkd hdA hdB hdC hdD hnA hnB hnC hnD hfin hf
    by_cases hc1 : nD ≤ t
    · obtain ⟨hs1, _, _⟩ := HLI.out.sum_le (by omega)
      have hAWn := HAW.out
      have hs2 : (nB : Int) + (nD : Int) ≤ 18446744073709551615 := by rw [W64_eq] at hAWn; omega
      have hc1i : (nD : Int) ≤ (t : Int) := by omega
      have hsfi : (t : Int) ≤ (f : Int) := by omega
      clear hAWn hs1
      by_cases hc2 : nB + nD ≤ f - t
      · have hc2i : (nB : Int) + (nD : Int) ≤ (f : Int) - (t : Int) := by omega
        have hcnt := HLI.out.count hc1
        obtain ⟨hgo1, hgo2, hgo3, hgo4⟩ := HNXT.out.go hc1 hc2 T a0 b0 HPA.out HPB.out hpa0 hpb0
        obtain ⟨q, hq⟩ : ∃ q, q = f / t := ⟨_, rfl⟩
        obtain ⟨r, hr⟩ : ∃ r, r = f % t := ⟨_, rfl⟩
        rw [← hq] at hgo2 hgo3 hgo4
        rw [← hr] at hgo2
        have hqe : (f : Int) / (t : Int) = (q : Int) := by rw [hq]; exact (Int.natCast_ediv f t).symm
        have hqt : (f : Int).tdiv (t : Int) = (q : Int) := by rw [Int.tdiv_eq_ediv_of_nonneg (by omega)]; exact hqe
        have hre : (f : Int) % (t : Int) = (r : Int) := by rw [hr]; exact (Int.natCast_emod f t).symm
        have hrt : (f : Int).tmod (t : Int) = (r : Int) := by rw [Int.tmod_eq_emod_of_nonneg (by omega)]; exact hre
        have hqf : q ≤ f := by rw [hq]; exact Nat.div_le_self _ _
        have hqw := wrapu (q : Int) (by omega) (by omega)
        have ht0 : ((t : Int) == 0) = false := by simp; omega
        have ht1 : (1 : Int) ≤ (t : Int) := by omega
        have htne : ¬ t = 0 := by omega
        have hrl : r < t := by rw [hr]; exact Nat.mod_lt _ (by omega)
        have hkn : kn ≤ 4294967296 := by
          rcases Nat.lt_or_ge 4294967296 kn with h | h
          · have h1 : 4294967297 * 4294967297 ≤ kn * kn := Nat.mul_le_mul h h
            have h2 := HAW.out
            rw [W64_eq] at h2; omega
          · exact h
        have hm1 : nA + q * nC < W64 := Nat.lt_of_le_of_lt hgo4 HAW.out
        have hm2 : nB + q * nD < W64 := Nat.lt_of_le_of_lt hgo3 HAW.out
        obtain ⟨L, hL⟩ : ∃ L, L = set5 wr g8 (.int .i64 ((kn : Nat) : Int)) (.int .u64 ((nA : Nat) : Int)) (.int .u64 ((nB : Nat) : Int)) (.int .u64 ((nC : Nat) : Int)) (.int .u64 ((nD : Nat) : Int)) := ⟨_, rfl⟩
        have L8 : StBox L g8 kn nA nB nC nD := by rw [hL]; exact Box5.set5 B8.out _ _ _ _ _
        have L9 : StBox L (g8 + 1) kn nA nB nC nD := by rw [hL]; exact Box5.noSet5 B9.out (by omega) _ _ _ _ _
        have L0 : StBox L w.heap.size 0 0 0 0 0 := by rw [hL]; exact Box5.noSet5 B0.out (by omega) _ _ _ _ _
        have LB : Below w.heap.size w L := by rw [hL]; exact below_set5 HBEL.out (by omega) _ _ _ _ _
        have HL8 := Lib.hid L8
        have HL9 := Lib.hid L9
        have HL0 := Lib.hid L0
        have HLB := Lib.hid LB
        have HGO := Lib.hid (And.intro hgo1 hgo2)
        have HKN := Lib.hid hkn
        have HM := Lib.hid (And.intro hm1 hm2)
        have hLs : g8 + 1 < L.heap.size := lt_of_block L9
        unfold set5 at hL
        clear hcnt hgo1 hgo2 hgo3 hgo4 hq hr hkn hm1 hm2 L8 L9 L0 LB hR0 hR1 hR2 hR3 hR4 hR5 hR6 hR7 hR8 hR9 HFIN
        go_upto_region 7 with fail
        rw [← hL]
        clear hL hP0 hP1 hP2 hP3 hP4 hP5 hP6 hP7 hP8 hP9 hN0 hN1 hN2 hN3 hN4 hN5 hN6 hN7 hN8 hN9
        obtain ⟨⟨hN0, hN1, hN2, hN3, hN4⟩, hN5, hN6, hN7, hN8, hN9⟩ := Box5.cells HL9.out
        go_cut [] (fun wx => StBox wx g8 kn nA nB nC nD ∧ StBox wx (g8 + 1) (kn + 1) nC nD (nA + q * nC) (nB + q * nD) ∧ StBox wx w.heap.size 0 0 0 0 0 ∧ Below w.heap.size w wx)
        case first =>
          go_region_law (go_simp; go_at_call 205; refine after_any kn nA nB nC nD q _ (Nat.le_trans HKN.out (by omega)) HM.out.1 HM.out.2 _ ?_; intro w4 hb4; have hb5 : Below L.heap.size L w4 := below_unDrew hb4; have M9 := Box5.later HL9.out hb5 hLs; have M8 := Lib.hid (Box5.later HL8.out hb5 (by omega)); have M0 := Lib.hid (Box5.later HL0.out hb5 (by omega)); have MB := Lib.hid (HLB.out.trans (hb5.mono HLB.out.size)); obtain ⟨⟨hM0, hM1, hM2, hM3, hM4⟩, hM5, hM6, hM7, hM8, hM9⟩ := M9.cells; have H9 := Lib.hid M9; clear M9 hb4 hb5; dsimp only)
          all_goals (go_wp2_with fail; go_meet; exact ⟨Box5.noSet5 M8.out (by omega) _ _ _ _ _, Box5.set5 H9.out _ _ _ _ _, Box5.noSet5 M0.out (by omega) _ _ _ _ _, below_set5 MB.out (by omega) _ _ _ _ _⟩)
        case rest =>
          obtain ⟨c8, c9, c0, cb⟩ := hcut
          have C8 := Lib.hid c8
          have C9 := Lib.hid c9
          have C0 := Lib.hid c0
          have CB := Lib.hid cb
          clear c8 c9 c0 cb hN0 hN1 hN2 hN3 hN4 hN5 hN6 hN7 hN8 hN9 hqe hqt
          go_wp2
          go_quiet (fail)
          go_wp2
          go_roundw
          case rel =>
            exact ⟨kn, evn, nA, nB, nC, nD, kn + 1, !evn, nC, nD, nA + q * nC, nB + q * nD, t, r, rfl, rfl, Box5.drewN C8.out _, Box5.drewN C9.out _, Box5.drewN C0.out _, HGO.out.1, HGO.out.2, HEVN.out, by rw [HEVN.out]; exact parity kn, Nat.le_trans HKN.out (by omega), HNN.out.1, HNN.out.2.1, HNN.out.2.2.1, HNN.out.2.2.2, HNN.out.2.2.1, HNN.out.2.2.2, HM.out.1, HM.out.2, by have := HF.out; omega, below_draws CB.out _⟩
          case measure => simp [intOf]; omega
      · have hc2i : ¬ (nB : Int) + (nD : Int) ≤ (f : Int) - (t : Int) := by omega
        clear hN0 hN1 hN3 hN5 hN6 hN7 hN8 hN9
        go_wp2
        refine bodyPost_ret_at (by simp [results, Tryz.results142, go_sem, hR0, hR1, hR2, hR3, hR4, hR5, hR6, hR7, hR8, hR9] <;> rfl) rfl ?_
        exact HFIN.out
    · have hc1i : ¬ (nD : Int) ≤ (t : Int) := by omega
      clear hN0 hN1 hN2 hN3 hN5 hN6 hN7 hN8 hN9
      go_wp2
      refine bodyPost_ret_at (by simp [results, Tryz.results142, go_sem, hR0, hR1, hR2, hR3, hR4, hR5, hR6, hR7, hR8, hR9] <;> rfl) rfl ?_
      exact HFIN.out
end Go.Proofs.YtdkjcdfkoahfkaaGreatDoor

namespace Go.Proofs.YtdkjcdfkoahfkaaGreatDoor
open Go Go.RowKit

set_option maxRecDepth 100000 in
set_option maxHeartbeats 1000000 in
theorem gcds_any (a b : Nat) (w : World) (ha : a < W64) (hb : b < W64) (R : Ending → World → Prop)
    (hR : ∀ w', Below w.heap.size w w' → w'.heap.size = w.heap.size → R (.returned (.int .u64 ((Nat.gcd a b : Nat) : Int))) w') :
    Calls Tryz.prog 145 #[.int .u64 ((a : Nat) : Int), .int .u64 ((b : Nat) : Int)] w R := by
  have HR := Lib.hid hR; clear hR
  go_enter Tryz.func145, Tryz.ntmps145
  have HA := Lib.hid ha
  have HB := Lib.hid hb
  clear ha hb
  go_wp2
  go_loopw [0, 1] (fun av bv wr => ∃ x y : Nat, av = .int .u64 ((x : Nat) : Int) ∧ bv = .int .u64 ((y : Nat) : Int) ∧ Nat.gcd x y = Nat.gcd a b ∧ x < W64 ∧ y < W64 ∧ Below w.heap.size w wr ∧ wr.heap.size = w.heap.size) (fun _ bv _ => (intOf bv).toNat)
  case atStart => exact ⟨a, b, rfl, rfl, rfl, HA.out, HB.out, Below.refl _ _, rfl⟩
  case round =>
    clear HA HB
    obtain ⟨x, y, rfl, rfl, hg, hx, hy, hbel, hsz⟩ := hrel
    have HG := Lib.hid hg
    have HX := Lib.hid hx
    have HY := Lib.hid hy
    have HB := Lib.hid hbel
    have HSZ := Lib.hid hsz
    clear hg hx hy hbel hsz
    by_cases hy0 : y = 0
    · subst hy0
      have hfin := HR.out _ HB.out HSZ.out
      rw [← HG.out, Nat.gcd_zero_right] at hfin
      have HF := Lib.hid hfin
      clear hfin
      go_wp2
      first | go_ret | skip
      exact HF.out
    · have hyp : (0 : Int) < (y : Int) := by omega
      have hy1 : (1 : Int) ≤ (y : Int) := by omega
      have hyn : ((y : Int) == 0) = false := by simp; omega
      obtain ⟨r, hr⟩ : ∃ r, r = x % y := ⟨_, rfl⟩
      have hre : (x : Int) % (y : Int) = (r : Int) := by rw [hr]; exact (Int.natCast_emod x y).symm
      have hrt : (x : Int).tmod (y : Int) = (r : Int) := by rw [Int.tmod_eq_emod_of_nonneg (by omega)]; exact hre
      have hrl : r < y := by rw [hr]; exact Nat.mod_lt _ (by omega)
      have hg2 : Nat.gcd y r = Nat.gcd a b := by rw [← HG.out, hr, Nat.gcd_comm y, ← Nat.gcd_rec, Nat.gcd_comm]
      have HG2 := Lib.hid hg2
      clear hr hg2
      go_wp2
      go_quiet (fail)
      go_wp2
      go_roundw
      case rel => exact ⟨y, r, rfl, rfl, HG2.out, HY.out, Nat.lt_trans hrl HY.out, below_draws HB.out _, HSZ.out⟩
      case measure => simp [intOf]; omega

theorem timesp_0 (v : Value) (a f : Nat) (w : World) (h : IsN w v a) (hf : f < W64) (hlen : (dig W64 a).length ≤ 10000000) (R : Ending → World → Prop)
    (hR : ∀ v' w', IsN w' v' (a * f) → Below w.heap.size w w' → R (.returned v') w') :
    Calls Tryz.prog 206 #[v, .int .u64 ((f : Nat) : Int), .int .u64 0] w R :=
  timesp_any v a f 0 w h hf (by rw [W64_eq]; omega) (by omega) R fun v' w' h1 h2 _ => hR v' w' h1 h2

theorem IsN.drew {w : World} {v : Value} {n : Nat} (h : IsN w v n) : IsN w.drew v n := h

/-- two products -/
def ApRel (L : World) (p q : Nat) (v1 v2 : Value) (wx : World) : Prop := IsN wx v1 p ∧ IsN wx v2 q ∧ Below L.heap.size L wx

theorem Nat_le_of_eq_add {a b c : Nat} (h : a = b + c) : b ≤ a ∧ a - b = c := by omega

set_option maxRecDepth 100000 in
set_option maxHeartbeats 2000000 in
/-- the two numbers with which decided steps end -/
theorem apply_any (k : Nat) (ev : Bool) (fA fB sA sB : Nat) (va vb : Value) (a b : Nat) (w : World) (ha : IsN w va a) (hb : IsN w vb b) (hla : (dig W64 a).length ≤ 10000000) (hlb : (dig W64 b).length ≤ 10000000)
    (hev : ev = (k % 2 == 0)) (hk : k ≤ 1000000000000) (hfA : fA < W64) (hfB : fB < W64) (hsA : sA < W64) (hsB : sB < W64) (tf ts : Nat) (ht : LTrue ev a b fA fB sA sB tf ts) (R : Ending → World → Prop)
    (hR : ∀ v1 v2 w', IsN w' v1 tf → IsN w' v2 ts → Below w.heap.size w w' → R (.returned (.tuple #[v1, v2])) w') :
    Calls Tryz.prog 143 #[stepsV k fA fB sA sB, va, vb] w R := by
  have HR := Lib.hid hR; clear hR
  obtain ⟨aa, na, ca, rfl, ha'⟩ := ha.op
  obtain ⟨ab, nb, cb, rfl, hb'⟩ := hb.op
  have HA := Lib.hid ha'
  have HB := Lib.hid hb'
  have HLA := Lib.hid hla
  have HLB := Lib.hid hlb
  have HW := Lib.hid (And.intro hfA (And.intro hfB (And.intro hsA hsB)))
  have B0 := Lib.hid (Box5.made w (.int .i64 ((k : Nat) : Int)) (.int .u64 ((fA : Nat) : Int)) (.int .u64 ((fB : Nat) : Int)) (.int .u64 ((sA : Nat) : Int)) (.int .u64 ((sB : Nat) : Int)) 170)
  have H0 : Hid ((0 : Nat) < W64) := Lib.hid (by rw [W64_eq]; omega)
  have hlen : ∀ c f : Nat, (dig W64 c).length ≤ 10000000 → f < W64 → (dig W64 (c * f + 0)).length ≤ 100000000 := by
    intro c f hc hf
    have : (dig W64 (c * f + 0)).length ≤ (dig W64 c).length + 1 := by
      apply dig_length_le W64_two
      rw [Nat.add_zero, Nat.pow_succ]
      exact Nat.mul_lt_mul'' (lt_pow_dig W64_two c) hf
    omega
  have HLEN := Lib.hid hlen
  have HT := Lib.hid ht
  have HK := Lib.hid hk
  have HEXT : Hid (Below w.heap.size w (w.alloc (.cells #[.int .i64 ((k : Nat) : Int), .int .u64 ((fA : Nat) : Int), .int .u64 ((fB : Nat) : Int), .int .u64 ((sA : Nat) : Int), .int .u64 ((sB : Nat) : Int)] 170))) := Lib.hid ((Below.refl _ _).alloc (Nat.le_refl _) _)
  obtain ⟨L, hL⟩ : ∃ L, L = w.alloc (.cells #[.int .i64 ((k : Nat) : Int), .int .u64 ((fA : Nat) : Int), .int .u64 ((fB : Nat) : Int), .int .u64 ((sA : Nat) : Int), .int .u64 ((sB : Nat) : Int)] 170) := ⟨_, rfl⟩
  have HL := Lib.hid hL
  have c0 : Box5 L w.heap.size (.int .i64 ((k : Nat) : Int)) (.int .u64 ((fA : Nat) : Int)) (.int .u64 ((fB : Nat) : Int)) (.int .u64 ((sA : Nat) : Int)) (.int .u64 ((sB : Nat) : Int)) 170 := by rw [hL]; exact B0.out
  have hbL : Below w.heap.size w L := by rw [hL]; exact HEXT.out
  have C0 := Lib.hid c0
  have HBL := Lib.hid hbL
  have hAL := Lib.hid (HA.out.later hbL (Nat.le_refl _))
  have hBL := Lib.hid (HB.out.later hbL (Nat.le_refl _))
  obtain ⟨⟨hC0, hC1, hC2, hC3, hC4⟩, _, _, _, _, _⟩ := c0.cells
  have hgL := lt_of_block c0
  clear ha hb ha' hb' hla hlb hfA hfB hsA hsB hlen ht hk B0 HEXT hL c0 hbL
  unfold stepsV
  go_enter Tryz.func143, Tryz.ntmps143
  go_upto_region 1 with fail
  rw [← HL.out]
  go_cut [8, 9] (fun v1 v2 wx => ApRel L (a * fA) (b * fB) v1 v2 wx)
  case first =>
    go_region_law (first
      | (have hguard := hb1; go_simp; go_at_call 206; refine timesp_0 _ b fB _ (hBL.out.later hb1 (Nat.le_refl _)) HW.out.2.1 HLB.out _ ?_; intro v2 w2 hv2 hb2; clear hguard; dsimp only)
      | (go_simp; go_at_call 206; refine timesp_0 _ a fA _ hAL.out.drew HW.out.1 HLA.out _ ?_; intro v1 w1 hv1 hb1'; have hb1 : Below L.heap.size L w1 := below_unDrew hb1'; obtain ⟨⟨hE0, hE1, hE2, hE3, hE4⟩, _, _, _, _, _⟩ := (Box5.later C0.out hb1 hgL).cells; dsimp only))
    all_goals (go_wp2_with fail; go_meet; exact ⟨hv1.later hb2 (Nat.le_refl _), hv2, hb1.trans (hb2.mono hb1.size)⟩)
  case rest =>
    obtain ⟨hp1, hp2, hbx⟩ := hcut
    obtain ⟨a1, n1, c1, rfl, hp1'⟩ := hp1.op
    obtain ⟨a2, n2, c2, rfl, hp2'⟩ := hp2.op
    have HP1 := Lib.hid hp1'
    have HP2 := Lib.hid hp2'
    have HBX := Lib.hid hbx
    obtain ⟨wa, hwa⟩ : ∃ wa, wa = wc := ⟨_, rfl⟩
    have HBL2 := Lib.hid (HBL.out.trans (hbx.mono HBL.out.size))
    have HA2 := Lib.hid (hAL.out.later hbx (Nat.le_refl _))
    have HB2 := Lib.hid (hBL.out.later hbx (Nat.le_refl _))
    have C1 := Lib.hid (Box5.later C0.out hbx hgL)
    have hgx : w.heap.size < wc.heap.size := lt_of_block C1.out
    clear hp1 hp2 hp1' hp2' hbx hwa hC0 hC1 hC2 hC3 hC4
    obtain ⟨⟨hC0, hC1, hC2, hC3, hC4⟩, _, _, _, _, _⟩ := (Box5.cells C1.out)
    go_upto_region 2 with fail
    go_cut [10, 11] (fun v1 v2 wx => ApRel wc (a * sA) (b * sB) v1 v2 wx)
    case first =>
      go_region_law (first
        | (have hguard := hb1; go_simp; go_at_call 206; refine timesp_0 _ b sB _ (HB2.out.later hb1 (Nat.le_refl _)) HW.out.2.2.2 HLB.out _ ?_; intro v2 w2 hv2 hb2; clear hguard; dsimp only)
        | (go_simp; go_at_call 206; refine timesp_0 _ a sA _ HA2.out.drew HW.out.2.2.1 HLA.out _ ?_; intro v1 w1 hv1 hb1'; have hb1 : Below wc.heap.size wc w1 := below_unDrew hb1'; obtain ⟨⟨hE0, hE1, hE2, hE3, hE4⟩, _, _, _, _, _⟩ := (Box5.later C1.out hb1 hgx).cells; dsimp only))
      all_goals (go_wp2_with fail; go_meet; exact ⟨hv1.later hb2 (Nat.le_refl _), hv2, hb1.trans (hb2.mono hb1.size)⟩)
    case rest =>
      obtain ⟨hq1, hq2, hby⟩ := hcut
      obtain ⟨a3, n3, c3, rfl, hq1'⟩ := hq1.op
      obtain ⟨a4, n4, c4, rfl, hq2'⟩ := hq2.op
      have HQ1 := Lib.hid hq1'
      have HQ2 := Lib.hid hq2'
      have HP1b := Lib.hid (HP1.out.later hby (Nat.le_refl _))
      have HP2b := Lib.hid (HP2.out.later hby (Nat.le_refl _))
      have HBY := Lib.hid (HBL2.out.trans (hby.mono HBL2.out.size))
      have C2 := Lib.hid (Box5.later C1.out hby hgx)
      clear hq1 hq2 hq1' hq2' hby hC0 hC1 hC2 hC3 hC4
      obtain ⟨⟨hC0, _, _, _, _⟩, _, _, _, _, _⟩ := (Box5.cells C2.out)
      cases ev
      · have hk2 : (k : Int) % 2 = 1 := by
          have : k % 2 = 1 := by
            rcases (by omega : k % 2 = 0 ∨ k % 2 = 1) with h | h
            · rw [h] at hev; cases hev
            · exact h
          omega
        have hk3 : (k : Int).tmod 2 = 1 := by rw [Int.tmod_eq_emod_of_nonneg (by omega)]; exact hk2
        have ht := HT.out
        simp only [LTrue, Bool.false_eq_true, if_false] at ht
        have e1 := Nat_le_of_eq_add (show b * fB = a * fA + tf by rw [Nat.mul_comm b, Nat.mul_comm a]; exact ht.1)
        have e2 := Nat_le_of_eq_add (show a * sA = b * sB + ts by rw [Nat.mul_comm b, Nat.mul_comm a]; exact ht.2)
        have E1 := Lib.hid e1
        have E2 := Lib.hid e2
        clear hev ht e1 e2
        go_wp2_with fail
        refine minus_any _ _ (b * fB) (a * fA) _ HP2b.out HP1b.out E1.out.1 (HLEN.out b fB HLB.out HW.out.2.1) _ ?_
        intro v1 w5 hv1 hb5
        rw [E1.out.2] at hv1
        obtain ⟨a5, n5, c5, rfl, hv1'⟩ := hv1.op
        have HV1 := Lib.hid hv1'
        have HB5 := Lib.hid hb5
        clear hv1 hv1' hb5 hC0
        dsimp only
        go_wp2_with fail
        refine minus_any _ _ (a * sA) (b * sB) _ (HQ1.out.later HB5.out (Nat.le_refl _)) (HQ2.out.later HB5.out (Nat.le_refl _)) E2.out.1 (HLEN.out a sA HLA.out HW.out.2.2.1) _ ?_
        intro v2 w6 hv2 hb6
        rw [E2.out.2] at hv2
        obtain ⟨a6, n6, c6, rfl, hv2'⟩ := hv2.op
        have HV2 := Lib.hid hv2'
        have HB6 := Lib.hid hb6
        clear hv2 hv2' hb6
        dsimp only
        go_wp2
        first | go_ret | skip
        exact HR.out _ _ _ (HV1.out.later HB6.out (Nat.le_refl _)) HV2.out (HBY.out.trans ((HB5.out.trans (HB6.out.mono HB5.out.size)).mono HBY.out.size))
      · have hk2 : (k : Int) % 2 = 0 := by
          have : k % 2 = 0 := by
            rcases (by omega : k % 2 = 0 ∨ k % 2 = 1) with h | h
            · exact h
            · rw [h] at hev; cases hev
          omega
        have hk3 : (k : Int).tmod 2 = 0 := by rw [Int.tmod_eq_emod_of_nonneg (by omega)]; exact hk2
        have ht := HT.out
        simp only [LTrue, if_true] at ht
        have e1 := Nat_le_of_eq_add (show a * fA = b * fB + tf by rw [Nat.mul_comm b, Nat.mul_comm a]; exact ht.1)
        have e2 := Nat_le_of_eq_add (show b * sB = a * sA + ts by rw [Nat.mul_comm b, Nat.mul_comm a]; exact ht.2)
        have E1 := Lib.hid e1
        have E2 := Lib.hid e2
        clear hev ht e1 e2
        go_wp2_with fail
        refine minus_any _ _ (a * fA) (b * fB) _ HP1b.out HP2b.out E1.out.1 (HLEN.out a fA HLA.out HW.out.1) _ ?_
        intro v1 w5 hv1 hb5
        rw [E1.out.2] at hv1
        obtain ⟨a5, n5, c5, rfl, hv1'⟩ := hv1.op
        have HV1 := Lib.hid hv1'
        have HB5 := Lib.hid hb5
        clear hv1 hv1' hb5 hC0
        dsimp only
        go_wp2_with fail
        refine minus_any _ _ (b * sB) (a * sA) _ (HQ2.out.later HB5.out (Nat.le_refl _)) (HQ1.out.later HB5.out (Nat.le_refl _)) E2.out.1 (HLEN.out b sB HLB.out HW.out.2.2.2) _ ?_
        intro v2 w6 hv2 hb6
        rw [E2.out.2] at hv2
        obtain ⟨a6, n6, c6, rfl, hv2'⟩ := hv2.op
        have HV2 := Lib.hid hv2'
        have HB6 := Lib.hid hb6
        clear hv2 hv2' hb6
        dsimp only
        go_wp2
        first | go_ret | skip
        exact HR.out _ _ _ (HV1.out.later HB6.out (Nat.le_refl _)) HV2.out (HBY.out.trans ((HB5.out.trans (HB6.out.mono HB5.out.size)).mono HBY.out.size))
end Go.Proofs.YtdkjcdfkoahfkaaGreatDoor

namespace Go.Proofs.YtdkjcdfkoahfkaaGreatDoor
open Go Go.RowKit

/-- the number in a cell -/
def cellU : Option Value → Nat
  | some (.int _ z) => z.toNat
  | _ => 0
/-- the number that a value of the program's type holds -/
def limbNat (w : World) : Value → Nat
  | .slice (some a) n _ => val W64 ((List.range n).map fun i => cellU (w.cell? ⟨a.block, a.off + i, none⟩))
  | _ => 0

theorem IsN.limbNat {w : World} {v : Value} {n : Nat} (h : IsN w v n) : limbNat w v = n := by
  have hv := val_dig W64_two n
  rcases Sl.cases h with ⟨h0, ao, cap, rfl⟩ | ⟨hl, b, off, cap, rfl, _, _, hc⟩
  · rw [h0] at hv
    simp [val] at hv
    subst hv
    cases ao <;> simp [Go.Proofs.YtdkjcdfkoahfkaaGreatDoor.limbNat, val]
  · unfold Go.Proofs.YtdkjcdfkoahfkaaGreatDoor.limbNat
    dsimp only
    have : (List.range (dig W64 n).length).map (fun i => cellU (w.cell? ⟨b, off + i, none⟩)) = dig W64 n := by
      apply List.ext_getElem (by simp)
      intro i h1 h2
      rw [List.getElem_map, List.getElem_range, hc i h2]
      simp [cellU, List.getD, List.getElem?_eq_getElem h2]
    rw [this, hv]

theorem IsN.cast {w : World} {v : Value} {n m : Nat} (h : IsN w v n) (e : n = m) : IsN w v m := e ▸ h

def GRel (w : World) (G : Nat) (v0 v1 : Value) (wr : World) : Prop :=
  ∃ x y, IsN wr v0 x ∧ IsN wr v1 y ∧ y ≤ x ∧ Nat.gcd x y = G ∧ (dig W64 x).length ≤ 10000000 ∧ Below w.heap.size w wr

theorem gcd_mod (x y : Nat) : Nat.gcd y (x % y) = Nat.gcd x y := by
  rw [Nat.gcd_comm y, ← Nat.gcd_rec, Nat.gcd_comm]

set_option maxRecDepth 100000 in
set_option maxHeartbeats 4000000 in
theorem gcdn_any (va vb : Value) (a b : Nat) (w : World) (ha : IsN w va a) (hb : IsN w vb b) (hla : (dig W64 a).length ≤ 10000000) (hlb : (dig W64 b).length ≤ 10000000) (R : Ending → World → Prop)
    (hR : ∀ v w', IsN w' v (Nat.gcd a b) → Below w.heap.size w w' → R (.returned v) w') :
    Calls Tryz.prog 81 #[va, vb] w R := by
  have HR := Lib.hid hR; clear hR
  obtain ⟨aa, na, ca, rfl, ha'⟩ := ha.op
  obtain ⟨ab, nb, cb, rfl, hb'⟩ := hb.op
  have HA := Lib.hid ha'
  have HB := Lib.hid hb'
  have HLA := Lib.hid hla
  have HLB := Lib.hid hlb
  obtain ⟨cm, hcmp⟩ : ∃ cm, cm = cmpN a b := ⟨_, rfl⟩
  obtain ⟨G, hG⟩ : ∃ G, G = Nat.gcd a b := ⟨_, rfl⟩
  rw [← hG] at HR
  have HG := Lib.hid hG
  have HCM := Lib.hid hcmp
  clear ha' hb' hla hlb hcmp hG
  go_enter Tryz.func81, Tryz.ntmps81
  go_wp2_with fail
  refine ncmp_any _ _ a b _ ha hb (by have := HLA.out; omega) (by have := HLB.out; omega) _ ?_
  rw [← HCM.out]
  intro w0 hb0 _
  have HB0 := Lib.hid hb0
  clear ha hb hb0
  dsimp only
  by_cases hlt : a < b
  · have hcm : cm < 0 := by rw [HCM.out, cmpN_lt hlt]; omega
    have hst : GRel w G (.slice ab nb cb) (.slice aa na ca) w0 := ⟨b, a, HB.out.later HB0.out (Nat.le_refl _), HA.out.later HB0.out (Nat.le_refl _), by omega, by rw [Nat.gcd_comm]; exact HG.out.symm, HLB.out, HB0.out⟩
    have HST := Lib.hid hst
    clear hst hlt
    go_wp2
    go_loopw [0, 1] (fun v0 v1 wr => GRel w G v0 v1 wr) (fun _ v1 wr => limbNat wr v1)
    case atStart => exact HST.out
    case round =>
      clear HST
      obtain ⟨x, y, hx, hy, hyx, hg, hlx, hbel⟩ := hrel
      obtain ⟨ax, nx, cx, rfl, hx'⟩ := hx.op
      obtain ⟨ay, ny, cy, rfl, hny, hy'⟩ := hy.open
      have HX := Lib.hid hx'
      have HY := Lib.hid hy'
      have HYX := Lib.hid hyx
      have HGG := Lib.hid hg
      have HLX := Lib.hid hlx
      have HBEL := Lib.hid hbel
      have HNY := Lib.hid hny
      have HLY := Lib.hid (Nat.le_trans (dig_length_mono' W64_two hyx) hlx)
      have HM := Lib.hid hy.limbNat
      clear hx hy hx' hy' hyx hg hlx hbel hny
      by_cases hbig : 1 < ny
      · have hbi : (1 : Int) < (ny : Int) := by omega
        go_wp2_with fail
        refine decided_any _ _ x y _ HX.out HY.out HLX.out (by rw [← HNY.out]; exact hbig) HYX.out _ ?_
        intro k ev fA fB sA sB w1 hdec hev hk hfA hfB hsA hsB hb1
        obtain ⟨tf, ts, ht, hgt, hle⟩ := hdec
        have HT := Lib.hid ht
        have HGT := Lib.hid hgt
        have HLE := Lib.hid hle
        have HEV := Lib.hid hev
        have HK := Lib.hid hk
        have HBD := Lib.hid (And.intro hfA (And.intro hfB (And.intro hsA hsB)))
        have HB1 := Lib.hid hb1
        have HB2 := Lib.hid (HBEL.out.trans (hb1.mono HBEL.out.size))
        clear ht hgt hle hev hk hfA hfB hsA hsB hb1
        unfold stepsV
        dsimp only
        by_cases hk0 : k = 0
        · subst hk0
          have hy0 : y ≠ 0 := by intro h; have := HNY.out; rw [h, dig_zero] at this; simp at this; omega
          have HY0 := Lib.hid hy0
          clear hy0
          go_wp2_with fail
          refine divide_any _ _ x y _ ((HX.out.later HB1.out (Nat.le_refl _)).later ((Below.refl _ _).alloc (Nat.le_refl _) _) (Nat.le_refl _)) ((HY.out.later HB1.out (Nat.le_refl _)).later ((Below.refl _ _).alloc (Nat.le_refl _) _) (Nat.le_refl _)) HLX.out HLY.out HY0.out _ ?_
          intro v1 v2 w3 hv1 hv2 hb3
          obtain ⟨a1, n1, c1, rfl, _⟩ := hv1.op
          obtain ⟨a2, n2, c2, rfl, hv2'⟩ := hv2.op
          have HV2 := Lib.hid hv2'
          have HY3 := Lib.hid ((HY.out.later HB1.out (Nat.le_refl _)).later (((Below.refl _ _).alloc (Nat.le_refl _) _).trans (hb3.mono (by simp))) (Nat.le_refl _))
          have HB3 := Lib.hid ((HB2.out.alloc HB2.out.size _).trans (hb3.mono (by have := HB2.out.size; simp; omega)))
          have HM2 := Lib.hid hv2.limbNat
          have HLT := Lib.hid (Nat.mod_lt x (Nat.pos_of_ne_zero HY0.out))
          clear hv1 hv2 hv2' hb3
          dsimp only
          go_wp2
          go_roundw
          case rel => exact ⟨y, x % y, HY3.out, HV2.out, Nat.le_of_lt HLT.out, by rw [gcd_mod]; exact HGG.out, HLY.out, HB3.out⟩
          case measure => rw [HM2.out, HM.out]; exact HLT.out
        · have hkp : (0 : Int) < (k : Int) := by omega
          have hle := HLE.out (by omega)
          have HLE2 := Lib.hid hle
          clear hle hk0
          go_wp2_with fail
          refine apply_any k ev fA fB sA sB _ _ x y _ ((HX.out.later HB1.out (Nat.le_refl _)).later ((Below.refl _ _).alloc (Nat.le_refl _) _) (Nat.le_refl _)) ((HY.out.later HB1.out (Nat.le_refl _)).later ((Below.refl _ _).alloc (Nat.le_refl _) _) (Nat.le_refl _)) HLX.out HLY.out HEV.out HK.out HBD.out.1 HBD.out.2.1 HBD.out.2.2.1 HBD.out.2.2.2 tf ts HT.out _ ?_
          intro v1 v2 w3 hv1 hv2 hb3
          obtain ⟨a1, n1, c1, rfl, hv1'⟩ := hv1.op
          obtain ⟨a2, n2, c2, rfl, hv2'⟩ := hv2.op
          have HV1 := Lib.hid hv1'
          have HV2 := Lib.hid hv2'
          have HB3 := Lib.hid ((HB2.out.alloc HB2.out.size _).trans (hb3.mono (by have := HB2.out.size; simp; omega)))
          have HM2 := Lib.hid hv2.limbNat
          have HLT := Lib.hid (show ts < y by have := HLE2.out; omega)
          clear hv1 hv2 hv1' hv2' hb3
          dsimp only
          go_wp2
          go_roundw
          case rel => exact ⟨tf, ts, HV1.out, HV2.out, by have := HLE2.out; omega, by rw [HGT.out]; exact HGG.out, Nat.le_trans (dig_length_mono' W64_two HLE2.out.2) HLY.out, HB3.out⟩
          case measure => rw [HM2.out, HM.out]; exact HLT.out
      · have hbi : ¬ (1 : Int) < (ny : Int) := by omega
        go_wp2_with fail
        refine nzero_any _ y _ HY.out _ ?_
        by_cases hy0 : y = 0
        · rw [decide_eq_true hy0]
          have hgx : x = G := by rw [← HGG.out, hy0, Nat.gcd_zero_right]
          have hfin := HR.out _ _ (hgx ▸ HX.out) HBEL.out
          have HF := Lib.hid hfin
          clear hfin hgx hy0
          dsimp only
          go_wp2
          first | go_ret | skip
          exact HF.out
        · rw [decide_eq_false hy0]
          have h3 : (dig W64 y).length ≠ 0 := fun e => hy0 ((dig_eq_nil W64_two).1 (List.length_eq_zero_iff.1 e))
          have hn1 : ny = 1 := by have := HNY.out; omega
          subst hn1
          obtain ⟨d, hd⟩ := List.length_eq_one_iff.1 HNY.out.symm
          have hyd := dig_one W64_two y d hd
          subst hyd
          obtain ⟨bk, o, rfl, hbk, hc⟩ := Sl.at HY.out 0 (by omega)
          rw [hd, Nat.add_zero] at hc
          have hc2 : wr.cell? ⟨bk, o, none⟩ = some (.int .u64 (y : Int)) := hc
          have hyw : y < W64 := limb_lt y y (by rw [hd]; simp)
          have HY0 := Lib.hid hy0
          have HYW := Lib.hid hyw
          have HXW := Lib.hid (Nat.lt_trans (Nat.mod_lt x (Nat.pos_of_ne_zero hy0)) hyw)
          obtain ⟨r, hr⟩ : ∃ r, r = x % y := ⟨_, rfl⟩
          have HRR := Lib.hid hr
          obtain ⟨gg, hgg⟩ : ∃ gg, gg = Nat.gcd y r := ⟨_, rfl⟩
          have hgG : gg = G := by rw [hgg, hr, gcd_mod]; exact HGG.out
          have hgw : gg < W64 := by rw [hgg]; exact Nat.lt_of_le_of_lt (Nat.gcd_le_left _ (Nat.pos_of_ne_zero hy0)) hyw
          have HGE := Lib.hid hgg
          have HGG2 := Lib.hid hgG
          have HGW := Lib.hid hgw
          have hvg : val W64 [gg] = gg := by simp [val]
          have HVG := Lib.hid hvg
          clear hc hd h3 hy0 hyw hr hgg hgG hgw hvg
          dsimp only
          go_upto_region 11 with fail
          go_cut [4] (fun v wx => IsN wx v G ∧ Below w.heap.size w wx)
          case first =>
            go_region_law (first
              | (have hguard := hb2; go_simp; go_at_call 144; refine trimmed_any _ [gg] _ (Own.lit1 .u64 99 w2 0 gg _ rfl (Nat.zero_le _)).sl (by intro d hd; simp at hd; rw [hd]; exact HGW.out) (by simp) _ ?_; intro v3 hv3' _; have hv3 := hv3'.cast (HVG.out.trans HGG2.out); clear hguard; dsimp only)
              | (have hguard := hb1; go_simp; go_at_call 145; refine gcds_any y r _ HYW.out (by rw [HRR.out]; exact HXW.out) _ ?_; rw [← HGE.out]; intro w2 hb2 hzz; clear hzz; have HBZ := Lib.hid (HBEL.out.trans ((hb1.trans (hb2.mono hb1.size)).mono HBEL.out.size)); clear hguard; dsimp only)
              | (go_simp; go_at_call 140; refine rems_any _ x y _ HX.out.drew (Nat.pos_of_ne_zero HY0.out) HYW.out (by have := HLX.out; omega) _ ?_; rw [← HRR.out]; intro w1 hb1' hzz; clear hzz; have hb1 : Below wr.heap.size wr w1 := below_unDrew hb1'; have hc3 := hc2; rw [← hb1.cell (p := ⟨bk, o, none⟩) hbk] at hc3; dsimp only))
            all_goals (go_wp2_with fail; go_meet; exact ⟨hv3, HBZ.out.alloc HBZ.out.size _⟩)
          case rest =>
            obtain ⟨hv, hbz⟩ := hcut
            have HV := Lib.hid hv
            have HBZ := Lib.hid hbz
            clear hv hbz hc2
            go_wp2
            first | go_ret | skip
            exact HR.out _ _ HV.out HBZ.out
  · have hcm : ¬ cm < 0 := by rw [HCM.out]; unfold cmpN; rw [if_neg hlt]; split <;> omega
    have hst : GRel w G (.slice aa na ca) (.slice ab nb cb) w0 := ⟨a, b, HA.out.later HB0.out (Nat.le_refl _), HB.out.later HB0.out (Nat.le_refl _), by omega, HG.out.symm, HLA.out, HB0.out⟩
    have HST := Lib.hid hst
    clear hst hlt
    go_wp2
    go_loopw [0, 1] (fun v0 v1 wr => GRel w G v0 v1 wr) (fun _ v1 wr => limbNat wr v1)
    case atStart => exact HST.out
    case round =>
      clear HST
      obtain ⟨x, y, hx, hy, hyx, hg, hlx, hbel⟩ := hrel
      obtain ⟨ax, nx, cx, rfl, hx'⟩ := hx.op
      obtain ⟨ay, ny, cy, rfl, hny, hy'⟩ := hy.open
      have HX := Lib.hid hx'
      have HY := Lib.hid hy'
      have HYX := Lib.hid hyx
      have HGG := Lib.hid hg
      have HLX := Lib.hid hlx
      have HBEL := Lib.hid hbel
      have HNY := Lib.hid hny
      have HLY := Lib.hid (Nat.le_trans (dig_length_mono' W64_two hyx) hlx)
      have HM := Lib.hid hy.limbNat
      clear hx hy hx' hy' hyx hg hlx hbel hny
      by_cases hbig : 1 < ny
      · have hbi : (1 : Int) < (ny : Int) := by omega
        go_wp2_with fail
        refine decided_any _ _ x y _ HX.out HY.out HLX.out (by rw [← HNY.out]; exact hbig) HYX.out _ ?_
        intro k ev fA fB sA sB w1 hdec hev hk hfA hfB hsA hsB hb1
        obtain ⟨tf, ts, ht, hgt, hle⟩ := hdec
        have HT := Lib.hid ht
        have HGT := Lib.hid hgt
        have HLE := Lib.hid hle
        have HEV := Lib.hid hev
        have HK := Lib.hid hk
        have HBD := Lib.hid (And.intro hfA (And.intro hfB (And.intro hsA hsB)))
        have HB1 := Lib.hid hb1
        have HB2 := Lib.hid (HBEL.out.trans (hb1.mono HBEL.out.size))
        clear ht hgt hle hev hk hfA hfB hsA hsB hb1
        unfold stepsV
        dsimp only
        by_cases hk0 : k = 0
        · subst hk0
          have hy0 : y ≠ 0 := by intro h; have := HNY.out; rw [h, dig_zero] at this; simp at this; omega
          have HY0 := Lib.hid hy0
          clear hy0
          go_wp2_with fail
          refine divide_any _ _ x y _ ((HX.out.later HB1.out (Nat.le_refl _)).later ((Below.refl _ _).alloc (Nat.le_refl _) _) (Nat.le_refl _)) ((HY.out.later HB1.out (Nat.le_refl _)).later ((Below.refl _ _).alloc (Nat.le_refl _) _) (Nat.le_refl _)) HLX.out HLY.out HY0.out _ ?_
          intro v1 v2 w3 hv1 hv2 hb3
          obtain ⟨a1, n1, c1, rfl, _⟩ := hv1.op
          obtain ⟨a2, n2, c2, rfl, hv2'⟩ := hv2.op
          have HV2 := Lib.hid hv2'
          have HY3 := Lib.hid ((HY.out.later HB1.out (Nat.le_refl _)).later (((Below.refl _ _).alloc (Nat.le_refl _) _).trans (hb3.mono (by simp))) (Nat.le_refl _))
          have HB3 := Lib.hid ((HB2.out.alloc HB2.out.size _).trans (hb3.mono (by have := HB2.out.size; simp; omega)))
          have HM2 := Lib.hid hv2.limbNat
          have HLT := Lib.hid (Nat.mod_lt x (Nat.pos_of_ne_zero HY0.out))
          clear hv1 hv2 hv2' hb3
          dsimp only
          go_wp2
          go_roundw
          case rel => exact ⟨y, x % y, HY3.out, HV2.out, Nat.le_of_lt HLT.out, by rw [gcd_mod]; exact HGG.out, HLY.out, HB3.out⟩
          case measure => rw [HM2.out, HM.out]; exact HLT.out
        · have hkp : (0 : Int) < (k : Int) := by omega
          have hle := HLE.out (by omega)
          have HLE2 := Lib.hid hle
          clear hle hk0
          go_wp2_with fail
          refine apply_any k ev fA fB sA sB _ _ x y _ ((HX.out.later HB1.out (Nat.le_refl _)).later ((Below.refl _ _).alloc (Nat.le_refl _) _) (Nat.le_refl _)) ((HY.out.later HB1.out (Nat.le_refl _)).later ((Below.refl _ _).alloc (Nat.le_refl _) _) (Nat.le_refl _)) HLX.out HLY.out HEV.out HK.out HBD.out.1 HBD.out.2.1 HBD.out.2.2.1 HBD.out.2.2.2 tf ts HT.out _ ?_
          intro v1 v2 w3 hv1 hv2 hb3
          obtain ⟨a1, n1, c1, rfl, hv1'⟩ := hv1.op
          obtain ⟨a2, n2, c2, rfl, hv2'⟩ := hv2.op
          have HV1 := Lib.hid hv1'
          have HV2 := Lib.hid hv2'
          have HB3 := Lib.hid ((HB2.out.alloc HB2.out.size _).trans (hb3.mono (by have := HB2.out.size; simp; omega)))
          have HM2 := Lib.hid hv2.limbNat
          have HLT := Lib.hid (show ts < y by have := HLE2.out; omega)
          clear hv1 hv2 hv1' hv2' hb3
          dsimp only
          go_wp2
          go_roundw
          case rel => exact ⟨tf, ts, HV1.out, HV2.out, by have := HLE2.out; omega, by rw [HGT.out]; exact HGG.out, Nat.le_trans (dig_length_mono' W64_two HLE2.out.2) HLY.out, HB3.out⟩
          case measure => rw [HM2.out, HM.out]; exact HLT.out
      · have hbi : ¬ (1 : Int) < (ny : Int) := by omega
        go_wp2_with fail
        refine nzero_any _ y _ HY.out _ ?_
        by_cases hy0 : y = 0
        · rw [decide_eq_true hy0]
          have hgx : x = G := by rw [← HGG.out, hy0, Nat.gcd_zero_right]
          have hfin := HR.out _ _ (hgx ▸ HX.out) HBEL.out
          have HF := Lib.hid hfin
          clear hfin hgx hy0
          dsimp only
          go_wp2
          first | go_ret | skip
          exact HF.out
        · rw [decide_eq_false hy0]
          have h3 : (dig W64 y).length ≠ 0 := fun e => hy0 ((dig_eq_nil W64_two).1 (List.length_eq_zero_iff.1 e))
          have hn1 : ny = 1 := by have := HNY.out; omega
          subst hn1
          obtain ⟨d, hd⟩ := List.length_eq_one_iff.1 HNY.out.symm
          have hyd := dig_one W64_two y d hd
          subst hyd
          obtain ⟨bk, o, rfl, hbk, hc⟩ := Sl.at HY.out 0 (by omega)
          rw [hd, Nat.add_zero] at hc
          have hc2 : wr.cell? ⟨bk, o, none⟩ = some (.int .u64 (y : Int)) := hc
          have hyw : y < W64 := limb_lt y y (by rw [hd]; simp)
          have HY0 := Lib.hid hy0
          have HYW := Lib.hid hyw
          have HXW := Lib.hid (Nat.lt_trans (Nat.mod_lt x (Nat.pos_of_ne_zero hy0)) hyw)
          obtain ⟨r, hr⟩ : ∃ r, r = x % y := ⟨_, rfl⟩
          have HRR := Lib.hid hr
          obtain ⟨gg, hgg⟩ : ∃ gg, gg = Nat.gcd y r := ⟨_, rfl⟩
          have hgG : gg = G := by rw [hgg, hr, gcd_mod]; exact HGG.out
          have hgw : gg < W64 := by rw [hgg]; exact Nat.lt_of_le_of_lt (Nat.gcd_le_left _ (Nat.pos_of_ne_zero hy0)) hyw
          have HGE := Lib.hid hgg
          have HGG2 := Lib.hid hgG
          have HGW := Lib.hid hgw
          have hvg : val W64 [gg] = gg := by simp [val]
          have HVG := Lib.hid hvg
          clear hc hd h3 hy0 hyw hr hgg hgG hgw hvg
          dsimp only
          go_upto_region 11 with fail
          go_cut [4] (fun v wx => IsN wx v G ∧ Below w.heap.size w wx)
          case first =>
            go_region_law (first
              | (have hguard := hb2; go_simp; go_at_call 144; refine trimmed_any _ [gg] _ (Own.lit1 .u64 99 w2 0 gg _ rfl (Nat.zero_le _)).sl (by intro d hd; simp at hd; rw [hd]; exact HGW.out) (by simp) _ ?_; intro v3 hv3' _; have hv3 := hv3'.cast (HVG.out.trans HGG2.out); clear hguard; dsimp only)
              | (have hguard := hb1; go_simp; go_at_call 145; refine gcds_any y r _ HYW.out (by rw [HRR.out]; exact HXW.out) _ ?_; rw [← HGE.out]; intro w2 hb2 hzz; clear hzz; have HBZ := Lib.hid (HBEL.out.trans ((hb1.trans (hb2.mono hb1.size)).mono HBEL.out.size)); clear hguard; dsimp only)
              | (go_simp; go_at_call 140; refine rems_any _ x y _ HX.out.drew (Nat.pos_of_ne_zero HY0.out) HYW.out (by have := HLX.out; omega) _ ?_; rw [← HRR.out]; intro w1 hb1' hzz; clear hzz; have hb1 : Below wr.heap.size wr w1 := below_unDrew hb1'; have hc3 := hc2; rw [← hb1.cell (p := ⟨bk, o, none⟩) hbk] at hc3; dsimp only))
            all_goals (go_wp2_with fail; go_meet; exact ⟨hv3, HBZ.out.alloc HBZ.out.size _⟩)
          case rest =>
            obtain ⟨hv, hbz⟩ := hcut
            have HV := Lib.hid hv
            have HBZ := Lib.hid hbz
            clear hv hbz hc2
            go_wp2
            first | go_ret | skip
            exact HR.out _ _ HV.out HBZ.out
end Go.Proofs.YtdkjcdfkoahfkaaGreatDoor
