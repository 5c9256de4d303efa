/- Contracts of functions of the program and of the model: TimesD, MulP2, Blo4, L2Mul, SpecMulPolys, LawMulPolys. -/
import Derived.Test.YtegdcmcfeaohhaaGreatDoorPk9
import Derived.Deep.RegionLaw
set_option linter.all false
set_option linter.unusedVariables false
set_option linter.unusedSimpArgs false
set_option linter.unnecessarySimpa false
set_option linter.deprecated false
namespace Go.Proofs.YtegdcmcfeaohhaaGreatDoor
open Go Go.RowKit

set_option maxRecDepth 100000 in
set_option maxHeartbeats 1000000 in
theorem rzeroG_any (na : Bool) (a1 : Option Addr) (n1 c1 : Nat) (a2 : Option Addr) (n2 c2 : Nat) (w : World) (R : Ending → World → Prop)
    (hR : ∀ v' w', IsR w' v' 0 → Below w.heap.size w w' → R (.returned v') w') :
    Calls Tryz.prog 234 #[.agg #[.bool na, .slice a1 n1 c1, .slice a2 n2 c2]] w R := by
  have HR := Lib.hid hR; clear hR
  obtain ⟨L, hL⟩ : ∃ L, L = (w.alloc (.cells #[.bool na, .slice a1 n1 c1, .slice a2 n2 c2] 70)).alloc (.cells #[.bool false, .slice none 0 0, .slice none 0 0] 70) := ⟨_, rfl⟩
  have HEXT : Hid (Below w.heap.size w L) := Lib.hid (by rw [hL]; exact ((Below.refl w.heap.size w).alloc (Nat.le_refl _) _).alloc (by simp) _)
  have HB2 : Hid (Box3 L (w.heap.size + 1) (.bool false) (.slice none 0 0) (.slice none 0 0) 70) := Lib.hid (by
    have := Box3.made (w.alloc (.cells #[.bool na, .slice a1 n1 c1, .slice a2 n2 c2] 70)) (.bool false) (.slice none 0 0) (.slice none 0 0) 70
    rw [World.size_alloc, ← hL] at this; exact this)
  have HL := Lib.hid hL
  clear hL
  go_enter Tryz.func234, Tryz.ntmps234
  go_wp2_with fail
  rw [← HL.out]
  refine ratioOf_any _ 0 _ (IsI.nil _) _ ?_
  intro v2 w2 hr2 hb2
  obtain ⟨m0, a5, n5, c5, a6, n6, c6, hm0, rfl, _, _⟩ := hr2.parts
  have HR2 := Lib.hid hr2
  have d2 := HB2.out.later hb2 (lt_of_block HB2.out)
  obtain ⟨⟨hR0, hR1, hR2⟩, hF0, hF1, hF2⟩ := d2.cells
  have HD2 := Lib.hid d2
  have HT2 := Lib.hid (HEXT.out.trans (hb2.mono HEXT.out.size))
  clear hr2 hb2 hm0 d2
  dsimp only
  go_wp2
  refine bodyPost_ret_at (by simp [results, Tryz.results234, go_sem, hR0, hR1, hR2, hF0, hF1, hF2] <;> rfl) rfl ?_
  exact HR.out _ _ (IsR.set3 HR2.out (HD2.out.noInt rfl rfl rfl) _ _ _ rfl rfl) (below_set3 HT2.out (show w.heap.size ≤ w.heap.size + 1 by omega) _ _ _)


def ZerosRel (w : World) (n : Nat) (i : Value) (wr : World) : Prop :=
  ∃ k : Nat, i = .int .i64 (k : Int) ∧ k ≤ n ∧ Blk 3 ER zR 70 wr w.heap.size n (List.replicate k (0 : Rat)) ∧ Below w.heap.size w wr
def MulRel (w : World) (n : Nat) (xs ys : List Rat) (iv : Value) (wr : World) : Prop :=
  ∃ i : Nat, iv = .int .i64 (i : Int) ∧ i ≤ xs.length ∧ Blk 3 ER zR 70 wr w.heap.size n (mulF xs ys n i) ∧ Below w.heap.size w wr
def MulRow (w V : World) (n : Nat) (xs ys : List Rat) (i : Nat) (c : Rat) (kv : Value) (wr : World) : Prop :=
  ∃ k : Nat, kv = .int .i64 (k : Int) ∧ k ≤ ys.length ∧ Blk 3 ER zR 70 wr w.heap.size n (rowF c ys i (mulF xs ys n i) k) ∧ Below w.heap.size w wr ∧ ∀ b x0 x1 x2, Box3 V b x0 x1 x2 70 → b ≠ w.heap.size → Box3 wr b x0 x1 x2 70

set_option maxRecDepth 100000 in
set_option maxHeartbeats 8000000 in
theorem dtimes_any (v v' : Value) (us bs : List Rat) (w : World) (h1 : RsL w v us) (h2 : RsL w v' bs) (hl1 : us.length ≤ 60) (hl2 : bs.length ≤ 60) (hb1 : AllBd 60 us) (hb2 : AllBd 60 bs) (R : Ending → World → Prop)
    (hR : ∀ v' w', RsL w' v' (mulP us bs) → Below w.heap.size w w' → R (.returned v') w') :
    Calls Tryz.prog 58 #[v, v'] w R := by
  have HR := Lib.hid hR; clear hR
  obtain ⟨a1, n1, c1, rfl, hn1, hc1, hsl1⟩ := SlE.open h1
  obtain ⟨a2, n2, c2, rfl, hn2, hc2, hsl2⟩ := SlE.open h2
  have HA := Lib.hid hsl1
  have HB := Lib.hid hsl2
  have HN := Lib.hid (And.intro hn1 hn2)
  have HLL := Lib.hid (show n1 ≤ 60 ∧ n2 ≤ 60 by omega)
  have HBD := Lib.hid (And.intro hb1 hb2)
  have HNIL : Hid (us = [] ∨ bs = [] → R (.returned (.slice none 0 0)) w) := Lib.hid (fun h => HR.out _ w (by rw [mulP_nil h]; exact SlE.nil _ _ _) (Below.refl _ _))
  clear h1 h2 hn1 hn2 hc1 hc2 hsl1 hsl2 hl1 hl2 hb1 hb2
  go_enter Tryz.func58, Tryz.ntmps58
  go_wp2_with fail
  refine dzero_any _ us _ HA.out _ ?_
  by_cases hz1 : us.length = 0
  · rw [decide_eq_true hz1]
    have HF := Lib.hid (HNIL.out (.inl (List.length_eq_zero_iff.1 hz1)))
    clear hz1
    dsimp only
    go_wp2
    first | go_ret | skip
    exact HF.out
  rw [decide_eq_false hz1]
  have HZ1 := Lib.hid hz1
  clear hz1
  dsimp only
  go_wp2_with fail
  refine dzero_any _ bs _ HB.out _ ?_
  by_cases hz2 : bs.length = 0
  · rw [decide_eq_true hz2]
    have HF := Lib.hid (HNIL.out (.inr (List.length_eq_zero_iff.1 hz2)))
    clear hz2
    dsimp only
    go_wp2
    first | go_ret | skip
    exact HF.out
  rw [decide_eq_false hz2]
  have HZ2 := Lib.hid hz2
  clear hz2
  obtain ⟨m, hm⟩ : ∃ m, m = n1 + n2 := ⟨_, rfl⟩
  obtain ⟨n, hn⟩ : ∃ n, n = n1 + n2 - 1 := ⟨_, rfl⟩
  have hw0 : IntKind.i64.wrap ((n1 : Int) + (n2 : Int)) = (m : Int) := by rw [IntWalk.i64_in _ (by have := HLL.out; omega)]; omega
  have hw00 : IntKind.i64.wrap ((m : Int) - 1) = (n : Int) := by rw [IntWalk.i64_in _ (by have := HLL.out; omega)]; have := HZ1.out; have := HN.out; omega
  have HNN : Hid (n = n1 + n2 - 1 ∧ 0 < n1 ∧ 0 < n2 ∧ n ≤ 120) := Lib.hid (by have := HZ1.out; have := HZ2.out; have := HN.out; have := HLL.out; omega)
  have hnb : n ≤ 120 := HNN.out.2.2.2
  have HFIN : Hid (trimQ (mulF us bs n us.length) = mulP us bs) := Lib.hid (by
    rw [mulP_eq (fun e => HZ1.out (by rw [e]; rfl)) (fun e => HZ2.out (by rw [e]; rfl)), HNN.out.1, HN.out.1, HN.out.2])
  clear hm hn HNIL
  dsimp only
  go_wp2_with (at_make; go_must (refine wpList_makeE _ 3 ER rfl _ _ rfl zeroR zR rfl rfl zeroR_ints 70 56 Tryz.underlying64 info_ratio (by omega) .i64 _ n rfl (by omega) (by omega) ?_))
  intro W hA hbW hsW
  have HST : Hid (ZerosRel w n (.int .i64 0) W) := Lib.hid ⟨0, rfl, Nat.zero_le _, hA, hbW⟩
  clear hA hbW hsW hw0 hw00
  go_wp2
  go_loopw [26] (fun i wr => ZerosRel w n i wr) (fun i _ => n - (intOf i).toNat)
  case atStart => exact HST.out
  case round =>
    clear HST
    obtain ⟨k, rfl, hk, hA, hbel⟩ := hrel
    have HBE := Lib.hid hbel
    have HAA := Lib.hid hA
    by_cases hkn : k < n
    · obtain ⟨u0, u1, u2, hu0, hu1, hu2, _, huz⟩ := hA.cells (i := k) hkn
      have huz := huz (by rw [List.length_replicate]; exact Nat.le_refl _)
      unfold zR at huz
      simp only [List.cons.injEq, and_true] at huz
      obtain ⟨rfl, rfl, rfl⟩ := huz
      have hm0 := m_zero
      have hw1 : IntKind.i64.wrap ((k : Int) + 1) = ((k + 1 : Nat) : Int) := by rw [IntWalk.i64_in _ (by omega)]; omega
      have hk0 : (0 : Int) ≤ (k : Int) := by omega
      have hkn2 : (k : Int) < (n : Int) := by omega
      have HKL := Lib.hid hkn
      clear hA hbel hkn
      go_wp2_with fail
      refine rzeroG_any false none 0 0 none 0 0 _ _ ?_
      intro v6 w6 hv6 hb6
      obtain ⟨m6, a10, n10, c10, a11, n11, c11, hm6, rfl, hi5, hi6⟩ := hv6.parts
      have HB6 := Lib.hid (HBE.out.trans (hb6.mono HBE.out.size))
      have HA6 := Lib.hid (HAA.out.later elemR hb6 (Nat.le_refl _))
      obtain ⟨s0, s1, s2, hs0, hs1, hs2, _, _⟩ := HA6.out.cells (i := k) HKL.out
      have hg0 := HA6.out.frozen (k * 3)
      have hg1 := HA6.out.frozen (k * 3 + 1)
      have hg2 := HA6.out.frozen (k * 3 + 2)
      have HER : Hid (ER w6 [.bool m6, .slice a10 n10 c10, .slice a11 n11 c11] 0) := Lib.hid ⟨_, _, _, _, _, _, by rw [hm6], hi5, hi6⟩
      have HREL : Hid (ZerosRel w n (.int .i64 ((k + 1 : Nat) : Int)) (set3 w6 w.heap.size k (.bool m6) (.slice a10 n10 c10) (.slice a11 n11 c11))) := Lib.hid
          ⟨k + 1, rfl, HKL.out, by rw [List.replicate_succ']; exact HA6.out.put elemR (by rw [List.length_replicate]) HKL.out HER.out, set3_below HB6.out (Nat.le_refl _) _ _ _ _⟩
      unfold set3 at HREL
      clear hm6 hv6 hb6 hi5 hi6 hu0 hu1 hu2
      dsimp only
      go_wp2
      go_roundw
      case rel => exact HREL.out
      case measure => simp [intOf]; have := HKL.out; omega
    · obtain rfl : k = n := by omega
      have HST : Hid (MulRel w k us bs (.int .i64 0) wr) := Lib.hid ⟨0, rfl, Nat.zero_le _, hA, hbel⟩
      have hk0 : ¬ ((k : Int) < (k : Int)) := by omega
      clear hA hbel hkn HAA HBE
      go_wp2
      go_loopw [41] (fun i wr => MulRel w k us bs i wr) (fun i _ => n1 - (intOf i).toNat)
      case atStart => exact HST.out
      case round =>
        clear HST
        obtain ⟨i, rfl, hi, hA, hbel⟩ := hrel
        have HBE := Lib.hid hbel
        have HAA := Lib.hid hA
        by_cases hin : i = n1
        · subst hin
          have HOWN := Lib.hid (hA.own (B := w.heap.size) (Nat.le_refl _) (mulF_len _ _ _ _) (by omega))
          clear hA hbel hi
          go_wp2_with fail
          refine trimI_any _ _ _ HOWN.out.sl (by rw [mulF_len]; omega) _ ?_
          intro v2 w2 hv2 hb2
          rw [HN.out.1, HFIN.out] at hv2
          obtain ⟨a9, n9, c9, rfl, hv2'⟩ := SlE.op hv2
          have HF := Lib.hid (HR.out _ w2 hv2' (HBE.out.trans (hb2.mono HBE.out.size)))
          clear hv2 hv2' hb2
          dsimp only
          go_wp2
          first | go_ret | skip
          exact HF.out
        · have hil : i < n1 := by have := HN.out.1; omega
          obtain ⟨p, hp⟩ : ∃ p, us[i]? = some p := ⟨_, List.getElem?_eq_getElem (by have := HN.out.1; omega)⟩
          have HP := Lib.hid hp
          obtain ⟨b, off, cs, rfl, hb, hcell, hE⟩ := HA.out.at i p hp
          obtain ⟨x1, y1, z1, x2, y2, z2, hcs, hi1, hi2⟩ := hE
          obtain ⟨ng, hng⟩ : ∃ ng, ng = decide (p.num < 0) := ⟨_, rfl⟩
          rw [← hng] at hcs
          have hd0 : wr.cell? ⟨b, off + i * 3, none⟩ = some (.bool ng) := by rw [hbel.cell (p := ⟨b, off + i * 3, none⟩) hb]; exact hcell 0 _ (by rw [hcs]; rfl)
          have hd1 : wr.cell? ⟨b, off + i * 3 + 1, none⟩ = some (.slice x1 y1 z1) := by rw [hbel.cell (p := ⟨b, off + i * 3 + 1, none⟩) hb]; exact hcell 1 _ (by rw [hcs]; rfl)
          have hd2 : wr.cell? ⟨b, off + i * 3 + 2, none⟩ = some (.slice x2 y2 z2) := by rw [hbel.cell (p := ⟨b, off + i * 3 + 2, none⟩) hb]; exact hcell 2 _ (by rw [hcs]; rfl)
          have HPR := Lib.hid (show IsR w (.agg #[.bool ng, .slice x1 y1 z1, .slice x2 y2 z2]) p from ⟨_, _, by rw [hng], hi1, hi2⟩)
          obtain ⟨wo, hwo⟩ : ∃ wo, wo = wr := ⟨_, rfl⟩
          obtain ⟨V, hV⟩ : ∃ V, V = wr.alloc (.cells #[.bool ng, .slice x1 y1 z1, .slice x2 y2 z2] 70) := ⟨_, rfl⟩
          have hbV : Below wr.heap.size wr V := by rw [hV]; exact (Below.refl _ _).alloc (Nat.le_refl _) _
          have hbx := Box3.made wr (.bool ng) (.slice x1 y1 z1) (.slice x2 y2 z2) 70
          rw [← hV] at hbx
          have HBXV := Lib.hid hbx
          have HGO : Hid (wr.heap.size ≠ w.heap.size) := Lib.hid (by have := hA.lt; omega)
          have hw1 : IntKind.i64.wrap ((i : Int) + 1) = ((i + 1 : Nat) : Int) := by rw [IntWalk.i64_in _ (by have := HLL.out; omega)]; omega
          have hk1 : (0 : Int) ≤ (i : Int) := by omega
          have hkn2 : (i : Int) < (n1 : Int) := by omega
          have HIL := Lib.hid hil
          have HST : Hid (MulRow w V k us bs i p (.int .i64 0) V) := Lib.hid ⟨0, rfl, Nat.zero_le _, hA.later elemR hbV (Nat.le_refl _), HBE.out.trans (hbV.mono HBE.out.size), fun b x0 x1 x2 h _ => h⟩
          have HV := Lib.hid hV
          have HWO := Lib.hid hwo
          clear hp hcell hcs hi1 hi2 hng hin hA hbel hb hil hV hbV hbx hwo HAA HBE
          go_wp2
          rw [← HV.out]
          rw [← HWO.out] at HGO HBXV hd0 hd1 hd2 ⊢
          clear hd0 hd1 hd2 HV HWO
          go_loopw [48] (fun kv wr2 => MulRow w V k us bs i p kv wr2) (fun kv _ => n2 - (intOf kv).toNat)
          case atStart => exact HST.out
          case round =>
            clear HST
            obtain ⟨j, rfl, hj, hA, hbel, hkeep⟩ := hrel
            have HBE := Lib.hid hbel
            have HAA := Lib.hid hA
            have HKEEP := Lib.hid hkeep
            by_cases hjn : j = n2
            · subst hjn
              have HREL : Hid (MulRel w k us bs (.int .i64 ((i + 1 : Nat) : Int)) wr) := Lib.hid ⟨i + 1, rfl, by have := HIL.out; have := HN.out.1; omega, by
                rw [mulF, atQ_some HP.out, ← HN.out.2]; exact HAA.out, HBE.out⟩
              have hjj : ¬ ((j : Int) < (j : Int)) := by omega
              clear hA hbel hkeep hj
              go_wp2
              go_roundw
              case rel => exact HREL.out
              case measure => simp [intOf]; have := HIL.out; omega
            · have hjl : j < n2 := by have := HN.out.2; omega
              obtain ⟨q, hq⟩ : ∃ q, bs[j]? = some q := ⟨_, List.getElem?_eq_getElem (by have := HN.out.2; omega)⟩
              have HQ := Lib.hid hq
              obtain ⟨b2, off2, cs2, rfl, hb2, hcell2, hE2⟩ := HB.out.at j q hq
              obtain ⟨x3, y3, z3, x4, y4, z4, hcs2, hi3, hi4⟩ := hE2
              obtain ⟨mg, hmg⟩ : ∃ mg, mg = decide (q.num < 0) := ⟨_, rfl⟩
              rw [← hmg] at hcs2
              have hy0 : wr.cell? ⟨b2, off2 + j * 3, none⟩ = some (.bool mg) := by rw [hbel.cell (p := ⟨b2, off2 + j * 3, none⟩) hb2]; exact hcell2 0 _ (by rw [hcs2]; rfl)
              have hy1 : wr.cell? ⟨b2, off2 + j * 3 + 1, none⟩ = some (.slice x3 y3 z3) := by rw [hbel.cell (p := ⟨b2, off2 + j * 3 + 1, none⟩) hb2]; exact hcell2 1 _ (by rw [hcs2]; rfl)
              have hy2 : wr.cell? ⟨b2, off2 + j * 3 + 2, none⟩ = some (.slice x4 y4 z4) := by rw [hbel.cell (p := ⟨b2, off2 + j * 3 + 2, none⟩) hb2]; exact hcell2 2 _ (by rw [hcs2]; rfl)
              have HQR := Lib.hid (show IsR w (.agg #[.bool mg, .slice x3 y3 z3, .slice x4 y4 z4]) q from ⟨_, _, by rw [hmg], hi3, hi4⟩)
              obtain ⟨z, hz⟩ : ∃ z, z = i + j := ⟨_, rfl⟩
              have HZ := Lib.hid hz
              have hzk : z < k := by have := HNN.out; have := HIL.out; omega
              have HZK := Lib.hid hzk
              have HLEN : Hid ((rowF p bs i (mulF us bs k i) j).length = k) := Lib.hid (by rw [rowF_len, mulF_len])
              obtain ⟨s, hs⟩ : ∃ s, (rowF p bs i (mulF us bs k i) j)[z]? = some s := ⟨_, List.getElem?_eq_getElem (by rw [HLEN.out]; exact hzk)⟩
              have HS := Lib.hid hs
              obtain ⟨u0, u1, u2, hu0, hu1, hu2, hux, _⟩ := hA.cells (i := z) hzk
              obtain ⟨x5, y5, z5, x6, y6, z6, hcs3, hi5, hi6⟩ := hux s hs
              obtain ⟨pg, hpg⟩ : ∃ pg, pg = decide (s.num < 0) := ⟨_, rfl⟩
              rw [← hpg] at hcs3
              cases hcs3
              have HSR := Lib.hid (show IsR wr (.agg #[.bool pg, .slice x5 y5 z5, .slice x6 y6 z6]) s from ⟨_, _, by rw [hpg], hi5, hi6⟩)
              obtain ⟨U, hU⟩ : ∃ U, U = wr.alloc (.cells #[.bool mg, .slice x3 y3 z3, .slice x4 y4 z4] 70) := ⟨_, rfl⟩
              have hbU : Below wr.heap.size wr U := by rw [hU]; exact (Below.refl _ _).alloc (Nat.le_refl _) _
              have HBU : Hid (Below w.heap.size w U) := Lib.hid (HBE.out.trans (hbU.mono HBE.out.size))
              have hbx2 := Box3.made wr (.bool mg) (.slice x3 y3 z3) (.slice x4 y4 z4) 70
              rw [← hU] at hbx2
              obtain ⟨⟨hv0, hv1, hv2⟩, _, _, _⟩ := hbx2.cells
              have hbc := HKEEP.out _ _ _ _ HBXV.out HGO.out
              have HBCU := Lib.hid (hbc.later hbU (lt_of_block hbc))
              obtain ⟨⟨hc0, hc1, hc2⟩, _, _, _⟩ := HBCU.out.cells
              have HAU := Lib.hid (HAA.out.later elemR hbU (Nat.le_refl _))
              have HSU := Lib.hid (HSR.out.later hbU (Nat.le_refl _))
              have HPU := Lib.hid (HPR.out.later HBU.out (Nat.le_refl _))
              have HQU := Lib.hid (HQR.out.later HBU.out (Nat.le_refl _))
              have e0 := hbU.cell (p := ⟨w.heap.size, z * 3, none⟩) hA.lt
              have e1 := hbU.cell (p := ⟨w.heap.size, z * 3 + 1, none⟩) hA.lt
              have e2 := hbU.cell (p := ⟨w.heap.size, z * 3 + 2, none⟩) hA.lt
              rw [hu0] at e0
              rw [hu1] at e1
              rw [hu2] at e2
              have hm1 := m_times
              have hm2 := m_plus
              have hwz : IntKind.i64.wrap ((i : Int) + (j : Int)) = (z : Int) := by rw [IntWalk.i64_in _ (by omega)]; omega
              have hw2 : IntKind.i64.wrap ((j : Int) + 1) = ((j + 1 : Nat) : Int) := by rw [IntWalk.i64_in _ (by have := HLL.out; omega)]; omega
              have hz0 : (0 : Int) ≤ (z : Int) := by omega
              have hz1 : (z : Int) < (k : Int) := by omega
              have hj0 : (0 : Int) ≤ (j : Int) := by omega
              have hj1 : (j : Int) < (n2 : Int) := by omega
              have HLP := Lib.hid ((HBD.out.1 i p HP.out).len (B := W64) (by rw [W64_eq]; omega))
              have HLQ := Lib.hid ((HBD.out.2 j q hq).len (B := W64) (by rw [W64_eq]; omega))
              have HLM := Lib.hid (((HBD.out.1 i p HP.out).mul (HBD.out.2 j q hq)).len (B := W64) (by rw [W64_eq]; omega))
              have hbig : 1 + 121 * (bs.length * i) + 121 * j ≤ 800000 := by
                have q1 : bs.length * i ≤ 60 * 60 := Nat.mul_le_mul (by have := HN.out; have := HLL.out; omega) (by have := HIL.out; have := HLL.out; omega)
                have := HLL.out
                omega
              have HLS := Lib.hid ((((rowF_bd (HBD.out.1 i p HP.out) HBD.out.2 i (mulF_bd HBD.out.1 HBD.out.2 k i) (by omega) j) z s hs).mono hbig).len (B := W64) (by rw [W64_eq]; omega))
              have HNEW : Hid (rowF p bs i (mulF us bs k i) (j + 1) = (rowF p bs i (mulF us bs k i) j).set z (s + p * q)) := Lib.hid (by
                rw [rowF]; unfold addTo; rw [← hz, atQ_some hs, atQ_some hq])
              have HJL := Lib.hid hjl
              have HNEQ : Hid (wr.heap.size ≠ w.heap.size) := Lib.hid (by have := hA.lt; omega)
              have HU := Lib.hid hU
              clear hq hcell2 hcs2 hi3 hi4 hmg hz hzk hs hux hi5 hi6 hpg hU hbU hbx2 hbc hA hbel hkeep hjn hjl hbig hu0 hu1 hu2 hb2
              go_wp2_with fail
              rw [← HU.out]
              go_region_law (first
                | (have hguard := HB5; (try go_simp); go_at_call 125; refine rplus_any _ _ s (p * q) _ (HSU.out.later HB5.out (Nat.le_refl _)) HV5.out (Nat.le_trans HLS.out.1 (by omega)) (Nat.le_trans HLS.out.2 (by omega)) (Nat.le_trans HLM.out.1 (by omega)) (Nat.le_trans HLM.out.2 (by omega)) _ ?_; intro v6 w6 hv6 hb6; obtain ⟨m6, a10, n10, c10, a11, n11, c11, hm6, rfl, hi7, hi8⟩ := hv6.parts; have HB6 : Hid (Below U.heap.size U w6) := Lib.hid (HB5.out.trans (hb6.mono HB5.out.size)); have HA6 := Lib.hid (HAU.out.later elemR HB6.out (Nat.le_refl _)); obtain ⟨t0, t1, t2, ht0, ht1, ht2, _, _⟩ := HA6.out.cells (i := z) HZK.out; have hg0 := HA6.out.frozen (z * 3); have hg1 := HA6.out.frozen (z * 3 + 1); have hg2 := HA6.out.frozen (z * 3 + 2); have HER : Hid (ER w6 [.bool m6, .slice a10 n10 c10, .slice a11 n11 c11] (s + p * q)) := Lib.hid ⟨_, _, _, _, _, _, by rw [hm6], hi7, hi8⟩; clear hguard hm6 hv6 hb6 hi7 hi8; dsimp only)
                | ((try go_simp); go_at_call 105; refine rtimes_any _ _ p q _ (HPU.out.later (by first | exact (Below.refl _ _).drew | exact Below.refl _ _) (Nat.le_refl _)) (HQU.out.later (by first | exact (Below.refl _ _).drew | exact Below.refl _ _) (Nat.le_refl _)) (Nat.le_trans HLP.out.1 (by omega)) (Nat.le_trans HLP.out.2 (by omega)) (Nat.le_trans HLQ.out.1 (by omega)) (Nat.le_trans HLQ.out.2 (by omega)) _ ?_; intro v5 w5 hv5 hb5; obtain ⟨m5, a12, n12, c12, a13, n13, c13, hm5, rfl, _, _⟩ := hv5.parts; have HV5 := Lib.hid hv5; have HB5 : Hid (Below U.heap.size U w5) := Lib.hid (by first | exact hb5 | exact below_unDrew hb5); have f0 := (HB5.out.cell (p := ⟨w.heap.size, z * 3, none⟩) HAU.out.lt).trans e0; have f1 := (HB5.out.cell (p := ⟨w.heap.size, z * 3 + 1, none⟩) HAU.out.lt).trans e1; have f2 := (HB5.out.cell (p := ⟨w.heap.size, z * 3 + 2, none⟩) HAU.out.lt).trans e2; clear hm5 hv5 hb5; dsimp only))
              all_goals
                have HREL : Hid (MulRow w V k us bs i p (.int .i64 ((j + 1 : Nat) : Int)) (set3 w6 w.heap.size z (.bool m6) (.slice a10 n10 c10) (.slice a11 n11 c11))) := Lib.hid
                  ⟨j + 1, rfl, by have := HJL.out; have := HN.out.2; omega, by rw [HNEW.out]; exact HA6.out.set elemR (by rw [HLEN.out]; exact HZK.out) HER.out, set3_below (HBU.out.trans (HB6.out.mono HBU.out.size)) (Nat.le_refl _) _ _ _ _, fun b x0 x1 x2 h hne => by
                    have k1 := HKEEP.out b x0 x1 x2 h hne
                    have k2 : U.heap[b]? = wr.heap[b]? := by rw [HU.out]; exact ((Below.refl wr.heap.size wr).alloc (Nat.le_refl _) _).block b (lt_of_block k1)
                    have k3 := HB6.out.block b (by rw [HU.out]; have := lt_of_block k1; simp; omega)
                    have k5 : wr.heap.size ≤ U.heap.size := by rw [HU.out]; simp
                    have k4 := (set3_but w6 w.heap.size z (.bool m6) (.slice a10 n10 c10) (.slice a11 n11 c11)).block b (by have := lt_of_block k1; have := HB6.out.size; omega) hne
                    unfold Box3 at k1 ⊢
                    rw [k4, k3, k2]; exact k1⟩
                unfold set3 at HREL
                go_wp2
                go_roundw
                case rel => exact HREL.out
                case measure => simp [intOf]; have := HJL.out; omega
end Go.Proofs.YtegdcmcfeaohhaaGreatDoor

namespace Go.Proofs.YtegdcmcfeaohhaaGreatDoor
open Go Go.RowKit

set_option maxRecDepth 100000 in
set_option maxHeartbeats 2000000 in
theorem combM_any (v0 : Value) (L0 : List ByteArray) (v1 : Value) (L1 : List ByteArray) (w : World) (hE : Env w) (htab : Lib.TabIs Tryz.prog w "internal/strconv.uint64pow10" .u64 Lib.pow10Tab) (h0 : TxL w v0 L0) (hn0 : L0.length ≤ 1048576) (h1 : TxL w v1 L1) (hn1 : L1.length ≤ 1048576) (R : Ending → World → Prop)
    (hR : ∀ v' w', OwE 1 ET 9 w' w.heap.size v' (mulpL L0 L1) → Below w.heap.size w w' → R (.returned (.tuple #[v', .bool (mulpB L0 L1)])) w') :
    Calls Tryz.prog 53 #[v0, v1, .func (.func 58) #[] #[]] w R := by
  have HR := Lib.hid hR; clear hR
  have HE := Lib.hid hE
  have HTAB := Lib.hid htab
  obtain ⟨a0, n0, c0, rfl, h0'⟩ := h0.op
  obtain ⟨a1, n1, c1, rfl, h1'⟩ := h1.op
  have H0 := Lib.hid h0'
  have H1 := Lib.hid h1'
  have HN := Lib.hid (And.intro hn0 hn1)
  clear hE htab h0 h1 h0' h1' hn0 hn1
  go_enter Tryz.func53, Tryz.ntmps53
  go_wp2_with fail
  refine read2p_any _ L0 _ L1 _ HE.out H0.out HN.out.1 H1.out HN.out.2 _ ?_ ?_
  · intro x y w2 hp hx hy hb2
    have HP := Lib.hid hp
    obtain ⟨a2, n2, c2, rfl, hx'⟩ := SlE.op hx
    obtain ⟨a3, n3, c3, rfl, hy'⟩ := SlE.op hy
    have HX := Lib.hid hx'
    have HY := Lib.hid hy'
    have HB2 := Lib.hid hb2
    have HK := Lib.hid (pair_all hp)
    clear hp hx hy hx' hy' hb2
    dsimp only
    go_wp2_with fail
    refine dtimes_any _ _ (L0.map qOf) (L1.map qOf) _ HX.out HY.out (by rw [List.length_map]; exact HK.out.1) (by rw [List.length_map]; exact HK.out.2.1) HK.out.2.2.1 HK.out.2.2.2 _ ?_
    intro v4 w4 hv4 hb4
    obtain ⟨a4, n4, c4, rfl, hv4'⟩ := SlE.op hv4
    have HV4 := Lib.hid hv4'
    have HB4 := Lib.hid (HB2.out.trans (hb4.mono HB2.out.size))
    clear hv4 hv4' hb4
    dsimp only
    go_wp2_with fail
    refine cof_any _ _ _ (tab_later HTAB.out HB4.out (Nat.le_refl _)) HV4.out _ ?_
    intro v5 w5 hv5 hb5
    obtain ⟨a5, n5, c5, rfl, e5⟩ := hv5.shape
    clear e5
    obtain ⟨bq, hbq⟩ : ∃ bq, bq = cofB (mulP (L0.map qOf) (L1.map qOf)) := ⟨_, rfl⟩
    have HF := Lib.hid (HR.out (.slice a5 n5 c5) w5 (by rw [mulpL_eq HP.out]; exact hv5.mono HB4.out.size) (HB4.out.trans (hb5.mono HB4.out.size)))
    rw [mulpB_eq HP.out] at HF
    rw [← hbq] at HF ⊢
    clear hv5 hb5 hbq
    dsimp only
    go_wp2
    first | go_ret | skip
    exact HF.out
  · intro e w2 hp he hb2
    obtain ⟨t, p, rfl⟩ := he
    have HF := Lib.hid (HR.out (.slice none 0 0) w2 (by rw [mulpL_none hp]; exact OwE.nil _ _ _) hb2)
    rw [mulpB_none hp] at HF
    clear hp hb2
    dsimp only
    go_wp2
    first | go_ret | skip
    exact HF.out

set_option maxRecDepth 100000 in
theorem impl_mulp (v0 : Value) (L0 : List ByteArray) (v1 : Value) (L1 : List ByteArray) (w : World) (hE : Env w) (htab : Lib.TabIs Tryz.prog w "internal/strconv.uint64pow10" .u64 Lib.pow10Tab) (h0 : TxL w v0 L0) (hn0 : L0.length ≤ 1048576) (h1 : TxL w v1 L1) (hn1 : L1.length ≤ 1048576) (R : Ending → World → Prop)
    (hR : ∀ v' w', OwE 1 ET 9 w' w.heap.size v' (mulpL L0 L1) → Below w.heap.size w w' → R (.returned (.tuple #[v', .bool (mulpB L0 L1)])) w') :
    Calls Tryz.prog 24 #[v0, v1] w R := by
  have HR := Lib.hid hR; clear hR
  have HE := Lib.hid hE
  have HTAB := Lib.hid htab
  obtain ⟨a0, n0, c0, rfl, h0'⟩ := h0.op
  obtain ⟨a1, n1, c1, rfl, h1'⟩ := h1.op
  have H0 := Lib.hid h0'
  have H1 := Lib.hid h1'
  have HN := Lib.hid (And.intro hn0 hn1)
  clear hE htab h0 h1 h0' h1' hn0 hn1
  go_enter Tryz.func24, Tryz.ntmps24
  go_wp2_with fail
  refine combM_any _ L0 _ L1 _ HE.out HTAB.out H0.out HN.out.1 H1.out HN.out.2 _ ?_
  intro v5 w5 hv5 hb5
  obtain ⟨a5, n5, c5, rfl, e5⟩ := hv5.shape
  clear e5
  have HF := Lib.hid (HR.out _ w5 hv5 hb5)
  obtain ⟨bq, hbq⟩ : ∃ bq, bq = mulpB L0 L1 := ⟨_, rfl⟩
  rw [← hbq] at HF ⊢
  clear hv5 hb5 hbq
  dsimp only
  go_wp2
  first | go_ret | skip
  exact HF.out
end Go.Proofs.YtegdcmcfeaohhaaGreatDoor

namespace Go.Proofs.YtegdcmcfeaohhaaGreatDoor
open Go Go.RowKit

/-- a block with the elements of a list at its beginning -/
def Bo4 {α : Type} (E : World → List Value → α → Prop) (e : TypeId) (w : World) (g n : Nat) (xs : List α) : Prop :=
  ∃ cur, w.heap[g]? = some (.cells cur e (0, 0)) ∧ cur.size = n * 4 ∧ xs.length ≤ n ∧ n ≤ maxLen ∧ (∀ u ∈ cur.toList, notInt u = true) ∧ (∀ i x, xs[i]? = some x → E w ((cur.toList.drop (i * 4)).take 4) x)

theorem Bo4.lt {α : Type} {E : World → List Value → α → Prop} {e : TypeId} {w : World} {g n : Nat} {xs : List α} (h : Bo4 E e w g n xs) : g < w.heap.size := by
  obtain ⟨cur, h1, _⟩ := h; exact lt_of_block h1
theorem Bo4.noInt {α : Type} {E : World → List Value → α → Prop} {e : TypeId} {w : World} {g n : Nat} {xs : List α} (h : Bo4 E e w g n xs) : NoInt w g := by
  obtain ⟨cur, h1, _, _, _, h2, _⟩ := h; exact NoInt.of h1 h2
theorem Bo4.frozen {α : Type} {E : World → List Value → α → Prop} {e : TypeId} {w : World} {g n : Nat} {xs : List α} (h : Bo4 E e w g n xs) (o : Nat) : w.frozen? ⟨g, o, none⟩ = false := by
  obtain ⟨cur, h1, _⟩ := h
  simp [World.frozen?, h1]
theorem Bo4.later {α : Type} {E : World → List Value → α → Prop} (hE : Elem 4 E) {e : TypeId} {w w' : World} {g n B : Nat} {xs : List α} (h : Bo4 E e w g n xs) (hb : Below B w w') (hB : w.heap.size ≤ B) : Bo4 E e w' g n xs := by
  have hg := h.lt
  obtain ⟨cur, h1, h2, h3, h4, h5, h6⟩ := h
  exact ⟨cur, by rw [hb.block g (by omega)]; exact h1, h2, h3, h4, h5, fun i x hi => hE.below (h6 i x hi) hb hB⟩
theorem Bo4.own {α : Type} {E : World → List Value → α → Prop} {e : TypeId} {w : World} {g n : Nat} {xs : List α} (h : Bo4 E e w g n xs) {B : Nat} (hB : B ≤ g) : OwE 4 E e w B (.slice (some ⟨g, 0, none⟩) xs.length n) xs := by
  obtain ⟨cur, h1, h2, h3, h4, h5, h6⟩ := h
  exact .inr ⟨g, n, cur, rfl, hB, h1, h3, h4, h2, h5, h6⟩
theorem OwE.bo4 {α : Type} {E : World → List Value → α → Prop} {e : TypeId} {w : World} {B : Nat} {v : Value} {xs : List α} (h : OwE 4 E e w B v xs) (hne : xs ≠ []) : ∃ g n, v = .slice (some ⟨g, 0, none⟩) xs.length n ∧ B ≤ g ∧ Bo4 E e w g n xs := by
  rcases h with ⟨_, h⟩ | ⟨g, cap, cur, h1, h2, h3, h4, h5, h6, h7, h8⟩
  · exact absurd h hne
  · exact ⟨g, cap, h1, h2, cur, h3, h6, h4, h5, h7, h8⟩

theorem segs4 {C : List Value} {i : Nat} (hi : i * 4 + 4 ≤ C.length) : ∃ u0 u1 u2 u3, (C.drop (i * 4)).take 4 = [u0, u1, u2, u3] ∧ C[i * 4]? = some u0 ∧ C[i * 4 + 1]? = some u1 ∧ C[i * 4 + 2]? = some u2 ∧ C[i * 4 + 3]? = some u3 := by
  refine ⟨C[i * 4], C[i * 4 + 1], C[i * 4 + 2], C[i * 4 + 3], ?_, List.getElem?_eq_getElem _, List.getElem?_eq_getElem _, List.getElem?_eq_getElem _, List.getElem?_eq_getElem _⟩
  rw [List.drop_eq_getElem_cons (by omega), List.drop_eq_getElem_cons (by omega), List.drop_eq_getElem_cons (by omega), List.drop_eq_getElem_cons (by omega)]
  rfl
theorem Bo4.cells {α : Type} {E : World → List Value → α → Prop} {e : TypeId} {w : World} {g n : Nat} {xs : List α} (h : Bo4 E e w g n xs) {i : Nat} (hi : i < xs.length) :
    ∃ u0 u1 u2 u3, w.cell? ⟨g, i * 4, none⟩ = some u0 ∧ w.cell? ⟨g, i * 4 + 1, none⟩ = some u1 ∧ w.cell? ⟨g, i * 4 + 2, none⟩ = some u2 ∧ w.cell? ⟨g, i * 4 + 3, none⟩ = some u3 ∧ ∀ x, xs[i]? = some x → E w [u0, u1, u2, u3] x := by
  obtain ⟨cur, h1, h2, h3, h4, h5, h6⟩ := h
  have hin : i * 4 + 4 ≤ cur.toList.length := by rw [Array.length_toList, h2]; exact seg_le (by omega)
  obtain ⟨u0, u1, u2, u3, k, k0, k1, k2, k3⟩ := segs4 hin
  have hc : ∀ (j : Nat) (u : Value), cur.toList[j]? = some u → w.cell? ⟨g, j, none⟩ = some u := by
    intro j u hj
    simp only [World.cell?, h1, Option.isSome_none, Bool.false_eq_true, if_false]
    rw [← Array.getElem?_toList]; exact hj
  exact ⟨u0, u1, u2, u3, hc _ _ k0, hc _ _ k1, hc _ _ k2, hc _ _ k3, fun x hx => by rw [← k]; exact h6 i x hx⟩

theorem segs_set4 {C : List Value} {i j : Nat} (hi : i * 4 + 4 ≤ C.length) (c0 c1 c2 c3 : Value) :
    (((((C.set (i * 4) c0).set (i * 4 + 1) c1).set (i * 4 + 2) c2).set (i * 4 + 3) c3).drop (j * 4)).take 4 = if i = j then [c0, c1, c2, c3] else (C.drop (j * 4)).take 4 := by
  apply List.ext_getElem?
  intro m
  by_cases hij : i = j
  · subst hij
    rw [if_pos rfl]
    rcases m with _ | _ | _ | _ | m
    · rw [List.getElem?_take_of_lt (by omega), List.getElem?_drop, Nat.add_zero (i * 4), List.getElem?_set_ne (by omega), List.getElem?_set_ne (by omega), List.getElem?_set_ne (by omega), List.getElem?_set_self (by (repeat rw [List.length_set]); omega)]; rfl
    · rw [List.getElem?_take_of_lt (by omega), List.getElem?_drop, List.getElem?_set_ne (by omega), List.getElem?_set_ne (by omega), List.getElem?_set_self (by (repeat rw [List.length_set]); omega)]; rfl
    · rw [List.getElem?_take_of_lt (by omega), List.getElem?_drop, List.getElem?_set_ne (by omega), List.getElem?_set_self (by (repeat rw [List.length_set]); omega)]; rfl
    · rw [List.getElem?_take_of_lt (by omega), List.getElem?_drop, List.getElem?_set_self (by (repeat rw [List.length_set]); omega)]; rfl
    · rw [List.getElem?_eq_none (by rw [List.length_take]; omega)]; rfl
  · rw [if_neg hij]
    rcases Nat.lt_or_ge m 4 with hm | hm
    · rw [List.getElem?_take_of_lt hm, List.getElem?_take_of_lt hm, List.getElem?_drop, List.getElem?_drop, List.getElem?_set_ne (by omega), List.getElem?_set_ne (by omega), List.getElem?_set_ne (by omega), List.getElem?_set_ne (by omega)]
    · rw [List.getElem?_eq_none (by rw [List.length_take]; omega), List.getElem?_eq_none (by rw [List.length_take]; omega)]

/-- 4 stores -/
def puts4 (w : World) (g i : Nat) (c0 c1 c2 c3 : Value) : World := (((w.setCell ⟨g, i * 4, none⟩ c0).setCell ⟨g, i * 4 + 1, none⟩ c1).setCell ⟨g, i * 4 + 2, none⟩ c2).setCell ⟨g, i * 4 + 3, none⟩ c3
theorem puts4_but (w : World) (g i : Nat) (c0 c1 c2 c3 : Value) : But g w (puts4 w g i c0 c1 c2 c3) := (((((But.refl g w).setCell _ _).setCell _ _).setCell _ _).setCell _ _)
theorem puts4_below {B g : Nat} {w0 w : World} (h : Below B w0 w) (hB : B ≤ g) (i : Nat) (c0 c1 c2 c3 : Value) : Below B w0 (puts4 w g i c0 c1 c2 c3) := ((((h.setCell hB _).setCell hB _).setCell hB _).setCell hB _)
theorem Bo4.set {α : Type} {E : World → List Value → α → Prop} (hE : Elem 4 E) {e : TypeId} {w : World} {g n : Nat} {xs : List α} (h : Bo4 E e w g n xs) {i : Nat} (hi : i < xs.length) {c0 c1 c2 c3 : Value} {x : α} (hc : E w [c0, c1, c2, c3] x) :
    Bo4 E e (puts4 w g i c0 c1 c2 c3) g n (xs.set i x) := by
  have hno := h.noInt
  obtain ⟨cur, h1, h2, h3, h4, h5, h6⟩ := h
  have hin : i * 4 + 4 ≤ cur.toList.length := by rw [Array.length_toList, h2]; exact seg_le (by omega)
  refine ⟨((((cur.setIfInBounds (i * 4) c0).setIfInBounds (i * 4 + 1) c1).setIfInBounds (i * 4 + 2) c2).setIfInBounds (i * 4 + 3) c3), ?_, by simp [h2], by rw [List.length_set]; exact h3, h4, ?_, ?_⟩
  · simp only [puts4, World.setCell, Array.getElem?_modify, h1]
    simp
  · intro u hu
    simp only [Array.toList_setIfInBounds] at hu
    rcases List.mem_or_eq_of_mem_set hu with hu | rfl
    · skip
      rcases List.mem_or_eq_of_mem_set hu with hu | rfl
      · skip
        rcases List.mem_or_eq_of_mem_set hu with hu | rfl
        · skip
          rcases List.mem_or_eq_of_mem_set hu with hu | rfl
          · exact h5 u hu
          · exact hE.ints hc _ (by simp)
        · exact hE.ints hc _ (by simp)
      · exact hE.ints hc _ (by simp)
    · exact hE.ints hc _ (by simp)
  · intro j y hj
    simp only [Array.toList_setIfInBounds]
    rw [segs_set4 hin]
    rw [List.getElem?_set] at hj
    by_cases hij : i = j
    · subst hij
      rw [if_pos rfl, if_pos hi] at hj
      cases hj
      rw [if_pos rfl]
      exact hE.keep hc (puts4_but w g i c0 c1 c2 c3) hno
    · rw [if_neg hij] at hj ⊢
      exact hE.keep (h6 j y hj) (puts4_but w g i c0 c1 c2 c3) hno
end Go.Proofs.YtegdcmcfeaohhaaGreatDoor

namespace Go.Proofs.YtegdcmcfeaohhaaGreatDoor
open Go Go.RowKit

theorem mulP_bd {us bs : List Rat} (ha : AllBd 60 us) (hb : AllBd 60 bs) (hl1 : us.length ≤ 40) (hl2 : bs.length ≤ 40) : AllBd 200000 (mulP us bs) := by
  intro i q hi
  unfold mulP trimQ at hi
  have hin : i < trimN (mulF us bs (us.length + bs.length) us.length) (mulF us bs (us.length + bs.length) us.length).length := by
    have := (List.getElem?_eq_some_iff.1 hi).1; rw [List.length_take] at this; omega
  rw [List.getElem?_take_of_lt hin] at hi
  have q1 : bs.length * us.length ≤ 40 * 40 := Nat.mul_le_mul hl2 hl1
  exact (mulF_bd ha hb (us.length + bs.length) us.length i q hi).mono (by omega)

def L2ZerosRel (w : World) (m : Nat) (v i : Value) (wr : World) : Prop :=
  ∃ k : Nat, i = .int .i64 (k : Int) ∧ k ≤ m ∧ OwE 4 EQ 58 wr w.heap.size v (List.replicate k (0 : Rat)) ∧ Below w.heap.size w wr
def L2MulRel (w : World) (v : Value) (us bs : List Rat) (iv : Value) (wr : World) : Prop :=
  ∃ i : Nat, iv = .int .i64 (i : Int) ∧ i ≤ us.length ∧ OwE 4 EQ 58 wr w.heap.size v (mulF us bs (us.length + bs.length) i) ∧ Below w.heap.size w wr
def L2RowRel (w : World) (v : Value) (us bs : List Rat) (i : Nat) (kv : Value) (wr : World) : Prop :=
  ∃ k : Nat, kv = .int .i64 (k : Int) ∧ k ≤ bs.length ∧ OwE 4 EQ 58 wr w.heap.size v (rowF (atQ us i) bs i (mulF us bs (us.length + bs.length) i) k) ∧ Below w.heap.size w wr

set_option maxRecDepth 100000 in
set_option maxHeartbeats 8000000 in
theorem l2mul_any (va vb : Value) (us bs : List Rat) (w : World) (h1 : SlE 4 EQ w va us) (h2 : SlE 4 EQ w vb bs) (hl1 : us.length ≤ 50) (hl2 : bs.length ≤ 50) (hb1 : AllBd 60 us) (hb2 : AllBd 60 bs) (R : Ending → World → Prop)
    (hR : ∀ v' w', OwE 4 EQ 58 w' w.heap.size v' (mulP us bs) → Below w.heap.size w w' → R (.returned v') w') :
    Calls Tryz.prog 57 #[va, vb] w R := by
  have HR := Lib.hid hR; clear hR
  obtain ⟨a1, n1, c1, rfl, hn1, _, hs1⟩ := h1.open
  obtain ⟨a2, n2, c2, rfl, hn2, _, hs2⟩ := h2.open
  have HN := Lib.hid (And.intro hn1 hn2)
  have HLL := Lib.hid (show n1 ≤ 50 ∧ n2 ≤ 50 by omega)
  have HBD := Lib.hid (And.intro hb1 hb2)
  have HA := Lib.hid hs1
  have HB := Lib.hid hs2
  obtain ⟨m, hm⟩ : ∃ m, m = n1 + n2 := ⟨_, rfl⟩
  have hw0 : IntKind.i64.wrap ((n1 : Int) + (n2 : Int)) = (m : Int) := by rw [IntWalk.i64_in _ (by have := HLL.out; omega)]; omega
  have HM := Lib.hid hm
  have HST : Hid (L2ZerosRel w m (.slice (some ⟨w.heap.size, 0, none⟩) 0 0) (.int .i64 0) (w.alloc (.cells #[] 58))) := Lib.hid ⟨0, rfl, Nat.zero_le _, OwE.lit _ _ _ (Nat.le_refl _), (Below.refl _ _).alloc (Nat.le_refl _) _⟩
  clear h1 h2 hn1 hn2 hs1 hs2 hl1 hl2 hb1 hb2 hm
  go_enter Tryz.func57, Tryz.ntmps57
  go_wp2
  go_loopw [5, 6] (fun v i wr => L2ZerosRel w m v i wr) (fun _ i _ => m - (intOf i).toNat)
  case atStart => exact HST.out
  case round =>
    clear HST
    obtain ⟨k, rfl, hk, hown, hbel⟩ := hrel
    have HBE := Lib.hid hbel
    have HOWN := Lib.hid hown
    obtain ⟨a5, n5, c5, rfl, hn5⟩ := hown.shape
    by_cases hkm : k < m
    · have hw1 : IntKind.i64.wrap ((k : Int) + 1) = ((k + 1 : Nat) : Int) := by rw [IntWalk.i64_in _ (by have := HM.out; have := HLL.out; omega)]; omega
      have hk1 : (k : Int) < (m : Int) := by omega
      have HKL := Lib.hid hkm
      have HLK : Hid ((List.replicate k (0 : Rat)).length ≤ 100000000) := Lib.hid (by rw [List.length_replicate]; have := HM.out; have := HLL.out; omega)
      clear hown hn5 hk hbel hkm
      go_wp2_with fail
      refine int_any 0 _ (by omega) (by omega) _ ?_
      intro v1 w1 hq1 hb1
      obtain ⟨m1, x1, y1, z1, x2, y2, z2, rfl, _, _⟩ := hq1.parts
      have HB1 := Lib.hid (HBE.out.trans (hb1.mono HBE.out.size))
      have HOW1 := Lib.hid (HOWN.out.later elemQ hb1 (Nat.le_refl _))
      have HEQ := Lib.hid (EQ.of hq1)
      clear hq1 hb1
      dsimp only
      go_wp2_with (at_builtin; go_must (refine wpList_pushE elemQ (by omega) rfl (.tmp 19) (.tmp 21) 51 rfl 58 64 zeroQ Tryz.underlying51 info_q rfl zeroQ_ints (by omega) w.heap.size _ (HOW1.out.alloc elemQ _) HLK.out (by have := HB1.out.size; simp; omega) w1.heap.size [.bool m1, .slice x1 y1 z1, .bool false, .slice x2 y2 z2] _ rfl (elemQ.below HEQ.out ((Below.refl _ _).alloc (Nat.le_refl _) _) (Nat.le_refl _)) (cells_alloc _ #[.bool m1, .slice x1 y1 z1, .bool false, .slice x2 y2 z2] _ _ rfl) ?_))
      intro ao n4 c4 w4 hown4 hn4 hgr hb4
      have HOW4 : Hid (OwE 4 EQ 58 w4 w.heap.size (.slice ao n4 c4) (List.replicate (k + 1) (0 : Rat))) := Lib.hid (by rw [List.replicate_succ']; exact hown4)
      have HB4 := Lib.hid ((HB1.out.alloc HB1.out.size _).trans hb4)
      clear hown4 hn4 hgr hb4
      go_wp2
      go_roundw
      case rel => exact ⟨k + 1, by first | rfl | go_num, HKL.out, HOW4.out, HB4.out⟩
      case measure => simp [intOf]; have := HKL.out; omega
    · obtain rfl : k = m := by omega
      have hk0 : ¬ ((k : Int) < (k : Int)) := by omega
      obtain ⟨vv, hvv⟩ : ∃ vv, vv = Value.slice a5 n5 c5 := ⟨_, rfl⟩
      have HVV := Lib.hid hvv
      have HST : Hid (L2MulRel w vv us bs (.int .i64 0) wr) := Lib.hid ⟨0, rfl, Nat.zero_le _, by rw [mulF, ← HN.out.1, ← HN.out.2, ← HM.out, hvv]; exact hown, hbel⟩
      clear hown hn5 hbel hkm HOWN HBE hvv
      go_wp2
      go_loopw [7] (fun i wr => L2MulRel w vv us bs i wr) (fun i _ => n1 - (intOf i).toNat)
      case atStart => exact HST.out
      case round =>
        clear HST
        obtain ⟨i, rfl, hi, hown, hbel⟩ := hrel
        have HBE := Lib.hid hbel
        have HOWN := Lib.hid hown
        by_cases hin : i = n1
        · have HFIN : Hid (trimQ (mulF us bs (us.length + bs.length) i) = mulP us bs) := Lib.hid (by rw [hin, HN.out.1]; rfl)
          have c1 : ¬ ((i : Int) < (n1 : Int)) := by omega
          rw [HVV.out] at HOWN
          clear hown hbel hi hin
          go_wp2_with fail
          refine trimS_any _ _ _ HOWN.out.sl (by rw [mulF_len]; have := HN.out; have := HLL.out; omega) _ ?_
          intro v6 w6 hv6 hb6
          rw [HFIN.out] at hv6
          obtain ⟨a6, n6, c6, rfl, e6⟩ := hv6.shape
          have HF := Lib.hid (HR.out _ w6 (hv6.mono HBE.out.size) (HBE.out.trans (hb6.mono HBE.out.size)))
          clear hv6 hb6 e6
          dsimp only
          go_wp2
          first | go_ret | skip
          exact HF.out
        · have hil : i < n1 := by have := HN.out.1; omega
          have HIL := Lib.hid hil
          have hw1 : IntKind.i64.wrap ((i : Int) + 1) = ((i + 1 : Nat) : Int) := by rw [IntWalk.i64_in _ (by have := HLL.out; omega)]; omega
          have hi0 : (0 : Int) ≤ (i : Int) := by omega
          have hi1 : (i : Int) < (n1 : Int) := by omega
          obtain ⟨p, hp⟩ : ∃ p, us[i]? = some p := ⟨_, List.getElem?_eq_getElem (by have := HN.out.1; omega)⟩
          have HP := Lib.hid hp
          have HST : Hid (L2RowRel w vv us bs i (.int .i64 0) wr) := Lib.hid ⟨0, rfl, Nat.zero_le _, hown, hbel⟩
          obtain ⟨wo, hwo⟩ : ∃ wo, wo = wr := ⟨_, rfl⟩
          have HWO := Lib.hid hwo
          clear hown hbel hi hin hil hp HOWN HBE hwo
          go_wp2
          rw [← HWO.out]
          rw [← HWO.out] at HST
          clear HWO
          go_loopw [8] (fun kv wr2 => L2RowRel w vv us bs i kv wr2) (fun kv _ => n2 - (intOf kv).toNat)
          case atStart => exact HST.out
          case round =>
            clear HST
            obtain ⟨j, rfl, hj, hown, hbel⟩ := hrel
            have HBE := Lib.hid hbel
            by_cases hjn : j = n2
            · have HREL : Hid (L2MulRel w vv us bs (.int .i64 ((i + 1 : Nat) : Int)) wr) := Lib.hid ⟨i + 1, rfl, by have := HIL.out; have := HN.out.1; omega, by
                have hjb : j = bs.length := by rw [hjn]; exact HN.out.2
                have h9 := hown
                rw [hjb] at h9
                rw [mulF]; exact h9, HBE.out⟩
              have hjj : ¬ ((j : Int) < (n2 : Int)) := by omega
              clear hown hbel hj hjn
              go_wp2
              go_roundw
              case rel => exact HREL.out
              case measure => simp [intOf]; have := HIL.out; omega
            · have hjl : j < n2 := by have := HN.out.2; omega
              obtain ⟨q, hq⟩ : ∃ q, bs[j]? = some q := ⟨_, List.getElem?_eq_getElem (by have := HN.out.2; omega)⟩
              have HQ := Lib.hid hq
              obtain ⟨z, hz⟩ : ∃ z, z = i + j := ⟨_, rfl⟩
              have HZ := Lib.hid hz
              have hzk : z < k := by have := HM.out; have := HIL.out; omega
              have HLEN : Hid ((rowF (atQ us i) bs i (mulF us bs (us.length + bs.length) i) j).length = k) := Lib.hid (by rw [rowF_len, mulF_len, ← HN.out.1, ← HN.out.2]; exact HM.out.symm)
              obtain ⟨g, cap, hvg, hBg, hbo⟩ := hown.bo4 (by intro e; have h9 := HLEN.out; rw [e] at h9; simp at h9; omega)
              rw [HLEN.out] at hvg
              have hvs := HVV.out.symm.trans hvg
              simp only [Value.slice.injEq] at hvs
              obtain ⟨rfl, e5, rfl⟩ := hvs
              have e6 := e5.symm
              subst e6
              obtain ⟨s, hs⟩ : ∃ s, (rowF (atQ us i) bs i (mulF us bs (us.length + bs.length) i) j)[z]? = some s := ⟨_, List.getElem?_eq_getElem (by rw [HLEN.out]; exact hzk)⟩
              have HS := Lib.hid hs
              obtain ⟨u0, u1, u2, u3, hu0, hu1, hu2, hu3, hux⟩ := hbo.cells (i := z) (by rw [HLEN.out]; exact hzk)
              obtain ⟨x5, y5, z5, x6, y6, z6, hcs3, hi5⟩ := hux s hs
              obtain ⟨pg, hpg⟩ : ∃ pg, pg = decide (s.num < 0) := ⟨_, rfl⟩
              rw [← hpg] at hcs3 hi5
              cases hcs3
              have HSR := Lib.hid hi5
              obtain ⟨b, off, cs, rfl, hb, hcell, hE⟩ := HA.out.at i p HP.out
              obtain ⟨x1, y1, z1, x2, y2, z2, hcs, hi1'⟩ := hE
              obtain ⟨ng, hng⟩ : ∃ ng, ng = decide (p.num < 0) := ⟨_, rfl⟩
              rw [← hng] at hcs hi1'
              obtain ⟨b2, off2, cs2, rfl, hb2, hcell2, hE2⟩ := HB.out.at j q hq
              obtain ⟨x3, y3, z3, x4, y4, z4, hcs2, hi3⟩ := hE2
              obtain ⟨mg, hmg⟩ : ∃ mg, mg = decide (q.num < 0) := ⟨_, rfl⟩
              rw [← hmg] at hcs2 hi3
              have hd0 : wr.cell? ⟨b, off + i * 4, none⟩ = some (.bool ng) := by rw [hbel.cell (p := ⟨b, off + i * 4, none⟩) hb]; exact hcell 0 _ (by rw [hcs]; rfl)
              have hd1 : wr.cell? ⟨b, off + i * 4 + 1, none⟩ = some (.slice x1 y1 z1) := by rw [hbel.cell (p := ⟨b, off + i * 4 + 1, none⟩) hb]; exact hcell 1 _ (by rw [hcs]; rfl)
              have hd2 : wr.cell? ⟨b, off + i * 4 + 2, none⟩ = some (.bool false) := by rw [hbel.cell (p := ⟨b, off + i * 4 + 2, none⟩) hb]; exact hcell 2 _ (by rw [hcs]; rfl)
              have hd3 : wr.cell? ⟨b, off + i * 4 + 3, none⟩ = some (.slice x2 y2 z2) := by rw [hbel.cell (p := ⟨b, off + i * 4 + 3, none⟩) hb]; exact hcell 3 _ (by rw [hcs]; rfl)
              have hy0 : wr.cell? ⟨b2, off2 + j * 4, none⟩ = some (.bool mg) := by rw [hbel.cell (p := ⟨b2, off2 + j * 4, none⟩) hb2]; exact hcell2 0 _ (by rw [hcs2]; rfl)
              have hy1 : wr.cell? ⟨b2, off2 + j * 4 + 1, none⟩ = some (.slice x3 y3 z3) := by rw [hbel.cell (p := ⟨b2, off2 + j * 4 + 1, none⟩) hb2]; exact hcell2 1 _ (by rw [hcs2]; rfl)
              have hy2 : wr.cell? ⟨b2, off2 + j * 4 + 2, none⟩ = some (.bool false) := by rw [hbel.cell (p := ⟨b2, off2 + j * 4 + 2, none⟩) hb2]; exact hcell2 2 _ (by rw [hcs2]; rfl)
              have hy3 : wr.cell? ⟨b2, off2 + j * 4 + 3, none⟩ = some (.slice x4 y4 z4) := by rw [hbel.cell (p := ⟨b2, off2 + j * 4 + 3, none⟩) hb2]; exact hcell2 3 _ (by rw [hcs2]; rfl)
              have HX := Lib.hid (hi1'.later hbel (Nat.le_refl _))
              have HY := Lib.hid (hi3.later hbel (Nat.le_refl _))
              have hwz : IntKind.i64.wrap ((i : Int) + (j : Int)) = (z : Int) := by rw [IntWalk.i64_in _ (by have := HLL.out; omega)]; omega
              have hw2 : IntKind.i64.wrap ((j : Int) + 1) = ((j + 1 : Nat) : Int) := by rw [IntWalk.i64_in _ (by have := HLL.out; omega)]; omega
              have hz0 : (0 : Int) ≤ (z : Int) := by omega
              have hz1 : (z : Int) < (k : Int) := by omega
              have hj0 : (0 : Int) ≤ (j : Int) := by omega
              have hj1 : (j : Int) < (n2 : Int) := by omega
              have hi0 : (0 : Int) ≤ (i : Int) := by omega
              have hi1 : (i : Int) < (n1 : Int) := by have := HIL.out; omega
              have HLP := Lib.hid ((HBD.out.1 i p HP.out).len (B := 10000) (by omega))
              have HLQ := Lib.hid ((HBD.out.2 j q hq).len (B := 10000) (by omega))
              have HLM := Lib.hid (((HBD.out.1 i p HP.out).mul (HBD.out.2 j q hq)).len (B := 10000) (by omega))
              have hbig : 1 + 121 * (bs.length * i) + 121 * j ≤ 400000 := by
                have q1 : bs.length * i ≤ 50 * 50 := Nat.mul_le_mul (by have := HN.out; have := HLL.out; omega) (by have := HIL.out; have := HLL.out; omega)
                have := HLL.out
                omega
              have HBIG := Lib.hid hbig
              have HLS := Lib.hid (((rowF_bd (atQ_bd HBD.out.1 (by omega) i) HBD.out.2 i (mulF_bd HBD.out.1 HBD.out.2 (us.length + bs.length) i) (by omega) j) z s hs).len (B := 10000) (by omega))
              have HNEW : Hid (rowF (atQ us i) bs i (mulF us bs (us.length + bs.length) i) (j + 1) = (rowF (atQ us i) bs i (mulF us bs (us.length + bs.length) i) j).set z (s + p * q)) := Lib.hid (by
                rw [rowF]; unfold addTo; rw [← hz, atQ_some hs, atQ_some hq, atQ_some HP.out])
              have HJL := Lib.hid hjl
              have HZK := Lib.hid hzk
              have HBO := Lib.hid hbo
              have HBG := Lib.hid hBg
              have HGW : Hid (g < wr.heap.size) := Lib.hid hbo.lt
              clear hq hcell hcs hcell2 hcs2 hi1' hi3 hng hmg hz hzk hs hux hi5 hpg hown hbel hj hjn hjl hbig hvg hBg hbo hb hb2
              go_wp2_with fail
              go_region_law (first
                | (have hguard := HB5; (try go_simp); go_at_call 96; refine addQ_any _ _ s (p * q) _ (HSR.out.later HB5.out (Nat.le_refl _)) HV5.out (Nat.le_trans HLS.out.1 (by have := HBIG.out; omega)) (Nat.le_trans HLS.out.2 (by have := HBIG.out; omega)) (Nat.le_trans HLM.out.1 (by omega)) (Nat.le_trans HLM.out.2 (by omega)) _ ?_; intro v6 w6 hv6 hb6; obtain ⟨m6, a10, n10, c10, a11, n11, c11, rfl, _, _⟩ := hv6.parts; have HB6 : Hid (Below wr.heap.size wr w6) := Lib.hid (HB5.out.trans (hb6.mono HB5.out.size)); have HA6 := Lib.hid (HBO.out.later elemQ HB6.out (Nat.le_refl _)); obtain ⟨t0, t1, t2, t3, ht0, ht1, ht2, ht3, _⟩ := HA6.out.cells (i := z) (by rw [HLEN.out]; exact HZK.out); have hg0 := HA6.out.frozen (z * 4); have hg1 := HA6.out.frozen (z * 4 + 1); have hg2 := HA6.out.frozen (z * 4 + 2); have hg3 := HA6.out.frozen (z * 4 + 3); have HEQ := Lib.hid (EQ.of hv6); clear hguard hv6 hb6; dsimp only)
                | ((try go_simp); go_at_call 98; refine mulQ_any _ _ p q _ (HX.out.later (by first | exact (Below.refl _ _).drew | exact Below.refl _ _) (Nat.le_refl _)) (HY.out.later (by first | exact (Below.refl _ _).drew | exact Below.refl _ _) (Nat.le_refl _)) (Nat.le_trans HLP.out.1 (by omega)) (Nat.le_trans HLP.out.2 (by omega)) (Nat.le_trans HLQ.out.1 (by omega)) (Nat.le_trans HLQ.out.2 (by omega)) _ ?_; intro v5 w5 hv5 hb5; obtain ⟨m5, a12, n12, c12, a13, n13, c13, rfl, _, _⟩ := hv5.parts; have HV5 := Lib.hid hv5; have HB5 : Hid (Below wr.heap.size wr w5) := Lib.hid (by first | exact hb5 | exact below_unDrew hb5); have f0 := (HB5.out.cell (p := ⟨g, z * 4, none⟩) HGW.out).trans hu0; have f1 := (HB5.out.cell (p := ⟨g, z * 4 + 1, none⟩) HGW.out).trans hu1; have f2 := (HB5.out.cell (p := ⟨g, z * 4 + 2, none⟩) HGW.out).trans hu2; have f3 := (HB5.out.cell (p := ⟨g, z * 4 + 3, none⟩) HGW.out).trans hu3; clear hv5 hb5; dsimp only))
              all_goals
                have HSET := Lib.hid (HA6.out.set elemQ (i := z) (by rw [HLEN.out]; exact HZK.out) HEQ.out)
                rw [← HNEW.out] at HSET
                have hown2 := HSET.out.own HBG.out
                rw [show (rowF (atQ us i) bs i (mulF us bs (us.length + bs.length) i) (j + 1)).length = k by rw [HNEW.out, List.length_set]; exact HLEN.out] at hown2
                have HREL : Hid (L2RowRel w vv us bs i (.int .i64 ((j + 1 : Nat) : Int)) (puts4 w6 g z (.bool m6) (.slice a10 n10 c10) (.bool false) (.slice a11 n11 c11))) := Lib.hid
                  ⟨j + 1, rfl, by have := HJL.out; have := HN.out.2; omega, by rw [HVV.out]; exact hown2, puts4_below (HBE.out.trans (HB6.out.mono HBE.out.size)) HBG.out _ _ _ _ _⟩
                unfold puts4 at HREL
                clear hown2
                go_wp2
                go_roundw
                case rel => exact HREL.out
                case measure => simp [intOf]; have := HJL.out; omega
end Go.Proofs.YtegdcmcfeaohhaaGreatDoor

namespace Go.Proofs.YtegdcmcfeaohhaaGreatDoor
open Go Go.RowKit

set_option maxRecDepth 100000 in
set_option maxHeartbeats 4000000 in
theorem spec_mulp (v0 : Value) (L0 : List ByteArray) (v1 : Value) (L1 : List ByteArray) (w : World) (h0 : TxL w v0 L0) (hn0 : L0.length ≤ 1048576) (hs0 : ∀ s ∈ L0, s.size ≤ 1048576) (h1 : TxL w v1 L1) (hn1 : L1.length ≤ 1048576) (hs1 : ∀ s ∈ L1, s.size ≤ 1048576) (R : Ending → World → Prop)
    (hR : ∀ v' w', OwE 1 ET 9 w' w.heap.size v' (mulpL L0 L1) → Below w.heap.size w w' → R (.returned (.tuple #[v', .bool (mulpB L0 L1)])) w') :
    Calls Tryz.prog 23 #[v0, v1] w R := by
  have HR := Lib.hid hR; clear hR
  obtain ⟨a0, n0, c0, rfl, h0'⟩ := h0.op
  obtain ⟨a1, n1, c1, rfl, h1'⟩ := h1.op
  have H0 := Lib.hid h0'
  have H1 := Lib.hid h1'
  have HN0 := Lib.hid (And.intro hn0 hs0)
  have HN1 := Lib.hid (And.intro hn1 hs1)
  have HFAIL : Hid (∀ w', (polyB L0 && polyB L1) = false → Below w.heap.size w w' → R (.returned (.tuple #[.slice none 0 0, .bool false])) w') := Lib.hid (fun w' hp hb => by
    have := HR.out (.slice none 0 0) w' (by rw [mulpL_none hp]; exact OwE.nil _ _ _) hb
    rw [mulpB_none hp] at this; exact this)
  clear h0 h1 h0' h1' hn0 hn1 hs0 hs1
  go_enter Tryz.func23, Tryz.ntmps23
  go_wp2_with fail
  refine l02is_any _ L0 _ H0.out HN0.out.1 HN0.out.2 _ ?_
  intro w1 hb1
  have HB1 := Lib.hid hb1
  clear hb1
  cases hp0 : polyB L0 with
  | false =>
    have HF := Lib.hid (HFAIL.out w1 (by rw [hp0]; rfl) HB1.out)
    clear hp0
    dsimp only
    go_wp2
    first | go_ret | skip
    exact HF.out
  | true =>
  have HP0 := Lib.hid hp0
  clear hp0
  dsimp only
  go_wp2_with fail
  refine l02is_any _ L1 _ (TxL.later H1.out HB1.out (Nat.le_refl _)) HN1.out.1 HN1.out.2 _ ?_
  intro w2 hb2
  have HB2 := Lib.hid (HB1.out.trans (hb2.mono HB1.out.size))
  clear hb2
  cases hp1 : polyB L1 with
  | false =>
    have HF := Lib.hid (HFAIL.out w2 (by rw [hp1, Bool.and_false]) HB2.out)
    clear hp1
    dsimp only
    go_wp2
    first | go_ret | skip
    exact HF.out
  | true =>
  have HPP : Hid ((polyB L0 && polyB L1) = true) := Lib.hid (by rw [HP0.out, hp1]; rfl)
  have HK := Lib.hid (pair_all HPP.out)
  have HK0 := Lib.hid (polyB_nums HP0.out)
  have HK1 := Lib.hid (polyB_nums hp1)
  clear hp1
  dsimp only
  go_wp2_with fail
  refine oflist_any _ L0 _ (TxL.later H0.out HB2.out (Nat.le_refl _)) HK0.out.2 HN0.out.1 _ ?_
  intro v3 w3 hv3 hb3
  obtain ⟨a3, n3, c3, rfl, e3⟩ := hv3.shape
  have HV3 := Lib.hid hv3.sl
  have HB3 := Lib.hid (HB2.out.trans (hb3.mono HB2.out.size))
  clear hv3 hb3 e3
  dsimp only
  go_wp2_with fail
  refine oflist_any _ L1 _ (TxL.later H1.out HB3.out (Nat.le_refl _)) HK1.out.2 HN1.out.1 _ ?_
  intro v4 w4 hv4 hb4
  obtain ⟨a4, n4, c4, rfl, e4⟩ := hv4.shape
  have HV4 := Lib.hid hv4.sl
  have HV34 := Lib.hid (SlE.later elemQ HV3.out hb4 (Nat.le_refl _))
  have HB4 := Lib.hid (HB3.out.trans (hb4.mono HB3.out.size))
  clear hv4 hb4 e4
  dsimp only
  go_wp2_with fail
  refine l2mul_any _ _ (L0.map qOf) (L1.map qOf) _ HV34.out HV4.out (by rw [List.length_map]; have := HK0.out.1; omega) (by rw [List.length_map]; have := HK1.out.1; omega) HK.out.2.2.1 HK.out.2.2.2 _ ?_
  intro v6 w6 hv6 hb6
  obtain ⟨a6, n6, c6, rfl, e6⟩ := hv6.shape
  have HV6 := Lib.hid hv6
  have HB6 := Lib.hid (HB4.out.trans (hb6.mono HB4.out.size))
  clear hv6 hb6 e6
  dsimp only
  go_wp2_with fail
  refine put_any _ _ _ HV6.out.sl (DigsQ.of (N := 200000) (mulP_bd HK.out.2.2.1 HK.out.2.2.2 (by rw [List.length_map]; have := HK0.out.1; omega) (by rw [List.length_map]; have := HK1.out.1; omega)) (by omega)) (by unfold mulP; rw [trimQ_len]; exact Nat.le_trans (trimN_le _ _) (by rw [mulF_len, List.length_map, List.length_map]; have := HK.out.1; have := HK.out.2.1; omega)) _ ?_
  intro v7 w7 hv7 hb7
  obtain ⟨a7, n7, c7, rfl, e7⟩ := hv7.shape
  have HF := Lib.hid (HR.out (.slice a7 n7 c7) w7 (by rw [mulpL_eq HPP.out]; rw [show mulP (L0.map qOf) (L1.map qOf) = trimQ (mulF (L0.map qOf) (L1.map qOf) ((L0.map qOf).length + (L1.map qOf).length) (L0.map qOf).length) from rfl, ← put_cofL]; exact hv7.mono HB6.out.size) (HB6.out.trans (hb7.mono HB6.out.size)))
  rw [mulpB_eq HPP.out, show mulP (L0.map qOf) (L1.map qOf) = trimQ (mulF (L0.map qOf) (L1.map qOf) ((L0.map qOf).length + (L1.map qOf).length) (L0.map qOf).length) from rfl, ← put_cofB, ← show mulP (L0.map qOf) (L1.map qOf) = trimQ (mulF (L0.map qOf) (L1.map qOf) ((L0.map qOf).length + (L1.map qOf).length) (L0.map qOf).length) from rfl] at HF
  obtain ⟨bq, hbq⟩ : ∃ bq, bq = putB (mulP (L0.map qOf) (L1.map qOf)) := ⟨_, rfl⟩
  rw [← hbq] at HF ⊢
  clear hv7 hb7 e7 hbq
  dsimp only
  go_wp2
  first | go_ret | skip
  exact HF.out
end Go.Proofs.YtegdcmcfeaohhaaGreatDoor

namespace Go.Proofs.YtegdcmcfeaohhaaGreatDoor
open Go Go.RowKit

set_option maxRecDepth 100000 in
set_option maxHeartbeats 4000000 in
theorem law_mulPolys (v0 : Value) (L0 : List ByteArray) (v1 : Value) (L1 : List ByteArray) (w : World) (hE : Env w) (htab : Lib.TabIs Tryz.prog w "internal/strconv.uint64pow10" .u64 Lib.pow10Tab) (h0 : TxL w v0 L0) (hn0 : L0.length ≤ maxLen) (hs0 : ∀ s ∈ L0, s.size ≤ maxLen) (h1 : TxL w v1 L1) (hn1 : L1.length ≤ maxLen) (hs1 : ∀ s ∈ L1, s.size ≤ maxLen) (R : Ending → World → Prop)
    (hR : ∀ w', Below w.heap.size w w' → R (.returned (.bool true)) w') :
    Calls Tryz.prog 5 #[v0, v1] w R := by
  have HR := Lib.hid hR; clear hR
  have HE := Lib.hid hE; clear hE
  have HTAB := Lib.hid htab; clear htab
  obtain ⟨ao0, no0, co0, rfl, hh0⟩ := h0.op
  have HH0 := Lib.hid hh0
  have HN0 := Lib.hid (And.intro hn0 hs0)
  obtain ⟨ao1, no1, co1, rfl, hh1⟩ := h1.op
  have HH1 := Lib.hid hh1
  have HN1 := Lib.hid (And.intro hn1 hs1)
  clear h0 hh0 hn0 hs0 h1 hh1 hn1 hs1
  have HSM := Lib.hid (mulp_small L0 L1)
  obtain ⟨bq, hbq⟩ : ∃ bq, bq = (mulpB L0 L1) := ⟨_, rfl⟩
  have HBQ := Lib.hid hbq
  have cbq : (bq != bq) = false := by cases bq <;> rfl
  clear hbq
  go_enter Tryz.func5, Tryz.ntmps5
  go_wp2_with fail
  refine szT_any _ L0 _ 1048576 HH0.out HN0.out.1 HN0.out.2 (by omega) _ ?_ ?_
  rotate_left
  · intro ht
    have HF := Lib.hid (HR.out w (Below.refl _ _))
    clear ht
    dsimp only
    go_wp2
    first | go_ret | skip
    exact HF.out
  intro ht0
  obtain ⟨m0, hm0⟩ : ∃ m0 : Nat, m0 = 1048576 - tot L0 := ⟨_, rfl⟩
  have HP0 := Lib.hid (sizes_each (L := L0) (Nat.le_trans ht0 (by omega)))
  rw [← hm0]
  have hz0 : ¬ ((m0 : Int) < 0) := by omega
  have hl0 : m0 ≤ 1048576 := by omega
  have HLM0 := Lib.hid hl0
  clear hm0 ht0 hl0
  dsimp only
  go_wp2_with fail
  refine szT_any _ L1 _ m0 HH1.out HN1.out.1 HN1.out.2 HLM0.out _ ?_ ?_
  rotate_left
  · intro ht
    have HF := Lib.hid (HR.out w (Below.refl _ _))
    clear ht
    dsimp only
    go_wp2
    first | go_ret | skip
    exact HF.out
  intro ht1
  obtain ⟨m1, hm1⟩ : ∃ m1 : Nat, m1 = m0 - tot L1 := ⟨_, rfl⟩
  have HP1 := Lib.hid (sizes_each (L := L1) (Nat.le_trans ht1 HLM0.out))
  rw [← hm1]
  have hz1 : ¬ ((m1 : Int) < 0) := by omega
  have hl1 : m1 ≤ 1048576 := by have := HLM0.out; omega
  have HLM1 := Lib.hid hl1
  clear hm1 ht1 hl1
  dsimp only
  go_wp2_with fail
  refine toT_any _ L0 _ HH0.out HP0.out.1 _ ?_
  intro v w1 hv hb
  obtain ⟨a1, n1, c1, rfl, hv'⟩ := hv.op
  have SC0 := Lib.hid hv'
  clear hv
  have HB1 : Hid (Below w.heap.size w w1) := Lib.hid (hb)
  clear hb hv'
  dsimp only
  go_wp2_with fail
  refine toT_any _ L1 _ (HH1.out.later HB1.out (Nat.le_refl _)) HP1.out.1 _ ?_
  intro v w2 hv hb
  obtain ⟨a2, n2, c2, rfl, hv'⟩ := hv.op
  have SC1 := Lib.hid hv'
  clear hv
  have HB2 : Hid (Below w.heap.size w w2) := Lib.hid (HB1.out.trans (hb.mono HB1.out.size))
  have SC0_2 := Lib.hid (TxL.later SC0.out hb (Nat.le_refl _))
  clear SC0 HB1 hb hv'
  dsimp only
  go_wp2_with fail
  refine spec_mulp _ L0 _ L1 _ SC0_2.out HP0.out.1 HP0.out.2 SC1.out HP1.out.1 HP1.out.2 _ ?_
  intro v w3 hv hb
  rw [← HBQ.out]
  obtain ⟨a3, n3, c3, rfl, esh⟩ := hv.shape
  clear esh
  have W0 := Lib.hid hv
  have W0U : Hid (∀ g, (Value.slice a3 n3 c3).ownBlock = some g → g < w3.heap.size) := Lib.hid hv.own_lt
  have HB3 : Hid (Below w.heap.size w w3) := Lib.hid (HB2.out.trans (hb.mono HB2.out.size))
  clear SC0_2 SC1 HB2 hb hv
  dsimp only
  go_wp2_with fail
  refine toT_own _ L0 _ (HH0.out.later HB3.out (Nat.le_refl _)) HP0.out.1 _ ?_
  intro v w4 hv hb
  obtain ⟨a4, n4, c4, rfl, esh⟩ := hv.shape
  clear esh
  have X0 := Lib.hid hv
  have X0U : Hid (∀ g, (Value.slice a4 n4 c4).ownBlock = some g → g < w4.heap.size) := Lib.hid hv.own_lt
  have X0Z : Hid (w3.heap.size ≤ w4.heap.size) := Lib.hid hb.size
  have WX0 : Hid (w3.heap.size ≤ w3.heap.size) := Lib.hid (Nat.le_refl _)
  have WXN0 : Hid (w3.heap.size ≤ w4.heap.size) := Lib.hid (Nat.le_trans WX0.out X0Z.out)
  have BX0 : Hid (w.heap.size ≤ w3.heap.size) := Lib.hid HB3.out.size
  have HB4 : Hid (Below w.heap.size w w4) := Lib.hid (HB3.out.trans (hb.mono HB3.out.size))
  have W0_4 := Lib.hid (W0.out.later elemT hb (Nat.le_refl _))
  clear W0 HB3 hb hv
  dsimp only
  go_wp2_with fail
  refine toT_own _ L1 _ (HH1.out.later HB4.out (Nat.le_refl _)) HP1.out.1 _ ?_
  intro v w5 hv hb
  obtain ⟨a5, n5, c5, rfl, esh⟩ := hv.shape
  clear esh
  have X1 := Lib.hid hv
  have X1U : Hid (∀ g, (Value.slice a5 n5 c5).ownBlock = some g → g < w5.heap.size) := Lib.hid hv.own_lt
  have X1Z : Hid (w4.heap.size ≤ w5.heap.size) := Lib.hid hb.size
  have WX1 : Hid (w3.heap.size ≤ w4.heap.size) := Lib.hid (Nat.le_trans WXN0.out (Nat.le_refl _))
  have WXN1 : Hid (w3.heap.size ≤ w5.heap.size) := Lib.hid (Nat.le_trans WX1.out X1Z.out)
  have BX1 : Hid (w.heap.size ≤ w4.heap.size) := Lib.hid HB4.out.size
  have XX01 : Hid (w4.heap.size ≤ w4.heap.size) := Lib.hid (Nat.le_refl _)
  have HB5 : Hid (Below w.heap.size w w5) := Lib.hid (HB4.out.trans (hb.mono HB4.out.size))
  have W0_5 := Lib.hid (W0_4.out.later elemT hb (Nat.le_refl _))
  have X0_5 := Lib.hid (X0.out.later elemT hb (Nat.le_refl _))
  have X0Z_5 : Hid (w3.heap.size ≤ w5.heap.size) := Lib.hid (Nat.le_trans X0Z.out hb.size)
  clear W0_4 X0 X0Z HB4 hb hv
  dsimp only
  go_wp2_with fail
  refine impl_mulp _ L0 _ L1 _ (HE.out.later HB5.out (Nat.le_refl _)) (tab_later HTAB.out HB5.out (Nat.le_refl _)) X0_5.out.tx HP0.out.1 X1.out.tx HP1.out.1 _ ?_
  intro v w6 hv hb
  rw [← HBQ.out]
  obtain ⟨a6, n6, c6, rfl, esh⟩ := hv.shape
  clear esh
  have G0 := Lib.hid hv
  have G0U : Hid (∀ g, (Value.slice a6 n6 c6).ownBlock = some g → g < w6.heap.size) := Lib.hid hv.own_lt
  have XG0 : Hid (w4.heap.size ≤ w5.heap.size) := Lib.hid (Nat.le_trans XX01.out X1Z.out)
  have XG1 : Hid (w5.heap.size ≤ w5.heap.size) := Lib.hid (Nat.le_refl _)
  have WG : Hid (w3.heap.size ≤ w5.heap.size) := Lib.hid WXN1.out
  have BG : Hid (w.heap.size ≤ w5.heap.size) := Lib.hid HB5.out.size
  have GZ : Hid (w5.heap.size ≤ w6.heap.size) := Lib.hid hb.size
  have HB6 : Hid (Below w.heap.size w w6) := Lib.hid (HB5.out.trans (hb.mono HB5.out.size))
  have W0_6 := Lib.hid (W0_5.out.later elemT hb (Nat.le_refl _))
  have X0_6 := Lib.hid (X0_5.out.later elemT hb (Nat.le_refl _))
  have X0Z_6 : Hid (w3.heap.size ≤ w6.heap.size) := Lib.hid (Nat.le_trans X0Z_5.out hb.size)
  have X1_6 := Lib.hid (X1.out.later elemT hb (Nat.le_refl _))
  have X1Z_6 : Hid (w4.heap.size ≤ w6.heap.size) := Lib.hid (Nat.le_trans X1Z.out hb.size)
  clear W0_5 X0_5 X0Z_5 X1 X1Z HB5 hb hv
  dsimp only
  go_wp2_with fail
  refine eqT_any _ _ (mulpL L0 L1) (mulpL L0 L1) _ G0.out.tx W0_6.out.tx (Nat.le_trans HSM.out (by omega)) (Nat.le_trans HSM.out (by omega)) _ ?_
  intro w7 hb
  rw [decide_eq_true rfl]
  have HB7 : Hid (Below w.heap.size w w7) := Lib.hid (HB6.out.trans (hb.mono HB6.out.size))
  have W0_7 := Lib.hid (W0_6.out.later elemT hb (Nat.le_refl _))
  have X0_7 := Lib.hid (X0_6.out.later elemT hb (Nat.le_refl _))
  have X0Z_7 : Hid (w3.heap.size ≤ w7.heap.size) := Lib.hid (Nat.le_trans X0Z_6.out hb.size)
  have X1_7 := Lib.hid (X1_6.out.later elemT hb (Nat.le_refl _))
  have X1Z_7 : Hid (w4.heap.size ≤ w7.heap.size) := Lib.hid (Nat.le_trans X1Z_6.out hb.size)
  have G0_7 := Lib.hid (G0.out.later elemT hb (Nat.le_refl _))
  have GZ_7 : Hid (w5.heap.size ≤ w7.heap.size) := Lib.hid (Nat.le_trans GZ.out hb.size)
  clear W0_6 X0_6 X0Z_6 X1_6 X1Z_6 G0 GZ HB6 hb
  dsimp only
  go_wp2_with fail
  refine toT_any _ L0 _ (HH0.out.later HB7.out (Nat.le_refl _)) HP0.out.1 _ ?_
  intro v w8 hv hb
  obtain ⟨a8, n8, c8, rfl, hv'⟩ := hv.op
  have EC0 := Lib.hid hv'
  clear hv
  have HB8 : Hid (Below w.heap.size w w8) := Lib.hid (HB7.out.trans (hb.mono HB7.out.size))
  have W0_8 := Lib.hid (W0_7.out.later elemT hb (Nat.le_refl _))
  have X0_8 := Lib.hid (X0_7.out.later elemT hb (Nat.le_refl _))
  have X0Z_8 : Hid (w3.heap.size ≤ w8.heap.size) := Lib.hid (Nat.le_trans X0Z_7.out hb.size)
  have X1_8 := Lib.hid (X1_7.out.later elemT hb (Nat.le_refl _))
  have X1Z_8 : Hid (w4.heap.size ≤ w8.heap.size) := Lib.hid (Nat.le_trans X1Z_7.out hb.size)
  have G0_8 := Lib.hid (G0_7.out.later elemT hb (Nat.le_refl _))
  have GZ_8 : Hid (w5.heap.size ≤ w8.heap.size) := Lib.hid (Nat.le_trans GZ_7.out hb.size)
  clear W0_7 X0_7 X0Z_7 X1_7 X1Z_7 G0_7 GZ_7 HB7 hb hv'
  dsimp only
  go_wp2_with fail
  refine eqT_any _ _ L0 L0 _ X0_8.out.tx EC0.out (Nat.le_trans HP0.out.1 (by omega)) (Nat.le_trans HP0.out.1 (by omega)) _ ?_
  intro w9 hb
  rw [decide_eq_true rfl]
  have HB9 : Hid (Below w.heap.size w w9) := Lib.hid (HB8.out.trans (hb.mono HB8.out.size))
  have W0_9 := Lib.hid (W0_8.out.later elemT hb (Nat.le_refl _))
  have X0_9 := Lib.hid (X0_8.out.later elemT hb (Nat.le_refl _))
  have X0Z_9 : Hid (w3.heap.size ≤ w9.heap.size) := Lib.hid (Nat.le_trans X0Z_8.out hb.size)
  have X1_9 := Lib.hid (X1_8.out.later elemT hb (Nat.le_refl _))
  have X1Z_9 : Hid (w4.heap.size ≤ w9.heap.size) := Lib.hid (Nat.le_trans X1Z_8.out hb.size)
  have G0_9 := Lib.hid (G0_8.out.later elemT hb (Nat.le_refl _))
  have GZ_9 : Hid (w5.heap.size ≤ w9.heap.size) := Lib.hid (Nat.le_trans GZ_8.out hb.size)
  clear EC0 W0_8 X0_8 X0Z_8 X1_8 X1Z_8 G0_8 GZ_8 HB8 hb
  dsimp only
  go_wp2_with fail
  refine toT_any _ L1 _ (HH1.out.later HB9.out (Nat.le_refl _)) HP1.out.1 _ ?_
  intro v w10 hv hb
  obtain ⟨a10, n10, c10, rfl, hv'⟩ := hv.op
  have EC1 := Lib.hid hv'
  clear hv
  have HB10 : Hid (Below w.heap.size w w10) := Lib.hid (HB9.out.trans (hb.mono HB9.out.size))
  have W0_10 := Lib.hid (W0_9.out.later elemT hb (Nat.le_refl _))
  have X0_10 := Lib.hid (X0_9.out.later elemT hb (Nat.le_refl _))
  have X0Z_10 : Hid (w3.heap.size ≤ w10.heap.size) := Lib.hid (Nat.le_trans X0Z_9.out hb.size)
  have X1_10 := Lib.hid (X1_9.out.later elemT hb (Nat.le_refl _))
  have X1Z_10 : Hid (w4.heap.size ≤ w10.heap.size) := Lib.hid (Nat.le_trans X1Z_9.out hb.size)
  have G0_10 := Lib.hid (G0_9.out.later elemT hb (Nat.le_refl _))
  have GZ_10 : Hid (w5.heap.size ≤ w10.heap.size) := Lib.hid (Nat.le_trans GZ_9.out hb.size)
  clear W0_9 X0_9 X0Z_9 X1_9 X1Z_9 G0_9 GZ_9 HB9 hb hv'
  dsimp only
  go_wp2_with fail
  refine eqT_any _ _ L1 L1 _ X1_10.out.tx EC1.out (Nat.le_trans HP1.out.1 (by omega)) (Nat.le_trans HP1.out.1 (by omega)) _ ?_
  intro w11 hb
  rw [decide_eq_true rfl]
  have HB11 : Hid (Below w.heap.size w w11) := Lib.hid (HB10.out.trans (hb.mono HB10.out.size))
  have W0_11 := Lib.hid (W0_10.out.later elemT hb (Nat.le_refl _))
  have X0_11 := Lib.hid (X0_10.out.later elemT hb (Nat.le_refl _))
  have X0Z_11 : Hid (w3.heap.size ≤ w11.heap.size) := Lib.hid (Nat.le_trans X0Z_10.out hb.size)
  have X1_11 := Lib.hid (X1_10.out.later elemT hb (Nat.le_refl _))
  have X1Z_11 : Hid (w4.heap.size ≤ w11.heap.size) := Lib.hid (Nat.le_trans X1Z_10.out hb.size)
  have G0_11 := Lib.hid (G0_10.out.later elemT hb (Nat.le_refl _))
  have GZ_11 : Hid (w5.heap.size ≤ w11.heap.size) := Lib.hid (Nat.le_trans GZ_10.out hb.size)
  clear EC1 W0_10 X0_10 X0Z_10 X1_10 X1Z_10 G0_10 GZ_10 HB10 hb
  dsimp only
  go_wp2_with fail
  refine mark_any _ L0 1 _ _ X0_11.out (Nat.le_trans HP0.out.1 (by omega)) (by omega) _ ?_
  intro w12 hv hb
  obtain ⟨k0, hk0⟩ : ∃ k0, k0 = 1 + L0.length := ⟨_, rfl⟩
  rw [← hk0]
  have HK0 : Hid (k0 ≤ 1000000000) := Lib.hid (by have := HP0.out.1; omega)
  have HKB0 : Hid (k0 ≤ 1 * 1048576 + 1) := Lib.hid (by have := HP0.out.1; omega)
  have hbel := hb.below (fun g hg => X0_11.out.base g hg) X0Z_11.out
  have W0_12 := Lib.hid (W0_11.out.butO hb (fun g hg hc => by have h1 := W0U.out g hg; have h2 := X0_11.out.base g hc; have h3 := WX0.out; omega))
  have X0Z_12 : Hid (w3.heap.size ≤ w12.heap.size) := Lib.hid (Nat.le_trans X0Z_11.out hb.size)
  have X1_12 := Lib.hid (X1_11.out.butO hb (fun g hg hc => by have h1 := X1_11.out.base g hg; have h2 := X0U.out g hc; have h3 := XX01.out; omega))
  have X1Z_12 : Hid (w4.heap.size ≤ w12.heap.size) := Lib.hid (Nat.le_trans X1Z_11.out hb.size)
  have G0_12 := Lib.hid (G0_11.out.butO hb (fun g hg hc => by have h1 := G0_11.out.base g hg; have h2 := X0U.out g hc; have h3 := XG0.out; omega))
  have GZ_12 : Hid (w5.heap.size ≤ w12.heap.size) := Lib.hid (Nat.le_trans GZ_11.out hb.size)
  have HB12 : Hid (Below w.heap.size w w12) := Lib.hid (HB11.out.trans (hbel.mono BX0.out))
  clear W0_11 X0_11 X0Z_11 X1_11 X1Z_11 G0_11 GZ_11 HB11 hv hb hbel hk0
  dsimp only
  go_wp2_with fail
  refine mark_any _ L1 k0 _ _ X1_12.out (Nat.le_trans HP1.out.1 (by omega)) HK0.out _ ?_
  intro w13 hv hb
  obtain ⟨k1, hk1⟩ : ∃ k1, k1 = k0 + L1.length := ⟨_, rfl⟩
  rw [← hk1]
  have d0 : ¬ ((k1 : Int) < 0) := by omega
  have HK1 : Hid (k1 ≤ 1000000000) := Lib.hid (by have := HP1.out.1; have := HKB0.out; omega)
  have HKB1 : Hid (k1 ≤ 2 * 1048576 + 1) := Lib.hid (by have := HP1.out.1; have := HKB0.out; omega)
  have hbel := hb.below (fun g hg => X1_12.out.base g hg) X1Z_12.out
  have W0_13 := Lib.hid (W0_12.out.butO hb (fun g hg hc => by have h1 := W0U.out g hg; have h2 := X1_12.out.base g hc; have h3 := WX1.out; omega))
  have X0Z_13 : Hid (w3.heap.size ≤ w13.heap.size) := Lib.hid (Nat.le_trans X0Z_12.out hb.size)
  have X1Z_13 : Hid (w4.heap.size ≤ w13.heap.size) := Lib.hid (Nat.le_trans X1Z_12.out hb.size)
  have G0_13 := Lib.hid (G0_12.out.butO hb (fun g hg hc => by have h1 := G0_12.out.base g hg; have h2 := X1U.out g hc; have h3 := XG1.out; omega))
  have GZ_13 : Hid (w5.heap.size ≤ w13.heap.size) := Lib.hid (Nat.le_trans GZ_12.out hb.size)
  have HB13 : Hid (Below w.heap.size w w13) := Lib.hid (HB12.out.trans (hbel.mono BX1.out))
  clear W0_12 X0Z_12 X1_12 X1Z_12 G0_12 GZ_12 HB12 hv hb hbel hk1
  dsimp only
  go_wp2_with fail
  refine eqT_any _ _ (mulpL L0 L1) (mulpL L0 L1) _ G0_13.out.tx W0_13.out.tx (Nat.le_trans HSM.out (by omega)) (Nat.le_trans HSM.out (by omega)) _ ?_
  intro w14 hb
  rw [decide_eq_true rfl]
  have HB14 : Hid (Below w.heap.size w w14) := Lib.hid (HB13.out.trans (hb.mono HB13.out.size))
  have W0_14 := Lib.hid (W0_13.out.later elemT hb (Nat.le_refl _))
  have X0Z_14 : Hid (w3.heap.size ≤ w14.heap.size) := Lib.hid (Nat.le_trans X0Z_13.out hb.size)
  have X1Z_14 : Hid (w4.heap.size ≤ w14.heap.size) := Lib.hid (Nat.le_trans X1Z_13.out hb.size)
  have G0_14 := Lib.hid (G0_13.out.later elemT hb (Nat.le_refl _))
  have GZ_14 : Hid (w5.heap.size ≤ w14.heap.size) := Lib.hid (Nat.le_trans GZ_13.out hb.size)
  clear W0_13 X0Z_13 X1Z_13 G0_13 GZ_13 HB13 hb
  dsimp only
  go_wp2_with fail
  refine mark_any _ (mulpL L0 L1) 1 _ _ G0_14.out (Nat.le_trans HSM.out (by omega)) (by omega) _ ?_
  intro w15 hv hb
  obtain ⟨kg, hkg⟩ : ∃ kg, kg = 1 + (mulpL L0 L1).length := ⟨_, rfl⟩
  have HKG := Lib.hid hkg
  rw [← hkg]
  have d1 : ¬ ((kg : Int) < 0) := by omega
  have d2 : ((kg : Int) != (kg : Int)) = false := by simp
  have hbel := hb.below (fun g hg => G0_14.out.base g hg) GZ_14.out
  have GM := Lib.hid hv.tx
  have W0_15 := Lib.hid (W0_14.out.butO hb (fun g hg hc => by have h1 := W0U.out g hg; have h2 := G0_14.out.base g hc; have h3 := WG.out; omega))
  have HB15 : Hid (Below w.heap.size w w15) := Lib.hid (HB14.out.trans (hbel.mono BG.out))
  clear W0_14 X0Z_14 X1Z_14 G0_14 GZ_14 HB14 hv hb hbel hkg
  dsimp only
  go_wp2_with fail
  refine held_any _ 1 (mulpL L0 L1).length _ GM.out (Nat.le_trans HSM.out (by omega)) (by omega) _ ?_
  intro w16 hb
  rw [← HKG.out]
  have HB16 : Hid (Below w.heap.size w w16) := Lib.hid (HB15.out.trans (hb.mono HB15.out.size))
  have W0_16 := Lib.hid (W0_15.out.later elemT hb (Nat.le_refl _))
  have GM_16 := Lib.hid (TxL.later GM.out hb (Nat.le_refl _))
  clear W0_15 GM HB15 hb
  dsimp only
  go_wp2_with fail
  refine toT_any _ L0 _ (HH0.out.later HB16.out (Nat.le_refl _)) HP0.out.1 _ ?_
  intro v w17 hv hb
  obtain ⟨a17, n17, c17, rfl, hv'⟩ := hv.op
  have HC0 := Lib.hid hv'
  clear hv
  have HB17 : Hid (Below w.heap.size w w17) := Lib.hid (HB16.out.trans (hb.mono HB16.out.size))
  have W0_17 := Lib.hid (W0_16.out.later elemT hb (Nat.le_refl _))
  have GM_17 := Lib.hid (TxL.later GM_16.out hb (Nat.le_refl _))
  clear W0_16 GM_16 HB16 hb hv'
  dsimp only
  go_wp2_with fail
  refine toT_any _ L1 _ (HH1.out.later HB17.out (Nat.le_refl _)) HP1.out.1 _ ?_
  intro v w18 hv hb
  obtain ⟨a18, n18, c18, rfl, hv'⟩ := hv.op
  have HC1 := Lib.hid hv'
  clear hv
  have HB18 : Hid (Below w.heap.size w w18) := Lib.hid (HB17.out.trans (hb.mono HB17.out.size))
  have W0_18 := Lib.hid (W0_17.out.later elemT hb (Nat.le_refl _))
  have GM_18 := Lib.hid (TxL.later GM_17.out hb (Nat.le_refl _))
  have HC0_18 := Lib.hid (TxL.later HC0.out hb (Nat.le_refl _))
  clear W0_17 GM_17 HC0 HB17 hb hv'
  dsimp only
  go_wp2_with fail
  refine impl_mulp _ L0 _ L1 _ (HE.out.later HB18.out (Nat.le_refl _)) (tab_later HTAB.out HB18.out (Nat.le_refl _)) HC0_18.out HP0.out.1 HC1.out HP1.out.1 _ ?_
  intro v w19 hv hb
  rw [← HBQ.out]
  obtain ⟨a19, n19, c19, rfl, esh⟩ := hv.shape
  clear esh
  have H0 := Lib.hid hv
  have H0U : Hid (∀ g, (Value.slice a19 n19 c19).ownBlock = some g → g < w19.heap.size) := Lib.hid hv.own_lt
  have HB19 : Hid (Below w.heap.size w w19) := Lib.hid (HB18.out.trans (hb.mono HB18.out.size))
  have W0_19 := Lib.hid (W0_18.out.later elemT hb (Nat.le_refl _))
  have GM_19 := Lib.hid (TxL.later GM_18.out hb (Nat.le_refl _))
  clear HC0_18 HC1 W0_18 GM_18 HB18 hb hv
  dsimp only
  go_wp2_with fail
  refine eqT_any _ _ (mulpL L0 L1) (mulpL L0 L1) _ H0.out.tx W0_19.out.tx (Nat.le_trans HSM.out (by omega)) (Nat.le_trans HSM.out (by omega)) _ ?_
  intro w20 hb
  rw [decide_eq_true rfl]
  have HB20 : Hid (Below w.heap.size w w20) := Lib.hid (HB19.out.trans (hb.mono HB19.out.size))
  have W0_20 := Lib.hid (W0_19.out.later elemT hb (Nat.le_refl _))
  have GM_20 := Lib.hid (TxL.later GM_19.out hb (Nat.le_refl _))
  have H0_20 := Lib.hid (H0.out.later elemT hb (Nat.le_refl _))
  clear W0_19 GM_19 H0 HB19 hb
  dsimp only
  go_wp2_with fail
  refine held_any _ 1 (mulpL L0 L1).length _ GM_20.out (Nat.le_trans HSM.out (by omega)) (by omega) _ ?_
  intro w21 hb
  rw [← HKG.out]
  have HB21 : Hid (Below w.heap.size w w21) := Lib.hid (HB20.out.trans (hb.mono HB20.out.size))
  have W0_21 := Lib.hid (W0_20.out.later elemT hb (Nat.le_refl _))
  have GM_21 := Lib.hid (TxL.later GM_20.out hb (Nat.le_refl _))
  have H0_21 := Lib.hid (H0_20.out.later elemT hb (Nat.le_refl _))
  clear W0_20 GM_20 H0_20 HB20 hb
  dsimp only
  go_wp2
  first | go_ret | skip
  exact HR.out _ HB21.out
end Go.Proofs.YtegdcmcfeaohhaaGreatDoor
