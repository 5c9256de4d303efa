/- Contracts of functions of the program and of the model: DotI, Set4, SumS, DotS, DotQ, NumsB, LawDot. -/
import Derived.Test.YtpblpdcdhgjecaaGreatDoorPk8
import Derived.Deep.RegionLaw
set_option linter.all false
set_option linter.unusedVariables false
set_option linter.unusedSimpArgs false
set_option linter.unnecessarySimpa false
set_option linter.deprecated false
namespace Go.Proofs.YtpblpdcdhgjecaaGreatDoor
open Go Go.RowKit

/-- the sum of the products of two lists -/
def dotQ (l m : List Rat) : Rat := sumQ (List.zipWith (· * ·) l m)
theorem dotQ_nil : dotQ [] [] = 0 := rfl
theorem dotQ_take {l m : List Rat} {k : Nat} {q r : Rat} (hl : l[k]? = some q) (hm : m[k]? = some r) : dotQ (l.take (k + 1)) (m.take (k + 1)) = dotQ (l.take k) (m.take k) + q * r := by
  unfold dotQ
  rw [List.zipWith_take_both, List.zipWith_take_both]
  refine sumQ_take ?_
  rw [List.getElem?_zipWith, hl, hm]
where
  List.zipWith_take_both : ∀ {l m : List Rat} {k : Nat}, List.zipWith (· * ·) (l.take k) (m.take k) = (List.zipWith (· * ·) l m).take k := by
    intro l m k
    exact List.take_zipWith.symm

/-- what is told of two lists -/
noncomputable def dotO (L M : List ByteArray) : Option Rat := if ((decide (L.length ≤ 60) && L.all isNum) && (decide (M.length ≤ 60) && M.all isNum) && decide (L.length = M.length)) = true then some (dotQ (L.map qOf) (M.map qOf)) else none

/-- the loop of the program's sum -/
def DotRel (w1 : World) (n : Nat) (qs rs : List Rat) (i : Value) (wr : World) : Prop :=
  ∃ k m a5 n5 c5 a6 n6 c6, i = .int .i64 ((k : Nat) : Int) ∧ k ≤ n ∧ Box3 wr w1.heap.size (.bool m) (.slice a5 n5 c5) (.slice a6 n6 c6) 72 ∧ IsR wr (.agg #[.bool m, .slice a5 n5 c5, .slice a6 n6 c6]) (dotQ (qs.take k) (rs.take k)) ∧
    Bd (121 * k + 1) (dotQ (qs.take k) (rs.take k)) ∧ Below w1.heap.size w1 wr

set_option maxRecDepth 100000 in
set_option maxHeartbeats 4000000 in
theorem impl_dot (v v' : Value) (L M : List ByteArray) (w : World) (hE : Env w) (htab : Lib.TabIs Tryz.prog w "internal/strconv.uint64pow10" .u64 Lib.pow10Tab) (h : TxL w v L) (h2 : TxL w v' M) (hn : L.length ≤ 1048576) (hn2 : M.length ≤ 1048576) (R : Ending → World → Prop)
    (hR : ∀ w', Below w.heap.size w w' → R (.returned (.tuple #[.string (outS (dotO L M)), .bool (outB (dotO L M))])) w') :
    Calls Tryz.prog 24 #[v, v'] w R := by
  have HR := Lib.hid hR; clear hR
  have HE := Lib.hid hE
  have HTAB := Lib.hid htab
  obtain ⟨a0, n0, c0, rfl, h'⟩ := h.op
  obtain ⟨a9, n9, c9, rfl, h2'⟩ := h2.op
  have HH := Lib.hid h'
  have HM := Lib.hid h2'
  have HN := Lib.hid (And.intro hn hn2)
  clear hE htab h h' hn h2 h2' hn2
  go_enter Tryz.func24, Tryz.ntmps24
  go_wp2_with fail
  refine readrs_own _ L _ HE.out HH.out HN.out.1 _ ?_ ?_
  · intro v1 w1 h60 hall hown hb1
    have HG1 := Lib.hid (show (decide (L.length ≤ 60) && L.all isNum) = true by rw [Bool.and_eq_true]; exact ⟨decide_eq_true h60, hall⟩)
    have HBD := Lib.hid (allBd_of hall)
    obtain ⟨qs, hqs⟩ : ∃ qs, qs = L.map qOf := ⟨_, rfl⟩
    have HQL := Lib.hid (show qs.length = L.length by rw [hqs, List.length_map])
    have HQS := Lib.hid hqs
    rw [← hqs] at hown HBD
    have hsl := hown.sl
    obtain ⟨a1, n1, c1, rfl, hn1, hc1, hsl'⟩ := hsl.open
    have HSL := Lib.hid hsl'
    have HN1 := Lib.hid hn1
    have HB1 := Lib.hid hb1
    have hn60 : n1 ≤ 60 := by have := HQL.out; omega
    clear hqs h60 hall hown hsl hsl' hn1 hb1 hc1
    dsimp only
    go_wp2_with fail
    refine readrs_own _ M _ (HE.out.later HB1.out (Nat.le_refl _)) (HM.out.later HB1.out (Nat.le_refl _)) HN.out.2 _ ?_ ?_
    · intro v3 w3 h60 hall hown hb3
      have HG2 := Lib.hid (show (decide (M.length ≤ 60) && M.all isNum) = true by rw [Bool.and_eq_true]; exact ⟨decide_eq_true h60, hall⟩)
      have HBE := Lib.hid (allBd_of hall)
      obtain ⟨rs, hrs⟩ : ∃ rs, rs = M.map qOf := ⟨_, rfl⟩
      have HRL := Lib.hid (show rs.length = M.length by rw [hrs, List.length_map])
      have HRS := Lib.hid hrs
      rw [← hrs] at hown HBE
      have hsl := hown.sl
      obtain ⟨a3, n3, c3, rfl, hn3, hc3, hsl'⟩ := hsl.open
      have HSM := Lib.hid hsl'
      have HN3 := Lib.hid hn3
      have HB3 := Lib.hid (HB1.out.trans (hb3.mono HB1.out.size))
      have HSL3 := Lib.hid (HSL.out.later elemR hb3 (Nat.le_refl _))
      have hm60 : n3 ≤ 60 := by have := HRL.out; omega
      clear hrs h60 hall hown hsl hsl' hn3 hb3 hc3
      by_cases hnm : n1 = n3
      · have hO : dotO L M = some (dotQ qs rs) := by
          unfold dotO
          rw [HG1.out, HG2.out, decide_eq_true (show L.length = M.length by rw [← HQL.out, ← HRL.out, ← HN1.out, ← HN3.out]; exact hnm), HQS.out, HRS.out]; rfl
        rw [hO] at HR
        have t1 : ((n1 : Int) != (n3 : Int)) = false := by rw [hnm]; simp
        subst hnm
        clear hO
        dsimp only
        go_wp2_with fail
        refine ratioOf_any _ 0 _ (IsI.nil _) _ ?_
        intro v2 w2 hr2 hb2
        obtain ⟨m0, a5, n5, c5, a6, n6, c6, hm0, rfl, hx1, hx2⟩ := hr2.parts
        obtain ⟨W, hW⟩ : ∃ W, W = w2.alloc (.cells #[.bool m0, .slice a5 n5 c5, .slice a6 n6 c6] 72) := ⟨_, rfl⟩
        have HW := Lib.hid hW
        have hbW : Below w2.heap.size w2 W := by rw [hW]; exact (Below.refl _ _).alloc (Nat.le_refl _) _
        have HSL2 := Lib.hid (HSL3.out.later elemR hb2 (Nat.le_refl _))
        have HSM2 := Lib.hid (HSM.out.later elemR hb2 (Nat.le_refl _))
        have HB2 := Lib.hid (HB3.out.trans (hb2.mono HB3.out.size))
        have HST : Hid (DotRel w2 n1 qs rs (.int .i64 0) W) := Lib.hid ⟨0, m0, a5, n5, c5, a6, n6, c6, rfl, Nat.zero_le _, by rw [hW]; exact Box3.made _ _ _ _ _, by rw [List.take_zero, List.take_zero, dotQ_nil]; exact hr2.later hbW (Nat.le_refl _), by rw [List.take_zero, List.take_zero, dotQ_nil]; exact Bd.zero, hbW⟩
        clear hr2 hb2 hm0 hx1 hx2 hW hbW
        dsimp only
        go_wp2_with fail
        rw [← HW.out]
        go_loopw [37] (fun i wr => DotRel w2 n1 qs rs i wr) (fun i _ => n1 - (intOf i).toNat)
        case atStart => exact HST.out
        case round =>
          clear HST
          obtain ⟨k, m, a7, n7, c7, a8, n8, c8, rfl, hk, hbox, hr, hbd, hbel⟩ := hrel
          have HBOX := Lib.hid hbox
          have HRR := Lib.hid hr
          have HBDK := Lib.hid hbd
          have HB := Lib.hid hbel
          clear hr hbd
          by_cases hkn : k = n1
          · subst hkn
            have he : qs.take k = qs := by rw [HN1.out, List.take_length]
            have he2 : rs.take k = rs := by rw [HN3.out, List.take_length]
            rw [he, he2] at HRR
            obtain ⟨⟨hP0, hP1, hP2⟩, _, _, _⟩ := HBOX.out.cells
            have HB3 := Lib.hid (HB2.out.trans (hbel.mono HB2.out.size))
            clear he he2 hbox hbel
            go_wp2_with fail
            refine rtext_o _ (dotQ qs rs) _ HRR.out (tab_later HTAB.out HB3.out (Nat.le_refl _)) _ ?_
            intro w3 hb3
            have HB4 := Lib.hid (HB3.out.trans (hb3.mono HB3.out.size))
            obtain ⟨S, hS⟩ : ∃ S, S = outS (some (dotQ qs rs)) := ⟨_, rfl⟩
            obtain ⟨B, hB⟩ : ∃ B, B = outB (some (dotQ qs rs)) := ⟨_, rfl⟩
            rw [← hS, ← hB] at HR ⊢
            clear hS hB hb3
            dsimp only
            go_wp2
            first | go_ret | skip
            exact HR.out _ HB4.out
          · have hkl : k < n1 := by omega
            obtain ⟨q, hq⟩ : ∃ q, qs[k]? = some q := ⟨_, List.getElem?_eq_getElem (by rw [← HN1.out]; exact hkl)⟩
            obtain ⟨r, hr⟩ : ∃ r, rs[k]? = some r := ⟨_, List.getElem?_eq_getElem (by rw [← HN3.out]; exact hkl)⟩
            have HQ := Lib.hid hq
            have HRQ := Lib.hid hr
            have HBQ := Lib.hid (HBD.out k q hq)
            have HBR := Lib.hid (HBE.out k r hr)
            obtain ⟨b, off, cs, rfl, hb, hcell, hE⟩ := HSL2.out.at k q hq
            obtain ⟨b2, off2, cs2, rfl, hb2, hcell2, hE2⟩ := HSM2.out.at k r hr
            obtain ⟨x1, y1, z1, x2, y2, z2, hcs, hi1, hi2⟩ := hE
            obtain ⟨x3, y3, z3, x4, y4, z4, hcs2, hi3, hi4⟩ := hE2
            obtain ⟨ng, hng⟩ : ∃ ng, ng = decide (q.num < 0) := ⟨_, rfl⟩
            obtain ⟨mg, hmg⟩ : ∃ mg, mg = decide (r.num < 0) := ⟨_, rfl⟩
            rw [← hng] at hcs
            rw [← hmg] at hcs2
            have hd0 : wr.cell? ⟨b, off + k * 3, none⟩ = some (.bool ng) := by rw [hbel.cell (p := ⟨b, off + k * 3, none⟩) hb]; exact hcell 0 _ (by rw [hcs]; rfl)
            have hd1 : wr.cell? ⟨b, off + k * 3 + 1, none⟩ = some (.slice x1 y1 z1) := by rw [hbel.cell (p := ⟨b, off + k * 3 + 1, none⟩) hb]; exact hcell 1 _ (by rw [hcs]; rfl)
            have hd2 : wr.cell? ⟨b, off + k * 3 + 2, none⟩ = some (.slice x2 y2 z2) := by rw [hbel.cell (p := ⟨b, off + k * 3 + 2, none⟩) hb]; exact hcell 2 _ (by rw [hcs]; rfl)
            have HX : Hid (IsR w2 (.agg #[.bool ng, .slice x1 y1 z1, .slice x2 y2 z2]) q) := Lib.hid ⟨_, _, by rw [hng], hi1, hi2⟩
            have HY : Hid (IsR w2 (.agg #[.bool mg, .slice x3 y3 z3, .slice x4 y4 z4]) r) := Lib.hid ⟨_, _, by rw [hmg], hi3, hi4⟩
            have hw1 : IntKind.i64.wrap ((k : Int) + 1) = ((k + 1 : Nat) : Int) := by rw [IntWalk.i64_in _ (by omega)]; omega
            obtain ⟨V, hV⟩ : ∃ V, V = wr.alloc (.cells #[.bool ng, .slice x1 y1 z1, .slice x2 y2 z2] 72) := ⟨_, rfl⟩
            have hbV : Below wr.heap.size wr V := by rw [hV]; exact (Below.refl _ _).alloc (Nat.le_refl _) _
            have HBV : Hid (Below w2.heap.size w2 V) := Lib.hid (hbel.trans (hbV.mono hbel.size))
            have HKB := Lib.hid (HBOX.out.later hbV (lt_of_block HBOX.out))
            have HKX : Hid (Box3 V wr.heap.size (.bool ng) (.slice x1 y1 z1) (.slice x2 y2 z2) 72) := Lib.hid (by rw [hV]; exact Box3.made _ _ _ _ _)
            have HXV := Lib.hid (HX.out.later HBV.out (Nat.le_refl _))
            have HYV := Lib.hid (HY.out.later HBV.out (Nat.le_refl _))
            have HRV := Lib.hid (HRR.out.later hbV (Nat.le_refl _))
            have HV := Lib.hid hV
            have HL1 := Lib.hid (HBDK.out.len (B := W64) (by rw [W64_eq]; omega))
            have HL2 := Lib.hid (HBQ.out.len (B := W64) (by rw [W64_eq]; omega))
            have HL3 := Lib.hid (HBR.out.len (B := W64) (by rw [W64_eq]; omega))
            have HL4 := Lib.hid ((HBQ.out.mul HBR.out).len (B := W64) (by rw [W64_eq]; omega))
            have hk60 : k < 60 := by omega
            have HKL := Lib.hid hkl
            have hi0 : (0 : Int) ≤ (k : Int) := by omega
            have hi1 : (k : Int) < (n1 : Int) := by omega
            have HD2 : Hid (wr.heap.size < V.heap.size) := Lib.hid (lt_of_block HKX.out)
            have hy0 : V.cell? ⟨b2, off2 + k * 3, none⟩ = some (.bool mg) := by rw [HBV.out.cell (p := ⟨b2, off2 + k * 3, none⟩) hb2]; exact hcell2 0 _ (by rw [hcs2]; rfl)
            have hy1 : V.cell? ⟨b2, off2 + k * 3 + 1, none⟩ = some (.slice x3 y3 z3) := by rw [HBV.out.cell (p := ⟨b2, off2 + k * 3 + 1, none⟩) hb2]; exact hcell2 1 _ (by rw [hcs2]; rfl)
            have hy2 : V.cell? ⟨b2, off2 + k * 3 + 2, none⟩ = some (.slice x4 y4 z4) := by rw [HBV.out.cell (p := ⟨b2, off2 + k * 3 + 2, none⟩) hb2]; exact hcell2 2 _ (by rw [hcs2]; rfl)
            clear hq hr hcell hcs hcell2 hcs2 hi2 hi3 hi4 hng hmg hV hbV hbox hbel hkn
            go_wp2_with fail
            rw [← HV.out]
            clear hd0 hd1 hd2
            obtain ⟨⟨hP0, hP1, hP2⟩, _, _, _⟩ := HKB.out.cells
            obtain ⟨⟨hX0, hX1, hX2⟩, _, _, _⟩ := HKX.out.cells
            go_region_law (first
              | (have hguard := HB5; go_simp; go_at_call 54; refine rplus_any _ _ (dotQ (qs.take k) (rs.take k)) (q * r) _ (HRV.out.later HB5.out (Nat.le_refl _)) HV5.out (Nat.le_trans HL1.out.1 (by omega)) (Nat.le_trans HL1.out.2 (by omega)) (Nat.le_trans HL4.out.1 (by omega)) (Nat.le_trans HL4.out.2 (by omega)) _ ?_; rw [← dotQ_take HQ.out HRQ.out]; intro v6 w6 hv6 hb6; obtain ⟨m6, a10, n10, c10, a11, n11, c11, hm6, rfl, _, _⟩ := hv6.parts; have HV6 := Lib.hid hv6; have HB6 := Lib.hid (HB5.out.trans (hb6.mono HB5.out.size)); have k6 := HKB.out.later HB6.out (lt_of_block HKB.out); obtain ⟨⟨hT0, hT1, hT2⟩, hT3, hT4, hT5⟩ := k6.cells; have HK6 := Lib.hid k6; clear hguard hm6 hv6 hb6 k6; dsimp only)
              | (go_simp; go_at_call 64; refine rtimes_any _ _ q r _ (HXV.out.later (Below.refl _ _).drew (Nat.le_refl _)) (HYV.out.later (Below.refl _ _).drew (Nat.le_refl _)) (Nat.le_trans HL2.out.1 (by omega)) (Nat.le_trans HL2.out.2 (by omega)) (Nat.le_trans HL3.out.1 (by omega)) (Nat.le_trans HL3.out.2 (by omega)) _ ?_; intro v5 w5 hv5 hb5; obtain ⟨m5, a12, n12, c12, a13, n13, c13, hm5, rfl, _, _⟩ := hv5.parts; have HV5 := Lib.hid hv5; have HB5 : Hid (Below V.heap.size V w5) := Lib.hid (below_unDrew hb5); have k5 := HKB.out.later HB5.out (lt_of_block HKB.out); obtain ⟨⟨hS0, hS1, hS2⟩, _, _, _⟩ := k5.cells; clear hm5 hv5 hb5 k5; dsimp only))
            all_goals
              have HNI := Lib.hid (HK6.out.noInt rfl rfl rfl)
              have HBD6 : Hid (Bd (121 * (k + 1) + 1) (dotQ (qs.take (k + 1)) (rs.take (k + 1)))) := Lib.hid (by
                rw [dotQ_take HQ.out HRQ.out]
                exact (HBDK.out.add (HBQ.out.mul HBR.out)).mono (by omega))
              have HREL : Hid (DotRel w2 n1 qs rs (.int .i64 ((k + 1 : Nat) : Int)) (((w6.setCell ⟨w2.heap.size, 0, none⟩ (.bool m6)).setCell ⟨w2.heap.size, 1, none⟩ (.slice a10 n10 c10)).setCell ⟨w2.heap.size, 2, none⟩ (.slice a11 n11 c11))) := Lib.hid
                ⟨k + 1, m6, a10, n10, c10, a11, n11, c11, rfl, HKL.out, HK6.out.set012 _ _ _, HV6.out.set3 HNI.out _ _ _ rfl rfl, HBD6.out, below_set3 (HBV.out.trans (HB6.out.mono HBV.out.size)) (Nat.le_refl _) _ _ _⟩
              go_wp2
              go_roundw
              case rel => exact HREL.out
              case measure => simp [intOf]; have := HKL.out; omega
      · have hO : dotO L M = none := by
          unfold dotO
          rw [HG1.out, HG2.out, decide_eq_false (show ¬ L.length = M.length by rw [← HQL.out, ← HRL.out, ← HN1.out, ← HN3.out]; exact hnm)]; rfl
        rw [hO] at HR
        have t1 : ((n1 : Int) != (n3 : Int)) = true := by rw [bne_iff_ne]; omega
        have HF := Lib.hid (HR.out w3 HB3.out)
        clear hO hnm
        dsimp only
        go_wp2
        first | go_ret | skip
        exact HF.out
    · intro e w3 hnone he hb3
      obtain ⟨t, p, rfl⟩ := he
      have hO : dotO L M = none := by unfold dotO; rw [hnone, Bool.and_false, Bool.false_and]; rfl
      rw [hO] at HR
      have HF := Lib.hid (HR.out w3 (HB1.out.trans (hb3.mono HB1.out.size)))
      clear hb3 hnone hO
      dsimp only
      go_wp2
      first | go_ret | skip
      exact HF.out
  · intro e w1 hnone he hb1
    obtain ⟨t, p, rfl⟩ := he
    have hO : dotO L M = none := by unfold dotO; rw [hnone, Bool.false_and, Bool.false_and]; rfl
    rw [hO] at HR
    have HF := Lib.hid (HR.out w1 hb1)
    clear hb1 hnone hO
    dsimp only
    go_wp2
    first | go_ret | skip
    exact HF.out
end Go.Proofs.YtpblpdcdhgjecaaGreatDoor

namespace Go.Proofs.YtpblpdcdhgjecaaGreatDoor
open Go Go.RowKit

theorem IsZ.set4 {w : World} {v : Value} {z : Int} (h : IsZ w v z) {b : Nat} (hb : NoInt w b) (y0 y1 y2 y3 : Value) (h0 : notInt y0 = true) (h1 : notInt y1 = true) (h2 : notInt y2 = true) :
    IsZ ((((w.setCell ⟨b, 0, none⟩ y0).setCell ⟨b, 1, none⟩ y1).setCell ⟨b, 2, none⟩ y2).setCell ⟨b, 3, none⟩ y3) v z := by
  obtain ⟨s, e, hs⟩ := h
  exact ⟨s, e, (((hs.set hb 0 y0).set (hb.set 0 _ h0) 1 y1).set ((hb.set 0 _ h0).set 1 _ h1) 2 y2).set (((hb.set 0 _ h0).set 1 _ h1).set 2 _ h2) 3 y3⟩

theorem IsQ.set4 {w : World} {v : Value} {q : Rat} (h : IsQ w v q) {b : Nat} (hb : NoInt w b) (y0 y1 y2 y3 : Value) (h0 : notInt y0 = true) (h1 : notInt y1 = true) (h2 : notInt y2 = true) :
    IsQ ((((w.setCell ⟨b, 0, none⟩ y0).setCell ⟨b, 1, none⟩ y1).setCell ⟨b, 2, none⟩ y2).setCell ⟨b, 3, none⟩ y3) v q := by
  obtain ⟨s1, s2, e, k1, k2⟩ := h
  exact ⟨s1, s2, e, (((k1.set hb 0 y0).set (hb.set 0 _ h0) 1 y1).set ((hb.set 0 _ h0).set 1 _ h1) 2 y2).set (((hb.set 0 _ h0).set 1 _ h1).set 2 _ h2) 3 y3,
    (((k2.set hb 0 y0).set (hb.set 0 _ h0) 1 y1).set ((hb.set 0 _ h0).set 1 _ h1) 2 y2).set (((hb.set 0 _ h0).set 1 _ h1).set 2 _ h2) 3 y3⟩

end Go.Proofs.YtpblpdcdhgjecaaGreatDoor

namespace Go.Proofs.YtpblpdcdhgjecaaGreatDoor
open Go Go.RowKit

/-- the loop of the model's sum -/
def SumRelS (w2 : World) (n : Nat) (qs : List Rat) (i : Value) (wr : World) : Prop :=
  ∃ k m1 a5 n5 c5 m2 a6 n6 c6, i = .int .i64 ((k : Nat) : Int) ∧ k ≤ n ∧ Box4 wr w2.heap.size (.bool m1) (.slice a5 n5 c5) (.bool m2) (.slice a6 n6 c6) 61 ∧ IsQ wr (.agg #[.bool m1, .slice a5 n5 c5, .bool m2, .slice a6 n6 c6]) (sumQ (qs.take k)) ∧
    Bd (61 * k + 1) (sumQ (qs.take k)) ∧ Below w2.heap.size w2 wr

theorem isNum_at {L : List ByteArray} (h : L.all isNum = true) {k : Nat} {s : ByteArray} (hs : L[k]? = some s) : numO s.data.toList = some (qOf s) :=
  isNum_some (List.all_eq_true.1 h s (List.mem_of_getElem? hs))

set_option maxRecDepth 100000 in
set_option maxHeartbeats 4000000 in
theorem spec_sum (v : Value) (L : List ByteArray) (w : World) (h : TxL w v L) (hn : L.length ≤ 1048576) (hs : ∀ s ∈ L, s.size ≤ 1048576) (R : Ending → World → Prop)
    (hR : ∀ w', Below w.heap.size w w' → R (.returned (.tuple #[.string (outS (sumO L)), .bool (outB (sumO L))])) w') :
    Calls Tryz.prog 19 #[v] w R := by
  have HR := Lib.hid hR; clear hR
  obtain ⟨a0, n0, c0, rfl, hn0, hc0, h'⟩ := h.open
  have HH := Lib.hid h'
  have HN0 := Lib.hid hn0
  have HSZ := Lib.hid (And.intro hn hs)
  clear h h' hn hn0 hc0 hs
  go_enter Tryz.func19, Tryz.ntmps19
  go_wp2_with fail
  refine isList_any _ L _ HH.out HSZ.out.1 HSZ.out.2 _ ?_
  intro w1 hb1
  have HB1 := Lib.hid hb1
  clear hb1
  cases hB : (decide (L.length ≤ 60) && L.all isNum) with
  | false =>
    have hO : sumO L = none := by unfold sumO; rw [if_neg (by rw [hB]; decide)]
    rw [hO] at HR
    clear hB hO
    dsimp only
    go_wp2
    first | go_ret | skip
    exact HR.out _ HB1.out
  | true =>
    have hO : sumO L = some (sumQ (L.map qOf)) := by unfold sumO; rw [if_pos hB]
    rw [hO] at HR
    rw [Bool.and_eq_true] at hB
    have hn60 : n0 ≤ 60 := by have := of_decide_eq_true hB.1; have := HN0.out; omega
    have HALL := Lib.hid hB.2
    have HBD := Lib.hid (allBd_of hB.2)
    clear hB hO
    dsimp only
    go_wp2_with fail
    refine int_any 0 _ (by omega) (by omega) _ ?_
    intro v2 w2 hq2 hb2
    obtain ⟨m1, a5, n5, c5, a6, n6, c6, rfl, _, _⟩ := hq2.parts
    obtain ⟨W, hW⟩ : ∃ W, W = w2.alloc (.cells #[.bool m1, .slice a5 n5 c5, .bool false, .slice a6 n6 c6] 61) := ⟨_, rfl⟩
    have HW := Lib.hid hW
    have hbW : Below w2.heap.size w2 W := by rw [hW]; exact (Below.refl _ _).alloc (Nat.le_refl _) _
    have HB2 := Lib.hid (HB1.out.trans (hb2.mono HB1.out.size))
    have HH2 := Lib.hid (HH.out.later HB2.out (Nat.le_refl _))
    have HST : Hid (SumRelS w2 n0 (L.map qOf) (.int .i64 0) W) := Lib.hid ⟨0, m1, a5, n5, c5, false, a6, n6, c6, rfl, Nat.zero_le _, by rw [hW]; exact Box4.made _ _ _ _ _ _, by rw [List.take_zero, sumQ_nil]; exact hq2.later hbW (Nat.le_refl _), by rw [List.take_zero, sumQ_nil]; exact Bd.zero, hbW⟩
    clear hq2 hb2 hW hbW
    dsimp only
    go_wp2_with fail
    rw [← HW.out]
    go_loopw [5] (fun i wr => SumRelS w2 n0 (L.map qOf) i wr) (fun i _ => n0 - (intOf i).toNat)
    case atStart => exact HST.out
    case round =>
      clear HST
      obtain ⟨k, m3, a7, n7, c7, m4, a8, n8, c8, rfl, hk, hbox, hq, hbd, hbel⟩ := hrel
      have HBOX := Lib.hid hbox
      have HQQ := Lib.hid hq
      have HBDK := Lib.hid hbd
      have HB := Lib.hid hbel
      obtain ⟨⟨hP0, hP1, hP2, hP3⟩, hF0, hF1, hF2, hF3⟩ := hbox.cells
      clear hq hbd hbox
      by_cases hkn : k = n0
      · subst hkn
        have he : (L.map qOf).take k = L.map qOf := by rw [HN0.out, ← List.length_map (f := qOf), List.take_length]
        rw [he] at HQQ HBDK
        have HB3 := Lib.hid (HB2.out.trans (hbel.mono HB2.out.size))
        have HLL := Lib.hid (HBDK.out.len (B := 10000) (by omega))
        clear he hbel
        go_wp2_with fail
        refine give_o _ (sumQ (L.map qOf)) _ HQQ.out (Nat.le_trans HLL.out.1 (by omega)) (Nat.le_trans HLL.out.2 (by omega)) _ ?_
        intro w3 hb3
        have HB4 := Lib.hid (HB3.out.trans (hb3.mono HB3.out.size))
        obtain ⟨S, hS⟩ : ∃ S, S = outS (some (sumQ (L.map qOf))) := ⟨_, rfl⟩
        obtain ⟨B, hB⟩ : ∃ B, B = outB (some (sumQ (L.map qOf))) := ⟨_, rfl⟩
        rw [← hS, ← hB] at HR ⊢
        clear hS hB hb3
        dsimp only
        go_wp2
        first | go_ret | skip
        exact HR.out _ HB4.out
      · have hkl : k < n0 := by omega
        obtain ⟨s, hs⟩ : ∃ s, L[k]? = some s := ⟨_, List.getElem?_eq_getElem (by rw [← HN0.out]; exact hkl)⟩
        have HS := Lib.hid (isNum_at HALL.out hs)
        have HQK : Hid ((L.map qOf)[k]? = some (qOf s)) := Lib.hid (by rw [List.getElem?_map, hs]; rfl)
        have HBQ := Lib.hid (HBD.out k _ HQK.out)
        obtain ⟨b, off, rfl, hb, hcell⟩ := TxL.at HH2.out k s hs
        rw [← hbel.cell (p := ⟨b, off + k, none⟩) hb] at hcell
        have hw1 : IntKind.i64.wrap ((k : Int) + 1) = ((k + 1 : Nat) : Int) := by rw [IntWalk.i64_in _ (by omega)]; omega
        have hk0 : (0 : Int) ≤ (k : Int) := by omega
        have hkn2 : (k : Int) < (n0 : Int) := by omega
        have HL1 := Lib.hid (HBDK.out.len (B := 10000) (by omega))
        have HL2 := Lib.hid (HBQ.out.len (B := 10000) (by omega))
        have HKL := Lib.hid hkl
        have hk60 : k < 60 := by omega
        obtain ⟨q, hq⟩ : ∃ q, q = qOf s := ⟨_, rfl⟩
        rw [← hq] at HS HQK HBQ HL2
        have HGW : Hid (w2.heap.size < wr.heap.size) := Lib.hid (lt_of_block HBOX.out)
        clear hs hbel hkn hq
        go_wp2_with fail
        go_region_law (first
          | (have hguard := HB3; go_simp; go_at_call 51; refine addQ_any _ _ (sumQ ((L.map qOf).take k)) q _ (HQQ.out.later HB3.out (Nat.le_refl _)) HV3.out (Nat.le_trans HL1.out.1 (by omega)) (Nat.le_trans HL1.out.2 (by omega)) (Nat.le_trans HL2.out.1 (by omega)) (Nat.le_trans HL2.out.2 (by omega)) _ ?_; rw [← sumQ_take HQK.out]; intro v4 w4 hv4 hb4; obtain ⟨m6, a10, n10, c10, a11, n11, c11, rfl, _, _⟩ := hv4.parts; have HV4 := Lib.hid hv4; have HB4 := Lib.hid (HB3.out.trans (hb4.mono HB3.out.size)); have k4 := HBOX.out.later HB4.out HGW.out; obtain ⟨⟨hT0, hT1, hT2, hT3⟩, hT4, hT5, hT6, hT7⟩ := k4.cells; have HK4 := Lib.hid k4; clear hguard hv4 hb4 k4; dsimp only)
          | (go_simp; go_at_call 52; refine ofq_any s q _ HS.out _ ?_; intro v3 w3 hv3 hb3; obtain ⟨m5, a9, n9, c9, a12, n12, c12, rfl, _, _⟩ := hv3.parts; have HV3 := Lib.hid hv3; have HB3 : Hid (Below wr.heap.size wr w3) := Lib.hid (by first | exact hb3 | exact below_ofDrew hb3); have k3 := HBOX.out.later HB3.out HGW.out; obtain ⟨⟨hR0, hR1, hR2, hR3⟩, _, _, _, _⟩ := k3.cells; clear hv3 hb3 k3; dsimp only))
        all_goals
          have HN4 := HK4.out.noInt rfl rfl rfl rfl
          have HBD4 : Hid (Bd (61 * (k + 1) + 1) (sumQ ((L.map qOf).take (k + 1)))) := Lib.hid (by
            rw [sumQ_take HQK.out]
            exact (HBDK.out.add HBQ.out).mono (by omega))
          have HREL : Hid (SumRelS w2 n0 (L.map qOf) (.int .i64 ((k + 1 : Nat) : Int)) ((((w4.setCell ⟨w2.heap.size, 0, none⟩ (.bool m6)).setCell ⟨w2.heap.size, 1, none⟩ (.slice a10 n10 c10)).setCell ⟨w2.heap.size, 2, none⟩ (.bool false)).setCell ⟨w2.heap.size, 3, none⟩ (.slice a11 n11 c11))) := Lib.hid
            ⟨k + 1, m6, a10, n10, c10, false, a11, n11, c11, rfl, HKL.out, HK4.out.set4 _ _ _ _, HV4.out.set4 HN4 _ _ _ _ rfl rfl rfl, HBD4.out,
              ((((HB.out.trans (HB4.out.mono (Nat.le_of_lt HGW.out))).setCell (Nat.le_refl _) _).setCell (Nat.le_refl _) _).setCell (Nat.le_refl _) _).setCell (Nat.le_refl _) _⟩
          clear HN4
          go_wp2
          go_roundw
          case rel => exact HREL.out
          case measure => simp [intOf]; have := HKL.out; omega
end Go.Proofs.YtpblpdcdhgjecaaGreatDoor

namespace Go.Proofs.YtpblpdcdhgjecaaGreatDoor
open Go Go.RowKit

/-- a fraction of the model as an element -/
def EQ (w : World) (cs : List Value) (q : Rat) : Prop := ∃ a1 n1 c1 a2 n2 c2, cs = [.bool (decide (q.num < 0)), .slice a1 n1 c1, .bool false, .slice a2 n2 c2] ∧ IsQ w (.agg #[.bool (decide (q.num < 0)), .slice a1 n1 c1, .bool false, .slice a2 n2 c2]) q
theorem Sl.keepB {k : IntKind} {w w' : World} {v : Value} {xs : List Nat} {g : Nat} (h : Sl k w v xs) (hb : But g w w') (hg : NoInt w g) : Sl k w' v xs := by
  refine Sl.but h hb fun h0 e => ?_
  rcases Sl.cases h with ⟨h1, _⟩ | ⟨_, b, off, cap, rfl, _, hbl, hc⟩
  · rw [h1] at h0; simp at h0
  · simp [blk] at e
    subst e
    have := hg _ _ (hc 0 h0)
    cases this
theorem elemQ : Elem 4 EQ where
  len := by rintro w cs x ⟨_, _, _, _, _, _, rfl, _⟩; rfl
  ints := by
    rintro w cs x ⟨_, _, _, _, _, _, rfl, _⟩ u hu
    simp only [List.mem_cons, List.not_mem_nil, or_false] at hu
    rcases hu with rfl | rfl | rfl | rfl <;> rfl
  one := by
    rintro w cs x ⟨_, _, _, _, _, _, rfl, _⟩ u hu
    simp only [List.mem_cons, List.not_mem_nil, or_false] at hu
    rcases hu with rfl | rfl | rfl | rfl <;> rfl
  keep := by
    rintro w w' g cs x ⟨a1, n1, c1, a2, n2, c2, rfl, h⟩ hb hg
    refine ⟨a1, n1, c1, a2, n2, c2, rfl, ?_⟩
    obtain ⟨s1, s2, e, k1, k2⟩ := h
    exact ⟨s1, s2, e, k1.keepB hb hg, k2.keepB hb hg⟩

def zeroQ : Value := .agg #[.bool false, .slice none 0 0, .bool false, .slice none 0 0]
theorem info_q : (Tryz.prog.info? 61).map (fun i => (i.zero, i.size, i.bytes)) = some (some zeroQ, 4, 64) := by kernel_rfl
theorem zeroQ_ints : ∀ u ∈ zeroQ.cells.toList, notInt u = true := by
  intro u hu
  simp only [zeroQ, Value.cells, List.mem_cons, List.not_mem_nil, or_false] at hu
  rcases hu with rfl | rfl | rfl | rfl <;> rfl

/-- the loop of the model's reading of a list -/
def OfRel (w : World) (n : Nat) (L : List ByteArray) (v i : Value) (wr : World) : Prop :=
  ∃ k : Nat, i = .int .i64 (k : Int) ∧ k ≤ n ∧ OwE 4 EQ 61 wr w.heap.size v ((L.take k).map qOf) ∧ Below w.heap.size w wr

set_option maxRecDepth 100000 in
set_option maxHeartbeats 2000000 in
theorem oflist_any (v : Value) (L : List ByteArray) (w : World) (h : TxL w v L) (hall : L.all isNum = true) (hn : L.length ≤ 1048576) (R : Ending → World → Prop)
    (hR : ∀ v' w', OwE 4 EQ 61 w' w.heap.size v' (L.map qOf) → Below w.heap.size w w' → R (.returned v') w') :
    Calls Tryz.prog 63 #[v] w R := by
  have HR := Lib.hid hR; clear hR
  obtain ⟨ao, n, cap, rfl, hnl, hc, hh⟩ := h.open
  have HH := Lib.hid hh
  have HN := Lib.hid hnl
  have HALL := Lib.hid hall
  rw [← hnl] at hn
  obtain ⟨W, hW⟩ : ∃ W, W = w.alloc (.cells #[] 61) := ⟨_, rfl⟩
  have hbW : Below w.heap.size w W := by rw [hW]; exact (Below.refl _ _).alloc (Nat.le_refl _) _
  have HST : Hid (OfRel w n L (.slice (some ⟨w.heap.size, 0, none⟩) 0 0) (.int .i64 0) W) := Lib.hid ⟨0, rfl, Nat.zero_le _, by rw [hW]; simpa using OwE.lit _ w w.heap.size (Nat.le_refl _), hbW⟩
  have HW := Lib.hid hW
  clear h hnl hh hall hW hbW hc
  go_enter Tryz.func63, Tryz.ntmps63
  go_wp2_with fail
  rw [← HW.out]
  go_loopw [3, 4] (fun v i wr => OfRel w n L v i wr) (fun _ i _ => n - (intOf i).toNat)
  case atStart => exact HST.out
  case round =>
    clear HST
    obtain ⟨k, rfl, hk, hown, hbel⟩ := hrel
    have HB := Lib.hid hbel
    have HOWN := Lib.hid hown
    obtain ⟨a3, n3, c3, rfl, hn3⟩ := hown.shape
    by_cases hkn : k = n
    · subst hkn
      have he : L.take k = L := by rw [HN.out, List.take_length]
      rw [he] at HOWN
      have HF := Lib.hid (HR.out _ _ HOWN.out HB.out)
      clear hbel he hown hn3
      go_wp2
      first | go_ret | skip
      exact HF.out
    · have hkl : k < n := by omega
      obtain ⟨s, hs⟩ : ∃ s, L[k]? = some s := ⟨_, List.getElem?_eq_getElem (by rw [← HN.out]; exact hkl)⟩
      have HS := Lib.hid (isNum_at HALL.out hs)
      have HM2 : Hid ((L.take (k + 1)).map qOf = (L.take k).map qOf ++ [qOf s]) := Lib.hid (by rw [map_take_one qOf L k s hs])
      have HLK : Hid (((L.take k).map qOf).length ≤ 100000000) := Lib.hid (by rw [List.length_map, List.length_take]; omega)
      obtain ⟨q, hq⟩ : ∃ q, q = qOf s := ⟨_, rfl⟩
      rw [← hq] at HS HM2
      obtain ⟨b, off, rfl, hb, hcell⟩ := TxL.at HH.out k s hs
      rw [← hbel.cell (p := ⟨b, off + k, none⟩) hb] at hcell
      have hw1 : IntKind.i64.wrap ((k : Int) + 1) = ((k + 1 : Nat) : Int) := by rw [IntWalk.i64_in _ (by omega)]; omega
      have HK := Lib.hid hkl
      clear hs hbel hown hn3 hq hkn
      go_wp2_with fail
      refine ofq_any s q _ HS.out _ ?_
      intro v1 w1 hq1 hb1
      obtain ⟨x1, m1, y1, x2, m2, y2, rfl, e1, e2, _, _⟩ := hq1.open
      have HB1 := Lib.hid (HB.out.trans (hb1.mono HB.out.size))
      have HOW1 := Lib.hid (HOWN.out.later elemQ hb1 (Nat.le_refl _))
      have HEQ : Hid (EQ w1 [.bool (decide (q.num < 0)), .slice x1 m1 y1, .bool false, .slice x2 m2 y2] q) := Lib.hid ⟨_, _, _, _, _, _, rfl, hq1⟩
      obtain ⟨ng, hng⟩ : ∃ ng, ng = decide (q.num < 0) := ⟨_, rfl⟩
      rw [← hng] at HEQ ⊢
      have hwB := HB1.out.size
      clear hb1 hq1 e1 e2 hng hcell
      dsimp only
      go_wp2_with (at_builtin; go_must (refine wpList_pushE elemQ (by omega) rfl (.tmp 12) (.tmp 18) 82 rfl 61 64 zeroQ Tryz.underlying82 info_q rfl zeroQ_ints (by omega) w.heap.size _ (HOW1.out.alloc elemQ _) HLK.out (by simp; omega) w1.heap.size [.bool ng, .slice x1 m1 y1, .bool false, .slice x2 m2 y2] q rfl (elemQ.below HEQ.out ((Below.refl _ _).alloc (Nat.le_refl _) _) (Nat.le_refl _)) (cells_alloc _ #[.bool ng, .slice x1 m1 y1, .bool false, .slice x2 m2 y2] _ _ rfl) ?_))
      intro ao n4 c4 w4 hown4 hn4 hgr hb4
      have HOW4 : Hid (OwE 4 EQ 61 w4 w.heap.size (.slice ao n4 c4) ((L.take (k + 1)).map qOf)) := Lib.hid (by rw [HM2.out, List.map_take]; exact hown4)
      have HB4 := Lib.hid ((HB1.out.alloc hwB _).trans hb4)
      clear hown4 hn4 hgr hb4
      go_wp2
      go_roundw
      case rel => exact ⟨k + 1, by first | rfl | go_num, HK.out, HOW4.out, HB4.out⟩
      case measure => simp [intOf]; have := HK.out; omega
end Go.Proofs.YtpblpdcdhgjecaaGreatDoor

namespace Go.Proofs.YtpblpdcdhgjecaaGreatDoor
open Go Go.RowKit

/-- the loop of the model's sum of products -/
def DotRelS (w2 : World) (n : Nat) (qs rs : List Rat) (i : Value) (wr : World) : Prop :=
  ∃ k m1 a5 n5 c5 m2 a6 n6 c6, i = .int .i64 ((k : Nat) : Int) ∧ k ≤ n ∧ Box4 wr w2.heap.size (.bool m1) (.slice a5 n5 c5) (.bool m2) (.slice a6 n6 c6) 61 ∧ IsQ wr (.agg #[.bool m1, .slice a5 n5 c5, .bool m2, .slice a6 n6 c6]) (dotQ (qs.take k) (rs.take k)) ∧
    Bd (121 * k + 1) (dotQ (qs.take k) (rs.take k)) ∧ Below w2.heap.size w2 wr

set_option maxRecDepth 100000 in
set_option maxHeartbeats 4000000 in
theorem dots_any (v v' : Value) (qs rs : List Rat) (w : World) (h : SlE 4 EQ w v qs) (h2 : SlE 4 EQ w v' rs) (hl : qs.length = rs.length) (hn : qs.length ≤ 60) (hq : AllBd 60 qs) (hr : AllBd 60 rs) (R : Ending → World → Prop)
    (hR : ∀ v' w', IsQ w' v' (dotQ qs rs) → Bd 7261 (dotQ qs rs) → Below w.heap.size w w' → R (.returned v') w') :
    Calls Tryz.prog 62 #[v, v'] w R := by
  have HR := Lib.hid hR; clear hR
  obtain ⟨a1, n1, c1, rfl, hn1, hc1, hsl1⟩ := h.open
  obtain ⟨a2, n2, c2, rfl, hn2, hc2, hsl2⟩ := h2.open
  obtain rfl : n1 = n2 := by omega
  have hn60 : n1 ≤ 60 := by omega
  have HBD := Lib.hid hq
  have HBE := Lib.hid hr
  have HN1 := Lib.hid hn1
  have HN2 := Lib.hid hn2
  obtain ⟨L, hL⟩ : ∃ L, L = w.alloc (.cells #[.bool false, .slice none 0 0, .bool false, .slice none 0 0] 61) := ⟨_, rfl⟩
  have hbL : Below w.heap.size w L := by rw [hL]; exact (Below.refl _ _).alloc (Nat.le_refl _) _
  have HBX : Hid (Box4 L w.heap.size (.bool false) (.slice none 0 0) (.bool false) (.slice none 0 0) 61) := Lib.hid (by rw [hL]; exact Box4.made _ _ _ _ _ _)
  have HL := Lib.hid hL
  have HBL := Lib.hid hbL
  have HA := Lib.hid (hsl1.later elemQ hbL (Nat.le_refl _))
  have HB := Lib.hid (hsl2.later elemQ hbL (Nat.le_refl _))
  clear h h2 hl hn hq hr hn1 hn2 hc1 hc2 hsl1 hsl2 hL hbL
  go_enter Tryz.func62, Tryz.ntmps62
  go_wp2_with fail
  rw [← HL.out]
  refine int_any 0 _ (by omega) (by omega) _ ?_
  intro v2 w2 hq2 hb2
  obtain ⟨m1, a5, n5, c5, a6, n6, c6, rfl, _, _⟩ := hq2.parts
  obtain ⟨W, hW⟩ : ∃ W, W = w2.alloc (.cells #[.bool m1, .slice a5 n5 c5, .bool false, .slice a6 n6 c6] 61) := ⟨_, rfl⟩
  have HW := Lib.hid hW
  have hbW : Below w2.heap.size w2 W := by rw [hW]; exact (Below.refl _ _).alloc (Nat.le_refl _) _
  have HB2 := Lib.hid hb2
  have HA2 := Lib.hid (HA.out.later elemQ hb2 (Nat.le_refl _))
  have HB2' := Lib.hid (HB.out.later elemQ hb2 (Nat.le_refl _))
  have HBX2 := Lib.hid (HBX.out.later hb2 (lt_of_block HBX.out))
  have HST : Hid (DotRelS w2 n1 qs rs (.int .i64 0) W) := Lib.hid ⟨0, m1, a5, n5, c5, false, a6, n6, c6, rfl, Nat.zero_le _, by rw [hW]; exact Box4.made _ _ _ _ _ _, by rw [List.take_zero, List.take_zero, dotQ_nil]; exact hq2.later hbW (Nat.le_refl _), by rw [List.take_zero, List.take_zero, dotQ_nil]; exact Bd.zero, hbW⟩
  clear hq2 hb2 hW hbW
  dsimp only
  go_wp2_with fail
  rw [← HW.out]
  go_loopw [6] (fun i wr => DotRelS w2 n1 qs rs i wr) (fun i _ => n1 - (intOf i).toNat)
  case atStart => exact HST.out
  case round =>
    clear HST
    obtain ⟨k, m3, a7, n7, c7, m4, a8, n8, c8, rfl, hk, hbox, hq, hbd, hbel⟩ := hrel
    have HBOX := Lib.hid hbox
    have HQQ := Lib.hid hq
    have HBDK := Lib.hid hbd
    have HBW := Lib.hid hbel
    have HGW : Hid (w2.heap.size < wr.heap.size) := Lib.hid (lt_of_block hbox)
    obtain ⟨⟨hP0, hP1, hP2, hP3⟩, hF0, hF1, hF2, hF3⟩ := hbox.cells
    clear hq hbd hbox
    by_cases hkn : k = n1
    · subst hkn
      have he : qs.take k = qs := by rw [HN1.out, List.take_length]
      have he2 : rs.take k = rs := by rw [HN2.out, List.take_length]
      rw [he, he2] at HQQ HBDK
      have d3 := HBX2.out.later hbel (lt_of_block HBX2.out)
      obtain ⟨⟨hR0, hR1, hR2, hR3⟩, hG0, hG1, hG2, hG3⟩ := d3.cells
      have HD3 := Lib.hid d3
      have hk0 : ¬ ((k : Int) < (k : Int)) := by omega
      have HBD9 : Hid (Bd 7261 (dotQ qs rs)) := Lib.hid (HBDK.out.mono (by omega))
      have HNE : Hid (w.heap.size ≤ L.heap.size) := Lib.hid HBL.out.size
      clear he he2 hbel d3
      go_wp2
      refine bodyPost_ret_at (by simp [results, Tryz.results62, go_sem, hP0, hP1, hP2, hP3, hR0, hR1, hR2, hR3, hG0, hG1, hG2, hG3] <;> rfl) rfl ?_
      refine HR.out _ _ (HQQ.out.set4 (HD3.out.noInt rfl rfl rfl rfl) _ _ _ _ rfl rfl rfl) HBD9.out ?_
      exact ((((HBL.out.trans ((HB2.out.trans (HBW.out.mono HB2.out.size)).mono HNE.out)).setCell (Nat.le_refl _) _).setCell (Nat.le_refl _) _).setCell (Nat.le_refl _) _).setCell (Nat.le_refl _) _
    · have hkl : k < n1 := by omega
      obtain ⟨q, hq⟩ : ∃ q, qs[k]? = some q := ⟨_, List.getElem?_eq_getElem (by rw [← HN1.out]; exact hkl)⟩
      obtain ⟨r, hr⟩ : ∃ r, rs[k]? = some r := ⟨_, List.getElem?_eq_getElem (by rw [← HN2.out]; exact hkl)⟩
      have HQ := Lib.hid hq
      have HRQ := Lib.hid hr
      have HBQ := Lib.hid (HBD.out k q hq)
      have HBR := Lib.hid (HBE.out k r hr)
      obtain ⟨b, off, cs, rfl, hb, hcell, hE⟩ := HA2.out.at k q hq
      obtain ⟨b2, off2, cs2, rfl, hb2, hcell2, hE2⟩ := HB2'.out.at k r hr
      obtain ⟨x1, y1, z1, x2, y2, z2, hcs, hi1⟩ := hE
      obtain ⟨x3, y3, z3, x4, y4, z4, hcs2, hi3⟩ := hE2
      obtain ⟨ng, hng⟩ : ∃ ng, ng = decide (q.num < 0) := ⟨_, rfl⟩
      obtain ⟨mg, hmg⟩ : ∃ mg, mg = decide (r.num < 0) := ⟨_, rfl⟩
      rw [← hng] at hcs hi1
      rw [← hmg] at hcs2 hi3
      have hd0 : wr.cell? ⟨b, off + k * 4, none⟩ = some (.bool ng) := by rw [hbel.cell (p := ⟨b, off + k * 4, none⟩) hb]; exact hcell 0 _ (by rw [hcs]; rfl)
      have hd1 : wr.cell? ⟨b, off + k * 4 + 1, none⟩ = some (.slice x1 y1 z1) := by rw [hbel.cell (p := ⟨b, off + k * 4 + 1, none⟩) hb]; exact hcell 1 _ (by rw [hcs]; rfl)
      have hd2 : wr.cell? ⟨b, off + k * 4 + 2, none⟩ = some (.bool false) := by rw [hbel.cell (p := ⟨b, off + k * 4 + 2, none⟩) hb]; exact hcell 2 _ (by rw [hcs]; rfl)
      have hd3 : wr.cell? ⟨b, off + k * 4 + 3, none⟩ = some (.slice x2 y2 z2) := by rw [hbel.cell (p := ⟨b, off + k * 4 + 3, none⟩) hb]; exact hcell 3 _ (by rw [hcs]; rfl)
      have hy0 : wr.cell? ⟨b2, off2 + k * 4, none⟩ = some (.bool mg) := by rw [hbel.cell (p := ⟨b2, off2 + k * 4, none⟩) hb2]; exact hcell2 0 _ (by rw [hcs2]; rfl)
      have hy1 : wr.cell? ⟨b2, off2 + k * 4 + 1, none⟩ = some (.slice x3 y3 z3) := by rw [hbel.cell (p := ⟨b2, off2 + k * 4 + 1, none⟩) hb2]; exact hcell2 1 _ (by rw [hcs2]; rfl)
      have hy2 : wr.cell? ⟨b2, off2 + k * 4 + 2, none⟩ = some (.bool false) := by rw [hbel.cell (p := ⟨b2, off2 + k * 4 + 2, none⟩) hb2]; exact hcell2 2 _ (by rw [hcs2]; rfl)
      have hy3 : wr.cell? ⟨b2, off2 + k * 4 + 3, none⟩ = some (.slice x4 y4 z4) := by rw [hbel.cell (p := ⟨b2, off2 + k * 4 + 3, none⟩) hb2]; exact hcell2 3 _ (by rw [hcs2]; rfl)
      have HX := Lib.hid (hi1.later hbel (Nat.le_refl _))
      have HY := Lib.hid (hi3.later hbel (Nat.le_refl _))
      have hw1 : IntKind.i64.wrap ((k : Int) + 1) = ((k + 1 : Nat) : Int) := by rw [IntWalk.i64_in _ (by omega)]; omega
      have hk0 : (0 : Int) ≤ (k : Int) := by omega
      have hkn2 : (k : Int) < (n1 : Int) := by omega
      have HL1 := Lib.hid (HBDK.out.len (B := 10000) (by omega))
      have HL2 := Lib.hid (HBQ.out.len (B := 10000) (by omega))
      have HL3 := Lib.hid (HBR.out.len (B := 10000) (by omega))
      have HL4 := Lib.hid ((HBQ.out.mul HBR.out).len (B := 10000) (by omega))
      have HKL := Lib.hid hkl
      have hk60 : k < 60 := by omega
      clear hq hr hcell hcs hcell2 hcs2 hi1 hi3 hng hmg hbel hkn
      go_wp2_with fail
      go_region_law (first
        | (have hguard := HB5; go_simp; go_at_call 51; refine addQ_any _ _ (dotQ (qs.take k) (rs.take k)) (q * r) _ (HQQ.out.later HB5.out (Nat.le_refl _)) HV5.out (Nat.le_trans HL1.out.1 (by omega)) (Nat.le_trans HL1.out.2 (by omega)) (Nat.le_trans HL4.out.1 (by omega)) (Nat.le_trans HL4.out.2 (by omega)) _ ?_; rw [← dotQ_take HQ.out HRQ.out]; intro v6 w6 hv6 hb6; obtain ⟨m6, a10, n10, c10, a11, n11, c11, rfl, _, _⟩ := hv6.parts; have HV6 := Lib.hid hv6; have HB6 := Lib.hid (HB5.out.trans (hb6.mono HB5.out.size)); have k6 := HBOX.out.later HB6.out HGW.out; obtain ⟨⟨hT0, hT1, hT2, hT3⟩, hT4, hT5, hT6, hT7⟩ := k6.cells; have HK6 := Lib.hid k6; clear hguard hv6 hb6 k6; dsimp only)
        | (go_simp; go_at_call 113; refine mulQ_any _ _ q r _ (HX.out.later (Below.refl _ _).drew (Nat.le_refl _)) (HY.out.later (Below.refl _ _).drew (Nat.le_refl _)) (Nat.le_trans HL2.out.1 (by omega)) (Nat.le_trans HL2.out.2 (by omega)) (Nat.le_trans HL3.out.1 (by omega)) (Nat.le_trans HL3.out.2 (by omega)) _ ?_; intro v5 w5 hv5 hb5; obtain ⟨m5, a12, n12, c12, a13, n13, c13, rfl, _, _⟩ := hv5.parts; have HV5 := Lib.hid hv5; have HB5 : Hid (Below wr.heap.size wr w5) := Lib.hid (below_unDrew hb5); have k5 := HBOX.out.later HB5.out HGW.out; obtain ⟨⟨hS0, hS1, hS2, hS3⟩, _, _, _, _⟩ := k5.cells; clear hv5 hb5 k5; dsimp only))
      all_goals
        have HN6 := HK6.out.noInt rfl rfl rfl rfl
        have HBD6 : Hid (Bd (121 * (k + 1) + 1) (dotQ (qs.take (k + 1)) (rs.take (k + 1)))) := Lib.hid (by
          rw [dotQ_take HQ.out HRQ.out]
          exact (HBDK.out.add (HBQ.out.mul HBR.out)).mono (by omega))
        have HREL : Hid (DotRelS w2 n1 qs rs (.int .i64 ((k + 1 : Nat) : Int)) ((((w6.setCell ⟨w2.heap.size, 0, none⟩ (.bool m6)).setCell ⟨w2.heap.size, 1, none⟩ (.slice a10 n10 c10)).setCell ⟨w2.heap.size, 2, none⟩ (.bool false)).setCell ⟨w2.heap.size, 3, none⟩ (.slice a11 n11 c11))) := Lib.hid
          ⟨k + 1, m6, a10, n10, c10, false, a11, n11, c11, rfl, HKL.out, HK6.out.set4 _ _ _ _, HV6.out.set4 HN6 _ _ _ _ rfl rfl rfl, HBD6.out,
            ((((HBW.out.trans (HB6.out.mono (Nat.le_of_lt HGW.out))).setCell (Nat.le_refl _) _).setCell (Nat.le_refl _) _).setCell (Nat.le_refl _) _).setCell (Nat.le_refl _) _⟩
        clear HN6
        go_wp2
        go_roundw
        case rel => exact HREL.out
        case measure => simp [intOf]; have := HKL.out; omega
end Go.Proofs.YtpblpdcdhgjecaaGreatDoor

namespace Go.Proofs.YtpblpdcdhgjecaaGreatDoor
open Go Go.RowKit

theorem sizes_each {L : List ByteArray} (h : tot L ≤ 1048576) : L.length ≤ 1048576 ∧ ∀ s ∈ L, s.size ≤ 1048576 := by
  unfold tot at h
  exact ⟨by omega, fun s hs => by have := size_le_sizes hs; omega⟩

/-- whether texts are numbers, and not too many -/
noncomputable def numsB (L : List ByteArray) : Bool := decide (L.length ≤ 60) && L.all isNum

set_option maxRecDepth 100000 in
set_option maxHeartbeats 1000000 in
theorem impl_isNumbers (v : Value) (L : List ByteArray) (w : World) (hE : Env w) (h : TxL w v L) (hn : L.length ≤ 1048576) (R : Ending → World → Prop)
    (hR : ∀ w', Below w.heap.size w w' → R (.returned (.bool (numsB L))) w') :
    Calls Tryz.prog 130 #[v] w R := by
  have HR := Lib.hid hR; clear hR
  have HE := Lib.hid hE; clear hE
  obtain ⟨ao, n, cap, rfl, hh⟩ := h.op
  have HH := Lib.hid hh
  have HN := Lib.hid hn
  clear h hh hn
  go_enter Tryz.func130, Tryz.ntmps130
  go_wp2_with fail
  refine readrs_any _ L _ HE.out HH.out HN.out _ ?_ ?_
  · intro v' w1 h1 h2 hv hb1
    have ht : numsB L = true := by unfold numsB; rw [decide_eq_true h1, h2]; rfl
    rw [ht] at HR
    obtain ⟨a9, n9, c9, rfl, _⟩ := SlE.op hv
    have HB := Lib.hid hb1
    clear hb1 ht h1 h2 hv
    dsimp only
    go_wp2
    first | go_ret | skip
    exact HR.out _ HB.out
  · intro e w1 hf he hb1
    have ht : numsB L = false := hf
    rw [ht] at HR
    obtain ⟨t, p, rfl⟩ := he
    have HB := Lib.hid hb1
    clear hb1 ht hf
    dsimp only
    go_wp2
    first | go_ret | skip
    exact HR.out _ HB.out

end Go.Proofs.YtpblpdcdhgjecaaGreatDoor

namespace Go.Proofs.YtpblpdcdhgjecaaGreatDoor
open Go Go.RowKit

set_option maxRecDepth 100000 in
set_option maxHeartbeats 1000000 in
theorem spec_dot (v v' : Value) (L M : List ByteArray) (w : World) (h : TxL w v L) (h2 : TxL w v' M) (hn : L.length ≤ 1048576) (hs : ∀ s ∈ L, s.size ≤ 1048576) (hn2 : M.length ≤ 1048576) (hs2 : ∀ s ∈ M, s.size ≤ 1048576) (R : Ending → World → Prop)
    (hR : ∀ w', Below w.heap.size w w' → R (.returned (.tuple #[.string (outS (dotO L M)), .bool (outB (dotO L M))])) w') :
    Calls Tryz.prog 23 #[v, v'] w R := by
  have HR := Lib.hid hR; clear hR
  obtain ⟨a0, n0, c0, rfl, hn0, hc0, h'⟩ := h.open
  obtain ⟨a9, n9, c9, rfl, hn9, hc9, h2'⟩ := h2.open
  have HH := Lib.hid h'
  have HM := Lib.hid h2'
  have HN0 := Lib.hid hn0
  have HN9 := Lib.hid hn9
  have HSZ := Lib.hid (And.intro hn (And.intro hs (And.intro hn2 hs2)))
  clear h h' hn hn0 hc0 hs h2 h2' hn9 hc9 hn2 hs2
  go_enter Tryz.func23, Tryz.ntmps23
  go_wp2_with fail
  refine isList_any _ L _ HH.out HSZ.out.1 HSZ.out.2.1 _ ?_
  intro w1 hb1
  have HB1 := Lib.hid hb1
  clear hb1
  cases hB : (decide (L.length ≤ 60) && L.all isNum) with
  | false =>
    have hO : dotO L M = none := by unfold dotO; rw [hB, Bool.false_and, Bool.false_and]; rfl
    rw [hO] at HR
    clear hB hO
    dsimp only
    go_wp2
    first | go_ret | skip
    exact HR.out _ HB1.out
  | true =>
    have HG1 := Lib.hid hB
    clear hB
    dsimp only
    go_wp2_with fail
    refine isList_any _ M _ (HM.out.later HB1.out (Nat.le_refl _)) HSZ.out.2.2.1 HSZ.out.2.2.2 _ ?_
    intro w2 hb2
    have HB2 := Lib.hid (HB1.out.trans (hb2.mono HB1.out.size))
    clear hb2
    cases hB : (decide (M.length ≤ 60) && M.all isNum) with
    | false =>
      have hO : dotO L M = none := by unfold dotO; rw [hB, Bool.and_false, Bool.false_and]; rfl
      rw [hO] at HR
      clear hB hO
      dsimp only
      go_wp2
      first | go_ret | skip
      exact HR.out _ HB2.out
    | true =>
      have HG2 := Lib.hid hB
      clear hB
      by_cases hnm : n0 = n9
      · have hlen : L.length = M.length := by rw [← HN0.out, ← HN9.out]; exact hnm
        have hO : dotO L M = some (dotQ (L.map qOf) (M.map qOf)) := by
          unfold dotO
          rw [HG1.out, HG2.out, decide_eq_true hlen]; rfl
        rw [hO] at HR
        have t1 : ((n0 : Int) != (n9 : Int)) = false := by rw [hnm]; simp
        have g1 := HG1.out
        have g2 := HG2.out
        rw [Bool.and_eq_true] at g1 g2
        have HLEN := Lib.hid (show (L.map qOf).length = (M.map qOf).length ∧ (L.map qOf).length ≤ 60 by rw [List.length_map, List.length_map]; exact ⟨hlen, of_decide_eq_true g1.1⟩)
        have HA1 := Lib.hid g1.2
        have HA2 := Lib.hid g2.2
        clear hO hnm hlen g1 g2
        dsimp only
        go_wp2_with fail
        refine oflist_any _ L _ (HH.out.later HB2.out (Nat.le_refl _)) HA1.out HSZ.out.1 _ ?_
        intro v3 w3 hv3 hb3
        have hs3 := hv3.sl
        obtain ⟨a3, n3, c3, rfl, hs3'⟩ := SlE.op hs3
        have HV3 := Lib.hid hs3'
        have HB3 := Lib.hid (HB2.out.trans (hb3.mono HB2.out.size))
        clear hv3 hb3 hs3 hs3'
        dsimp only
        go_wp2_with fail
        refine oflist_any _ M _ (HM.out.later HB3.out (Nat.le_refl _)) HA2.out HSZ.out.2.2.1 _ ?_
        intro v4 w4 hv4 hb4
        have hs4 := hv4.sl
        obtain ⟨a4, n4, c4, rfl, hs4'⟩ := SlE.op hs4
        have HV4 := Lib.hid hs4'
        have HV3' := Lib.hid (HV3.out.later elemQ hb4 (Nat.le_refl _))
        have HB4 := Lib.hid (HB3.out.trans (hb4.mono HB3.out.size))
        clear hv4 hb4 hs4 hs4'
        dsimp only
        go_wp2_with fail
        refine dots_any _ _ (L.map qOf) (M.map qOf) _ HV3'.out HV4.out HLEN.out.1 HLEN.out.2 (allBd_of HA1.out) (allBd_of HA2.out) _ ?_
        intro v5 w5 hr5 hbd5 hb5
        obtain ⟨q, hq⟩ : ∃ q : Rat, q = dotQ (L.map qOf) (M.map qOf) := ⟨_, rfl⟩
        rw [← hq] at HR hr5 hbd5
        have HLQ := Lib.hid (hbd5.len (B := 10000) (by omega))
        obtain ⟨nr, a5, n5, c5, a6, n6, c6, rfl, _, _⟩ := hr5.parts
        have HQR := Lib.hid hr5
        have HB5 := Lib.hid (HB4.out.trans (hb5.mono HB4.out.size))
        clear hr5 hb5 hq hbd5
        dsimp only
        go_wp2_with fail
        refine give_o _ q _ HQR.out (Nat.le_trans HLQ.out.1 (by omega)) (Nat.le_trans HLQ.out.2 (by omega)) _ ?_
        intro w6 hb6
        have HB6 := Lib.hid (HB5.out.trans (hb6.mono HB5.out.size))
        obtain ⟨S, hS⟩ : ∃ S, S = outS (some q) := ⟨_, rfl⟩
        obtain ⟨B, hB⟩ : ∃ B, B = outB (some q) := ⟨_, rfl⟩
        rw [← hS, ← hB] at HR ⊢
        clear hS hB hb6
        dsimp only
        go_wp2
        first | go_ret | skip
        exact HR.out _ HB6.out
      · have hO : dotO L M = none := by
          unfold dotO
          rw [HG1.out, HG2.out, decide_eq_false (show ¬ L.length = M.length by rw [← HN0.out, ← HN9.out]; exact hnm)]; rfl
        rw [hO] at HR
        have t1 : ((n0 : Int) != (n9 : Int)) = true := by rw [bne_iff_ne]; omega
        clear hO hnm
        dsimp only
        go_wp2
        first | go_ret | skip
        exact HR.out _ HB2.out

theorem sizes_two {L M : List ByteArray} (h1 : tot L ≤ 1048576) (h2 : tot M ≤ 1048576 - tot L) : (L.length ≤ 1048576 ∧ ∀ s ∈ L, s.size ≤ 1048576) ∧ (M.length ≤ 1048576 ∧ ∀ s ∈ M, s.size ≤ 1048576) :=
  ⟨sizes_each h1, sizes_each (by omega)⟩

set_option maxRecDepth 100000 in
set_option maxHeartbeats 1000000 in
theorem law_dotNumbers (v : Value) (L : List ByteArray) (v' : Value) (M : List ByteArray) (w : World) (hE : Env w) (htab : Lib.TabIs Tryz.prog w "internal/strconv.uint64pow10" .u64 Lib.pow10Tab) (h : TxL w v L) (hn : L.length ≤ maxLen) (hs : ∀ s ∈ L, s.size ≤ maxLen) (h2 : TxL w v' M) (hn2 : M.length ≤ maxLen) (hs2 : ∀ s ∈ M, s.size ≤ maxLen) (R : Ending → World → Prop)
    (hR : ∀ w', Below w.heap.size w w' → R (.returned (.bool true)) w') :
    Calls Tryz.prog 6 #[v, v'] w R := by
  have HR := Lib.hid hR; clear hR
  have HE := Lib.hid hE; clear hE
  have HTAB := Lib.hid htab; clear htab
  obtain ⟨ao, n, cap, rfl, hh⟩ := h.op
  obtain ⟨ap, n', cap', rfl, hh2⟩ := h2.op
  have HH := Lib.hid hh
  have HM := Lib.hid hh2
  have HN := Lib.hid (And.intro hn hs)
  have HN2 := Lib.hid (And.intro hn2 hs2)
  clear h hh hn hs h2 hh2 hn2 hs2
  go_enter Tryz.func6, Tryz.ntmps6
  go_wp2_with fail
  refine szT_any _ L _ 1048576 HH.out HN.out.1 HN.out.2 (by omega) _ ?_ ?_
  · intro ht
    obtain ⟨m, hm⟩ : ∃ m : Nat, m = 1048576 - tot L := ⟨_, rfl⟩
    rw [← hm]
    have HT := Lib.hid ht
    have hm0 : ¬ ((m : Int) < 0) := by omega
    have hm1 : m ≤ 1048576 := by omega
    have HMM := Lib.hid hm
    clear hm ht
    dsimp only
    go_wp2_with fail
    refine szT_any _ M _ m HM.out HN2.out.1 HN2.out.2 hm1 _ ?_ ?_
    · intro ht2
      obtain ⟨⟨h1, h2⟩, h3, h4⟩ := sizes_two HT.out (by rw [← HMM.out]; exact ht2)
      have HP := Lib.hid (And.intro h1 (And.intro h2 (And.intro h3 h4)))
      have HPL := Lib.hid (show L.length ≤ 281474976710656 ∧ M.length ≤ 281474976710656 by omega)
      obtain ⟨m2, hm2⟩ : ∃ m2 : Nat, m2 = m - tot M := ⟨_, rfl⟩
      rw [← hm2]
      have hm3 : ¬ ((m2 : Int) < 0) := by omega
      clear hm2 ht2 h1 h2 h3 h4
      dsimp only
      go_wp2_with fail
      refine toT_any _ L _ HH.out HP.out.1 _ ?_
      intro v1 w1 hv1 hb1
      obtain ⟨a1, n1, c1, rfl, hv1'⟩ := hv1.op
      have HV1 := Lib.hid hv1'
      have HB1 := Lib.hid hb1
      clear hb1 hv1 hv1'
      dsimp only
      go_wp2_with fail
      refine toT_any _ M _ (HM.out.later HB1.out (Nat.le_refl _)) HP.out.2.2.1 _ ?_
      intro v2 w2 hv2 hb2
      obtain ⟨a2, n2, c2, rfl, hv2'⟩ := hv2.op
      have HV2 := Lib.hid hv2'
      have HV1' := Lib.hid (HV1.out.later hb2 (Nat.le_refl _))
      have HB2 := Lib.hid (HB1.out.trans (hb2.mono HB1.out.size))
      clear hb2 hv2 hv2'
      dsimp only
      go_wp2_with fail
      refine spec_dot _ _ L M _ HV1'.out HV2.out HP.out.1 HP.out.2.1 HP.out.2.2.1 HP.out.2.2.2 _ ?_
      intro w3 hb3
      obtain ⟨x, hx⟩ : ∃ x, x = outB (dotO L M) := ⟨_, rfl⟩
      obtain ⟨S, hS⟩ : ∃ S, S = outS (dotO L M) := ⟨_, rfl⟩
      have HX := Lib.hid hx
      have HSS := Lib.hid hS
      rw [← hx, ← hS]
      have HB3 := Lib.hid (HB2.out.trans (hb3.mono HB2.out.size))
      clear hb3 hx hS
      dsimp only
      go_wp2_with fail
      refine toT_any _ L _ (HH.out.later HB3.out (Nat.le_refl _)) HP.out.1 _ ?_
      intro v4 w4 hv4 hb4
      obtain ⟨a4, n4, c4, rfl, hv4'⟩ := hv4.op
      have HV4 := Lib.hid hv4'
      have HB4 := Lib.hid (HB3.out.trans (hb4.mono HB3.out.size))
      clear hb4 hv4 hv4'
      dsimp only
      go_wp2_with fail
      refine toT_any _ M _ (HM.out.later HB4.out (Nat.le_refl _)) HP.out.2.2.1 _ ?_
      intro v5 w5 hv5 hb5
      obtain ⟨a5, n5, c5, rfl, hv5'⟩ := hv5.op
      have HV5 := Lib.hid hv5'
      have HV4' := Lib.hid (HV4.out.later hb5 (Nat.le_refl _))
      have HB5 := Lib.hid (HB4.out.trans (hb5.mono HB4.out.size))
      clear hb5 hv5 hv5'
      dsimp only
      go_wp2_with fail
      refine impl_dot _ _ L M _ (HE.out.later HB5.out (Nat.le_refl _)) (tab_later HTAB.out HB5.out (Nat.le_refl _)) HV4'.out HV5.out HP.out.1 HP.out.2.2.1 _ ?_
      intro w6 hb6
      have HV6 := Lib.hid (HV4'.out.later hb6 (Nat.le_refl _))
      have HV7 := Lib.hid (HV5.out.later hb6 (Nat.le_refl _))
      have HB6 := Lib.hid (HB5.out.trans (hb6.mono HB5.out.size))
      rw [← HX.out, ← HSS.out]
      clear hb6
      have hxx : (x != x) = false := by cases x <;> rfl
      dsimp only
      go_wp2_with fail
      refine toT_any _ L _ (HH.out.later HB6.out (Nat.le_refl _)) HP.out.1 _ ?_
      intro v7 w7 hv7 hb7
      obtain ⟨a7, n7, c7, rfl, hv7'⟩ := hv7.op
      have HW7 := Lib.hid hv7'
      have HV6b := Lib.hid (HV6.out.later hb7 (Nat.le_refl _))
      have HV7b := Lib.hid (HV7.out.later hb7 (Nat.le_refl _))
      have HB7 := Lib.hid (HB6.out.trans (hb7.mono HB6.out.size))
      clear hb7 hv7 hv7'
      dsimp only
      go_wp2_with fail
      refine eqT_any _ _ L L _ HV6b.out HW7.out HPL.out.1 HPL.out.1 _ ?_
      intro w8 hb8
      rw [decide_eq_true rfl]
      have HV7c := Lib.hid (HV7b.out.later hb8 (Nat.le_refl _))
      have HB8 := Lib.hid (HB7.out.trans (hb8.mono HB7.out.size))
      clear hb8
      dsimp only
      go_wp2_with fail
      refine toT_any _ M _ (HM.out.later HB8.out (Nat.le_refl _)) HP.out.2.2.1 _ ?_
      intro v9 w9 hv9 hb9
      obtain ⟨a9, n9, c9, rfl, hv9'⟩ := hv9.op
      have HW9 := Lib.hid hv9'
      have HV7d := Lib.hid (HV7c.out.later hb9 (Nat.le_refl _))
      have HB9 := Lib.hid (HB8.out.trans (hb9.mono HB8.out.size))
      clear hb9 hv9 hv9'
      dsimp only
      go_wp2_with fail
      refine eqT_any _ _ M M _ HV7d.out HW9.out HPL.out.2 HPL.out.2 _ ?_
      intro w10 hb10
      rw [decide_eq_true rfl]
      have HB10 := Lib.hid (HB9.out.trans (hb10.mono HB9.out.size))
      clear hb10
      dsimp only
      go_wp2
      first | go_ret | skip
      exact HR.out _ HB10.out
    · intro _
      dsimp only
      go_wp2
      first | go_ret | skip
      exact HR.out _ (Below.refl _ _)
  · intro _
    dsimp only
    go_wp2
    first | go_ret | skip
    exact HR.out _ (Below.refl _ _)
end Go.Proofs.YtpblpdcdhgjecaaGreatDoor
