/- Contracts of functions of the program and of the model: PowN, PowI, PowQ, PowS, In, LawPow. -/
import Derived.Test.YtbglfendcpbjpaaGreatDoorPm8
set_option linter.all false
set_option linter.unusedVariables false
set_option linter.unusedSimpArgs false
set_option linter.unnecessarySimpa false
set_option linter.deprecated false
namespace Go.Proofs.YtbglfendcpbjpaaGreatDoor
open Go Go.RowKit

theorem dig_pow_len {x k N : Nat} (h : (dig W64 x).length ≤ N) : (dig W64 (x ^ k)).length ≤ k * N + 1 := by
  by_cases hk : k = 0
  · subst hk
    rw [Nat.pow_zero, Nat.zero_mul, Nat.zero_add]
    exact dig_length_le W64_two 1 1 (by rw [W64_eq]; omega)
  · refine Nat.le_trans (dig_length_le W64_two (N * k) _ ?_) (by rw [Nat.mul_comm]; omega)
    have h1 := Nat.lt_of_lt_of_le (lt_pow_dig W64_two x) (Nat.pow_le_pow_right (by rw [W64_eq]; omega) h)
    rw [Nat.pow_mul]
    exact Nat.pow_lt_pow_left h1 hk

set_option maxRecDepth 100000 in
set_option maxHeartbeats 1000000 in
theorem npow_any (v : Value) (a n : Nat) (w : World) (h : IsN w v a) (hn : n ≤ 60) (hla : (dig W64 a).length ≤ 1000) (R : Ending → World → Prop)
    (hR : ∀ v' w', IsN w' v' (a ^ n) → Below w.heap.size w w' → R (.returned v') w') :
    Calls Tryz.prog 106 #[v, .int .i64 (n : Int)] w R := by
  have HR := Lib.hid hR; clear hR
  obtain ⟨a1, n1, c1, rfl, h'⟩ := h.op
  have HA := Lib.hid h'
  have HN := Lib.hid hn
  have HLA := Lib.hid hla
  obtain ⟨L, hL⟩ : ∃ L, L = w.alloc (.cells #[.int .u64 1] 110) := ⟨_, rfl⟩
  have HEXT : Hid (Below w.heap.size w L) := Lib.hid (by rw [hL]; exact (Below.refl _ _).alloc (Nat.le_refl _) _)
  have HONE : Hid (IsN L (.slice (some ⟨w.heap.size, 0, none⟩) 1 1) 1) := Lib.hid (by rw [hL]; exact IsN.one w w.heap.size (Nat.le_refl _))
  have HL := Lib.hid hL
  clear h h' hla hL
  go_enter Tryz.func106, Tryz.ntmps106
  go_wp2_with fail
  rw [← HL.out]
  go_loopw [5, 8] (fun pv iv wr => ∃ k : Nat, iv = .int .i64 (k : Int) ∧ k ≤ n ∧ IsN wr pv (a ^ k) ∧ Below w.heap.size w wr) (fun _ iv _ => n - (intOf iv).toNat)
  case atStart => exact ⟨0, rfl, Nat.zero_le _, by rw [Nat.pow_zero]; exact HONE.out, HEXT.out⟩
  case round =>
    obtain ⟨k, rfl, hk, hv, hbel⟩ := hrel
    obtain ⟨a2, n2, c2, rfl, hv'⟩ := hv.op
    have HV := Lib.hid hv'
    have HB := Lib.hid hbel
    clear hv hv' hbel
    by_cases hkn : k < n
    · have HLP : Hid ((dig W64 (a ^ k)).length ≤ 100000) := Lib.hid (by
        have h1 := dig_pow_len (k := k) HLA.out
        have h2 : k * 1000 ≤ 60 * 1000 := Nat.mul_le_mul_right _ (by omega)
        omega)
      have hkn2 : (k : Int) < (n : Int) := by omega
      go_wp2_with fail
      refine ntimes_any _ _ (a ^ k) a _ HV.out (HA.out.later HB.out (Nat.le_refl _)) (Nat.le_trans HLP.out (by omega)) (Nat.le_trans HLA.out (by omega)) _ ?_
      intro v2 w2 hv2 hb2
      rw [← Nat.pow_succ] at hv2
      have HV2 := Lib.hid hv2
      have HB2 := Lib.hid (HB.out.trans (hb2.mono HB.out.size))
      clear hv2 hb2
      dsimp only
      go_wp2
      go_roundw
      case rel => exact ⟨k + 1, by first | rfl | go_num, by omega, HV2.out, HB2.out⟩
      case measure => simp [intOf]; omega
    · obtain rfl : k = n := by omega
      go_wp2
      first | go_ret | skip
      exact HR.out _ _ HV.out HB.out
end Go.Proofs.YtbglfendcpbjpaaGreatDoor

namespace Go.Proofs.YtbglfendcpbjpaaGreatDoor
open Go Go.RowKit

theorem neg_pow_nat (m n : Nat) : (-(m : Int)) ^ n = if n % 2 = 1 then -((m ^ n : Nat) : Int) else ((m ^ n : Nat) : Int) := by
  induction n with
  | zero => simp
  | succ n ih =>
    rw [Int.pow_succ, ih, Nat.pow_succ]
    by_cases h : n % 2 = 1
    · rw [if_pos h, if_neg (by omega), Int.neg_mul_neg, Int.natCast_mul]
    · rw [if_neg h, if_pos (by omega), Int.mul_neg, Int.natCast_mul]

theorem pow_pos_sgn (z : Int) (n : Nat) (h : ¬ z < 0) : sgn false (z.natAbs ^ n) = z ^ n := by
  obtain ⟨m, rfl⟩ : ∃ m : Nat, z = (m : Int) := ⟨z.natAbs, by omega⟩
  rw [Int.natAbs_natCast, ← Int.natCast_pow]; rfl

theorem pow_neg_sgn (z : Int) (n : Nat) (h : z < 0) : sgn ((n : Int) % 2 == 1) (z.natAbs ^ n) = z ^ n := by
  obtain ⟨m, rfl⟩ : ∃ m : Nat, z = -(m : Int) := ⟨z.natAbs, by omega⟩
  rw [Int.natAbs_neg, Int.natAbs_natCast, neg_pow_nat]
  by_cases h1 : n % 2 = 1
  · rw [if_pos h1, show ((n : Int) % 2 == 1) = true by simp; omega]; rfl
  · rw [if_neg h1, show ((n : Int) % 2 == 1) = false by simp; omega]; rfl

set_option maxRecDepth 100000 in
set_option maxHeartbeats 2000000 in
theorem ipow_any (v : Value) (z : Int) (n : Nat) (w : World) (h : IsI w v z) (hn : n ≤ 60) (hla : (dig W64 z.natAbs).length ≤ 1000) (R : Ending → World → Prop)
    (hR : ∀ v' w', IsI w' v' (z ^ n) → Below w.heap.size w w' → R (.returned v') w') :
    Calls Tryz.prog 105 #[v, .int .i64 (n : Int)] w R := by
  have HR := Lib.hid hR; clear hR
  obtain ⟨ng, a1, n1, c1, hng, rfl, hn1⟩ := h.parts
  obtain ⟨L, hL⟩ : ∃ L, L = (w.alloc (.cells #[.bool ng, .slice a1 n1 c1] 50)).alloc (.cells #[.bool false, .slice none 0 0] 50) := ⟨_, rfl⟩
  have HEXT : Hid (Below w.heap.size w L) := Lib.hid (by rw [hL]; exact ((Below.refl w.heap.size w).alloc (Nat.le_refl _) _).alloc (by simp) _)
  have hLs : L.heap.size = w.heap.size + 2 := by rw [hL]; simp
  have B0 : Box2 L w.heap.size (.bool ng) (.slice a1 n1 c1) 50 := by rw [hL]; exact (Box2.made w _ _ _).alloc _
  have B1 : Box2 L (w.heap.size + 1) (.bool false) (.slice none 0 0) 50 := by
    have := Box2.made (w.alloc (.cells #[.bool ng, .slice a1 n1 c1] 50)) (.bool false) (.slice none 0 0) 50
    rw [World.size_alloc, ← hL] at this; exact this
  have HK : Hid (w.heap.size + 1 < L.heap.size) := Lib.hid (by omega)
  have HL := Lib.hid hL
  have HNG := Lib.hid hng
  have HB1 := Lib.hid B1
  have Y1 := Lib.hid (hn1.later HEXT.out (Nat.le_refl _))
  obtain ⟨hA, hB, _, _⟩ := B0.cells
  rw [hL] at hA hB
  have HLA := Lib.hid hla
  cases ng with
  | false =>
      clear hng h hn1 hL hLs B0 B1 hla
      go_enter Tryz.func105, Tryz.ntmps105
      go_wp2_with fail
      rw [← HL.out]
      refine npow_any _ z.natAbs n _ Y1.out hn HLA.out _ ?_
      intro v1 w1 hv1 hb1
      obtain ⟨a7, n7, c7, rfl, hv1'⟩ := hv1.op
      have HV1 := Lib.hid hv1'
      have HT1 := Lib.hid hb1
      clear hv1 hv1' hb1 hA hB
      dsimp only
      go_wp2_with fail
      refine integerOf_z (false) _ (z.natAbs ^ n) _ HV1.out _ ?_
      intro v2 w2 hv2 hb2
      rw [pow_pos_sgn z n (of_decide_eq_false HNG.out.symm)] at hv2
      obtain ⟨m2, a5, m5, c5, hm2, rfl, hn5⟩ := hv2.parts
      have HV5 := Lib.hid hn5
      have HM2 := Lib.hid hm2
      have HT2 := Lib.hid (HT1.out.trans (hb2.mono HT1.out.size))
      have d2 := HB1.out.later HT2.out HK.out
      clear hv2 hb2 hm2 hn5
      obtain ⟨hR0, hR1, hR2, hR3⟩ := d2.cells
      have HD2 := Lib.hid d2
      clear d2
      dsimp only
      go_wp2
      refine bodyPost_ret_at (by simp [results, Tryz.results105, go_sem, hR0, hR1, hR2, hR3] <;> rfl) rfl ?_
      exact HR.out _ _ (IsI.mk HM2.out (HV5.out.set2 (HD2.out.noInt rfl rfl) _ _ rfl)) (((HEXT.out.trans (HT2.out.mono HEXT.out.size)).setCell (show w.heap.size ≤ w.heap.size + 1 by omega) _).setCell (show w.heap.size ≤ w.heap.size + 1 by omega) _)
  | true =>
      clear hng h hn1 hL hLs B0 B1 hla
      go_enter Tryz.func105, Tryz.ntmps105
      go_wp2_with fail
      rw [← HL.out]
      refine npow_any _ z.natAbs n _ Y1.out hn HLA.out _ ?_
      intro v1 w1 hv1 hb1
      obtain ⟨a7, n7, c7, rfl, hv1'⟩ := hv1.op
      have HV1 := Lib.hid hv1'
      have HT1 := Lib.hid hb1
      clear hv1 hv1' hb1 hA hB
      dsimp only
      go_wp2_with fail
      refine integerOf_z (((n : Int) % 2 == 1)) _ (z.natAbs ^ n) _ HV1.out _ ?_
      intro v2 w2 hv2 hb2
      rw [pow_neg_sgn z n (of_decide_eq_true HNG.out.symm)] at hv2
      obtain ⟨m2, a5, m5, c5, hm2, rfl, hn5⟩ := hv2.parts
      have HV5 := Lib.hid hn5
      have HM2 := Lib.hid hm2
      have HT2 := Lib.hid (HT1.out.trans (hb2.mono HT1.out.size))
      have d2 := HB1.out.later HT2.out HK.out
      clear hv2 hb2 hm2 hn5
      obtain ⟨hR0, hR1, hR2, hR3⟩ := d2.cells
      have HD2 := Lib.hid d2
      clear d2
      dsimp only
      go_wp2
      refine bodyPost_ret_at (by simp [results, Tryz.results105, go_sem, hR0, hR1, hR2, hR3] <;> rfl) rfl ?_
      exact HR.out _ _ (IsI.mk HM2.out (HV5.out.set2 (HD2.out.noInt rfl rfl) _ _ rfl)) (((HEXT.out.trans (HT2.out.mono HEXT.out.size)).setCell (show w.heap.size ≤ w.heap.size + 1 by omega) _).setCell (show w.heap.size ≤ w.heap.size + 1 by omega) _)
end Go.Proofs.YtbglfendcpbjpaaGreatDoor

namespace Go.Proofs.YtbglfendcpbjpaaGreatDoor
open Go Go.RowKit

set_option maxRecDepth 100000 in
set_option maxHeartbeats 4000000 in
theorem rpow_any (v : Value) (a : Rat) (n : Nat) (w : World) (h : IsR w v a) (hn : n ≤ 60) (hla : (dig W64 a.num.natAbs).length ≤ 1000) (hla2 : (dig W64 a.den).length ≤ 1000) (R : Ending → World → Prop)
    (hR : ∀ v' w', IsR w' v' (a ^ n) → Below w.heap.size w w' → R (.returned v') w') :
    Calls Tryz.prog 58 #[v, .int .i64 (n : Int)] w R := by
  have HR := Lib.hid hR; clear hR
  obtain ⟨na, a1, n1, c1, a2, n2, c2, hna, rfl, hn1, hn2⟩ := h.parts
  obtain ⟨L, hL⟩ : ∃ L, L = (w.alloc (.cells #[.bool na, .slice a1 n1 c1, .slice a2 n2 c2] 52)).alloc (.cells #[.bool false, .slice none 0 0, .slice none 0 0] 52) := ⟨_, rfl⟩
  have HEXT : Hid (Below w.heap.size w L) := Lib.hid (by rw [hL]; exact ((Below.refl w.heap.size w).alloc (Nat.le_refl _) _).alloc (by simp) _)
  have hLs : L.heap.size = w.heap.size + 2 := by rw [hL]; simp
  have hb1 : Below (w.heap.size + 1) (w.alloc (.cells #[.bool na, .slice a1 n1 c1, .slice a2 n2 c2] 52)) L := by rw [hL]; exact (Below.refl _ _).alloc (by simp) _
  have B0 : Box3 L w.heap.size (.bool na) (.slice a1 n1 c1) (.slice a2 n2 c2) 52 := (Box3.made w _ _ _ _).later hb1 (by omega)
  have B2 : Box3 L (w.heap.size + 1) (.bool false) (.slice none 0 0) (.slice none 0 0) 52 := by
    have := Box3.made (w.alloc (.cells #[.bool na, .slice a1 n1 c1, .slice a2 n2 c2] 52)) (.bool false) (.slice none 0 0) (.slice none 0 0) 52
    rw [World.size_alloc, ← hL] at this; exact this
  have HL := Lib.hid hL
  have HLS := Lib.hid hLs
  have HB2 := Lib.hid B2
  have HNA := Lib.hid hna
  have XI : Hid (IsI L (.agg #[.bool na, .slice a1 n1 c1]) a.num) := Lib.hid (IsI.mk hna (hn1.later HEXT.out (Nat.le_refl _)))
  have X1 := Lib.hid (hn1.later HEXT.out (Nat.le_refl _))
  have X2 := Lib.hid (hn2.later HEXT.out (Nat.le_refl _))
  have HIV : Hid (a.num ^ n = (a ^ n).num ∧ a.den ^ n = (a ^ n).den) := Lib.hid ⟨(Rat.num_pow a n).symm, (Rat.den_pow a n).symm⟩
  have HLL := Lib.hid (And.intro hn (And.intro hla hla2))
  have HSOF : Hid (∀ w', Below (w.heap.size + 1) L w' → (Below (w.heap.size + 1) L w' ∧ (w'.cell? ⟨w.heap.size, 0, none⟩ = some (.bool na) ∧ w'.cell? ⟨w.heap.size, 1, none⟩ = some (.slice a1 n1 c1) ∧ w'.cell? ⟨w.heap.size, 2, none⟩ = some (.slice a2 n2 c2)))) :=
    Lib.hid fun w' hb => ⟨hb, (B0.later hb (by omega)).cells.1⟩
  clear hna h hn hla hla2 hn1 hn2 hb1 B0 B2 hL hLs
  go_enter Tryz.func58, Tryz.ntmps58
  go_wp2_with fail
  rw [← HL.out]
  go_region_held3 (fun w' => Below (w.heap.size + 1) L w' ∧ (w'.cell? ⟨w.heap.size, 0, none⟩ = some (.bool na) ∧ w'.cell? ⟨w.heap.size, 1, none⟩ = some (.slice a1 n1 c1) ∧ w'.cell? ⟨w.heap.size, 2, none⟩ = some (.slice a2 n2 c2)))
    (first
      | exact HSOF.out _ HQ2.out
      | exact HSOF.out _ HQ1.out
      | exact HSOF.out _ (Below.refl _ _).drew
      | exact HSOF.out _ (((HQ2.out.setCell (by simp) _).setCell (by simp) _).setCell (by simp) _))
    (first
      | (go_at_call 106; refine npow_any _ a.den n _ (X2.out.later HT1.out (Nat.le_refl _)) HLL.out.1 HLL.out.2.2 _ ?_; rw [HIV.out.2]; intro v2 w2 hv2 hb2; obtain ⟨a6, m6, c6, rfl, hn6⟩ := hv2.op; have HV2 := Lib.hid hn6; have HV1' := Lib.hid (HV1.out.later hb2 (Nat.le_refl _)); have HT2 := Lib.hid (HT1.out.trans (hb2.mono HT1.out.size)); have HQ2 : Hid (Below (w.heap.size + 1) L w2) := Lib.hid (HT2.out.mono (by have := HLS.out; omega)); have d1 := HB2.out.later HT2.out (by have := HLS.out; omega); obtain ⟨⟨hR0, hR1, hR2⟩, hF0, hF1, hF2⟩ := d1.cells; have HD1 := Lib.hid d1; clear hv2 hb2 hn6 d1; dsimp only)
      | (go_at_call 105; refine ipow_any _ a.num n _ (XI.out.later (Below.refl _ _).drew (Nat.le_refl _)) HLL.out.1 HLL.out.2.1 _ ?_; rw [HIV.out.1]; intro v1 w1 hv1 hb1; obtain ⟨m1, a5, m5, c5, hm1, rfl, hn5⟩ := hv1.parts; have HM1 := Lib.hid hm1; have HV1 := Lib.hid hn5; have HT1 : Hid (Below L.heap.size L w1) := Lib.hid (below_unDrew hb1); have HQ1 : Hid (Below (w.heap.size + 1) L w1) := Lib.hid (HT1.out.mono (by have := HLS.out; omega)); clear hv1 hb1 hm1 hn5; dsimp only))
  all_goals
    go_wp2
    refine bodyPost_ret_at (by simp [results, Tryz.results58, go_sem, hR0, hR1, hR2, hF0, hF1, hF2] <;> rfl) rfl ?_
    have hq : IsR w2 (.agg #[.bool m1, .slice a5 m5 c5, .slice a6 m6 c6]) (a ^ n) := ⟨_, _, by rw [HM1.out], HV1'.out, HV2.out⟩
    refine HR.out _ _ (IsR.set3 hq (HD1.out.noInt rfl rfl rfl) _ _ _ rfl rfl) ?_
    exact (((HEXT.out.trans (HT2.out.mono HEXT.out.size)).setCell (show w.heap.size ≤ w.heap.size + 1 by omega) _).setCell (show w.heap.size ≤ w.heap.size + 1 by omega) _).setCell (show w.heap.size ≤ w.heap.size + 1 by omega) _

end Go.Proofs.YtbglfendcpbjpaaGreatDoor

namespace Go.Proofs.YtbglfendcpbjpaaGreatDoor
open Go Go.RowKit

theorem zpow_len {z : Int} {k N : Nat} (h : (dig 10000 z.natAbs).length ≤ N) : (dig 10000 (z ^ k).natAbs).length ≤ k * N + 1 := by
  rw [Int.natAbs_pow]
  by_cases hk : k = 0
  · subst hk
    rw [Nat.pow_zero, Nat.zero_mul, Nat.zero_add]
    exact dig_length_le (by omega) 1 1 (by omega)
  · refine Nat.le_trans (dig_length_le (by omega) (N * k) _ ?_) (by rw [Nat.mul_comm]; omega)
    have h1 := Nat.lt_of_lt_of_le (lt_pow_dig (by omega : 2 ≤ 10000) z.natAbs) (Nat.pow_le_pow_right (by omega) h)
    rw [Nat.pow_mul]
    exact Nat.pow_lt_pow_left h1 hk

theorem IsZ.set4 {w : World} {v : Value} {z : Int} (h : IsZ w v z) {b : Nat} (hb : NoInt w b) (y0 y1 y2 y3 : Value) (h0 : notInt y0 = true) (h1 : notInt y1 = true) (h2 : notInt y2 = true) :
    IsZ ((((w.setCell ⟨b, 0, none⟩ y0).setCell ⟨b, 1, none⟩ y1).setCell ⟨b, 2, none⟩ y2).setCell ⟨b, 3, none⟩ y3) v z := by
  obtain ⟨s, e, hs⟩ := h
  exact ⟨s, e, (((hs.set hb 0 y0).set (hb.set 0 _ h0) 1 y1).set ((hb.set 0 _ h0).set 1 _ h1) 2 y2).set (((hb.set 0 _ h0).set 1 _ h1).set 2 _ h2) 3 y3⟩

theorem IsQ.set4 {w : World} {v : Value} {q : Rat} (h : IsQ w v q) {b : Nat} (hb : NoInt w b) (y0 y1 y2 y3 : Value) (h0 : notInt y0 = true) (h1 : notInt y1 = true) (h2 : notInt y2 = true) :
    IsQ ((((w.setCell ⟨b, 0, none⟩ y0).setCell ⟨b, 1, none⟩ y1).setCell ⟨b, 2, none⟩ y2).setCell ⟨b, 3, none⟩ y3) v q := by
  obtain ⟨s1, s2, e, k1, k2⟩ := h
  exact ⟨s1, s2, e, (((k1.set hb 0 y0).set (hb.set 0 _ h0) 1 y1).set ((hb.set 0 _ h0).set 1 _ h1) 2 y2).set (((hb.set 0 _ h0).set 1 _ h1).set 2 _ h2) 3 y3,
    (((k2.set hb 0 y0).set (hb.set 0 _ h0) 1 y1).set ((hb.set 0 _ h0).set 1 _ h1) 2 y2).set (((hb.set 0 _ h0).set 1 _ h1).set 2 _ h2) 3 y3⟩

theorem IsQ.ofPow {w : World} {b1 b2 : Bool} {a1 a2 : Option Addr} {n1 c1 n2 c2 k : Nat} {q : Rat} (h1 : IsZ w (.agg #[.bool b1, .slice a1 n1 c1]) (q.num ^ k)) (h2 : IsZ w (.agg #[.bool b2, .slice a2 n2 c2]) ((q.den : Int) ^ k)) :
    IsQ w (.agg #[.bool b1, .slice a1 n1 c1, .bool b2, .slice a2 n2 c2]) (q ^ k) := by
  obtain ⟨s1, e1, k1⟩ := h1
  obtain ⟨s2, e2, k2⟩ := h2
  have e3 : ((q.den : Int) ^ k) = ((q.den ^ k : Nat) : Int) := (Int.natCast_pow _ _).symm
  rw [e3] at e2 k2
  have f1 : b1 = decide (q.num ^ k < 0) ∧ Value.slice a1 n1 c1 = s1 := by simpa using e1
  have f2 : b2 = decide (((q.den ^ k : Nat) : Int) < 0) ∧ Value.slice a2 n2 c2 = s2 := by simpa using e2
  refine ⟨s1, s2, ?_, ?_, ?_⟩
  · rw [f1.1, f1.2, f2.1, f2.2, Rat.num_pow, decide_eq_false (by omega : ¬ ((q.den ^ k : Nat) : Int) < 0)]
  · rw [Rat.num_pow]; exact k1
  · rw [Rat.den_pow]; simpa using k2

/-- what the loop of a power keeps -/
def PowRel (g n : Nat) (a : Rat) (W : World) (iv : Value) (wr : World) : Prop :=
  ∃ k m1 a5 n5 c5 m2 a6 n6 c6, k ≤ n ∧ iv = .int .i64 ((n : Int) - (k : Nat)) ∧ Box4 wr g (.bool m1) (.slice a5 n5 c5) (.bool m2) (.slice a6 n6 c6) 41 ∧
    IsZ wr (.agg #[.bool m1, .slice a5 n5 c5]) (a.num ^ k) ∧ IsZ wr (.agg #[.bool m2, .slice a6 n6 c6]) ((a.den : Int) ^ k) ∧ Below g W wr

set_option maxRecDepth 100000 in
set_option maxHeartbeats 4000000 in
theorem spow_any (v : Value) (a : Rat) (n : Nat) (w : World) (h : IsQ w v a) (hn : n ≤ 60) (hl1 : (dig 10000 a.num.natAbs).length ≤ 100) (hl2 : (dig 10000 a.den).length ≤ 100) (R : Ending → World → Prop)
    (hR : ∀ v' w', IsQ w' v' (a ^ n) → Below w.heap.size w w' → R (.returned v') w') :
    Calls Tryz.prog 57 #[v, .int .i64 (n : Int)] w R := by
  have HR := Lib.hid hR; clear hR
  obtain ⟨nb, a3, n3, c3, a4, n4, c4, rfl, hz3, hz4⟩ := h.parts
  obtain ⟨L, hL⟩ : ∃ L, L = (w.alloc (.cells #[.bool nb, .slice a3 n3 c3, .bool false, .slice a4 n4 c4] 41)).alloc (.cells #[.bool false, .slice none 0 0, .bool false, .slice none 0 0] 41) := ⟨_, rfl⟩
  have HEXT : Hid (Below w.heap.size w L) := Lib.hid (by rw [hL]; exact ((Below.refl w.heap.size w).alloc (Nat.le_refl _) _).alloc (by simp) _)
  have hLs : L.heap.size = w.heap.size + 2 := by rw [hL]; simp
  have hb1 : Below (w.heap.size + 1) (w.alloc (.cells #[.bool nb, .slice a3 n3 c3, .bool false, .slice a4 n4 c4] 41)) L := by rw [hL]; exact (Below.refl _ _).alloc (by simp) _
  have B0 : Hid (Box4 L w.heap.size (.bool nb) (.slice a3 n3 c3) (.bool false) (.slice a4 n4 c4) 41) := Lib.hid ((Box4.made w _ _ _ _ _).later hb1 (by omega))
  have B1 : Hid (Box4 L (w.heap.size + 1) (.bool false) (.slice none 0 0) (.bool false) (.slice none 0 0) 41) := Lib.hid (by
    have := Box4.made (w.alloc (.cells #[.bool nb, .slice a3 n3 c3, .bool false, .slice a4 n4 c4] 41)) (.bool false) (.slice none 0 0) (.bool false) (.slice none 0 0) 41
    rw [World.size_alloc, ← hL] at this; exact this)
  have HLS := Lib.hid hLs
  have HL := Lib.hid hL
  have HZ3 := Lib.hid (hz3.later HEXT.out (Nat.le_refl _))
  have HZ4 := Lib.hid (hz4.later HEXT.out (Nat.le_refl _))
  have HLL := Lib.hid (And.intro hl1 (And.intro hl2 hn))
  clear h hz3 hz4 hb1 hL hLs hl1 hl2
  go_enter Tryz.func57, Tryz.ntmps57
  go_wp2_with fail
  rw [← HL.out]
  refine int_any 1 _ (by omega) (by omega) _ ?_
  intro v1 w1 hq1 hb1
  obtain ⟨m0, a5, n5, c5, a6, n6, c6, rfl, hy1, hy2⟩ := hq1.parts
  obtain ⟨g, hg⟩ : ∃ g, g = w1.heap.size := ⟨_, rfl⟩
  obtain ⟨W, hW⟩ : ∃ W, W = w1.alloc (.cells #[.bool m0, .slice a5 n5 c5, .bool false, .slice a6 n6 c6] 41) := ⟨_, rfl⟩
  have HW := Lib.hid hW
  have hw : Below w1.heap.size w1 W := by rw [hW]; exact (Below.refl _ _).alloc (Nat.le_refl _) _
  have HBW : Hid (Below L.heap.size L W) := Lib.hid (hb1.trans (hw.mono hb1.size))
  have HGL : Hid (L.heap.size ≤ g) := Lib.hid (by rw [hg]; exact hb1.size)
  have HGW : Hid (g < W.heap.size) := Lib.hid (by rw [hg, hW]; simp)
  have HREL : Hid (PowRel g n a W (.int .i64 (n : Int)) W) := Lib.hid (by
    refine ⟨0, m0, a5, n5, c5, false, a6, n6, c6, Nat.zero_le _, by simp, by rw [hg, hW]; exact Box4.made w1 _ _ _ _ _, ?_, ?_, Below.refl _ _⟩
    · have := hy1.later hw (Nat.le_refl _)
      rw [Int.pow_zero]; simpa using this
    · have := hy2.later hw (Nat.le_refl _)
      rw [Int.pow_zero]; simpa using this)
  clear hq1 hy1 hy2 hb1 hW hw hn
  dsimp only
  go_wp2_with fail
  rw [← HW.out]
  rw [← hg]
  clear hg
  go_loopw [1] (fun iv wr => PowRel g n a W iv wr) (fun iv _ => (intOf iv).toNat)
  case atStart => exact HREL.out
  case round =>
    clear HREL
    obtain ⟨k, m1, a7, n7, c7, m2, a8, n8, c8, hk, rfl, hbox, hz1, hz2, hbel⟩ := hrel
    have HBOX := Lib.hid hbox
    have HZ1 := Lib.hid hz1
    have HZ2 := Lib.hid hz2
    have HB := Lib.hid hbel
    have HA0 := Lib.hid ((B0.out.later HBW.out (by have := HLS.out; omega)).later hbel (by have := HLS.out; have := HGL.out; omega))
    have HGR : Hid (g < wr.heap.size) := Lib.hid (by have := HGW.out; have := hbel.size; omega)
    have HLR : Hid (Below L.heap.size L wr) := Lib.hid (HBW.out.trans (hbel.mono HGL.out))
    have HZ3' := Lib.hid (HZ3.out.later HLR.out (Nat.le_refl _))
    have HZ4' := Lib.hid (HZ4.out.later HLR.out (Nat.le_refl _))
    have HKK := Lib.hid hk
    clear hbox hz1 hz2 hbel
    obtain ⟨⟨hP0, hP1, hP2, hP3⟩, hP4, hP5, hP6, hP7⟩ := HBOX.out.cells
    obtain ⟨⟨hQ0, hQ1, hQ2, hQ3⟩, _, _, _, _⟩ := HA0.out.cells
    by_cases hkn : k < n
    · have hkn2 : (0 : Int) < (n : Int) - (k : Int) := by omega
      have hwr : IntKind.i64.wrap ((n : Int) - (k : Int) - 1) = (n : Int) - (k : Int) - 1 := IntWalk.i64_in _ (by have := HLL.out.2.2; omega)
      have HLP : Hid ((dig 10000 (a.num ^ k).natAbs).length ≤ 100000 ∧ (dig 10000 ((a.den : Int) ^ k).natAbs).length ≤ 100000) := Lib.hid (by
        have h1 := zpow_len (k := k) HLL.out.1
        have h2 := zpow_len (z := (a.den : Int)) (k := k) (N := 100) (by rw [Int.natAbs_natCast]; exact HLL.out.2.1)
        have h3 : k * 100 ≤ 60 * 100 := Nat.mul_le_mul_right _ (by have := HLL.out.2.2; omega)
        omega)
      have HKN := Lib.hid hkn
      clear hkn hk
      go_wp2_with fail
      go_region_law (first
        | (have hguard := hb3; go_simp; go_at_call 78; refine zmul_any _ _ ((a.den : Int) ^ k) (a.den : Int) _ (HZ2.out.later HB3.out (Nat.le_refl _)) (HZ4'.out.later HB3.out (Nat.le_refl _)) (Nat.le_trans HLP.out.2 (by omega)) (by rw [Int.natAbs_natCast]; exact Nat.le_trans HLL.out.2.1 (by omega)) _ ?_; intro v4 w4 hz4 hb4; rw [← Int.pow_succ] at hz4; obtain ⟨m4, a10, n10, c10, rfl, hz4'⟩ := hz4.openB; have HV4 := Lib.hid hz4'; have HV3' := Lib.hid (HV3.out.later hb4 (Nat.le_refl _)); have HB4 := Lib.hid (HB3.out.trans (hb4.mono HB3.out.size)); have k4 := HBOX.out.later HB4.out HGR.out; have l4 := HA0.out.later HB4.out (Nat.lt_of_lt_of_le (by have := HLS.out; have := HGL.out; omega : w.heap.size < g) (Nat.le_of_lt HGR.out)); obtain ⟨⟨hT0, hT1, hT2, hT3⟩, hT4, hT5, hT6, hT7⟩ := k4.cells; obtain ⟨⟨hU0, hU1, hU2, hU3⟩, _, _, _, _⟩ := l4.cells; have HK4 := Lib.hid k4; clear hguard hz4 hz4' hb4 k4 l4; dsimp only)
        | (go_simp; go_at_call 78; refine zmul_any _ _ (a.num ^ k) a.num _ (HZ1.out.drew.later (Below.refl _ _) (Nat.le_refl _)) (HZ3'.out.drew.later (Below.refl _ _) (Nat.le_refl _)) (Nat.le_trans HLP.out.1 (by omega)) (Nat.le_trans HLL.out.1 (by omega)) _ ?_; intro v3 w3 hz3 hb3; rw [← Int.pow_succ] at hz3; obtain ⟨m3, a9, n9, c9, rfl, hz3'⟩ := hz3.openB; have HV3 := Lib.hid hz3'; have HB3 : Hid (Below wr.heap.size wr w3) := Lib.hid (below_ofDrew hb3); have k3 := HBOX.out.later HB3.out HGR.out; have l3 := HA0.out.later HB3.out (Nat.lt_of_lt_of_le (by have := HLS.out; have := HGL.out; omega : w.heap.size < g) (Nat.le_of_lt HGR.out)); obtain ⟨⟨hR0, hR1, hR2, hR3⟩, _, _, _, _⟩ := k3.cells; obtain ⟨⟨hS0, hS1, hS2, hS3⟩, _, _, _, _⟩ := l3.cells; clear hz3 hz3' k3 l3; dsimp only))
      all_goals
        have HN4 := HK4.out.noInt rfl rfl rfl rfl
        have HREL : Hid (PowRel g n a W (.int .i64 ((n : Int) - ((k + 1 : Nat) : Int))) ((((w4.setCell ⟨g, 0, none⟩ (.bool m3)).setCell ⟨g, 1, none⟩ (.slice a9 n9 c9)).setCell ⟨g, 2, none⟩ (.bool m4)).setCell ⟨g, 3, none⟩ (.slice a10 n10 c10))) := Lib.hid
          ⟨k + 1, m3, a9, n9, c9, m4, a10, n10, c10, HKN.out, rfl, HK4.out.set4 _ _ _ _, HV3'.out.set4 HN4 _ _ _ _ rfl rfl rfl, HV4.out.set4 HN4 _ _ _ _ rfl rfl rfl,
            ((((HB.out.trans (HB4.out.mono (Nat.le_of_lt HGR.out))).setCell (Nat.le_refl _) _).setCell (Nat.le_refl _) _).setCell (Nat.le_refl _) _).setCell (Nat.le_refl _) _⟩
        have hcast : (n : Int) - (k : Int) - 1 = (n : Int) - ((k + 1 : Nat) : Int) := by omega
        rw [← hcast] at HREL
        clear hcast HN4
        go_wp2
        go_roundw
        case rel => exact HREL.out
        case measure => simp only [intOf]; omega
    · obtain rfl : k = n := by omega
      have hkn2 : ¬ (0 : Int) < (k : Int) - (k : Int) := by omega
      have HQ : Hid (IsQ wr (.agg #[.bool m1, .slice a7 n7 c7, .bool m2, .slice a8 n8 c8]) (a ^ k)) := Lib.hid (IsQ.ofPow HZ1.out HZ2.out)
      have d1 := B1.out.later HLR.out (by have := HLS.out; omega)
      obtain ⟨⟨hR0, hR1, hR2, hR3⟩, hF0, hF1, hF2, hF3⟩ := d1.cells
      have HD1 := Lib.hid d1
      clear hkn hk d1
      go_wp2
      refine bodyPost_ret_at (by simp [results, Tryz.results57, go_sem, hR0, hR1, hR2, hR3, hF0, hF1, hF2, hF3] <;> rfl) rfl ?_
      exact HR.out _ _ (HQ.out.set4 (HD1.out.noInt rfl rfl rfl rfl) _ _ _ _ rfl rfl rfl) (((((HEXT.out.trans (HLR.out.mono HEXT.out.size)).setCell (show w.heap.size ≤ w.heap.size + 1 by omega) _).setCell (show w.heap.size ≤ w.heap.size + 1 by omega) _).setCell (show w.heap.size ≤ w.heap.size + 1 by omega) _).setCell (show w.heap.size ≤ w.heap.size + 1 by omega) _)
end Go.Proofs.YtbglfendcpbjpaaGreatDoor

namespace Go.Proofs.YtbglfendcpbjpaaGreatDoor
open Go Go.RowKit

set_option maxRecDepth 100000 in
theorem in_any (n low high : Int) (w : World) (R : Ending → World → Prop) (hR : R (.returned (.bool (decide (low ≤ n ∧ n ≤ high)))) w) :
    Calls Tryz.prog 56 #[.int .i64 n, .int .i64 low, .int .i64 high] w R := by
  have HR := Lib.hid hR; clear hR
  by_cases h1 : low ≤ n
  · by_cases h2 : n ≤ high
    · rw [decide_eq_true ⟨h1, h2⟩] at HR
      go_enter Tryz.func56, Tryz.ntmps56
      go_wp2
      first | go_ret | skip
      exact HR.out
    · rw [decide_eq_false (fun h => h2 h.2)] at HR
      go_enter Tryz.func56, Tryz.ntmps56
      go_wp2
      first | go_ret | skip
      exact HR.out
  · rw [decide_eq_false (fun h => h1 h.1)] at HR
    go_enter Tryz.func56, Tryz.ntmps56
    go_wp2
    first | go_ret | skip
    exact HR.out

end Go.Proofs.YtbglfendcpbjpaaGreatDoor

namespace Go.Proofs.YtbglfendcpbjpaaGreatDoor
open Go Go.RowKit

/-- the power of the number that a text is -/
noncomputable def powO (s : List UInt8) (n : Int) : Option Rat := match numO s with
  | some a => if 0 ≤ n ∧ n ≤ 60 then some (a ^ n.toNat) else none
  | none => none
theorem powO_some {s : List UInt8} {a : Rat} {k : Nat} (ha : numO s = some a) (hk : k ≤ 60) : powO s (k : Int) = some (a ^ k) := by unfold powO; rw [ha]; simp; omega
theorem powO_none {s : List UInt8} {n : Int} (h : numO s = none) : powO s n = none := by unfold powO; rw [h]
theorem powO_out {s : List UInt8} {n : Int} (h : ¬ (0 ≤ n ∧ n ≤ 60)) : powO s n = none := by
  unfold powO
  cases numO s with
  | none => rfl
  | some a => simp only [if_neg h]

theorem pow_len {a : Rat} {k : Nat} (hk : k ≤ 60) (h1 : (dig 10000 a.num.natAbs).length ≤ 60) (h2 : (dig 10000 a.den).length ≤ 60) : (dig 10000 (a ^ k).num.natAbs).length ≤ 1000000000 ∧ (dig 10000 (a ^ k).den).length ≤ 1000000000 := by
  rw [Rat.num_pow, Rat.den_pow]
  have e1 := zpow_len (k := k) h1
  have e2 := zpow_len (z := (a.den : Int)) (k := k) (N := 60) (by rw [Int.natAbs_natCast]; exact h2)
  rw [Int.natAbs_pow, Int.natAbs_natCast] at e2
  have e3 : k * 60 ≤ 60 * 60 := Nat.mul_le_mul_right _ hk
  omega

set_option maxRecDepth 100000 in
set_option maxHeartbeats 2000000 in
theorem impl_powerOf (s : ByteArray) (n : Int) (w : World) (hE : Env w) (htab : Lib.TabIs Tryz.prog w "internal/strconv.uint64pow10" .u64 Lib.pow10Tab) (R : Ending → World → Prop)
    (hR : ∀ w', Below w.heap.size w w' → R (.returned (.tuple #[.string (outS (powO s.data.toList n)), .bool (outB (powO s.data.toList n))])) w') :
    Calls Tryz.prog 24 #[.string s, .int .i64 n] w R := by
  have HR := Lib.hid hR; clear hR
  have HE := Lib.hid hE; clear hE
  have HTAB := Lib.hid htab; clear htab
  go_enter Tryz.func24, Tryz.ntmps24
  go_wp2_with fail
  refine readq_any s _ HE.out _ ?_ ?_
  · intro va a w1 ha hva hb1
    obtain ⟨na, a1, n1, c1, a2, n2, c2, hna, rfl, hn1, hn2⟩ := hva.parts
    obtain ⟨L, hL⟩ : ∃ L, L = w1.alloc (.cells #[.bool na, .slice a1 n1 c1, .slice a2 n2 c2] 52) := ⟨_, rfl⟩
    have B0 : Box3 L w1.heap.size (.bool na) (.slice a1 n1 c1) (.slice a2 n2 c2) 52 := by rw [hL]; exact Box3.made w1 _ _ _ _
    have hw1 : Below w1.heap.size w1 L := by rw [hL]; exact (Below.refl w1.heap.size w1).alloc (Nat.le_refl _) _
    have HL := Lib.hid hL
    have HA := Lib.hid (hva.later hw1 (Nat.le_refl _))
    have HEX := Lib.hid (hb1.trans (hw1.mono hb1.size))
    have HLA := Lib.hid (few_len (numO_few ha) (B := W64) (by rw [W64_eq]; omega))
    obtain ⟨⟨hA, hB, hC⟩, _, _, _⟩ := B0.cells
    rw [hL] at hA hB hC
    have HNA := Lib.hid ha
    clear ha hva hb1 hna hn1 hn2 hL B0 hw1
    by_cases hb : 0 ≤ n ∧ n ≤ 60
    · obtain ⟨k, rfl⟩ : ∃ k : Nat, n = (k : Int) := ⟨n.toNat, by omega⟩
      have hk : k ≤ 60 := by omega
      rw [powO_some HNA.out hk] at HR
      have h8 : ¬ ((k : Int) < 0) := by omega
      have h9 : ¬ ((60 : Int) < (k : Int)) := by omega
      have HKK := Lib.hid hk
      clear hb
      dsimp only
      go_wp2_with fail
      rw [← HL.out]
      refine rpow_any _ a k _ HA.out HKK.out (Nat.le_trans HLA.out.1 (by omega)) (Nat.le_trans HLA.out.2 (by omega)) _ ?_
      intro vr w3 hr hb3
      obtain ⟨q, hq⟩ : ∃ q : Rat, q = a ^ k := ⟨_, rfl⟩
      rw [← hq] at HR hr
      obtain ⟨nr, a5, n5, c5, a6, n6, c6, hnr, rfl, _, _⟩ := hr.parts
      have HR3 := Lib.hid hr
      have HB3 := Lib.hid (HEX.out.trans (hb3.mono HEX.out.size))
      clear hr hb3 hnr hq hA hB hC
      dsimp only
      go_wp2_with fail
      refine rtext_o _ q _ HR3.out (tab_later HTAB.out HB3.out (Nat.le_refl _)) _ ?_
      intro w9 hb9
      have HB9 := Lib.hid (HB3.out.trans (hb9.mono HB3.out.size))
      obtain ⟨S, hS⟩ : ∃ S, S = outS (some q) := ⟨_, rfl⟩
      obtain ⟨B, hB⟩ : ∃ B, B = outB (some q) := ⟨_, rfl⟩
      rw [← hS, ← hB] at HR ⊢
      clear hS hB hb9
      dsimp only
      go_wp2
      first | go_ret | skip
      exact HR.out _ HB9.out
    · rw [powO_out hb] at HR
      by_cases h8 : n < 0
      · clear hb
        dsimp only
        go_wp2_with fail
        first | go_ret | skip
        try rw [← HL.out]
        exact HR.out _ HEX.out
      · have h9 : (60 : Int) < n := by omega
        clear hb
        dsimp only
        go_wp2_with fail
        first | go_ret | skip
        try rw [← HL.out]
        exact HR.out _ HEX.out
  · intro e w1 hn he hb1
    rw [powO_none hn] at HR
    obtain ⟨t', p, rfl⟩ := he
    have HB := Lib.hid hb1
    clear hb1 hn
    unfold zeroR
    dsimp only
    go_wp2
    first | go_ret | skip
    exact HR.out _ (HB.out.alloc HB.out.size _)

set_option maxRecDepth 100000 in
set_option maxHeartbeats 2000000 in
theorem spec_powerOf (s : ByteArray) (n : Int) (w : World) (hs : s.size ≤ 1100000) (R : Ending → World → Prop)
    (hR : ∀ w', Below w.heap.size w w' → R (.returned (.tuple #[.string (outS (powO s.data.toList n)), .bool (outB (powO s.data.toList n))])) w') :
    Calls Tryz.prog 23 #[.string s, .int .i64 n] w R := by
  have HR := Lib.hid hR; clear hR
  have HS := Lib.hid hs
  clear hs
  go_enter Tryz.func23, Tryz.ntmps23
  go_wp2_with fail
  refine isq_any s _ HS.out _ ?_
  intro w1 hb1
  have HB1 := Lib.hid hb1
  clear hb1
  cases ha : numO s.data.toList with
  | none =>
    rw [powO_none ha] at HR
    rw [Option.isSome_none]
    clear ha
    dsimp only
    go_wp2
    first | go_ret | skip
    exact HR.out _ HB1.out
  | some a =>
    have HA := Lib.hid ha
    rw [Option.isSome_some]
    have HLA := Lib.hid (few_len (numO_few ha) (B := 10000) (by omega))
    clear ha
    dsimp only
    go_wp2_with fail
    refine in_any _ _ _ _ _ ?_
    by_cases hb : 0 ≤ n ∧ n ≤ 60
    · rw [decide_eq_true hb]
      obtain ⟨k, rfl⟩ : ∃ k : Nat, n = (k : Int) := ⟨n.toNat, by omega⟩
      have hk : k ≤ 60 := by omega
      rw [powO_some HA.out hk] at HR
      have HKK := Lib.hid hk
      clear hb hk
      dsimp only
      go_wp2_with fail
      refine ofq_any s a _ HA.out _ ?_
      intro va w3 hqa hb3
      obtain ⟨na, a1, n1, c1, a2, n2, c2, rfl, _, _⟩ := hqa.parts
      have HQA := Lib.hid hqa
      have HB3 := Lib.hid (HB1.out.trans (hb3.mono HB1.out.size))
      clear hqa hb3
      dsimp only
      go_wp2_with fail
      refine spow_any _ a k _ HQA.out HKK.out (Nat.le_trans HLA.out.1 (by omega)) (Nat.le_trans HLA.out.2 (by omega)) _ ?_
      intro vr w5 hr hb5
      have HLQ := Lib.hid (pow_len HKK.out HLA.out.1 HLA.out.2)
      obtain ⟨q, hq⟩ : ∃ q : Rat, q = a ^ k := ⟨_, rfl⟩
      rw [← hq] at HR hr HLQ
      obtain ⟨nr, a5, n5, c5, a6, n6, c6, rfl, _, _⟩ := hr.parts
      have HQR := Lib.hid hr
      have HB5 := Lib.hid (HB3.out.trans (hb5.mono HB3.out.size))
      clear hr hb5 hq
      dsimp only
      go_wp2_with fail
      refine give_o _ q _ HQR.out HLQ.out.1 HLQ.out.2 _ ?_
      intro w9 hb9
      have HB9 := Lib.hid (HB5.out.trans (hb9.mono HB5.out.size))
      obtain ⟨S, hS⟩ : ∃ S, S = outS (some q) := ⟨_, rfl⟩
      obtain ⟨B, hB⟩ : ∃ B, B = outB (some q) := ⟨_, rfl⟩
      rw [← hS, ← hB] at HR ⊢
      clear hS hB hb9
      dsimp only
      go_wp2
      first | go_ret | skip
      exact HR.out _ HB9.out
    · rw [decide_eq_false hb]
      rw [powO_out hb] at HR
      clear hb
      dsimp only
      go_wp2
      first | go_ret | skip
      exact HR.out _ HB1.out

set_option maxRecDepth 100000 in
set_option maxHeartbeats 1000000 in
theorem law_powerOf (s : ByteArray) (n : Int) (w : World) (hE : Env w) (htab : Lib.TabIs Tryz.prog w "internal/strconv.uint64pow10" .u64 Lib.pow10Tab) (_hn1 : -9223372036854775807 - 1 ≤ n) (_hn2 : n ≤ 9223372036854775807) (R : Ending → World → Prop)
    (hR : ∀ w', Below w.heap.size w w' → R (.returned (.bool true)) w') :
    Calls Tryz.prog 8 #[.string s, .int .i64 n] w R := by
  have HR := Lib.hid hR; clear hR
  have HE := Lib.hid hE; clear hE
  have HTAB := Lib.hid htab; clear htab
  clear _hn1 _hn2
  by_cases hs : s.size ≤ 1048576
  · have hsi : ¬ (1048576 : Int) < (s.size : Int) := by omega
    have HS := Lib.hid hs
    clear hs
    go_enter Tryz.func8, Tryz.ntmps8
    go_wp2_with fail
    refine spec_powerOf s n _ (by have := HS.out; omega) _ ?_
    intro w1 hb1
    have HB1 := Lib.hid hb1
    obtain ⟨S, hS⟩ : ∃ S, S = outS (powO s.data.toList n) := ⟨_, rfl⟩
    obtain ⟨B, hB⟩ : ∃ B, B = outB (powO s.data.toList n) := ⟨_, rfl⟩
    rw [← hS, ← hB]
    have HSS := Lib.hid hS
    have HBB := Lib.hid hB
    clear hb1 hS hB
    dsimp only
    go_wp2_with fail
    refine impl_powerOf s n _ (HE.out.later HB1.out (Nat.le_refl _)) (tab_later HTAB.out HB1.out (Nat.le_refl _)) _ ?_
    intro w2 hb2
    rw [← HSS.out, ← HBB.out]
    have HB2 := Lib.hid (HB1.out.trans (hb2.mono HB1.out.size))
    clear hb2
    dsimp only
    cases B <;>
    · go_wp2
      first | go_ret | skip
      exact HR.out _ HB2.out
  · have hsi : (1048576 : Int) < (s.size : Int) := by omega
    clear hs
    go_enter Tryz.func8, Tryz.ntmps8
    go_wp2
    first | go_ret | skip
    exact HR.out _ (Below.refl _ _)
end Go.Proofs.YtbglfendcpbjpaaGreatDoor
