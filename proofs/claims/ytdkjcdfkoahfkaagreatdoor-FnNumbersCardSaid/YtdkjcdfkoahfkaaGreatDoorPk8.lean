/- Contracts of functions of the program and of the model: PlusQ, AddQ, LawAdd, NegR, MinusQ, NegQ, SubQ, LawSub, MulQ, LawMul, InvQ, NumLen, ZeroQ, DivQ, LawDiv, CmpI, SignQ, CmpQ, RCmp, LawCmp, Txt, ByB. -/
import Derived.Test.YtdkjcdfkoahfkaaGreatDoorPk7
import Derived.Deep.RegionHeld3
import Derived.OpenShut
import Derived.Carry
set_option linter.all false
set_option linter.unusedVariables false
set_option linter.unusedSimpArgs false
set_option linter.unnecessarySimpa false
set_option linter.deprecated false
namespace Go.Proofs.YtdkjcdfkoahfkaaGreatDoor
open Go Go.RowKit

theorem bDrew {B : Nat} {a w : World} (h : Below B a w) : Below B a w.drew := h.drew
theorem bAlloc {B : Nat} {a w : World} (hB : B ≤ a.heap.size) (h : Below B a w) (o : Obj) : Below B a (w.alloc o) := h.alloc (Nat.le_trans hB h.size) o
theorem bThen {B : Nat} {a W w1 : World} (hB : B ≤ a.heap.size) (h : Below B a W) (hb : Below W.heap.size W w1) : Below B a w1 := h.trans (hb.mono (Nat.le_trans hB h.size))
theorem Box2.drw {w : World} {b : Nat} {u v : Value} {t : TypeId} (h : Box2 w b u v t) : Box2 w.drew b u v t := h

theorem dig_mul_len0 {x y N M : Nat} (hx : (dig W64 x).length ≤ N) (hy : (dig W64 y).length ≤ M) : (dig W64 (x * y)).length ≤ N + M := by
  refine dig_length_le W64_two _ _ ?_
  have h1 := Nat.lt_of_lt_of_le (lt_pow_dig W64_two x) (Nat.pow_le_pow_right (by rw [W64_eq]; omega) hx)
  have h2 := Nat.lt_of_lt_of_le (lt_pow_dig W64_two y) (Nat.pow_le_pow_right (by rw [W64_eq]; omega) hy)
  rw [Nat.pow_add]
  exact Nat.mul_lt_mul'' h1 h2
theorem addTop_len {a b : Rat} {N : Nat} (h1 : (dig W64 a.num.natAbs).length ≤ N) (h2 : (dig W64 b.num.natAbs).length ≤ N) (h3 : (dig W64 a.den).length ≤ N) (h4 : (dig W64 b.den).length ≤ N) : (dig W64 (addTop a b).natAbs).length ≤ 2 * N + 1 := by
  have p1 := Nat.lt_of_lt_of_le (lt_pow_dig W64_two a.num.natAbs) (Nat.pow_le_pow_right (by rw [W64_eq]; omega) h1)
  have p2 := Nat.lt_of_lt_of_le (lt_pow_dig W64_two b.num.natAbs) (Nat.pow_le_pow_right (by rw [W64_eq]; omega) h2)
  have p3 := Nat.lt_of_lt_of_le (lt_pow_dig W64_two a.den) (Nat.pow_le_pow_right (by rw [W64_eq]; omega) h3)
  have p4 := Nat.lt_of_lt_of_le (lt_pow_dig W64_two b.den) (Nat.pow_le_pow_right (by rw [W64_eq]; omega) h4)
  refine dig_length_le W64_two _ _ ?_
  rw [Nat.pow_succ, Nat.two_mul, Nat.pow_add]
  have q1 : (a.num * ((b.den / Nat.gcd a.den b.den : Nat) : Int)).natAbs < W64 ^ N * W64 ^ N := by
    rw [Int.natAbs_mul, Int.natAbs_natCast]
    exact Nat.mul_lt_mul'' p1 (Nat.lt_of_le_of_lt (Nat.div_le_self _ _) p4)
  have q2 : (b.num * ((a.den / Nat.gcd a.den b.den : Nat) : Int)).natAbs < W64 ^ N * W64 ^ N := by
    rw [Int.natAbs_mul, Int.natAbs_natCast]
    exact Nat.mul_lt_mul'' p2 (Nat.lt_of_le_of_lt (Nat.div_le_self _ _) p3)
  have q3 := Int.natAbs_add_le (a.num * ((b.den / Nat.gcd a.den b.den : Nat) : Int)) (b.num * ((a.den / Nat.gcd a.den b.den : Nat) : Int))
  have q4 : W64 ^ N * W64 ^ N * 2 ≤ W64 ^ N * W64 ^ N * W64 := Nat.mul_le_mul_left _ W64_two
  unfold addTop
  generalize W64 ^ N * W64 ^ N * W64 = z at *
  generalize W64 ^ N * W64 ^ N = y at *
  omega

set_option maxRecDepth 100000 in
set_option maxHeartbeats 8000000 in
theorem rplus_any (va vb : Value) (a b : Rat) (w : World) (ha : IsR w va a) (hb : IsR w vb b) (hla : (dig W64 a.num.natAbs).length ≤ 1000000) (hla2 : (dig W64 a.den).length ≤ 1000000)
    (hlb : (dig W64 b.num.natAbs).length ≤ 1000000) (hlb2 : (dig W64 b.den).length ≤ 1000000) (R : Ending → World → Prop)
    (hR : ∀ v' w', IsR w' v' (a + b) → Below w.heap.size w w' → R (.returned v') w') :
    Calls Tryz.prog 63 #[va, vb] w R := by
  have HR := Lib.hid hR; clear hR
  obtain ⟨na, a1, n1, c1, a2, n2, c2, hna, rfl, hn1, hn2⟩ := ha.parts
  obtain ⟨nb, a3, n3, c3, a4, n4, c4, hnb, rfl, hn3, hn4⟩ := hb.parts
  obtain ⟨L, hL⟩ : ∃ L, L = ((w.alloc (.cells #[.bool na, .slice a1 n1 c1, .slice a2 n2 c2] 85)).alloc (.cells #[.bool nb, .slice a3 n3 c3, .slice a4 n4 c4] 85)).alloc (.cells #[.bool false, .slice none 0 0, .slice none 0 0] 85) := ⟨_, rfl⟩
  have HEXT : Hid (Below w.heap.size w L) := Lib.hid (by rw [hL]; exact (((Below.refl w.heap.size w).alloc (Nat.le_refl _) _).alloc (by simp) _).alloc (by simp; omega) _)
  have hLs : L.heap.size = w.heap.size + 3 := by rw [hL]; simp
  have hb1 : Below (w.heap.size + 1) (w.alloc (.cells #[.bool na, .slice a1 n1 c1, .slice a2 n2 c2] 85)) L := by rw [hL]; exact ((Below.refl _ _).alloc (by simp) _).alloc (by simp) _
  have hb2 : Below (w.heap.size + 2) ((w.alloc (.cells #[.bool na, .slice a1 n1 c1, .slice a2 n2 c2] 85)).alloc (.cells #[.bool nb, .slice a3 n3 c3, .slice a4 n4 c4] 85)) L := by rw [hL]; exact (Below.refl _ _).alloc (by simp) _
  have B0 : Box3 L w.heap.size (.bool na) (.slice a1 n1 c1) (.slice a2 n2 c2) 85 := (Box3.made w _ _ _ _).later hb1 (by omega)
  have B1 : Box3 L (w.heap.size + 1) (.bool nb) (.slice a3 n3 c3) (.slice a4 n4 c4) 85 := by
    have := (Box3.made (w.alloc (.cells #[.bool na, .slice a1 n1 c1, .slice a2 n2 c2] 85)) (.bool nb) (.slice a3 n3 c3) (.slice a4 n4 c4) 85).later hb2 (by simp)
    rw [World.size_alloc] at this; exact this
  have B2 : Box3 L (w.heap.size + 1 + 1) (.bool false) (.slice none 0 0) (.slice none 0 0) 85 := by
    have := Box3.made ((w.alloc (.cells #[.bool na, .slice a1 n1 c1, .slice a2 n2 c2] 85)).alloc (.cells #[.bool nb, .slice a3 n3 c3, .slice a4 n4 c4] 85)) (.bool false) (.slice none 0 0) (.slice none 0 0) 85
    rw [World.size_alloc, World.size_alloc, ← hL] at this; exact this
  have HL := Lib.hid hL
  have HLS := Lib.hid hLs
  have HB2 := Lib.hid B2
  have X1 : Hid (IsI L (.agg #[.bool na, .slice a1 n1 c1]) a.num) := Lib.hid (IsI.mk hna (hn1.later HEXT.out (Nat.le_refl _)))
  have X2 := Lib.hid (hn2.later HEXT.out (Nat.le_refl _))
  have X3 : Hid (IsI L (.agg #[.bool nb, .slice a3 n3 c3]) b.num) := Lib.hid (IsI.mk hnb (hn3.later HEXT.out (Nat.le_refl _)))
  have X4 := Lib.hid (hn4.later HEXT.out (Nat.le_refl _))
  obtain ⟨sg, hsg⟩ : ∃ g, g = Nat.gcd a.den b.den := ⟨_, rfl⟩
  have HSG := Lib.hid hsg
  have k1 := gcd_le_den a.den b.den b.den_nz
  rw [← hsg] at k1
  obtain ⟨T, hT⟩ : ∃ T, T = addTop a b := ⟨_, rfl⟩
  obtain ⟨rg, hrg⟩ : ∃ rg, rg = Nat.gcd T.natAbs sg := ⟨_, rfl⟩
  have HRG := Lib.hid hrg
  have k2 : rg ≤ sg ∧ rg ≠ 0 := by rw [hrg]; exact gcd_le_den T.natAbs sg k1.2
  have hadd := addTop_len hla hlb hla2 hlb2
  have HLN := Lib.hid (And.intro hla (And.intro hla2 (And.intro hlb hlb2)))
  have HGN : Hid (((dig W64 sg).length ≤ 1000000 ∧ (dig W64 rg).length ≤ 1000000) ∧ sg ≠ 0 ∧ rg ≠ 0) := Lib.hid ⟨⟨Nat.le_trans (dig_mono W64_two k1.1) hlb2, Nat.le_trans (dig_mono W64_two (Nat.le_trans k2.1 k1.1)) hlb2⟩, k1.2, k2.2⟩
  have HPN : Hid ((dig W64 (a.den / sg)).length ≤ 1000000 ∧ (dig W64 (b.den / sg)).length ≤ 1000000 ∧ (dig W64 T.natAbs).length ≤ 3000000 ∧ (dig W64 (b.den / rg)).length ≤ 1000000) := Lib.hid
    ⟨Nat.le_trans (dig_mono W64_two (Nat.div_le_self _ _)) hla2, Nat.le_trans (dig_mono W64_two (Nat.div_le_self _ _)) hlb2, by rw [hT]; omega, Nat.le_trans (dig_mono W64_two (Nat.div_le_self _ _)) hlb2⟩
  have HPA : Hid ((dig W64 (a.num * ((b.den / sg : Nat) : Int)).natAbs).length ≤ 3000000 ∧ (dig W64 (b.num * ((a.den / sg : Nat) : Int)).natAbs).length ≤ 3000000) := Lib.hid (by
    rw [Int.natAbs_mul, Int.natAbs_mul, Int.natAbs_natCast, Int.natAbs_natCast]
    exact ⟨Nat.le_trans (dig_mul_len0 hla (Nat.le_trans (dig_mono W64_two (Nat.div_le_self _ _)) hlb2)) (by omega), Nat.le_trans (dig_mul_len0 hlb (Nat.le_trans (dig_mono W64_two (Nat.div_le_self _ _)) hla2)) (by omega)⟩)
  have HTOP : Hid (a.num * ((b.den / sg : Nat) : Int) + b.num * ((a.den / sg : Nat) : Int) = T) := Lib.hid (by rw [hT, hsg]; rfl)
  have HNUM : Hid (T.tdiv (rg : Int) = (a + b).num) := Lib.hid (by rw [(radd_parts a b).1, hrg, hT, hsg])
  have HDEN : Hid (a.den / sg * (b.den / rg) = (a + b).den) := Lib.hid (by rw [(radd_parts a b).2, hrg, hT, hsg])
  have HSOF : Hid (∀ w', Below (w.heap.size + 2) L w' → (Below (w.heap.size + 2) L w' ∧ (w'.cell? ⟨w.heap.size, 0, none⟩ = some (.bool na) ∧ w'.cell? ⟨w.heap.size, 1, none⟩ = some (.slice a1 n1 c1) ∧ w'.cell? ⟨w.heap.size, 2, none⟩ = some (.slice a2 n2 c2)) ∧
      (w'.cell? ⟨w.heap.size + 1, 0, none⟩ = some (.bool nb) ∧ w'.cell? ⟨w.heap.size + 1, 1, none⟩ = some (.slice a3 n3 c3) ∧ w'.cell? ⟨w.heap.size + 1, 2, none⟩ = some (.slice a4 n4 c4)))) :=
    Lib.hid fun w' hb => ⟨hb, (B0.later hb (by omega)).cells.1, (B1.later hb (by omega)).cells.1⟩
  have HB0 := Lib.hid B0
  have HB1 := Lib.hid B1
  obtain ⟨⟨hA0, hA1, hA2⟩, _, _, _⟩ := B0.cells
  obtain ⟨⟨hC0, hC1, hC2⟩, _, _, _⟩ := B1.cells
  rw [hL] at hA0 hA1 hA2 hC0 hC1 hC2
  clear hna hnb ha hb hn1 hn2 hn3 hn4 hla hlb hla2 hlb2 hb1 hb2 B0 B1 B2 hL hLs hsg k1 k2 hT hrg hadd
  go_enter Tryz.func63, Tryz.ntmps63
  go_wp2_with fail
  rw [← HL.out]
  clear hA0 hA1 hA2 hC0 hC1 hC2
  refine gcdn_any _ _ a.den b.den _ X2.out X4.out (Nat.le_trans HLN.out.2.1 (by omega)) (Nat.le_trans HLN.out.2.2.2 (by omega)) _ ?_
  rw [← HSG.out]
  intro v1 w1 hv1 hb1
  obtain ⟨p1, q1, r1, rfl, hv1'⟩ := hv1.op
  have HV1 := Lib.hid hv1'
  have HT1 : Hid (Below L.heap.size L w1) := Lib.hid hb1
  have Z2 := Lib.hid (X2.out.later hb1 (Nat.le_refl _))
  have Z4 := Lib.hid (X4.out.later hb1 (Nat.le_refl _))
  have HS1 : Hid (∀ w', Below w1.heap.size w1 w' → (Below (w.heap.size + 2) L w' ∧ (w'.cell? ⟨w.heap.size, 0, none⟩ = some (.bool na) ∧ w'.cell? ⟨w.heap.size, 1, none⟩ = some (.slice a1 n1 c1) ∧ w'.cell? ⟨w.heap.size, 2, none⟩ = some (.slice a2 n2 c2)) ∧
      (w'.cell? ⟨w.heap.size + 1, 0, none⟩ = some (.bool nb) ∧ w'.cell? ⟨w.heap.size + 1, 1, none⟩ = some (.slice a3 n3 c3) ∧ w'.cell? ⟨w.heap.size + 1, 2, none⟩ = some (.slice a4 n4 c4)))) :=
    Lib.hid fun w' hb => HSOF.out w' ((HT1.out.trans (hb.mono HT1.out.size)).mono (by have := HLS.out; omega))
  clear hv1 hv1' hb1
  dsimp only
  go_wp2_with fail
  go_region_held3 (fun w' => Below (w.heap.size + 2) L w' ∧ (w'.cell? ⟨w.heap.size, 0, none⟩ = some (.bool na) ∧ w'.cell? ⟨w.heap.size, 1, none⟩ = some (.slice a1 n1 c1) ∧ w'.cell? ⟨w.heap.size, 2, none⟩ = some (.slice a2 n2 c2)) ∧
      (w'.cell? ⟨w.heap.size + 1, 0, none⟩ = some (.bool nb) ∧ w'.cell? ⟨w.heap.size + 1, 1, none⟩ = some (.slice a3 n3 c3) ∧ w'.cell? ⟨w.heap.size + 1, 2, none⟩ = some (.slice a4 n4 c4)))
    (first
      | exact HS1.out _ HW3.out
      | exact HS1.out _ HW2.out
      | exact HS1.out _ (Below.refl _ _).drew)
    (first
      | (have hguard := HW2; go_at_call 115; refine nover_any _ _ b.den sg _ (Z4.out.later HW2.out (Nat.le_refl _)) (HV1.out.later HW2.out (Nat.le_refl _)) (Nat.le_trans HLN.out.2.2.2 (by omega)) (Nat.le_trans HGN.out.1.1 (by omega)) HGN.out.2.1 _ ?_; intro v3 w3 hv3 hb3; obtain ⟨p3, q3, r3, rfl, hv3'⟩ := hv3.op; have HV3 := Lib.hid hv3'; have HV2' := Lib.hid (HV2.out.later hb3 (Nat.le_refl _)); have HW3 : Hid (Below w1.heap.size w1 w3) := Lib.hid (HW2.out.trans (hb3.mono HW2.out.size)); clear hguard hv3 hv3' hb3; dsimp only)
      | (go_at_call 115; refine nover_any _ _ a.den sg _ (Z2.out.later (Below.refl _ _).drew (Nat.le_refl _)) (HV1.out.later (Below.refl _ _).drew (Nat.le_refl _)) (Nat.le_trans HLN.out.2.1 (by omega)) (Nat.le_trans HGN.out.1.1 (by omega)) HGN.out.2.1 _ ?_; intro v2 w2 hv2 hb2; obtain ⟨p2, q2, r2, rfl, hv2'⟩ := hv2.op; have HV2 := Lib.hid hv2'; have HW2 : Hid (Below w1.heap.size w1 w2) := Lib.hid (below_unDrew hb2); clear hv2 hv2' hb2; dsimp only))
  have HT3 : Hid (Below L.heap.size L w3) := Lib.hid (HT1.out.trans (HW3.out.mono HT1.out.size))
  have HK3 : Hid (w.heap.size + 2 ≤ w3.heap.size) := Lib.hid (by have := HT3.out.size; have := HLS.out; omega)
  have HS3 : Hid (∀ w', Below w3.heap.size w3 w' → (Below (w.heap.size + 2) L w' ∧ (w'.cell? ⟨w.heap.size, 0, none⟩ = some (.bool na) ∧ w'.cell? ⟨w.heap.size, 1, none⟩ = some (.slice a1 n1 c1) ∧ w'.cell? ⟨w.heap.size, 2, none⟩ = some (.slice a2 n2 c2)) ∧
      (w'.cell? ⟨w.heap.size + 1, 0, none⟩ = some (.bool nb) ∧ w'.cell? ⟨w.heap.size + 1, 1, none⟩ = some (.slice a3 n3 c3) ∧ w'.cell? ⟨w.heap.size + 1, 2, none⟩ = some (.slice a4 n4 c4)))) :=
    Lib.hid fun w' hb => HSOF.out w' ((HT3.out.trans (hb.mono HT3.out.size)).mono (by have := HLS.out; omega))
  have Y1 := Lib.hid (X1.out.later HT3.out (Nat.le_refl _))
  have Y3 := Lib.hid (X3.out.later HT3.out (Nat.le_refl _))
  go_wp2_with fail
  go_region_held3 (fun w' => Below (w.heap.size + 2) L w' ∧ (w'.cell? ⟨w.heap.size, 0, none⟩ = some (.bool na) ∧ w'.cell? ⟨w.heap.size, 1, none⟩ = some (.slice a1 n1 c1) ∧ w'.cell? ⟨w.heap.size, 2, none⟩ = some (.slice a2 n2 c2)) ∧
      (w'.cell? ⟨w.heap.size + 1, 0, none⟩ = some (.bool nb) ∧ w'.cell? ⟨w.heap.size + 1, 1, none⟩ = some (.slice a3 n3 c3) ∧ w'.cell? ⟨w.heap.size + 1, 2, none⟩ = some (.slice a4 n4 c4)))
    (first
      | exact HS3.out _ (by repeat (first | exact HW6.out | exact HW5.out | exact HW4.out | exact Below.refl _ _ | refine bDrew ?_ | refine bAlloc (Nat.le_refl _) ?_ _ | refine Below.setCell ?_ (by first | exact (Nat.le_refl _) | exact HW4.out.size | exact HW5.out.size | exact HW6.out.size) _)))
    (first
      | (have hguard := HW5; go_at_call 117; refine iplus_any _ _ (a.num * ((b.den / sg : Nat) : Int)) (b.num * ((a.den / sg : Nat) : Int)) _ (HV4.out.later (by repeat (first | exact HW45.out | exact Below.refl _ _ | refine bDrew ?_ | refine bAlloc (Nat.le_refl _) ?_ _)) (Nat.le_refl _)) (HV5.out.later (by repeat (first | exact Below.refl _ _ | refine bDrew ?_ | refine bAlloc (Nat.le_refl _) ?_ _)) (Nat.le_refl _)) (Nat.le_trans HPA.out.1 (by omega)) (Nat.le_trans HPA.out.2 (by omega)) _ ?_; rw [HTOP.out]; intro v6 w6 hv6 hb6; obtain ⟨m6, p6, q6, r6, hm6, rfl, hv6'⟩ := hv6.parts; have HV6 := Lib.hid (IsI.mk hm6 hv6'); have HN6 := Lib.hid hv6'; have HM6 := Lib.hid hm6; have HW6 : Hid (Below w3.heap.size w3 w6) := Lib.hid (bThen (Nat.le_refl _) (by repeat (first | exact HW5.out | refine bDrew ?_ | refine bAlloc (Nat.le_refl _) ?_ _)) hb6); (try (have KA := Lib.hid ((Box2.made w5 (.bool false) (.slice none 0 0) 83).later hb6 (by simp)))); (try (have KA := Lib.hid (KA.out.later hb6 (lt_of_block KA.out)))); (try (obtain ⟨hK0, hK1, hK2, hK3⟩ := KA.out.cells)); clear hguard hv6 hv6' hm6 hb6; dsimp only)
      | (have hguard := HW4; go_at_call 116; refine scaled_any _ _ b.num (a.den / sg) _ (Y3.out.later (by repeat (first | exact HW4.out | refine bDrew ?_ | refine bAlloc (Nat.le_refl _) ?_ _)) (Nat.le_refl _)) (HV2'.out.later (by repeat (first | exact HW4.out | refine bDrew ?_ | refine bAlloc (Nat.le_refl _) ?_ _)) (Nat.le_refl _)) (Nat.le_trans HLN.out.2.2.1 (by omega)) (Nat.le_trans HPN.out.1 (by omega)) _ ?_; intro v5 w5 hv5 hb5; obtain ⟨m5, p5, q5, r5, hm5, rfl, hv5'⟩ := hv5.parts; have HV5 := Lib.hid (IsI.mk hm5 hv5'); have HW45 : Hid (Below w4.heap.size w4 w5) := Lib.hid (bThen (Nat.le_refl _) (by repeat (first | exact Below.refl _ _ | refine bDrew ?_ | refine bAlloc (Nat.le_refl _) ?_ _)) hb5); have HW5 : Hid (Below w3.heap.size w3 w5) := Lib.hid (bThen (Nat.le_refl _) (by repeat (first | exact HW4.out | refine bDrew ?_ | refine bAlloc (Nat.le_refl _) ?_ _)) hb5); (try (have KA := Lib.hid ((Box2.made w4 (.bool false) (.slice none 0 0) 83).later hb5 (by simp)))); (try (have KA := Lib.hid (KA.out.later hb5 (lt_of_block KA.out)))); clear hguard hv5 hv5' hm5 hb5; dsimp only)
      | (go_at_call 116; refine scaled_any _ _ a.num (b.den / sg) _ (Y1.out.later (by repeat (first | exact Below.refl _ _ | refine bDrew ?_ | refine bAlloc (Nat.le_refl _) ?_ _)) (Nat.le_refl _)) (HV3.out.later (by repeat (first | exact Below.refl _ _ | refine bDrew ?_ | refine bAlloc (Nat.le_refl _) ?_ _)) (Nat.le_refl _)) (Nat.le_trans HLN.out.1 (by omega)) (Nat.le_trans HPN.out.2.1 (by omega)) _ ?_; intro v4 w4 hv4 hb4; obtain ⟨m4, p4, q4, r4, hm4, rfl, hv4'⟩ := hv4.parts; have HV4 := Lib.hid (IsI.mk hm4 hv4'); have HW4 : Hid (Below w3.heap.size w3 w4) := Lib.hid (bThen (Nat.le_refl _) (by repeat (first | exact Below.refl _ _ | refine bDrew ?_ | refine bAlloc (Nat.le_refl _) ?_ _)) hb4); (try (have KA := Lib.hid (Box2.later (w := (w3.alloc _).drew) ((Box2.made w3 (.bool false) (.slice none 0 0) 83).drw) hb4 (by simp)))); clear hv4 hv4' hm4 hb4; dsimp only))
  all_goals go_wp2_with fail
  all_goals
    first
      | (obtain ⟨g, hg⟩ : ∃ g, g = w6.heap.size := ⟨_, rfl⟩
         obtain ⟨X, hX⟩ : ∃ X, X = w6.alloc (.cells #[.bool m6, .slice p6 q6 r6] 83) := ⟨_, rfl⟩
         rw [← hX]
         have hK : Below w6.heap.size w6 X := by rw [hX]; exact (Below.refl _ _).alloc (Nat.le_refl _) _
         have KX : Hid (Box2 X g (.bool m6) (.slice p6 q6 r6) 83) := Lib.hid (by rw [hX, hg]; exact Box2.made _ _ _ _)
         have HX : Hid (Below w3.heap.size w3 X) := Lib.hid (HW6.out.trans (hK.mono HW6.out.size))
         have HG : Hid (w3.heap.size ≤ g) := Lib.hid (by rw [hg]; exact HW6.out.size)
         have VX : Hid (IsI X (.agg #[.bool m6, .slice p6 q6 r6]) T) := Lib.hid (HV6.out.later hK (Nat.le_refl _))
         have NX : Hid (IsN X (.slice p6 q6 r6) T.natAbs) := Lib.hid (HN6.out.later hK (Nat.le_refl _))
         have tok : Hid True := Lib.hid trivial
         (try rw [← hg])
         clear hK hX hg)
      | (obtain ⟨g, hg⟩ : ∃ g, g = w5.heap.size := ⟨_, rfl⟩
         obtain ⟨X, hX⟩ : ∃ X, X = (w6.setCell ⟨w5.heap.size, 0, none⟩ (.bool m6)).setCell ⟨w5.heap.size, 1, none⟩ (.slice p6 q6 r6) := ⟨_, rfl⟩
         rw [← hX]
         have hnK := KA.out.noInt rfl rfl
         have KX : Hid (Box2 X g (.bool m6) (.slice p6 q6 r6) 83) := Lib.hid (by rw [hX, hg]; exact KA.out.set01 _ _)
         have HG : Hid (w3.heap.size ≤ g) := Lib.hid (by rw [hg]; first | exact HW5.out.size | exact HW4.out.size | exact Nat.le_refl _)
         have HX : Hid (Below w3.heap.size w3 X) := Lib.hid (by rw [hX]; exact below_set2 HW6.out (by first | exact HW5.out.size | exact HW4.out.size | exact Nat.le_refl _) _ _)
         have NX : Hid (IsN X (.slice p6 q6 r6) T.natAbs) := Lib.hid (by rw [hX]; exact HN6.out.set2 hnK _ _ rfl)
         have VX : Hid (IsI X (.agg #[.bool m6, .slice p6 q6 r6]) T) := Lib.hid (IsI.mk HM6.out NX.out)
         have tok : Hid True := Lib.hid trivial
         (try rw [← hg])
         clear hnK hX hg KA)
      | (obtain ⟨g, hg⟩ : ∃ g, g = w4.heap.size := ⟨_, rfl⟩
         obtain ⟨X, hX⟩ : ∃ X, X = (w6.setCell ⟨w4.heap.size, 0, none⟩ (.bool m6)).setCell ⟨w4.heap.size, 1, none⟩ (.slice p6 q6 r6) := ⟨_, rfl⟩
         rw [← hX]
         have hnK := KA.out.noInt rfl rfl
         have KX : Hid (Box2 X g (.bool m6) (.slice p6 q6 r6) 83) := Lib.hid (by rw [hX, hg]; exact KA.out.set01 _ _)
         have HG : Hid (w3.heap.size ≤ g) := Lib.hid (by rw [hg]; first | exact HW5.out.size | exact HW4.out.size | exact Nat.le_refl _)
         have HX : Hid (Below w3.heap.size w3 X) := Lib.hid (by rw [hX]; exact below_set2 HW6.out (by first | exact HW5.out.size | exact HW4.out.size | exact Nat.le_refl _) _ _)
         have NX : Hid (IsN X (.slice p6 q6 r6) T.natAbs) := Lib.hid (by rw [hX]; exact HN6.out.set2 hnK _ _ rfl)
         have VX : Hid (IsI X (.agg #[.bool m6, .slice p6 q6 r6]) T) := Lib.hid (IsI.mk HM6.out NX.out)
         have tok : Hid True := Lib.hid trivial
         (try rw [← hg])
         clear hnK hX hg KA)
      | (obtain ⟨g, hg⟩ : ∃ g, g = w3.heap.size := ⟨_, rfl⟩
         obtain ⟨X, hX⟩ : ∃ X, X = (w6.setCell ⟨w3.heap.size, 0, none⟩ (.bool m6)).setCell ⟨w3.heap.size, 1, none⟩ (.slice p6 q6 r6) := ⟨_, rfl⟩
         rw [← hX]
         have hnK := KA.out.noInt rfl rfl
         have KX : Hid (Box2 X g (.bool m6) (.slice p6 q6 r6) 83) := Lib.hid (by rw [hX, hg]; exact KA.out.set01 _ _)
         have HG : Hid (w3.heap.size ≤ g) := Lib.hid (by rw [hg]; first | exact HW5.out.size | exact HW4.out.size | exact Nat.le_refl _)
         have HX : Hid (Below w3.heap.size w3 X) := Lib.hid (by rw [hX]; exact below_set2 HW6.out (by first | exact HW5.out.size | exact HW4.out.size | exact Nat.le_refl _) _ _)
         have NX : Hid (IsN X (.slice p6 q6 r6) T.natAbs) := Lib.hid (by rw [hX]; exact HN6.out.set2 hnK _ _ rfl)
         have VX : Hid (IsI X (.agg #[.bool m6, .slice p6 q6 r6]) T) := Lib.hid (IsI.mk HM6.out NX.out)
         have tok : Hid True := Lib.hid trivial
         (try rw [← hg])
         clear hnK hX hg KA)
  all_goals
    try clear hK0 hK1 hK2 hK3
    have HX1 : Hid (Below w1.heap.size w1 X) := Lib.hid (HW3.out.trans (HX.out.mono HW3.out.size))
    have HXL : Hid (Below L.heap.size L X) := Lib.hid (HT3.out.trans (HX.out.mono HT3.out.size))
    have HGX : Hid (g < X.heap.size) := Lib.hid (lt_of_block KX.out)
    have HSX : Hid (∀ w', Below X.heap.size X w' → (Below (w.heap.size + 2) L w' ∧ (w'.cell? ⟨w.heap.size + 1, 0, none⟩ = some (.bool nb) ∧ w'.cell? ⟨w.heap.size + 1, 1, none⟩ = some (.slice a3 n3 c3) ∧ w'.cell? ⟨w.heap.size + 1, 2, none⟩ = some (.slice a4 n4 c4)) ∧
        (w'.cell? ⟨g, 0, none⟩ = some (.bool m6) ∧ w'.cell? ⟨g, 1, none⟩ = some (.slice p6 q6 r6)))) :=
      Lib.hid fun w' hb => by
        have h1 := HSOF.out w' ((HXL.out.trans (hb.mono HXL.out.size)).mono (by have := HLS.out; omega))
        have h2 := (KX.out.later hb HGX.out).cells
        exact ⟨h1.1, h1.2.2, h2.1, h2.2.1⟩
    have HSF : Hid (∀ (w' : World) (y0 y1 y2 : Value), Below X.heap.size X w' → (fun w' => Below (w.heap.size + 2) L w' ∧ (w'.cell? ⟨w.heap.size + 1, 0, none⟩ = some (.bool nb) ∧ w'.cell? ⟨w.heap.size + 1, 1, none⟩ = some (.slice a3 n3 c3) ∧ w'.cell? ⟨w.heap.size + 1, 2, none⟩ = some (.slice a4 n4 c4)) ∧
        (w'.cell? ⟨g, 0, none⟩ = some (.bool m6) ∧ w'.cell? ⟨g, 1, none⟩ = some (.slice p6 q6 r6))) (((w'.setCell ⟨w.heap.size + 1 + 1, 0, none⟩ y0).setCell ⟨w.heap.size + 1 + 1, 1, none⟩ y1).setCell ⟨w.heap.size + 1 + 1, 2, none⟩ y2)) :=
      Lib.hid fun w' y0 y1 y2 hb => by
        have hL2 := ((HXL.out.trans (hb.mono HXL.out.size)).mono (show w.heap.size + 2 ≤ L.heap.size by have := HLS.out; omega))
        have h1 := HSOF.out _ (below_set3 hL2 (show w.heap.size + 2 ≤ w.heap.size + 1 + 1 by omega) y0 y1 y2)
        have hgn : g ≠ w.heap.size + 1 + 1 := by have := HG.out; have := HT3.out.size; have := HLS.out; omega
        have h2 := ((((KX.out.later hb HGX.out).setOther hgn 0 y0).setOther hgn 1 y1).setOther hgn 2 y2).cells
        exact ⟨h1.1, h1.2.2, h2.1, h2.2.1⟩
    refine gcdn_any _ _ T.natAbs sg _ NX.out (HV1.out.later HX1.out (Nat.le_refl _)) (Nat.le_trans HPN.out.2.2.1 (by omega)) (Nat.le_trans HGN.out.1.1 (by omega)) _ ?_
    rw [← HRG.out]
    intro v7 w7 hv7 hb7
    obtain ⟨p7, q7, r7, rfl, hv7'⟩ := hv7.op
    have HV7 := Lib.hid hv7'
    have HY7 : Hid (Below X.heap.size X w7) := Lib.hid hb7
    have U1 := Lib.hid (VX.out.later hb7 (Nat.le_refl _))
    have U2 := Lib.hid ((HV2'.out.later HX.out (Nat.le_refl _)).later hb7 (Nat.le_refl _))
    have U4 := Lib.hid ((X4.out.later HXL.out (Nat.le_refl _)).later hb7 (Nat.le_refl _))
    have HSW : Hid (∀ w', Below w7.heap.size w7 w' → (Below (w.heap.size + 2) L w' ∧ (w'.cell? ⟨w.heap.size + 1, 0, none⟩ = some (.bool nb) ∧ w'.cell? ⟨w.heap.size + 1, 1, none⟩ = some (.slice a3 n3 c3) ∧ w'.cell? ⟨w.heap.size + 1, 2, none⟩ = some (.slice a4 n4 c4)) ∧
        (w'.cell? ⟨g, 0, none⟩ = some (.bool m6) ∧ w'.cell? ⟨g, 1, none⟩ = some (.slice p6 q6 r6)))) :=
      Lib.hid fun w' hb => HSX.out w' (HY7.out.trans (hb.mono HY7.out.size))
    clear hv7 hv7' hb7
    dsimp only
    go_wp2_with fail
    go_region_held3 (fun w' => Below (w.heap.size + 2) L w' ∧ (w'.cell? ⟨w.heap.size + 1, 0, none⟩ = some (.bool nb) ∧ w'.cell? ⟨w.heap.size + 1, 1, none⟩ = some (.slice a3 n3 c3) ∧ w'.cell? ⟨w.heap.size + 1, 2, none⟩ = some (.slice a4 n4 c4)) ∧
        (w'.cell? ⟨g, 0, none⟩ = some (.bool m6) ∧ w'.cell? ⟨g, 1, none⟩ = some (.slice p6 q6 r6)))
      (first
        | exact HSW.out _ HW10.out
        | exact HSW.out _ HW9.out
        | exact HSW.out _ HW8.out
        | exact HSW.out _ (Below.refl _ _).drew
        | exact HSF.out _ _ _ _ HY10.out)
      (first
        | (have hguard := HW9; go_at_call 119; refine ntimes_any _ _ (a.den / sg) (b.den / rg) _ (U2.out.later HW9.out (Nat.le_refl _)) HV9.out (Nat.le_trans HPN.out.1 (by omega)) (Nat.le_trans HPN.out.2.2.2 (by omega)) _ ?_; rw [HDEN.out]; intro v10 w10 hv10 hb10; obtain ⟨p10, q10, r10, rfl, hv10'⟩ := hv10.op; have HV10 := Lib.hid hv10'; have HV8' := Lib.hid (HV8.out.later (HB89.out.trans (hb10.mono HB89.out.size)) (Nat.le_refl _)); have HW10 := Lib.hid (HW9.out.trans (hb10.mono HW9.out.size)); have HY10 := Lib.hid (HY7.out.trans (HW10.out.mono HY7.out.size)); have HZ10 := Lib.hid (HXL.out.trans (HY10.out.mono HXL.out.size)); have d8 := HB2.out.later HZ10.out (by have := HLS.out; omega); obtain ⟨⟨hR0, hR1, hR2⟩, hF0, hF1, hF2⟩ := d8.cells; have HD8 := Lib.hid d8; clear hguard hv10 hv10' hb10 d8; dsimp only)
        | (have hguard := HW8; go_at_call 115; refine nover_any _ _ b.den rg _ (U4.out.later HW8.out (Nat.le_refl _)) (HV7.out.later HW8.out (Nat.le_refl _)) (Nat.le_trans HLN.out.2.2.2 (by omega)) (Nat.le_trans HGN.out.1.2 (by omega)) HGN.out.2.2 _ ?_; intro v9 w9 hv9 hb9; obtain ⟨p9, q9, r9, rfl, hv9'⟩ := hv9.op; have HV9 := Lib.hid hv9'; have HB89 := Lib.hid hb9; have HW9 := Lib.hid (HW8.out.trans (hb9.mono HW8.out.size)); clear hguard hv9 hv9' hb9; dsimp only)
        | (go_at_call 118; refine iover_any _ _ T rg _ (U1.out.later (Below.refl _ _).drew (Nat.le_refl _)) (HV7.out.later (Below.refl _ _).drew (Nat.le_refl _)) (Nat.le_trans HPN.out.2.2.1 (by omega)) (Nat.le_trans HGN.out.1.2 (by omega)) HGN.out.2.2 _ ?_; rw [HNUM.out]; intro v8 w8 hv8 hb8; obtain ⟨m8, p8, q8, r8, hm8, rfl, hv8'⟩ := hv8.parts; have HM8 := Lib.hid hm8; have HV8 := Lib.hid hv8'; have HW8 : Hid (Below w7.heap.size w7 w8) := Lib.hid (below_unDrew hb8); clear hv8 hv8' hm8 hb8; dsimp only))
    all_goals
      go_wp2
      refine bodyPost_ret_at (by simp [results, Tryz.results63, go_sem, hR0, hR1, hR2, hF0, hF1, hF2] <;> rfl) rfl ?_
      have hq : IsR w10 (.agg #[.bool m8, .slice p8 q8 r8, .slice p10 q10 r10]) (a + b) := ⟨_, _, by rw [HM8.out], HV8'.out, HV10.out⟩
      refine HR.out _ _ (IsR.set3 hq (HD8.out.noInt rfl rfl rfl) _ _ _ rfl rfl) ?_
      exact (((HEXT.out.trans (HZ10.out.mono HEXT.out.size)).setCell (show w.heap.size ≤ w.heap.size + 1 + 1 by omega) _).setCell (show w.heap.size ≤ w.heap.size + 1 + 1 by omega) _).setCell (show w.heap.size ≤ w.heap.size + 1 + 1 by omega) _
end Go.Proofs.YtdkjcdfkoahfkaaGreatDoor

namespace Go.Proofs.YtdkjcdfkoahfkaaGreatDoor
open Go Go.RowKit

theorem add_divint (a b : Rat) : Rat.divInt (a.num * (b.den : Int) + b.num * (a.den : Int)) ((a.den : Int) * (b.den : Int)) = a + b := by
  have h1 := a.den_pos; have h2 := b.den_pos
  rw [← Rat.divInt_add_divInt _ _ (by omega) (by omega), Rat.num_divInt_den, Rat.num_divInt_den]
theorem add_len (x y : Int) (N : Nat) (hx : (dig 10000 x.natAbs).length ≤ N) (hy : (dig 10000 y.natAbs).length ≤ N) : (dig 10000 (x + y).natAbs).length ≤ N + 1 := by
  apply dig_length_le (by omega)
  have h1 := Nat.lt_of_lt_of_le (lt_pow_dig (by omega : 2 ≤ 10000) x.natAbs) (Nat.pow_le_pow_right (by omega) hx)
  have h2 := Nat.lt_of_lt_of_le (lt_pow_dig (by omega : 2 ≤ 10000) y.natAbs) (Nat.pow_le_pow_right (by omega) hy)
  rw [Nat.pow_succ]
  omega

set_option maxRecDepth 100000 in
set_option maxHeartbeats 8000000 in
theorem addQ_any (va vb : Value) (a b : Rat) (w : World) (ha : IsQ w va a) (hb : IsQ w vb b) (hla : (dig 10000 a.num.natAbs).length ≤ 400000) (hla2 : (dig 10000 a.den).length ≤ 400000)
    (hlb : (dig 10000 b.num.natAbs).length ≤ 400000) (hlb2 : (dig 10000 b.den).length ≤ 400000)
    (R : Ending → World → Prop) (hR : ∀ v w', IsQ w' v (a + b) → Below w.heap.size w w' → R (.returned v) w') :
    Calls Tryz.prog 198 #[va, vb] w R := by
  have HR := Lib.hid hR; clear hR
  obtain ⟨na, a1, n1, c1, a2, n2, c2, rfl, hz1, hz2⟩ := ha.parts
  obtain ⟨nb, a3, n3, c3, a4, n4, c4, rfl, hz3, hz4⟩ := hb.parts
  clear ha hb
  obtain ⟨L, hL⟩ : ∃ L, L = ((w.alloc (.cells #[.bool na, .slice a1 n1 c1, .bool false, .slice a2 n2 c2] 75)).alloc (.cells #[.bool nb, .slice a3 n3 c3, .bool false, .slice a4 n4 c4] 75)).alloc (.cells #[.bool false, .slice none 0 0, .bool false, .slice none 0 0] 75) := ⟨_, rfl⟩
  have hLs : L.heap.size = w.heap.size + 3 := by rw [hL]; simp
  have B0 : Box4 L w.heap.size (.bool na) (.slice a1 n1 c1) (.bool false) (.slice a2 n2 c2) 75 := by
    rw [hL]; exact ((Box4.made w _ _ _ _ _).later (B := w.heap.size + 1) ((Below.refl _ _).alloc (by simp) _) (by omega)).later (B := w.heap.size + 2) ((Below.refl _ _).alloc (by simp) _) (by omega)
  have B1 : Box4 L (w.heap.size + 1) (.bool nb) (.slice a3 n3 c3) (.bool false) (.slice a4 n4 c4) 75 := by
    rw [hL]; have := (Box4.made (w.alloc (.cells #[.bool na, .slice a1 n1 c1, .bool false, .slice a2 n2 c2] 75)) (.bool nb) (.slice a3 n3 c3) (.bool false) (.slice a4 n4 c4) 75).later (B := w.heap.size + 2) ((Below.refl _ _).alloc (by simp) (.cells #[.bool false, .slice none 0 0, .bool false, .slice none 0 0] 75)) (by simp); simpa using this
  have B2 : Box4 L (w.heap.size + 2) (.bool false) (.slice none 0 0) (.bool false) (.slice none 0 0) 75 := by
    rw [hL]; have := Box4.made ((w.alloc (.cells #[.bool na, .slice a1 n1 c1, .bool false, .slice a2 n2 c2] 75)).alloc (.cells #[.bool nb, .slice a3 n3 c3, .bool false, .slice a4 n4 c4] 75)) (.bool false) (.slice none 0 0) (.bool false) (.slice none 0 0) 75; simpa using this
  have HEXT : Below w.heap.size w L := by rw [hL]; exact (((Below.refl w.heap.size w).alloc (Nat.le_refl _) _).alloc (by simp) _).alloc (by simp; omega) _
  have HL := Lib.hid hL
  have y1 := (hz1.later HEXT (Nat.le_refl _))
  have y2 := (hz2.later HEXT (Nat.le_refl _))
  have y3 := (hz3.later HEXT (Nat.le_refl _))
  have y4 := (hz4.later HEXT (Nat.le_refl _))
  clear hL hz1 hz2 hz3 hz4
  go_enter Tryz.func198, Tryz.ntmps198
  go_wp2_with fail
  rw [← HL.out]
  obtain ⟨⟨hA0, hA1, hA2, hA3⟩, _, _, _, _⟩ := B0.cells
  obtain ⟨⟨hB0, hB1, hB2, hB3⟩, _, _, _, _⟩ := B1.cells
  have hk0 : w.heap.size < L.heap.size := by omega
  have hk1 : w.heap.size + 1 < L.heap.size := by omega
  have hk2 : w.heap.size + 2 < L.heap.size := by omega
  have hla' : (dig 10000 (a.num.natAbs)).length ≤ 10000000 := by omega
  have hlb' : (dig 10000 (b.num.natAbs)).length ≤ 10000000 := by omega
  have hla2' : (dig 10000 ((a.den : Int).natAbs)).length ≤ 10000000 := by rw [Int.natAbs_natCast]; omega
  have hlb2' : (dig 10000 ((b.den : Int).natAbs)).length ≤ 10000000 := by rw [Int.natAbs_natCast]; omega
  have hp1 : (dig 10000 ((a.num * (b.den : Int)).natAbs)).length ≤ 800000 := by rw [Int.natAbs_mul, Int.natAbs_natCast]; have := mul_len _ _ _ _ hla hlb2; omega
  have hp2 : (dig 10000 ((b.num * (a.den : Int)).natAbs)).length ≤ 800000 := by rw [Int.natAbs_mul, Int.natAbs_natCast]; have := mul_len _ _ _ _ hlb hla2; omega
  have hp3 : (dig 10000 ((a.num * (b.den : Int) + b.num * (a.den : Int)).natAbs)).length ≤ 1000000 := by
    have := add_len _ _ _ hp1 hp2; omega
  have hm2 : (dig 10000 (((a.den : Int) * (b.den : Int)).natAbs)).length ≤ 1000000 := by rw [Int.natAbs_mul, Int.natAbs_natCast, Int.natAbs_natCast]; have := mul_len _ _ _ _ hla2 hlb2; omega
  have hd0 : (a.den : Int) * (b.den : Int) ≠ 0 := by
    have h1 := a.den_pos; have h2 := b.den_pos
    have := Nat.mul_pos h1 h2
    intro h; rw [← Int.natCast_mul] at h; omega
  have HLN := Lib.hid (And.intro hla' (And.intro hlb' (And.intro hla2' (And.intro hlb2' (And.intro hp1 (And.intro hp2 (And.intro hp3 (And.intro hm2 hd0))))))))
  clear hla hlb hla2 hlb2 hla' hlb' hla2' hlb2' hp1 hp2 hp3 hm2 hd0
  have hSof : ∀ w', Below (w.heap.size + 2) L w' → (Below (w.heap.size + 2) L w' ∧ (w'.cell? ⟨w.heap.size, 0, none⟩ = some (.bool na) ∧ w'.cell? ⟨w.heap.size, 1, none⟩ = some (.slice a1 n1 c1) ∧ w'.cell? ⟨w.heap.size, 2, none⟩ = some (.bool false) ∧ w'.cell? ⟨w.heap.size, 3, none⟩ = some (.slice a2 n2 c2)) ∧
      (w'.cell? ⟨w.heap.size + 1, 0, none⟩ = some (.bool nb) ∧ w'.cell? ⟨w.heap.size + 1, 1, none⟩ = some (.slice a3 n3 c3) ∧ w'.cell? ⟨w.heap.size + 1, 2, none⟩ = some (.bool false) ∧ w'.cell? ⟨w.heap.size + 1, 3, none⟩ = some (.slice a4 n4 c4))) :=
    fun w' hb => ⟨hb, (B0.later hb (by omega)).cells.1, (B1.later hb (by omega)).cells.1⟩
  have HSOF := Lib.hid hSof
  have HB2L := Lib.hid B2
  clear hA0 hA1 hA2 hA3 hB0 hB1 hB2 hB3 hSof B0 B1 B2
  go_region_held3 (fun w' => Below (w.heap.size + 2) L w' ∧ (w'.cell? ⟨w.heap.size, 0, none⟩ = some (.bool na) ∧ w'.cell? ⟨w.heap.size, 1, none⟩ = some (.slice a1 n1 c1) ∧ w'.cell? ⟨w.heap.size, 2, none⟩ = some (.bool false) ∧ w'.cell? ⟨w.heap.size, 3, none⟩ = some (.slice a2 n2 c2)) ∧
      (w'.cell? ⟨w.heap.size + 1, 0, none⟩ = some (.bool nb) ∧ w'.cell? ⟨w.heap.size + 1, 1, none⟩ = some (.slice a3 n3 c3) ∧ w'.cell? ⟨w.heap.size + 1, 2, none⟩ = some (.bool false) ∧ w'.cell? ⟨w.heap.size + 1, 3, none⟩ = some (.slice a4 n4 c4)))
    (first
      | exact HSOF.out _ HQ5.out
      | exact HSOF.out _ HQ4.out
      | exact HSOF.out _ HQ3.out
      | exact HSOF.out _ HQ2.out
      | exact HSOF.out _ HQ1.out
      | exact HSOF.out _ (Below.refl _ _).drew
      | exact HSOF.out _ ((((HQ5.out.setCell (by simp) _).setCell (by simp) _).setCell (by simp) _).setCell (by simp) _))
    (first
      | (go_at_call 154; refine make_any v3 v4 (a.num * (b.den : Int) + b.num * (a.den : Int)) ((a.den : Int) * (b.den : Int)) _ (HV3.out.later HB4.out (Nat.le_refl _)) HV4.out HLN.out.2.2.2.2.2.2.1 HLN.out.2.2.2.2.2.2.2.1 HLN.out.2.2.2.2.2.2.2.2 _ ?_; intro v5 w5 hv5 hb5; obtain ⟨n5, a5, m5, c5, a6, m6, c6, rfl, _, _⟩ := hv5.parts; have HV5 := Lib.hid hv5; have HT5 := Lib.hid (HT4.out.trans (hb5.mono HT4.out.size)); have HQ5 := Lib.hid (HT5.out.mono (Nat.le_of_lt hk2)); have d2 := HB2L.out.later HT5.out hk2; obtain ⟨⟨hR0, hR1, hR2, hR3⟩, hR4, hR5, hR6, hR7⟩ := d2.cells; have HD2 := Lib.hid d2; clear hv5 hb5 d2; dsimp only)
      | (have hguard := HQ3; go_at_call 176; refine zmul_any (.agg #[.bool false, .slice a2 n2 c2]) (.agg #[.bool false, .slice a4 n4 c4]) (a.den : Int) (b.den : Int) _ (y2.later HT3.out (Nat.le_refl _)) (y4.later HT3.out (Nat.le_refl _)) HLN.out.2.2.1 HLN.out.2.2.2.1 _ ?_; intro v4 w4 hv4 hb4; have HV4 := Lib.hid hv4; have HB4 := Lib.hid hb4; have HT4 := Lib.hid (HT3.out.trans (hb4.mono HT3.out.size)); have HQ4 := Lib.hid (HT4.out.mono (Nat.le_of_lt hk2)); clear hguard hv4 hb4; dsimp only)
      | (go_at_call 236; refine zadd_any v1 v2 (a.num * (b.den : Int)) (b.num * (a.den : Int)) _ (HV1.out.later HB2.out (Nat.le_refl _)) HV2.out (Nat.le_trans HLN.out.2.2.2.2.1 (by omega)) (Nat.le_trans HLN.out.2.2.2.2.2.1 (by omega)) _ ?_; intro v3 w3 hv3 hb3; have HV3 := Lib.hid hv3; have HB3 := Lib.hid hb3; have HT3 := Lib.hid (HT2.out.trans (hb3.mono HT2.out.size)); have HQ3 := Lib.hid (HT3.out.mono (Nat.le_of_lt hk2)); clear hv3 hb3; dsimp only)
      | (have hguard := HQ1; go_at_call 176; refine zmul_any (.agg #[.bool nb, .slice a3 n3 c3]) (.agg #[.bool false, .slice a2 n2 c2]) b.num (a.den : Int) _ (y3.later HT1.out (Nat.le_refl _)) (y2.later HT1.out (Nat.le_refl _)) HLN.out.2.1 HLN.out.2.2.1 _ ?_; intro v2 w2 hv2 hb2; have HV2 := Lib.hid hv2; have HB2 := Lib.hid hb2; have HT2 := Lib.hid (HT1.out.trans (hb2.mono HT1.out.size)); have HQ2 := Lib.hid (HT2.out.mono (Nat.le_of_lt hk2)); clear hguard hv2 hb2; dsimp only)
      | (go_at_call 176; refine zmul_any (.agg #[.bool na, .slice a1 n1 c1]) (.agg #[.bool false, .slice a4 n4 c4]) a.num (b.den : Int) _ y1.drew y4.drew HLN.out.1 HLN.out.2.2.2.1 _ ?_; intro v1 w1 hv1 hb1; have HV1 := Lib.hid hv1; have HT1 : Hid (Below L.heap.size L w1) := Lib.hid (below_ofDrew hb1); have HQ1 := Lib.hid (HT1.out.mono (Nat.le_of_lt hk2)); clear hv1 hb1; dsimp only))
  all_goals
    go_wp2
    refine bodyPost_ret_at (by simp [results, Tryz.results198, go_sem, hR0, hR1, hR2, hR3, hR4, hR5, hR6, hR7] <;> rfl) rfl ?_
    have hv5 := HV5.out
    rw [add_divint] at hv5
    have hn := HD2.out.noInt rfl rfl rfl rfl
    obtain ⟨s1, s2, e, h1, h2⟩ := hv5
    refine HR.out _ _ ⟨s1, s2, e, h1.set4 hn _ _ _ _ rfl rfl rfl, h2.set4 hn _ _ _ _ rfl rfl rfl⟩ (((((HEXT.trans (HT5.out.mono (by omega))).setCell (by simp <;> omega) _).setCell (by simp <;> omega) _).setCell (by simp <;> omega) _).setCell (by simp <;> omega) _)
end Go.Proofs.YtdkjcdfkoahfkaaGreatDoor

namespace Go.Proofs.YtdkjcdfkoahfkaaGreatDoor
open Go Go.RowKit

set_option maxRecDepth 100000 in
set_option maxHeartbeats 2000000 in
theorem combAdd_any (s t : ByteArray) (w : World) (hE : Env w) (htab : Lib.TabIs Tryz.prog w "internal/strconv.uint64pow10" .u64 Lib.pow10Tab) (R : Ending → World → Prop)
    (hR : ∀ w', Below w.heap.size w w' → R (.returned (.tuple #[.string (outS (combO (· + ·) s.data.toList t.data.toList)), .bool (outB (combO (· + ·) s.data.toList t.data.toList))])) w') :
    Calls Tryz.prog 62 #[.string s, .string t, .func (Fn.func 63) #[] #[]] w R := by
  have HR := Lib.hid hR; clear hR
  have HE := Lib.hid hE; clear hE
  have HTAB := Lib.hid htab; clear htab
  go_enter Tryz.func62, Tryz.ntmps62
  go_wp2_with fail
  refine read2_any s t _ HE.out _ ?_ ?_
  · intro va vb a b w1 ha hb hva hvb hb1
    rw [combO_some ha hb] at HR
    obtain ⟨na, a1, n1, c1, a2, n2, c2, hna, rfl, hn1, hn2⟩ := hva.parts
    obtain ⟨nb, a3, n3, c3, a4, n4, c4, hnb, rfl, hn3, hn4⟩ := hvb.parts
    obtain ⟨L, hL⟩ : ∃ L, L = (w1.alloc (.cells #[.bool na, .slice a1 n1 c1, .slice a2 n2 c2] 85)).alloc (.cells #[.bool nb, .slice a3 n3 c3, .slice a4 n4 c4] 85) := ⟨_, rfl⟩
    have hb2 : Below (w1.heap.size + 1) (w1.alloc (.cells #[.bool na, .slice a1 n1 c1, .slice a2 n2 c2] 85)) L := by rw [hL]; exact (Below.refl _ _).alloc (by simp) _
    have B0 : Box3 L w1.heap.size (.bool na) (.slice a1 n1 c1) (.slice a2 n2 c2) 85 := (Box3.made w1 _ _ _ _).later hb2 (by omega)
    have B1 : Box3 L (w1.heap.size + 1) (.bool nb) (.slice a3 n3 c3) (.slice a4 n4 c4) 85 := by
      have := Box3.made (w1.alloc (.cells #[.bool na, .slice a1 n1 c1, .slice a2 n2 c2] 85)) (.bool nb) (.slice a3 n3 c3) (.slice a4 n4 c4) 85
      rw [World.size_alloc, ← hL] at this; exact this
    have hw1 : Below w1.heap.size w1 L := by rw [hL]; exact ((Below.refl w1.heap.size w1).alloc (Nat.le_refl _) _).alloc (by simp) _
    have HL := Lib.hid hL
    have HA := Lib.hid (hva.later hw1 (Nat.le_refl _))
    have HB := Lib.hid (hvb.later hw1 (Nat.le_refl _))
    have HEX := Lib.hid (hb1.trans (hw1.mono hb1.size))
    have HLA := Lib.hid (few_len (numO_few ha) (B := W64) (by rw [W64_eq]; omega))
    have HLB := Lib.hid (few_len (numO_few hb) (B := W64) (by rw [W64_eq]; omega))
    obtain ⟨⟨hA, hB, hC⟩, _, _, _⟩ := B0.cells
    obtain ⟨⟨hD, hF, hG⟩, _, _, _⟩ := B1.cells
    rw [hL] at hA hB hC hD hF hG
    clear ha hb hva hvb hb1 hna hnb hn1 hn2 hn3 hn4 hL hb2 B0 B1 hw1
    dsimp only
    go_wp2_with fail
    rw [← HL.out]
    refine rplus_any _ _ a b _ HA.out HB.out (Nat.le_trans HLA.out.1 (by omega)) (Nat.le_trans HLA.out.2 (by omega)) (Nat.le_trans HLB.out.1 (by omega)) (Nat.le_trans HLB.out.2 (by omega)) _ ?_
    intro vr w2 hr hb2
    obtain ⟨q, hq⟩ : ∃ q : Rat, q = a + b := ⟨_, rfl⟩
    rw [← hq] at HR
    rw [← hq] at hr
    obtain ⟨nr, a5, n5, c5, a6, n6, c6, hnr, rfl, _, _⟩ := hr.parts
    have HR2 := Lib.hid hr
    have HB2 := Lib.hid (HEX.out.trans (hb2.mono HEX.out.size))
    clear hr hb2 hnr hq hA hB hC hD hF hG
    dsimp only
    go_wp2_with fail
    refine rtext_o _ q _ HR2.out (tab_later HTAB.out HB2.out (Nat.le_refl _)) _ ?_
    intro w3 hb3
    have HB3 := Lib.hid (HB2.out.trans (hb3.mono HB2.out.size))
    obtain ⟨S, hS⟩ : ∃ S, S = outS (some q) := ⟨_, rfl⟩
    obtain ⟨B, hB⟩ : ∃ B, B = outB (some q) := ⟨_, rfl⟩
    rw [← hS, ← hB] at HR ⊢
    clear hS hB hb3
    dsimp only
    go_wp2
    first | go_ret | skip
    exact HR.out _ HB3.out
  · intro e w1 hn he hb1
    rw [combO_none hn] at HR
    obtain ⟨t', p, rfl⟩ := he
    have HB := Lib.hid hb1
    clear hb1 hn
    unfold zeroR
    dsimp only
    go_wp2
    first | go_ret | skip
    exact HR.out _ ((HB.out.alloc HB.out.size _).alloc (by simp; have := HB.out.size; omega) _)

set_option maxRecDepth 100000 in
set_option maxHeartbeats 2000000 in
theorem impl_addNumbers (s t : ByteArray) (w : World) (hE : Env w) (htab : Lib.TabIs Tryz.prog w "internal/strconv.uint64pow10" .u64 Lib.pow10Tab) (R : Ending → World → Prop)
    (hR : ∀ w', Below w.heap.size w w' → R (.returned (.tuple #[.string (outS (combO (· + ·) s.data.toList t.data.toList)), .bool (outB (combO (· + ·) s.data.toList t.data.toList))])) w') :
    Calls Tryz.prog 12 #[.string s, .string t] w R := by
  have HR := Lib.hid hR; clear hR
  have HE := Lib.hid hE; clear hE
  have HTAB := Lib.hid htab; clear htab
  go_enter Tryz.func12, Tryz.ntmps12
  go_wp2_with fail
  refine combAdd_any s t _ HE.out HTAB.out _ ?_
  intro w1 hb1
  have HB1 := Lib.hid hb1
  obtain ⟨S, hS⟩ : ∃ S, S = outS (combO (· + ·) s.data.toList t.data.toList) := ⟨_, rfl⟩
  obtain ⟨B, hB⟩ : ∃ B, B = outB (combO (· + ·) s.data.toList t.data.toList) := ⟨_, rfl⟩
  rw [← hS, ← hB] at HR ⊢
  clear hS hB hb1
  dsimp only
  go_wp2
  first | go_ret | skip
  exact HR.out _ HB1.out

end Go.Proofs.YtdkjcdfkoahfkaaGreatDoor

namespace Go.Proofs.YtdkjcdfkoahfkaaGreatDoor
open Go Go.RowKit

theorem sgn_flip (z : Int) : sgn (!decide (z < 0)) z.natAbs = -z := by
  unfold sgn
  by_cases h : z < 0
  · rw [decide_eq_true h]; simp; omega
  · rw [decide_eq_false h]; simp; omega

set_option maxRecDepth 100000 in
set_option maxHeartbeats 2000000 in
theorem ineg_any (v : Value) (z : Int) (w : World) (h : IsI w v z) (R : Ending → World → Prop)
    (hR : ∀ v' w', IsI w' v' (-z) → Below w.heap.size w w' → R (.returned v') w') :
    Calls Tryz.prog 157 #[v] w R := by
  have HR := Lib.hid hR; clear hR
  obtain ⟨ng, a1, n1, c1, hng, rfl, hn1⟩ := h.parts
  obtain ⟨L, hL⟩ : ∃ L, L = (w.alloc (.cells #[.bool ng, .slice a1 n1 c1] 83)).alloc (.cells #[.bool false, .slice none 0 0] 83) := ⟨_, rfl⟩
  have HEXT : Hid (Below w.heap.size w L) := Lib.hid (by rw [hL]; exact ((Below.refl w.heap.size w).alloc (Nat.le_refl _) _).alloc (by simp) _)
  have hLs : L.heap.size = w.heap.size + 2 := by rw [hL]; simp
  have B0 : Box2 L w.heap.size (.bool ng) (.slice a1 n1 c1) 83 := by rw [hL]; exact (Box2.made w _ _ _).alloc _
  have B1 : Box2 L (w.heap.size + 1) (.bool false) (.slice none 0 0) 83 := by
    have := Box2.made (w.alloc (.cells #[.bool ng, .slice a1 n1 c1] 83)) (.bool false) (.slice none 0 0) 83
    rw [World.size_alloc, ← hL] at this; exact this
  have HK : Hid (w.heap.size + 1 < L.heap.size) := Lib.hid (by omega)
  have HL := Lib.hid hL
  have HNG := Lib.hid hng
  have HB1 := Lib.hid B1
  have Y1 := Lib.hid (hn1.later HEXT.out (Nat.le_refl _))
  obtain ⟨hA, hB, _, _⟩ := B0.cells
  rw [hL] at hA hB
  clear hng h hn1 hL hLs B0 B1
  go_enter Tryz.func157, Tryz.ntmps157
  go_wp2_with fail
  rw [← HL.out]
  refine integerOf_z (!ng) _ z.natAbs _ Y1.out _ ?_
  intro v2 w2 hv2 hb2
  rw [HNG.out, sgn_flip] at hv2
  obtain ⟨m2, a5, m5, c5, hm2, rfl, hn5⟩ := hv2.parts
  have HV5 := Lib.hid hn5
  have HM2 := Lib.hid hm2
  have HT2 := Lib.hid hb2
  have d2 := HB1.out.later hb2 HK.out
  clear hv2 hb2 hm2 hn5 hA hB
  obtain ⟨hR0, hR1, hR2, hR3⟩ := d2.cells
  have HD2 := Lib.hid d2
  clear d2
  dsimp only
  go_wp2
  refine bodyPost_ret_at (by simp [results, Tryz.results157, go_sem, hR0, hR1, hR2, hR3] <;> rfl) rfl ?_
  exact HR.out _ _ (IsI.mk HM2.out (HV5.out.set2 (HD2.out.noInt rfl rfl) _ _ rfl)) (((HEXT.out.trans (HT2.out.mono HEXT.out.size)).setCell (show w.heap.size ≤ w.heap.size + 1 by omega) _).setCell (show w.heap.size ≤ w.heap.size + 1 by omega) _)

set_option maxRecDepth 100000 in
set_option maxHeartbeats 4000000 in
theorem rneg_any (v : Value) (a : Rat) (w : World) (h : IsR w v a) (R : Ending → World → Prop)
    (hR : ∀ v' w', IsR w' v' (-a) → Below w.heap.size w w' → R (.returned v') w') :
    Calls Tryz.prog 96 #[v] w R := by
  have HR := Lib.hid hR; clear hR
  obtain ⟨na, a1, n1, c1, a2, n2, c2, hna, rfl, hn1, hn2⟩ := h.parts
  obtain ⟨L, hL⟩ : ∃ L, L = (w.alloc (.cells #[.bool na, .slice a1 n1 c1, .slice a2 n2 c2] 85)).alloc (.cells #[.bool false, .slice none 0 0, .slice none 0 0] 85) := ⟨_, rfl⟩
  have HEXT : Hid (Below w.heap.size w L) := Lib.hid (by rw [hL]; exact ((Below.refl w.heap.size w).alloc (Nat.le_refl _) _).alloc (by simp) _)
  have hLs : L.heap.size = w.heap.size + 2 := by rw [hL]; simp
  have hb1 : Below (w.heap.size + 1) (w.alloc (.cells #[.bool na, .slice a1 n1 c1, .slice a2 n2 c2] 85)) L := by rw [hL]; exact (Below.refl _ _).alloc (by simp) _
  have B0 : Box3 L w.heap.size (.bool na) (.slice a1 n1 c1) (.slice a2 n2 c2) 85 := (Box3.made w _ _ _ _).later hb1 (by omega)
  have B2 : Box3 L (w.heap.size + 1) (.bool false) (.slice none 0 0) (.slice none 0 0) 85 := by
    have := Box3.made (w.alloc (.cells #[.bool na, .slice a1 n1 c1, .slice a2 n2 c2] 85)) (.bool false) (.slice none 0 0) (.slice none 0 0) 85
    rw [World.size_alloc, ← hL] at this; exact this
  have HL := Lib.hid hL
  have HLS := Lib.hid hLs
  have HB2 := Lib.hid B2
  have HNA := Lib.hid hna
  have XI : Hid (IsI L (.agg #[.bool na, .slice a1 n1 c1]) a.num) := Lib.hid (IsI.mk hna (hn1.later HEXT.out (Nat.le_refl _)))
  have X1 := Lib.hid (hn1.later HEXT.out (Nat.le_refl _))
  have X2 := Lib.hid (hn2.later HEXT.out (Nat.le_refl _))
  have HIV : Hid ((-a).num = -a.num ∧ (-a).den = a.den) := Lib.hid ⟨Rat.neg_num a, Rat.neg_den a⟩
  have HSOF : Hid (∀ w', Below (w.heap.size + 1) L w' → (Below (w.heap.size + 1) L w' ∧ (w'.cell? ⟨w.heap.size, 0, none⟩ = some (.bool na) ∧ w'.cell? ⟨w.heap.size, 1, none⟩ = some (.slice a1 n1 c1) ∧ w'.cell? ⟨w.heap.size, 2, none⟩ = some (.slice a2 n2 c2)))) :=
    Lib.hid fun w' hb => ⟨hb, (B0.later hb (by omega)).cells.1⟩
  clear hna h hn1 hn2 hb1 B0 B2 hL hLs
  go_enter Tryz.func96, Tryz.ntmps96
  go_wp2_with fail
  rw [← HL.out]
  go_region_held3 (fun w' => Below (w.heap.size + 1) L w' ∧ (w'.cell? ⟨w.heap.size, 0, none⟩ = some (.bool na) ∧ w'.cell? ⟨w.heap.size, 1, none⟩ = some (.slice a1 n1 c1) ∧ w'.cell? ⟨w.heap.size, 2, none⟩ = some (.slice a2 n2 c2)))
    (first
      | exact HSOF.out _ HQ1.out
      | exact HSOF.out _ (Below.refl _ _).drew
      | exact HSOF.out _ (((HQ1.out.setCell (by simp) _).setCell (by simp) _).setCell (by simp) _))
    (first
      | (go_at_call 157; refine ineg_any _ a.num _ (XI.out.later (Below.refl _ _).drew (Nat.le_refl _)) _ ?_; intro v1 w1 hv1 hb1; rw [← HIV.out.1] at hv1; obtain ⟨m1, a5, m5, c5, hm1, rfl, hn5⟩ := hv1.parts; have HM1 := Lib.hid hm1; have HV1 := Lib.hid hn5; have HT1 : Hid (Below L.heap.size L w1) := Lib.hid (below_unDrew hb1); have HQ1 : Hid (Below (w.heap.size + 1) L w1) := Lib.hid (HT1.out.mono (by have := HLS.out; omega)); have d1 := HB2.out.later HT1.out (by have := HLS.out; omega); obtain ⟨⟨hR0, hR1, hR2⟩, hF0, hF1, hF2⟩ := d1.cells; have HD1 := Lib.hid d1; clear hv1 hb1 hm1 hn5 d1; dsimp only))
  all_goals
    go_wp2
    refine bodyPost_ret_at (by simp [results, Tryz.results96, go_sem, hR0, hR1, hR2, hF0, hF1, hF2] <;> rfl) rfl ?_
    have hq : IsR w1 (.agg #[.bool m1, .slice a5 m5 c5, .slice a2 n2 c2]) (-a) := ⟨_, _, by rw [HM1.out], HV1.out, by rw [HIV.out.2]; exact X2.out.later HT1.out (Nat.le_refl _)⟩
    refine HR.out _ _ (IsR.set3 hq (HD1.out.noInt rfl rfl rfl) _ _ _ rfl rfl) ?_
    exact (((HEXT.out.trans (HT1.out.mono HEXT.out.size)).setCell (show w.heap.size ≤ w.heap.size + 1 by omega) _).setCell (show w.heap.size ≤ w.heap.size + 1 by omega) _).setCell (show w.heap.size ≤ w.heap.size + 1 by omega) _

end Go.Proofs.YtdkjcdfkoahfkaaGreatDoor

namespace Go.Proofs.YtdkjcdfkoahfkaaGreatDoor
open Go Go.RowKit

set_option maxRecDepth 100000 in
set_option maxHeartbeats 8000000 in
theorem rminus_any (va vb : Value) (a b : Rat) (w : World) (ha : IsR w va a) (hb : IsR w vb b) (hla : (dig W64 a.num.natAbs).length ≤ 1000000) (hla2 : (dig W64 a.den).length ≤ 1000000)
    (hlb : (dig W64 b.num.natAbs).length ≤ 1000000) (hlb2 : (dig W64 b.den).length ≤ 1000000) (R : Ending → World → Prop)
    (hR : ∀ v' w', IsR w' v' (a - b) → Below w.heap.size w w' → R (.returned v') w') :
    Calls Tryz.prog 64 #[va, vb] w R := by
  have HR := Lib.hid hR; clear hR
  obtain ⟨na, a1, n1, c1, a2, n2, c2, hna, rfl, hn1, hn2⟩ := ha.parts
  obtain ⟨nb, a3, n3, c3, a4, n4, c4, hnb, rfl, hn3, hn4⟩ := hb.parts
  obtain ⟨L, hL⟩ : ∃ L, L = ((w.alloc (.cells #[.bool na, .slice a1 n1 c1, .slice a2 n2 c2] 85)).alloc (.cells #[.bool nb, .slice a3 n3 c3, .slice a4 n4 c4] 85)).alloc (.cells #[.bool false, .slice none 0 0, .slice none 0 0] 85) := ⟨_, rfl⟩
  have HEXT : Hid (Below w.heap.size w L) := Lib.hid (by rw [hL]; exact (((Below.refl w.heap.size w).alloc (Nat.le_refl _) _).alloc (by simp) _).alloc (by simp; omega) _)
  have hLs : L.heap.size = w.heap.size + 3 := by rw [hL]; simp
  have hb1 : Below (w.heap.size + 1) (w.alloc (.cells #[.bool na, .slice a1 n1 c1, .slice a2 n2 c2] 85)) L := by rw [hL]; exact ((Below.refl _ _).alloc (by simp) _).alloc (by simp) _
  have hb2 : Below (w.heap.size + 2) ((w.alloc (.cells #[.bool na, .slice a1 n1 c1, .slice a2 n2 c2] 85)).alloc (.cells #[.bool nb, .slice a3 n3 c3, .slice a4 n4 c4] 85)) L := by rw [hL]; exact (Below.refl _ _).alloc (by simp) _
  have B0 : Box3 L w.heap.size (.bool na) (.slice a1 n1 c1) (.slice a2 n2 c2) 85 := (Box3.made w _ _ _ _).later hb1 (by omega)
  have B1 : Box3 L (w.heap.size + 1) (.bool nb) (.slice a3 n3 c3) (.slice a4 n4 c4) 85 := by
    have := (Box3.made (w.alloc (.cells #[.bool na, .slice a1 n1 c1, .slice a2 n2 c2] 85)) (.bool nb) (.slice a3 n3 c3) (.slice a4 n4 c4) 85).later hb2 (by simp)
    rw [World.size_alloc] at this; exact this
  have B2 : Box3 L (w.heap.size + 1 + 1) (.bool false) (.slice none 0 0) (.slice none 0 0) 85 := by
    have := Box3.made ((w.alloc (.cells #[.bool na, .slice a1 n1 c1, .slice a2 n2 c2] 85)).alloc (.cells #[.bool nb, .slice a3 n3 c3, .slice a4 n4 c4] 85)) (.bool false) (.slice none 0 0) (.slice none 0 0) 85
    rw [World.size_alloc, World.size_alloc, ← hL] at this; exact this
  have HL := Lib.hid hL
  have HLS := Lib.hid hLs
  have HB2 := Lib.hid B2
  have XA := Lib.hid (ha.later HEXT.out (Nat.le_refl _))
  have XB := Lib.hid (hb.later HEXT.out (Nat.le_refl _))
  have HLN := Lib.hid (And.intro hla (And.intro hla2 (And.intro hlb hlb2)))
  have HNB : Hid ((dig W64 (-b).num.natAbs).length ≤ 1000000 ∧ (dig W64 (-b).den).length ≤ 1000000) := Lib.hid (by rw [Rat.neg_num, Rat.neg_den, Int.natAbs_neg]; exact ⟨hlb, hlb2⟩)
  have HSUB : Hid (a + -b = a - b) := Lib.hid (Rat.sub_eq_add_neg a b).symm
  have HSOF : Hid (∀ w', Below (w.heap.size + 2) L w' → (Below (w.heap.size + 2) L w' ∧ (w'.cell? ⟨w.heap.size, 0, none⟩ = some (.bool na) ∧ w'.cell? ⟨w.heap.size, 1, none⟩ = some (.slice a1 n1 c1) ∧ w'.cell? ⟨w.heap.size, 2, none⟩ = some (.slice a2 n2 c2)) ∧
      (w'.cell? ⟨w.heap.size + 1, 0, none⟩ = some (.bool nb) ∧ w'.cell? ⟨w.heap.size + 1, 1, none⟩ = some (.slice a3 n3 c3) ∧ w'.cell? ⟨w.heap.size + 1, 2, none⟩ = some (.slice a4 n4 c4)))) :=
    Lib.hid fun w' hb => ⟨hb, (B0.later hb (by omega)).cells.1, (B1.later hb (by omega)).cells.1⟩
  clear hna hnb ha hb hn1 hn2 hn3 hn4 hla hlb hla2 hlb2 hb1 hb2 B0 B1 B2 hL hLs
  go_enter Tryz.func64, Tryz.ntmps64
  go_wp2_with fail
  rw [← HL.out]
  go_region_held3 (fun w' => Below (w.heap.size + 2) L w' ∧ (w'.cell? ⟨w.heap.size, 0, none⟩ = some (.bool na) ∧ w'.cell? ⟨w.heap.size, 1, none⟩ = some (.slice a1 n1 c1) ∧ w'.cell? ⟨w.heap.size, 2, none⟩ = some (.slice a2 n2 c2)) ∧
      (w'.cell? ⟨w.heap.size + 1, 0, none⟩ = some (.bool nb) ∧ w'.cell? ⟨w.heap.size + 1, 1, none⟩ = some (.slice a3 n3 c3) ∧ w'.cell? ⟨w.heap.size + 1, 2, none⟩ = some (.slice a4 n4 c4)))
    (first
      | exact HSOF.out _ HQ2.out
      | exact HSOF.out _ HQ1.out
      | exact HSOF.out _ (Below.refl _ _).drew
      | exact HSOF.out _ (below_set3 HQ2.out (by omega) _ _ _))
    (first
      | (have hguard := HQ1; go_at_call 63; refine rplus_any _ _ a (-b) _ (XA.out.later HT1.out (Nat.le_refl _)) HV1.out (Nat.le_trans HLN.out.1 (by omega)) (Nat.le_trans HLN.out.2.1 (by omega)) HNB.out.1 HNB.out.2 _ ?_; rw [HSUB.out]; intro v2 w2 hv2 hb2; obtain ⟨n9, a9, m9, c9, a8, m8, c8, hz2, rfl, _, _⟩ := hv2.parts; have HV2 := Lib.hid hv2; have HT2 := Lib.hid (HT1.out.trans (hb2.mono HT1.out.size)); have HQ2 : Hid (Below (w.heap.size + 2) L w2) := Lib.hid (HT2.out.mono (by have := HLS.out; omega)); have d8 := HB2.out.later HT2.out (by have := HLS.out; omega); obtain ⟨⟨hR0, hR1, hR2⟩, hF0, hF1, hF2⟩ := d8.cells; have HD8 := Lib.hid d8; clear hguard hz2 hv2 hb2 d8; dsimp only)
      | (go_at_call 96; refine rneg_any _ b _ (XB.out.later (Below.refl _ _).drew (Nat.le_refl _)) _ ?_; intro v1 w1 hv1 hb1; obtain ⟨n5, a5, m5, c5, a6, m6, c6, hz1, rfl, _, _⟩ := hv1.parts; have HV1 := Lib.hid hv1; have HT1 : Hid (Below L.heap.size L w1) := Lib.hid (below_unDrew hb1); have HQ1 : Hid (Below (w.heap.size + 2) L w1) := Lib.hid (HT1.out.mono (by have := HLS.out; omega)); clear hz1 hv1 hb1; dsimp only))
  all_goals
    go_wp2
    refine bodyPost_ret_at (by simp [results, Tryz.results64, go_sem, hR0, hR1, hR2, hF0, hF1, hF2] <;> rfl) rfl ?_
    refine HR.out _ _ (IsR.set3 HV2.out (HD8.out.noInt rfl rfl rfl) _ _ _ rfl rfl) ?_
    exact below_set3 (HEXT.out.trans (HT2.out.mono HEXT.out.size)) (show w.heap.size ≤ w.heap.size + 1 + 1 by omega) _ _ _
end Go.Proofs.YtdkjcdfkoahfkaaGreatDoor

namespace Go.Proofs.YtdkjcdfkoahfkaaGreatDoor
open Go Go.RowKit

theorem num_neg_q (q : Rat) : (-q).num = -q.num := rfl
theorem den_neg_q (q : Rat) : (-q).den = q.den := rfl

theorem neg_end (w L wC : World) (g : Nat) (q : Rat) (n : Bool) (a1 : Option Addr) (n1 c1 : Nat) (a2 : Option Addr) (n2 c2 : Nat)
    (d2 : Box4 wC (g + 1) (.bool false) (.slice none 0 0) (.bool false) (.slice none 0 0) 75)
    (hz : IsZ wC (.agg #[.bool n, .slice a1 n1 c1]) (-q.num)) (hd : IsZ L (.agg #[.bool false, .slice a2 n2 c2]) (q.den : Int)) (hb : Below g w L) (hbC : Below L.drew.heap.size L.drew wC) (hgW : g ≤ L.heap.size) :
    QBox g w (g + 1) (-q) ((((wC.setCell ⟨g + 1, 0, none⟩ (.bool n)).setCell ⟨g + 1, 1, none⟩ (.slice a1 n1 c1)).setCell ⟨g + 1, 2, none⟩ (.bool false)).setCell ⟨g + 1, 3, none⟩ (.slice a2 n2 c2)) := by
  have hn := d2.noInt rfl rfl rfl rfl
  obtain ⟨s1, e1, h1⟩ := hz
  simp at e1
  obtain ⟨e1, rfl⟩ := e1
  have t4 := (Sl.drew hd.ofNat).later hbC (Nat.le_refl _)
  refine ⟨_, _, _, d2.set4 _ _ _ _, ?_, ?_, ?_, ((((hb.trans ((below_ofDrew hbC).mono hgW)).setCell (by simp <;> omega) _).setCell (by simp <;> omega) _).setCell (by simp <;> omega) _).setCell (by simp <;> omega) _⟩
  · rw [e1]; simp [num_neg_q]
  · exact h1.set4 hn _ _ _ _ rfl rfl rfl
  · exact t4.set4 hn _ _ _ _ rfl rfl rfl

set_option maxRecDepth 100000 in
set_option maxHeartbeats 1000000 in
theorem negQ_any (va : Value) (a : Rat) (w : World) (ha : IsQ w va a) (hla : (dig 10000 a.num.natAbs).length ≤ 1000000)
    (R : Ending → World → Prop) (hR : ∀ v w', IsQ w' v (-a) → Below w.heap.size w w' → R (.returned v) w') :
    Calls Tryz.prog 91 #[va] w R := by
  have HR := Lib.hid hR; clear hR
  obtain ⟨na, a1, n1, c1, a2, n2, c2, rfl, hz1, hz2⟩ := ha.parts
  clear ha
  obtain ⟨L, hL⟩ : ∃ L, L = (w.alloc (.cells #[.bool na, .slice a1 n1 c1, .bool false, .slice a2 n2 c2] 75)).alloc (.cells #[.bool false, .slice none 0 0, .bool false, .slice none 0 0] 75) := ⟨_, rfl⟩
  have hLs : L.heap.size = w.heap.size + 2 := by rw [hL]; simp
  have B0 : Box4 L w.heap.size (.bool na) (.slice a1 n1 c1) (.bool false) (.slice a2 n2 c2) 75 := by
    rw [hL]; exact (Box4.made w _ _ _ _ _).later (B := w.heap.size + 1) ((Below.refl _ _).alloc (by simp) _) (by omega)
  have B2 : Box4 L (w.heap.size + 1) (.bool false) (.slice none 0 0) (.bool false) (.slice none 0 0) 75 := by
    rw [hL]; have := Box4.made (w.alloc (.cells #[.bool na, .slice a1 n1 c1, .bool false, .slice a2 n2 c2] 75)) (.bool false) (.slice none 0 0) (.bool false) (.slice none 0 0) 75; simpa using this
  have HEXT : Below w.heap.size w L := by rw [hL]; exact ((Below.refl w.heap.size w).alloc (Nat.le_refl _) _).alloc (by simp) _
  have HL := Lib.hid hL
  have y1 := (hz1.later HEXT (Nat.le_refl _))
  have y2 := (hz2.later HEXT (Nat.le_refl _))
  clear hL hz1 hz2
  go_enter Tryz.func91, Tryz.ntmps91
  go_wp2_with fail
  rw [← HL.out]
  obtain ⟨⟨hA0, hA1, hA2, hA3⟩, _, _, _, _⟩ := B0.cells
  have hk0 : w.heap.size < L.heap.size := by omega
  have hk2 : w.heap.size + 1 < L.heap.size := by omega
  have HLN := Lib.hid hla
  clear hla
  go_cut [] (fun wx => QBox w.heap.size w (w.heap.size + 1) (-a) wx)
  case first =>
    go_region_law (first
      | (go_simp; go_at_call 153; refine zneg_any _ a.num _ y1.drew ?_ _ ?_; exact Nat.le_trans HLN.out (by omega); intro v1 w1 hv1 hb1; obtain ⟨bn, b1, m1, d1, rfl, hv2⟩ := hv1.openB; have e0 := B0.later (below_ofDrew hb1) hk0; have e2 := B2.later (below_ofDrew hb1) hk2; obtain ⟨⟨hC0, hC1, hC2, hC3⟩, _, _, _, _⟩ := e0.cells; obtain ⟨⟨hR0, hR1, hR2, hR3⟩, hR4, hR5, hR6, hR7⟩ := e2.cells; dsimp only))
    all_goals (go_wp2_with fail; go_meet; exact neg_end w L w1 w.heap.size a bn b1 m1 d1 a2 n2 c2 e2 hv2 y2 HEXT hb1 (by omega))
  case rest =>
    clear hA0 hA1 hA2 hA3
    obtain ⟨b1, x1, x2, hbx, he, ht1, ht2, hbl⟩ := hcut
    obtain ⟨⟨hR0, hR1, hR2, hR3⟩, _, _, _, _⟩ := hbx.cells
    go_wp2
    refine bodyPost_ret_at (by simp [results, Tryz.results91, go_sem, hR0, hR1, hR2, hR3] <;> rfl) rfl ?_
    exact HR.out _ _ ⟨x1, x2, by rw [he], ht1, ht2⟩ hbl
end Go.Proofs.YtdkjcdfkoahfkaaGreatDoor

namespace Go.Proofs.YtdkjcdfkoahfkaaGreatDoor
open Go Go.RowKit

theorem IsQ.drew {w : World} {v : Value} {q : Rat} (h : IsQ w v q) : IsQ w.drew v q := h

set_option maxRecDepth 100000 in
set_option maxHeartbeats 1000000 in
theorem subQ_any (va vb : Value) (a b : Rat) (w : World) (ha : IsQ w va a) (hb : IsQ w vb b) (hla : (dig 10000 a.num.natAbs).length ≤ 400000) (hla2 : (dig 10000 a.den).length ≤ 400000)
    (hlb : (dig 10000 b.num.natAbs).length ≤ 400000) (hlb2 : (dig 10000 b.den).length ≤ 400000)
    (R : Ending → World → Prop) (hR : ∀ v w', IsQ w' v (a - b) → Below w.heap.size w w' → R (.returned v) w') :
    Calls Tryz.prog 139 #[va, vb] w R := by
  have HR := Lib.hid hR; clear hR
  obtain ⟨na, a1, n1, c1, a2, n2, c2, rfl, _, _⟩ := ha.parts
  obtain ⟨nb, a3, n3, c3, a4, n4, c4, rfl, _, _⟩ := hb.parts
  obtain ⟨L, hL⟩ : ∃ L, L = ((w.alloc (.cells #[.bool na, .slice a1 n1 c1, .bool false, .slice a2 n2 c2] 75)).alloc (.cells #[.bool nb, .slice a3 n3 c3, .bool false, .slice a4 n4 c4] 75)).alloc (.cells #[.bool false, .slice none 0 0, .bool false, .slice none 0 0] 75) := ⟨_, rfl⟩
  have hLs : L.heap.size = w.heap.size + 3 := by rw [hL]; simp
  have B0 : Box4 L w.heap.size (.bool na) (.slice a1 n1 c1) (.bool false) (.slice a2 n2 c2) 75 := by
    rw [hL]; exact ((Box4.made w _ _ _ _ _).later (B := w.heap.size + 1) ((Below.refl _ _).alloc (by simp) _) (by omega)).later (B := w.heap.size + 2) ((Below.refl _ _).alloc (by simp) _) (by omega)
  have B1 : Box4 L (w.heap.size + 1) (.bool nb) (.slice a3 n3 c3) (.bool false) (.slice a4 n4 c4) 75 := by
    rw [hL]; have := (Box4.made (w.alloc (.cells #[.bool na, .slice a1 n1 c1, .bool false, .slice a2 n2 c2] 75)) (.bool nb) (.slice a3 n3 c3) (.bool false) (.slice a4 n4 c4) 75).later (B := w.heap.size + 2) ((Below.refl _ _).alloc (by simp) (.cells #[.bool false, .slice none 0 0, .bool false, .slice none 0 0] 75)) (by simp); simpa using this
  have B2 : Box4 L (w.heap.size + 2) (.bool false) (.slice none 0 0) (.bool false) (.slice none 0 0) 75 := by
    rw [hL]; have := Box4.made ((w.alloc (.cells #[.bool na, .slice a1 n1 c1, .bool false, .slice a2 n2 c2] 75)).alloc (.cells #[.bool nb, .slice a3 n3 c3, .bool false, .slice a4 n4 c4] 75)) (.bool false) (.slice none 0 0) (.bool false) (.slice none 0 0) 75; simpa using this
  have HEXT : Below w.heap.size w L := by rw [hL]; exact (((Below.refl w.heap.size w).alloc (Nat.le_refl _) _).alloc (by simp) _).alloc (by simp; omega) _
  have HL := Lib.hid hL
  have y1 := (ha.later HEXT (Nat.le_refl _))
  have y2 := (hb.later HEXT (Nat.le_refl _))
  clear hL ha hb
  have HLN := Lib.hid (And.intro hla (And.intro hla2 (And.intro hlb hlb2)))
  clear hla hlb hla2 hlb2
  go_enter Tryz.func139, Tryz.ntmps139
  go_wp2_with fail
  rw [← HL.out]
  obtain ⟨⟨hA0, hA1, hA2, hA3⟩, _, _, _, _⟩ := B0.cells
  obtain ⟨⟨hB0, hB1, hB2, hB3⟩, _, _, _, _⟩ := B1.cells
  have hk0 : w.heap.size < L.heap.size := by omega
  have hk1 : w.heap.size + 1 < L.heap.size := by omega
  have hk2 : w.heap.size + 2 < L.heap.size := by omega
  go_cut [] (fun wx => QBox w.heap.size w (w.heap.size + 1 + 1) (a - b) wx)
  case first =>
    go_region_law (first
      | (have hguard := hb1; go_simp; go_at_call 198; refine addQ_any (.agg #[.bool na, .slice a1 n1 c1, .bool false, .slice a2 n2 c2]) v1 a (-b) _ (y1.later hq1 (Nat.le_refl _)) hv1 HLN.out.1 HLN.out.2.1 (by rw [num_neg_q, Int.natAbs_neg]; exact HLN.out.2.2.1) HLN.out.2.2.2 _ ?_; intro v2 w2 hv2 hb2; obtain ⟨n5, a5, m5, c5, a6, m6, c6, rfl, _, _⟩ := hv2.parts; have bb : Below L.heap.size L w2 := hq1.trans (hb2.mono hq1.size); have d2 := B2.later bb hk2; obtain ⟨⟨hR0, hR1, hR2, hR3⟩, hR4, hR5, hR6, hR7⟩ := d2.cells; clear hguard; dsimp only)
      | (go_simp; go_at_call 91; refine negQ_any (.agg #[.bool nb, .slice a3 n3 c3, .bool false, .slice a4 n4 c4]) b _ y2.drew (Nat.le_trans HLN.out.2.2.1 (by omega)) _ ?_; intro v1 w1 hv1 hb1; have hq1 : Below L.heap.size L w1 := below_ofDrew hb1; obtain ⟨⟨hC0, hC1, hC2, hC3⟩, _, _, _, _⟩ := (B0.later hq1 hk0).cells; dsimp only))
    all_goals (go_wp2_with fail; go_meet; exact q_end w L w2 w.heap.size _ _ _ _ _ _ _ _ _ d2 (by rw [Rat.sub_eq_add_neg]; exact hv2) HEXT bb (by omega))
  case rest =>
    clear hA0 hA1 hA2 hA3 hB0 hB1 hB2 hB3
    obtain ⟨b1, x1, x2, hbx, he, ht1, ht2, hbl⟩ := hcut
    obtain ⟨⟨hR0, hR1, hR2, hR3⟩, _, _, _, _⟩ := hbx.cells
    go_wp2
    refine bodyPost_ret_at (by simp [results, Tryz.results139, go_sem, hR0, hR1, hR2, hR3] <;> rfl) rfl ?_
    exact HR.out _ _ ⟨x1, x2, by rw [he], ht1, ht2⟩ hbl
end Go.Proofs.YtdkjcdfkoahfkaaGreatDoor

namespace Go.Proofs.YtdkjcdfkoahfkaaGreatDoor
open Go Go.RowKit

set_option maxRecDepth 100000 in
set_option maxHeartbeats 2000000 in
theorem combSub_any (s t : ByteArray) (w : World) (hE : Env w) (htab : Lib.TabIs Tryz.prog w "internal/strconv.uint64pow10" .u64 Lib.pow10Tab) (R : Ending → World → Prop)
    (hR : ∀ w', Below w.heap.size w w' → R (.returned (.tuple #[.string (outS (combO (· - ·) s.data.toList t.data.toList)), .bool (outB (combO (· - ·) s.data.toList t.data.toList))])) w') :
    Calls Tryz.prog 62 #[.string s, .string t, .func (Fn.func 64) #[] #[]] w R := by
  have HR := Lib.hid hR; clear hR
  have HE := Lib.hid hE; clear hE
  have HTAB := Lib.hid htab; clear htab
  go_enter Tryz.func62, Tryz.ntmps62
  go_wp2_with fail
  refine read2_any s t _ HE.out _ ?_ ?_
  · intro va vb a b w1 ha hb hva hvb hb1
    rw [combO_some ha hb] at HR
    obtain ⟨na, a1, n1, c1, a2, n2, c2, hna, rfl, hn1, hn2⟩ := hva.parts
    obtain ⟨nb, a3, n3, c3, a4, n4, c4, hnb, rfl, hn3, hn4⟩ := hvb.parts
    obtain ⟨L, hL⟩ : ∃ L, L = (w1.alloc (.cells #[.bool na, .slice a1 n1 c1, .slice a2 n2 c2] 85)).alloc (.cells #[.bool nb, .slice a3 n3 c3, .slice a4 n4 c4] 85) := ⟨_, rfl⟩
    have hb2 : Below (w1.heap.size + 1) (w1.alloc (.cells #[.bool na, .slice a1 n1 c1, .slice a2 n2 c2] 85)) L := by rw [hL]; exact (Below.refl _ _).alloc (by simp) _
    have B0 : Box3 L w1.heap.size (.bool na) (.slice a1 n1 c1) (.slice a2 n2 c2) 85 := (Box3.made w1 _ _ _ _).later hb2 (by omega)
    have B1 : Box3 L (w1.heap.size + 1) (.bool nb) (.slice a3 n3 c3) (.slice a4 n4 c4) 85 := by
      have := Box3.made (w1.alloc (.cells #[.bool na, .slice a1 n1 c1, .slice a2 n2 c2] 85)) (.bool nb) (.slice a3 n3 c3) (.slice a4 n4 c4) 85
      rw [World.size_alloc, ← hL] at this; exact this
    have hw1 : Below w1.heap.size w1 L := by rw [hL]; exact ((Below.refl w1.heap.size w1).alloc (Nat.le_refl _) _).alloc (by simp) _
    have HL := Lib.hid hL
    have HA := Lib.hid (hva.later hw1 (Nat.le_refl _))
    have HB := Lib.hid (hvb.later hw1 (Nat.le_refl _))
    have HEX := Lib.hid (hb1.trans (hw1.mono hb1.size))
    have HLA := Lib.hid (few_len (numO_few ha) (B := W64) (by rw [W64_eq]; omega))
    have HLB := Lib.hid (few_len (numO_few hb) (B := W64) (by rw [W64_eq]; omega))
    obtain ⟨⟨hA, hB, hC⟩, _, _, _⟩ := B0.cells
    obtain ⟨⟨hD, hF, hG⟩, _, _, _⟩ := B1.cells
    rw [hL] at hA hB hC hD hF hG
    clear ha hb hva hvb hb1 hna hnb hn1 hn2 hn3 hn4 hL hb2 B0 B1 hw1
    dsimp only
    go_wp2_with fail
    rw [← HL.out]
    refine rminus_any _ _ a b _ HA.out HB.out (Nat.le_trans HLA.out.1 (by omega)) (Nat.le_trans HLA.out.2 (by omega)) (Nat.le_trans HLB.out.1 (by omega)) (Nat.le_trans HLB.out.2 (by omega)) _ ?_
    intro vr w2 hr hb2
    obtain ⟨q, hq⟩ : ∃ q : Rat, q = a - b := ⟨_, rfl⟩
    rw [← hq] at HR
    rw [← hq] at hr
    obtain ⟨nr, a5, n5, c5, a6, n6, c6, hnr, rfl, _, _⟩ := hr.parts
    have HR2 := Lib.hid hr
    have HB2 := Lib.hid (HEX.out.trans (hb2.mono HEX.out.size))
    clear hr hb2 hnr hq hA hB hC hD hF hG
    dsimp only
    go_wp2_with fail
    refine rtext_o _ q _ HR2.out (tab_later HTAB.out HB2.out (Nat.le_refl _)) _ ?_
    intro w3 hb3
    have HB3 := Lib.hid (HB2.out.trans (hb3.mono HB2.out.size))
    obtain ⟨S, hS⟩ : ∃ S, S = outS (some q) := ⟨_, rfl⟩
    obtain ⟨B, hB⟩ : ∃ B, B = outB (some q) := ⟨_, rfl⟩
    rw [← hS, ← hB] at HR ⊢
    clear hS hB hb3
    dsimp only
    go_wp2
    first | go_ret | skip
    exact HR.out _ HB3.out
  · intro e w1 hn he hb1
    rw [combO_none hn] at HR
    obtain ⟨t', p, rfl⟩ := he
    have HB := Lib.hid hb1
    clear hb1 hn
    unfold zeroR
    dsimp only
    go_wp2
    first | go_ret | skip
    exact HR.out _ ((HB.out.alloc HB.out.size _).alloc (by simp; have := HB.out.size; omega) _)

set_option maxRecDepth 100000 in
set_option maxHeartbeats 2000000 in
theorem impl_subNumbers (s t : ByteArray) (w : World) (hE : Env w) (htab : Lib.TabIs Tryz.prog w "internal/strconv.uint64pow10" .u64 Lib.pow10Tab) (R : Ending → World → Prop)
    (hR : ∀ w', Below w.heap.size w w' → R (.returned (.tuple #[.string (outS (combO (· - ·) s.data.toList t.data.toList)), .bool (outB (combO (· - ·) s.data.toList t.data.toList))])) w') :
    Calls Tryz.prog 13 #[.string s, .string t] w R := by
  have HR := Lib.hid hR; clear hR
  have HE := Lib.hid hE; clear hE
  have HTAB := Lib.hid htab; clear htab
  go_enter Tryz.func13, Tryz.ntmps13
  go_wp2_with fail
  refine combSub_any s t _ HE.out HTAB.out _ ?_
  intro w1 hb1
  have HB1 := Lib.hid hb1
  obtain ⟨S, hS⟩ : ∃ S, S = outS (combO (· - ·) s.data.toList t.data.toList) := ⟨_, rfl⟩
  obtain ⟨B, hB⟩ : ∃ B, B = outB (combO (· - ·) s.data.toList t.data.toList) := ⟨_, rfl⟩
  rw [← hS, ← hB] at HR ⊢
  clear hS hB hb1
  dsimp only
  go_wp2
  first | go_ret | skip
  exact HR.out _ HB1.out

set_option maxRecDepth 100000 in
set_option maxHeartbeats 2000000 in
theorem spec_subNumbers (s t : ByteArray) (w : World) (hs : s.size ≤ 1100000) (ht : t.size ≤ 1100000) (R : Ending → World → Prop)
    (hR : ∀ w', Below w.heap.size w w' → R (.returned (.tuple #[.string (outS (combO (· - ·) s.data.toList t.data.toList)), .bool (outB (combO (· - ·) s.data.toList t.data.toList))])) w') :
    Calls Tryz.prog 76 #[.string s, .string t] w R := by
  have HR := Lib.hid hR; clear hR
  have HS := Lib.hid (And.intro hs ht)
  clear hs ht
  go_enter Tryz.func76, Tryz.ntmps76
  go_wp2_with fail
  refine isq_any s _ HS.out.1 _ ?_
  intro w1 hb1
  have HB1 := Lib.hid hb1
  clear hb1
  cases ha : numO s.data.toList with
  | none =>
    rw [combO_none (.inl ha)] at HR
    rw [Option.isSome_none]
    clear ha
    dsimp only
    go_wp2
    first | go_ret | skip
    exact HR.out _ HB1.out
  | some a =>
    have HA := Lib.hid ha
    rw [Option.isSome_some]
    clear ha
    dsimp only
    go_wp2_with fail
    refine isq_any t _ HS.out.2 _ ?_
    intro w2 hb2
    have HB2 := Lib.hid (HB1.out.trans (hb2.mono HB1.out.size))
    clear hb2
    cases hb : numO t.data.toList with
    | none =>
      rw [combO_none (.inr hb)] at HR
      rw [Option.isSome_none]
      clear hb
      dsimp only
      go_wp2
      first | go_ret | skip
      exact HR.out _ HB2.out
    | some b =>
      have HBB := Lib.hid hb
      rw [combO_some HA.out hb] at HR
      rw [Option.isSome_some]
      have HLA := Lib.hid (few_len (numO_few HA.out) (B := 10000) (by omega))
      have HLB := Lib.hid (few_len (numO_few hb) (B := 10000) (by omega))
      clear hb
      dsimp only
      go_wp2_with fail
      refine ofq_any s a _ HA.out _ ?_
      intro va w3 hqa hb3
      obtain ⟨na, a1, n1, c1, a2, n2, c2, rfl, _, _⟩ := hqa.parts
      have HQA := Lib.hid hqa
      have HB3 := Lib.hid (HB2.out.trans (hb3.mono HB2.out.size))
      clear hqa hb3
      dsimp only
      go_wp2_with fail
      refine ofq_any t b _ HBB.out _ ?_
      intro vb w4 hqb hb4
      obtain ⟨nb, a3, n3, c3, a4, n4, c4, rfl, _, _⟩ := hqb.parts
      have HQB := Lib.hid hqb
      have HQA' := Lib.hid (HQA.out.later hb4 (Nat.le_refl _))
      have HB4 := Lib.hid (HB3.out.trans (hb4.mono HB3.out.size))
      clear hqb hb4
      dsimp only
      go_wp2_with fail
      refine subQ_any _ _ a b _ HQA'.out HQB.out (Nat.le_trans HLA.out.1 (by omega)) (Nat.le_trans HLA.out.2 (by omega)) (Nat.le_trans HLB.out.1 (by omega)) (Nat.le_trans HLB.out.2 (by omega)) _ ?_
      intro vr w5 hr hb5
      have HLQ : Hid ((dig 10000 (a - b).num.natAbs).length ≤ 1000000000 ∧ (dig 10000 (a - b).den).length ≤ 1000000000) := Lib.hid (by
        have hbd := (sub_bd (Bd.of (numO_few HA.out)) (Bd.of (numO_few HBB.out))).len (B := 10000) (by omega)
        exact ⟨Nat.le_trans hbd.1 (by omega), Nat.le_trans hbd.2 (by omega)⟩)
      obtain ⟨q, hq⟩ : ∃ q : Rat, q = a - b := ⟨_, rfl⟩
      rw [← hq] at HR
      rw [← hq] at hr HLQ
      obtain ⟨nr, a5, n5, c5, a6, n6, c6, rfl, _, _⟩ := hr.parts
      have HQR := Lib.hid hr
      have HB5 := Lib.hid (HB4.out.trans (hb5.mono HB4.out.size))
      clear hr hb5 hq
      dsimp only
      go_wp2_with fail
      refine give_o _ q _ HQR.out HLQ.out.1 HLQ.out.2 _ ?_
      intro w6 hb6
      have HB6 := Lib.hid (HB5.out.trans (hb6.mono HB5.out.size))
      obtain ⟨S, hS⟩ : ∃ S, S = outS (some q) := ⟨_, rfl⟩
      obtain ⟨B, hB⟩ : ∃ B, B = outB (some q) := ⟨_, rfl⟩
      rw [← hS, ← hB] at HR ⊢
      clear hS hB hb6
      dsimp only
      go_wp2
      first | go_ret | skip
      exact HR.out _ HB6.out

end Go.Proofs.YtdkjcdfkoahfkaaGreatDoor

namespace Go.Proofs.YtdkjcdfkoahfkaaGreatDoor
open Go Go.RowKit

set_option maxRecDepth 100000 in
set_option maxHeartbeats 4000000 in
theorem mulQ_any (va vb : Value) (a b : Rat) (w : World) (ha : IsQ w va a) (hb : IsQ w vb b) (hla : (dig 10000 a.num.natAbs).length ≤ 400000) (hla2 : (dig 10000 a.den).length ≤ 400000)
    (hlb : (dig 10000 b.num.natAbs).length ≤ 400000) (hlb2 : (dig 10000 b.den).length ≤ 400000)
    (R : Ending → World → Prop) (hR : ∀ v w', IsQ w' v (a * b) → Below w.heap.size w w' → R (.returned v) w') :
    Calls Tryz.prog 124 #[va, vb] w R := by
  have HR := Lib.hid hR; clear hR
  obtain ⟨na, a1, n1, c1, a2, n2, c2, rfl, hz1, hz2⟩ := ha.parts
  obtain ⟨nb, a3, n3, c3, a4, n4, c4, rfl, hz3, hz4⟩ := hb.parts
  clear ha hb
  obtain ⟨L, hL⟩ : ∃ L, L = ((w.alloc (.cells #[.bool na, .slice a1 n1 c1, .bool false, .slice a2 n2 c2] 75)).alloc (.cells #[.bool nb, .slice a3 n3 c3, .bool false, .slice a4 n4 c4] 75)).alloc (.cells #[.bool false, .slice none 0 0, .bool false, .slice none 0 0] 75) := ⟨_, rfl⟩
  have hLs : L.heap.size = w.heap.size + 3 := by rw [hL]; simp
  have B0 : Box4 L w.heap.size (.bool na) (.slice a1 n1 c1) (.bool false) (.slice a2 n2 c2) 75 := by
    rw [hL]; exact ((Box4.made w _ _ _ _ _).later (B := w.heap.size + 1) ((Below.refl _ _).alloc (by simp) _) (by omega)).later (B := w.heap.size + 2) ((Below.refl _ _).alloc (by simp) _) (by omega)
  have B1 : Box4 L (w.heap.size + 1) (.bool nb) (.slice a3 n3 c3) (.bool false) (.slice a4 n4 c4) 75 := by
    rw [hL]; have := (Box4.made (w.alloc (.cells #[.bool na, .slice a1 n1 c1, .bool false, .slice a2 n2 c2] 75)) (.bool nb) (.slice a3 n3 c3) (.bool false) (.slice a4 n4 c4) 75).later (B := w.heap.size + 2) ((Below.refl _ _).alloc (by simp) (.cells #[.bool false, .slice none 0 0, .bool false, .slice none 0 0] 75)) (by simp); simpa using this
  have B2 : Box4 L (w.heap.size + 2) (.bool false) (.slice none 0 0) (.bool false) (.slice none 0 0) 75 := by
    rw [hL]; have := Box4.made ((w.alloc (.cells #[.bool na, .slice a1 n1 c1, .bool false, .slice a2 n2 c2] 75)).alloc (.cells #[.bool nb, .slice a3 n3 c3, .bool false, .slice a4 n4 c4] 75)) (.bool false) (.slice none 0 0) (.bool false) (.slice none 0 0) 75; simpa using this
  have HEXT : Below w.heap.size w L := by rw [hL]; exact (((Below.refl w.heap.size w).alloc (Nat.le_refl _) _).alloc (by simp) _).alloc (by simp; omega) _
  have HL := Lib.hid hL
  have y1 := (hz1.later HEXT (Nat.le_refl _))
  have y2 := (hz2.later HEXT (Nat.le_refl _))
  have y3 := (hz3.later HEXT (Nat.le_refl _))
  have y4 := (hz4.later HEXT (Nat.le_refl _))
  clear hL hz1 hz2 hz3 hz4
  go_enter Tryz.func124, Tryz.ntmps124
  go_wp2_with fail
  rw [← HL.out]
  obtain ⟨⟨hA0, hA1, hA2, hA3⟩, _, _, _, _⟩ := B0.cells
  obtain ⟨⟨hB0, hB1, hB2, hB3⟩, _, _, _, _⟩ := B1.cells
  have hk0 : w.heap.size < L.heap.size := by omega
  have hk1 : w.heap.size + 1 < L.heap.size := by omega
  have hk2 : w.heap.size + 2 < L.heap.size := by omega
  have hla' : (dig 10000 (a.num.natAbs)).length ≤ 10000000 := by omega
  have hlb' : (dig 10000 (b.num.natAbs)).length ≤ 10000000 := by omega
  have hla2' : (dig 10000 ((a.den : Int).natAbs)).length ≤ 10000000 := by rw [Int.natAbs_natCast]; omega
  have hlb2' : (dig 10000 ((b.den : Int).natAbs)).length ≤ 10000000 := by rw [Int.natAbs_natCast]; omega
  have hm1 : (dig 10000 ((a.num * b.num).natAbs)).length ≤ 1000000 := by rw [Int.natAbs_mul]; have := mul_len _ _ _ _ hla hlb; omega
  have hm2 : (dig 10000 (((a.den : Int) * (b.den : Int)).natAbs)).length ≤ 1000000 := by rw [Int.natAbs_mul, Int.natAbs_natCast, Int.natAbs_natCast]; have := mul_len _ _ _ _ hla2 hlb2; omega
  have hd0 : (a.den : Int) * (b.den : Int) ≠ 0 := by
    have h1 := a.den_pos; have h2 := b.den_pos
    have := Nat.mul_pos h1 h2
    intro h; rw [← Int.natCast_mul] at h; omega
  have HLN := Lib.hid (And.intro hla' (And.intro hlb' (And.intro hla2' (And.intro hlb2' (And.intro hm1 (And.intro hm2 hd0))))))
  clear hla hlb hla2 hlb2 hla' hlb' hla2' hlb2' hm1 hm2 hd0
  go_cut [] (fun wx => QBox w.heap.size w (w.heap.size + 1 + 1) (a * b) wx)
  case first =>
    go_region_law (first
      | (have hguard := hb2; go_simp; go_at_call 154; refine make_any v1 v2 (a.num * b.num) ((a.den : Int) * (b.den : Int)) _ (hv1.later hb2 (Nat.le_refl _)) hv2 HLN.out.2.2.2.2.1 HLN.out.2.2.2.2.2.1 HLN.out.2.2.2.2.2.2 _ ?_; intro v3 w3 hv3 hb3; obtain ⟨n5, a5, m5, c5, a6, m6, c6, rfl, hz5, hz6⟩ := hv3.parts; have bb : Below L.heap.size L w3 := (below_ofDrew hb1).trans ((hb2.mono hb1.size).trans (hb3.mono (Nat.le_trans hb1.size hb2.size))); have d2 := B2.later bb hk2; obtain ⟨⟨hR0, hR1, hR2, hR3⟩, hR4, hR5, hR6, hR7⟩ := d2.cells; clear hguard; dsimp only)
      | (have hguard := hb1; go_simp; go_at_call 176; refine zmul_any (.agg #[.bool false, .slice a2 n2 c2]) (.agg #[.bool false, .slice a4 n4 c4]) (a.den : Int) (b.den : Int) _ (y2.drew.later hb1 (Nat.le_refl _)) (y4.drew.later hb1 (Nat.le_refl _)) HLN.out.2.2.1 HLN.out.2.2.2.1 _ ?_; intro v2 w2 hv2 hb2; clear hguard; dsimp only)
      | (go_simp; go_at_call 176; refine zmul_any (.agg #[.bool na, .slice a1 n1 c1]) (.agg #[.bool nb, .slice a3 n3 c3]) a.num b.num _ y1.drew y3.drew HLN.out.1 HLN.out.2.1 _ ?_; intro v1 w1 hv1 hb1; have e0 := B0.later (below_ofDrew hb1) hk0; have e1 := B1.later (below_ofDrew hb1) hk1; obtain ⟨⟨hC0, hC1, hC2, hC3⟩, _, _, _, _⟩ := e0.cells; obtain ⟨⟨hD0, hD1, hD2, hD3⟩, _, _, _, _⟩ := e1.cells; dsimp only))
    all_goals (go_wp2_with fail; go_meet; exact q_end w L w3 w.heap.size _ _ _ _ _ _ _ _ _ d2 (by rw [← mul_divint]; exact hv3) HEXT bb (by omega))
  case rest =>
    clear hA0 hA1 hA2 hA3 hB0 hB1 hB2 hB3
    obtain ⟨b1, x1, x2, hbx, he, ht1, ht2, hbl⟩ := hcut
    obtain ⟨⟨hR0, hR1, hR2, hR3⟩, _, _, _, _⟩ := hbx.cells
    go_wp2
    refine bodyPost_ret_at (by simp [results, Tryz.results124, go_sem, hR0, hR1, hR2, hR3] <;> rfl) rfl ?_
    exact HR.out _ _ ⟨x1, x2, by rw [he], ht1, ht2⟩ hbl
end Go.Proofs.YtdkjcdfkoahfkaaGreatDoor

namespace Go.Proofs.YtdkjcdfkoahfkaaGreatDoor
open Go Go.RowKit

set_option maxRecDepth 100000 in
set_option maxHeartbeats 2000000 in
theorem combMul_any (s t : ByteArray) (w : World) (hE : Env w) (htab : Lib.TabIs Tryz.prog w "internal/strconv.uint64pow10" .u64 Lib.pow10Tab) (R : Ending → World → Prop)
    (hR : ∀ w', Below w.heap.size w w' → R (.returned (.tuple #[.string (outS (combO (· * ·) s.data.toList t.data.toList)), .bool (outB (combO (· * ·) s.data.toList t.data.toList))])) w') :
    Calls Tryz.prog 62 #[.string s, .string t, .func (Fn.func 65) #[] #[]] w R := by
  have HR := Lib.hid hR; clear hR
  have HE := Lib.hid hE; clear hE
  have HTAB := Lib.hid htab; clear htab
  go_enter Tryz.func62, Tryz.ntmps62
  go_wp2_with fail
  refine read2_any s t _ HE.out _ ?_ ?_
  · intro va vb a b w1 ha hb hva hvb hb1
    rw [combO_some ha hb] at HR
    obtain ⟨na, a1, n1, c1, a2, n2, c2, hna, rfl, hn1, hn2⟩ := hva.parts
    obtain ⟨nb, a3, n3, c3, a4, n4, c4, hnb, rfl, hn3, hn4⟩ := hvb.parts
    obtain ⟨L, hL⟩ : ∃ L, L = (w1.alloc (.cells #[.bool na, .slice a1 n1 c1, .slice a2 n2 c2] 85)).alloc (.cells #[.bool nb, .slice a3 n3 c3, .slice a4 n4 c4] 85) := ⟨_, rfl⟩
    have hb2 : Below (w1.heap.size + 1) (w1.alloc (.cells #[.bool na, .slice a1 n1 c1, .slice a2 n2 c2] 85)) L := by rw [hL]; exact (Below.refl _ _).alloc (by simp) _
    have B0 : Box3 L w1.heap.size (.bool na) (.slice a1 n1 c1) (.slice a2 n2 c2) 85 := (Box3.made w1 _ _ _ _).later hb2 (by omega)
    have B1 : Box3 L (w1.heap.size + 1) (.bool nb) (.slice a3 n3 c3) (.slice a4 n4 c4) 85 := by
      have := Box3.made (w1.alloc (.cells #[.bool na, .slice a1 n1 c1, .slice a2 n2 c2] 85)) (.bool nb) (.slice a3 n3 c3) (.slice a4 n4 c4) 85
      rw [World.size_alloc, ← hL] at this; exact this
    have hw1 : Below w1.heap.size w1 L := by rw [hL]; exact ((Below.refl w1.heap.size w1).alloc (Nat.le_refl _) _).alloc (by simp) _
    have HL := Lib.hid hL
    have HA := Lib.hid (hva.later hw1 (Nat.le_refl _))
    have HB := Lib.hid (hvb.later hw1 (Nat.le_refl _))
    have HEX := Lib.hid (hb1.trans (hw1.mono hb1.size))
    have HLA := Lib.hid (few_len (numO_few ha) (B := W64) (by rw [W64_eq]; omega))
    have HLB := Lib.hid (few_len (numO_few hb) (B := W64) (by rw [W64_eq]; omega))
    obtain ⟨⟨hA, hB, hC⟩, _, _, _⟩ := B0.cells
    obtain ⟨⟨hD, hF, hG⟩, _, _, _⟩ := B1.cells
    rw [hL] at hA hB hC hD hF hG
    clear ha hb hva hvb hb1 hna hnb hn1 hn2 hn3 hn4 hL hb2 B0 B1 hw1
    dsimp only
    go_wp2_with fail
    rw [← HL.out]
    refine rtimes_any _ _ a b _ HA.out HB.out (Nat.le_trans HLA.out.1 (by omega)) (Nat.le_trans HLA.out.2 (by omega)) (Nat.le_trans HLB.out.1 (by omega)) (Nat.le_trans HLB.out.2 (by omega)) _ ?_
    intro vr w2 hr hb2
    obtain ⟨q, hq⟩ : ∃ q : Rat, q = a * b := ⟨_, rfl⟩
    rw [← hq] at HR
    rw [← hq] at hr
    obtain ⟨nr, a5, n5, c5, a6, n6, c6, hnr, rfl, _, _⟩ := hr.parts
    have HR2 := Lib.hid hr
    have HB2 := Lib.hid (HEX.out.trans (hb2.mono HEX.out.size))
    clear hr hb2 hnr hq hA hB hC hD hF hG
    dsimp only
    go_wp2_with fail
    refine rtext_o _ q _ HR2.out (tab_later HTAB.out HB2.out (Nat.le_refl _)) _ ?_
    intro w3 hb3
    have HB3 := Lib.hid (HB2.out.trans (hb3.mono HB2.out.size))
    obtain ⟨S, hS⟩ : ∃ S, S = outS (some q) := ⟨_, rfl⟩
    obtain ⟨B, hB⟩ : ∃ B, B = outB (some q) := ⟨_, rfl⟩
    rw [← hS, ← hB] at HR ⊢
    clear hS hB hb3
    dsimp only
    go_wp2
    first | go_ret | skip
    exact HR.out _ HB3.out
  · intro e w1 hn he hb1
    rw [combO_none hn] at HR
    obtain ⟨t', p, rfl⟩ := he
    have HB := Lib.hid hb1
    clear hb1 hn
    unfold zeroR
    dsimp only
    go_wp2
    first | go_ret | skip
    exact HR.out _ ((HB.out.alloc HB.out.size _).alloc (by simp; have := HB.out.size; omega) _)

set_option maxRecDepth 100000 in
set_option maxHeartbeats 2000000 in
theorem impl_mulNumbers (s t : ByteArray) (w : World) (hE : Env w) (htab : Lib.TabIs Tryz.prog w "internal/strconv.uint64pow10" .u64 Lib.pow10Tab) (R : Ending → World → Prop)
    (hR : ∀ w', Below w.heap.size w w' → R (.returned (.tuple #[.string (outS (combO (· * ·) s.data.toList t.data.toList)), .bool (outB (combO (· * ·) s.data.toList t.data.toList))])) w') :
    Calls Tryz.prog 14 #[.string s, .string t] w R := by
  have HR := Lib.hid hR; clear hR
  have HE := Lib.hid hE; clear hE
  have HTAB := Lib.hid htab; clear htab
  go_enter Tryz.func14, Tryz.ntmps14
  go_wp2_with fail
  refine combMul_any s t _ HE.out HTAB.out _ ?_
  intro w1 hb1
  have HB1 := Lib.hid hb1
  obtain ⟨S, hS⟩ : ∃ S, S = outS (combO (· * ·) s.data.toList t.data.toList) := ⟨_, rfl⟩
  obtain ⟨B, hB⟩ : ∃ B, B = outB (combO (· * ·) s.data.toList t.data.toList) := ⟨_, rfl⟩
  rw [← hS, ← hB] at HR ⊢
  clear hS hB hb1
  dsimp only
  go_wp2
  first | go_ret | skip
  exact HR.out _ HB1.out

set_option maxRecDepth 100000 in
set_option maxHeartbeats 2000000 in
theorem spec_mulNumbers (s t : ByteArray) (w : World) (hs : s.size ≤ 1100000) (ht : t.size ≤ 1100000) (R : Ending → World → Prop)
    (hR : ∀ w', Below w.heap.size w w' → R (.returned (.tuple #[.string (outS (combO (· * ·) s.data.toList t.data.toList)), .bool (outB (combO (· * ·) s.data.toList t.data.toList))])) w') :
    Calls Tryz.prog 68 #[.string s, .string t] w R := by
  have HR := Lib.hid hR; clear hR
  have HS := Lib.hid (And.intro hs ht)
  clear hs ht
  go_enter Tryz.func68, Tryz.ntmps68
  go_wp2_with fail
  refine isq_any s _ HS.out.1 _ ?_
  intro w1 hb1
  have HB1 := Lib.hid hb1
  clear hb1
  cases ha : numO s.data.toList with
  | none =>
    rw [combO_none (.inl ha)] at HR
    rw [Option.isSome_none]
    clear ha
    dsimp only
    go_wp2
    first | go_ret | skip
    exact HR.out _ HB1.out
  | some a =>
    have HA := Lib.hid ha
    rw [Option.isSome_some]
    clear ha
    dsimp only
    go_wp2_with fail
    refine isq_any t _ HS.out.2 _ ?_
    intro w2 hb2
    have HB2 := Lib.hid (HB1.out.trans (hb2.mono HB1.out.size))
    clear hb2
    cases hb : numO t.data.toList with
    | none =>
      rw [combO_none (.inr hb)] at HR
      rw [Option.isSome_none]
      clear hb
      dsimp only
      go_wp2
      first | go_ret | skip
      exact HR.out _ HB2.out
    | some b =>
      have HBB := Lib.hid hb
      rw [combO_some HA.out hb] at HR
      rw [Option.isSome_some]
      have HLA := Lib.hid (few_len (numO_few HA.out) (B := 10000) (by omega))
      have HLB := Lib.hid (few_len (numO_few hb) (B := 10000) (by omega))
      clear hb
      dsimp only
      go_wp2_with fail
      refine ofq_any s a _ HA.out _ ?_
      intro va w3 hqa hb3
      obtain ⟨na, a1, n1, c1, a2, n2, c2, rfl, _, _⟩ := hqa.parts
      have HQA := Lib.hid hqa
      have HB3 := Lib.hid (HB2.out.trans (hb3.mono HB2.out.size))
      clear hqa hb3
      dsimp only
      go_wp2_with fail
      refine ofq_any t b _ HBB.out _ ?_
      intro vb w4 hqb hb4
      obtain ⟨nb, a3, n3, c3, a4, n4, c4, rfl, _, _⟩ := hqb.parts
      have HQB := Lib.hid hqb
      have HQA' := Lib.hid (HQA.out.later hb4 (Nat.le_refl _))
      have HB4 := Lib.hid (HB3.out.trans (hb4.mono HB3.out.size))
      clear hqb hb4
      dsimp only
      go_wp2_with fail
      refine mulQ_any _ _ a b _ HQA'.out HQB.out (Nat.le_trans HLA.out.1 (by omega)) (Nat.le_trans HLA.out.2 (by omega)) (Nat.le_trans HLB.out.1 (by omega)) (Nat.le_trans HLB.out.2 (by omega)) _ ?_
      intro vr w5 hr hb5
      have HLQ : Hid ((dig 10000 (a * b).num.natAbs).length ≤ 1000000000 ∧ (dig 10000 (a * b).den).length ≤ 1000000000) := Lib.hid (by
        rw [rmul_num, rmul_den, Int.natAbs_mul, tdiv_abs, tdiv_abs]
        constructor
        · refine Nat.le_trans (dig_mul_len (by omega) (Nat.le_trans (dig_mono (by omega) (Nat.div_le_self _ _)) HLA.out.1) (Nat.le_trans (dig_mono (by omega) (Nat.div_le_self _ _)) HLB.out.1)) (by omega)
        · refine Nat.le_trans (dig_mul_len (by omega) (Nat.le_trans (dig_mono (by omega) (Nat.div_le_self _ _)) HLA.out.2) (Nat.le_trans (dig_mono (by omega) (Nat.div_le_self _ _)) HLB.out.2)) (by omega))
      obtain ⟨q, hq⟩ : ∃ q : Rat, q = a * b := ⟨_, rfl⟩
      rw [← hq] at HR
      rw [← hq] at hr HLQ
      obtain ⟨nr, a5, n5, c5, a6, n6, c6, rfl, _, _⟩ := hr.parts
      have HQR := Lib.hid hr
      have HB5 := Lib.hid (HB4.out.trans (hb5.mono HB4.out.size))
      clear hr hb5 hq
      dsimp only
      go_wp2_with fail
      refine give_o _ q _ HQR.out HLQ.out.1 HLQ.out.2 _ ?_
      intro w6 hb6
      have HB6 := Lib.hid (HB5.out.trans (hb6.mono HB5.out.size))
      obtain ⟨S, hS⟩ : ∃ S, S = outS (some q) := ⟨_, rfl⟩
      obtain ⟨B, hB⟩ : ∃ B, B = outB (some q) := ⟨_, rfl⟩
      rw [← hS, ← hB] at HR ⊢
      clear hS hB hb6
      dsimp only
      go_wp2
      first | go_ret | skip
      exact HR.out _ HB6.out

end Go.Proofs.YtdkjcdfkoahfkaaGreatDoor

namespace Go.Proofs.YtdkjcdfkoahfkaaGreatDoor
open Go Go.RowKit

theorem inv_parts (a : Rat) (h : a ≠ 0) : (a⁻¹).num = sgn (decide (a.num < 0)) a.den ∧ (a⁻¹).den = a.num.natAbs := by
  have h0 : a.num ≠ 0 := fun e => h (Rat.num_eq_zero.1 e)
  show (Rat.inv a).num = _ ∧ (Rat.inv a).den = _
  unfold Rat.inv
  by_cases h1 : a.num < 0
  · rw [dif_pos h1, decide_eq_true h1]
    exact ⟨rfl, rfl⟩
  · have h2 : a.num > 0 := by omega
    rw [dif_neg h1, dif_pos h2, decide_eq_false h1]
    exact ⟨rfl, rfl⟩

set_option maxRecDepth 100000 in
set_option maxHeartbeats 4000000 in
theorem rinv_any (v : Value) (a : Rat) (w : World) (h : IsR w v a) (h0 : a ≠ 0) (R : Ending → World → Prop)
    (hR : ∀ v' w', IsR w' v' a⁻¹ → Below w.heap.size w w' → R (.returned v') w') :
    Calls Tryz.prog 126 #[v] w R := by
  have HR := Lib.hid hR; clear hR
  obtain ⟨na, a1, n1, c1, a2, n2, c2, hna, rfl, hn1, hn2⟩ := h.parts
  obtain ⟨L, hL⟩ : ∃ L, L = (w.alloc (.cells #[.bool na, .slice a1 n1 c1, .slice a2 n2 c2] 85)).alloc (.cells #[.bool false, .slice none 0 0, .slice none 0 0] 85) := ⟨_, rfl⟩
  have HEXT : Hid (Below w.heap.size w L) := Lib.hid (by rw [hL]; exact ((Below.refl w.heap.size w).alloc (Nat.le_refl _) _).alloc (by simp) _)
  have hLs : L.heap.size = w.heap.size + 2 := by rw [hL]; simp
  have hb1 : Below (w.heap.size + 1) (w.alloc (.cells #[.bool na, .slice a1 n1 c1, .slice a2 n2 c2] 85)) L := by rw [hL]; exact (Below.refl _ _).alloc (by simp) _
  have B0 : Box3 L w.heap.size (.bool na) (.slice a1 n1 c1) (.slice a2 n2 c2) 85 := (Box3.made w _ _ _ _).later hb1 (by omega)
  have B2 : Box3 L (w.heap.size + 1) (.bool false) (.slice none 0 0) (.slice none 0 0) 85 := by
    have := Box3.made (w.alloc (.cells #[.bool na, .slice a1 n1 c1, .slice a2 n2 c2] 85)) (.bool false) (.slice none 0 0) (.slice none 0 0) 85
    rw [World.size_alloc, ← hL] at this; exact this
  have HL := Lib.hid hL
  have HLS := Lib.hid hLs
  have HB2 := Lib.hid B2
  have HNA := Lib.hid hna
  have X1 := Lib.hid (hn1.later HEXT.out (Nat.le_refl _))
  have X2 := Lib.hid (hn2.later HEXT.out (Nat.le_refl _))
  have HIV := Lib.hid (inv_parts a h0)
  have HSOF : Hid (∀ w', Below (w.heap.size + 1) L w' → (Below (w.heap.size + 1) L w' ∧ (w'.cell? ⟨w.heap.size, 0, none⟩ = some (.bool na) ∧ w'.cell? ⟨w.heap.size, 1, none⟩ = some (.slice a1 n1 c1) ∧ w'.cell? ⟨w.heap.size, 2, none⟩ = some (.slice a2 n2 c2)))) :=
    Lib.hid fun w' hb => ⟨hb, (B0.later hb (by omega)).cells.1⟩
  clear hna h h0 hn1 hn2 hb1 B0 B2 hL hLs
  go_enter Tryz.func126, Tryz.ntmps126
  go_wp2_with fail
  rw [← HL.out]
  go_region_held3 (fun w' => Below (w.heap.size + 1) L w' ∧ (w'.cell? ⟨w.heap.size, 0, none⟩ = some (.bool na) ∧ w'.cell? ⟨w.heap.size, 1, none⟩ = some (.slice a1 n1 c1) ∧ w'.cell? ⟨w.heap.size, 2, none⟩ = some (.slice a2 n2 c2)))
    (first
      | exact HSOF.out _ HQ1.out
      | exact HSOF.out _ (Below.refl _ _).drew
      | exact HSOF.out _ (((HQ1.out.setCell (by simp) _).setCell (by simp) _).setCell (by simp) _))
    (first
      | (go_at_call 80; refine integerOf_z na _ a.den _ (X2.out.later (Below.refl _ _).drew (Nat.le_refl _)) _ ?_; intro v1 w1 hv1 hb1; rw [HNA.out, ← HIV.out.1] at hv1; obtain ⟨m1, a5, m5, c5, hm1, rfl, hn5⟩ := hv1.parts; have HM1 := Lib.hid hm1; have HV1 := Lib.hid hn5; have HT1 : Hid (Below L.heap.size L w1) := Lib.hid (below_unDrew hb1); have HQ1 : Hid (Below (w.heap.size + 1) L w1) := Lib.hid (HT1.out.mono (by have := HLS.out; omega)); have d1 := HB2.out.later HT1.out (by have := HLS.out; omega); obtain ⟨⟨hR0, hR1, hR2⟩, hF0, hF1, hF2⟩ := d1.cells; have HD1 := Lib.hid d1; clear hv1 hb1 hm1 hn5 d1; dsimp only))
  all_goals
    go_wp2
    refine bodyPost_ret_at (by simp [results, Tryz.results126, go_sem, hR0, hR1, hR2, hF0, hF1, hF2] <;> rfl) rfl ?_
    have hq : IsR w1 (.agg #[.bool m1, .slice a5 m5 c5, .slice a1 n1 c1]) a⁻¹ := ⟨_, _, by rw [HM1.out], HV1.out, by rw [HIV.out.2]; exact X1.out.later HT1.out (Nat.le_refl _)⟩
    refine HR.out _ _ (IsR.set3 hq (HD1.out.noInt rfl rfl rfl) _ _ _ rfl rfl) ?_
    exact (((HEXT.out.trans (HT1.out.mono HEXT.out.size)).setCell (show w.heap.size ≤ w.heap.size + 1 by omega) _).setCell (show w.heap.size ≤ w.heap.size + 1 by omega) _).setCell (show w.heap.size ≤ w.heap.size + 1 by omega) _

theorem inv_len {a : Rat} (h : a ≠ 0) {N : Nat} (h1 : (dig W64 a.num.natAbs).length ≤ N) (h2 : (dig W64 a.den).length ≤ N) : (dig W64 (a⁻¹).num.natAbs).length ≤ N ∧ (dig W64 (a⁻¹).den).length ≤ N := by
  obtain ⟨e1, e2⟩ := inv_parts a h
  rw [e1, e2, sgn_abs]
  exact ⟨h2, h1⟩

set_option maxRecDepth 100000 in
set_option maxHeartbeats 4000000 in
theorem rdivby_any (va vb : Value) (a b : Rat) (w : World) (ha : IsR w va a) (hb : IsR w vb b) (h0 : b ≠ 0) (hla : (dig W64 a.num.natAbs).length ≤ 1000000) (hla2 : (dig W64 a.den).length ≤ 1000000)
    (hlb : (dig W64 b.num.natAbs).length ≤ 1000000) (hlb2 : (dig W64 b.den).length ≤ 1000000) (R : Ending → World → Prop)
    (hR : ∀ v' w', IsR w' v' (a / b) → Below w.heap.size w w' → R (.returned v') w') :
    Calls Tryz.prog 70 #[va, vb] w R := by
  have HR := Lib.hid hR; clear hR
  obtain ⟨na, a1, n1, c1, a2, n2, c2, hna, rfl, hn1, hn2⟩ := ha.parts
  obtain ⟨nb, a3, n3, c3, a4, n4, c4, hnb, rfl, hn3, hn4⟩ := hb.parts
  obtain ⟨L, hL⟩ : ∃ L, L = ((w.alloc (.cells #[.bool na, .slice a1 n1 c1, .slice a2 n2 c2] 85)).alloc (.cells #[.bool nb, .slice a3 n3 c3, .slice a4 n4 c4] 85)).alloc (.cells #[.bool false, .slice none 0 0, .slice none 0 0] 85) := ⟨_, rfl⟩
  have HEXT : Hid (Below w.heap.size w L) := Lib.hid (by rw [hL]; exact (((Below.refl w.heap.size w).alloc (Nat.le_refl _) _).alloc (by simp) _).alloc (by simp; omega) _)
  have hLs : L.heap.size = w.heap.size + 3 := by rw [hL]; simp
  have hb1 : Below (w.heap.size + 1) (w.alloc (.cells #[.bool na, .slice a1 n1 c1, .slice a2 n2 c2] 85)) L := by rw [hL]; exact ((Below.refl _ _).alloc (by simp) _).alloc (by simp) _
  have hb2 : Below (w.heap.size + 2) ((w.alloc (.cells #[.bool na, .slice a1 n1 c1, .slice a2 n2 c2] 85)).alloc (.cells #[.bool nb, .slice a3 n3 c3, .slice a4 n4 c4] 85)) L := by rw [hL]; exact (Below.refl _ _).alloc (by simp) _
  have B0 : Box3 L w.heap.size (.bool na) (.slice a1 n1 c1) (.slice a2 n2 c2) 85 := (Box3.made w _ _ _ _).later hb1 (by omega)
  have B1 : Box3 L (w.heap.size + 1) (.bool nb) (.slice a3 n3 c3) (.slice a4 n4 c4) 85 := by
    have := (Box3.made (w.alloc (.cells #[.bool na, .slice a1 n1 c1, .slice a2 n2 c2] 85)) (.bool nb) (.slice a3 n3 c3) (.slice a4 n4 c4) 85).later hb2 (by simp)
    rw [World.size_alloc] at this; exact this
  have B2 : Box3 L (w.heap.size + 1 + 1) (.bool false) (.slice none 0 0) (.slice none 0 0) 85 := by
    have := Box3.made ((w.alloc (.cells #[.bool na, .slice a1 n1 c1, .slice a2 n2 c2] 85)).alloc (.cells #[.bool nb, .slice a3 n3 c3, .slice a4 n4 c4] 85)) (.bool false) (.slice none 0 0) (.slice none 0 0) 85
    rw [World.size_alloc, World.size_alloc, ← hL] at this; exact this
  have HL := Lib.hid hL
  have HLS := Lib.hid hLs
  have HB2 := Lib.hid B2
  have X1 := Lib.hid (ha.later HEXT.out (Nat.le_refl _))
  have X2 := Lib.hid (hb.later HEXT.out (Nat.le_refl _))
  have HLN := Lib.hid (And.intro hla (And.intro hla2 (inv_len h0 hlb hlb2)))
  have H0 := Lib.hid h0
  have HDIV : Hid (a * b⁻¹ = a / b) := Lib.hid (Rat.div_def a b).symm
  have HSOF : Hid (∀ w', Below (w.heap.size + 2) L w' → (Below (w.heap.size + 2) L w' ∧ (w'.cell? ⟨w.heap.size, 0, none⟩ = some (.bool na) ∧ w'.cell? ⟨w.heap.size, 1, none⟩ = some (.slice a1 n1 c1) ∧ w'.cell? ⟨w.heap.size, 2, none⟩ = some (.slice a2 n2 c2)) ∧
      (w'.cell? ⟨w.heap.size + 1, 0, none⟩ = some (.bool nb) ∧ w'.cell? ⟨w.heap.size + 1, 1, none⟩ = some (.slice a3 n3 c3) ∧ w'.cell? ⟨w.heap.size + 1, 2, none⟩ = some (.slice a4 n4 c4)))) :=
    Lib.hid fun w' hb => ⟨hb, (B0.later hb (by omega)).cells.1, (B1.later hb (by omega)).cells.1⟩
  clear hna hnb ha hb h0 hn1 hn2 hn3 hn4 hla hlb hla2 hlb2 hb1 hb2 B0 B1 B2 hL hLs
  go_enter Tryz.func70, Tryz.ntmps70
  go_wp2_with fail
  rw [← HL.out]
  go_region_held3 (fun w' => Below (w.heap.size + 2) L w' ∧ (w'.cell? ⟨w.heap.size, 0, none⟩ = some (.bool na) ∧ w'.cell? ⟨w.heap.size, 1, none⟩ = some (.slice a1 n1 c1) ∧ w'.cell? ⟨w.heap.size, 2, none⟩ = some (.slice a2 n2 c2)) ∧
      (w'.cell? ⟨w.heap.size + 1, 0, none⟩ = some (.bool nb) ∧ w'.cell? ⟨w.heap.size + 1, 1, none⟩ = some (.slice a3 n3 c3) ∧ w'.cell? ⟨w.heap.size + 1, 2, none⟩ = some (.slice a4 n4 c4)))
    (first
      | exact HSOF.out _ HQ2.out
      | exact HSOF.out _ HQ1.out
      | exact HSOF.out _ (Below.refl _ _).drew
      | exact HSOF.out _ (((HQ2.out.setCell (by simp) _).setCell (by simp) _).setCell (by simp) _))
    (first
      | (go_at_call 65; refine rtimes_any _ _ a b⁻¹ _ (X1.out.later HT1.out (Nat.le_refl _)) HV1.out HLN.out.1 HLN.out.2.1 HLN.out.2.2.1 HLN.out.2.2.2 _ ?_; rw [HDIV.out]; intro v2 w2 hv2 hb2; obtain ⟨m2, a5, m5, c5, a6, m6, c6, hm2, rfl, hn5, hn6⟩ := hv2.parts; have HM2 := Lib.hid hm2; have HV2 := Lib.hid (And.intro hn5 hn6); have HT2 := Lib.hid (HT1.out.trans (hb2.mono HT1.out.size)); have HQ2 : Hid (Below (w.heap.size + 2) L w2) := Lib.hid (HT2.out.mono (by have := HLS.out; omega)); have d2 := HB2.out.later HT2.out (by have := HLS.out; omega); obtain ⟨⟨hR0, hR1, hR2⟩, hF0, hF1, hF2⟩ := d2.cells; have HD2 := Lib.hid d2; clear hv2 hb2 hm2 hn5 hn6 d2; dsimp only)
      | (go_at_call 126; refine rinv_any _ b _ (X2.out.later (Below.refl _ _).drew (Nat.le_refl _)) H0.out _ ?_; intro v1 w1 hv1 hb1; obtain ⟨p1, a7, m7, c7, a8, m8, c8, hp1, rfl, hn7, hn8⟩ := hv1.parts; have HV1 := Lib.hid hv1; have HT1 : Hid (Below L.heap.size L w1) := Lib.hid (below_unDrew hb1); have HQ1 : Hid (Below (w.heap.size + 2) L w1) := Lib.hid (HT1.out.mono (by have := HLS.out; omega)); clear hv1 hb1 hp1 hn7 hn8; dsimp only))
  all_goals
    go_wp2
    refine bodyPost_ret_at (by simp [results, Tryz.results70, go_sem, hR0, hR1, hR2, hF0, hF1, hF2] <;> rfl) rfl ?_
    have hq : IsR w2 (.agg #[.bool m2, .slice a5 m5 c5, .slice a6 m6 c6]) (a / b) := ⟨_, _, by rw [HM2.out], HV2.out.1, HV2.out.2⟩
    refine HR.out _ _ (IsR.set3 hq (HD2.out.noInt rfl rfl rfl) _ _ _ rfl rfl) ?_
    exact (((HEXT.out.trans (HT2.out.mono HEXT.out.size)).setCell (show w.heap.size ≤ w.heap.size + 1 + 1 by omega) _).setCell (show w.heap.size ≤ w.heap.size + 1 + 1 by omega) _).setCell (show w.heap.size ≤ w.heap.size + 1 + 1 by omega) _

set_option maxRecDepth 100000 in
set_option maxHeartbeats 1000000 in
theorem izero_any (v : Value) (z : Int) (w : World) (h : IsI w v z) (R : Ending → World → Prop)
    (hR : ∀ w', Below w.heap.size w w' → R (.returned (.bool (decide (z = 0)))) w') :
    Calls Tryz.prog 125 #[v] w R := by
  have HR := Lib.hid hR; clear hR
  obtain ⟨na, a1, n1, c1, hna, rfl, hn1⟩ := h.parts
  obtain ⟨L, hL⟩ : ∃ L, L = w.alloc (.cells #[.bool na, .slice a1 n1 c1] 83) := ⟨_, rfl⟩
  have HEXT : Hid (Below w.heap.size w L) := Lib.hid (by rw [hL]; exact (Below.refl w.heap.size w).alloc (Nat.le_refl _) _)
  have B0 : Box2 L w.heap.size (.bool na) (.slice a1 n1 c1) 83 := by rw [hL]; exact Box2.made w _ _ _
  have HL := Lib.hid hL
  have X1 := Lib.hid (hn1.later HEXT.out (Nat.le_refl _))
  obtain ⟨hA, hB, _, _⟩ := B0.cells
  rw [hL] at hA hB
  obtain ⟨x, hx⟩ : ∃ x, x = decide (z.natAbs = 0) := ⟨_, rfl⟩
  have hxz : decide (z = 0) = x := by rw [hx]; exact decide_eq_decide.2 (by omega)
  rw [hxz] at HR
  have HX := Lib.hid hx
  clear hna h hn1 hL B0 hx hxz
  go_enter Tryz.func125, Tryz.ntmps125
  go_wp2_with fail
  rw [← HL.out]
  refine nzero_any _ z.natAbs _ X1.out _ ?_
  rw [← HX.out]
  dsimp only
  go_wp2
  first | go_ret | skip
  exact HR.out _ HEXT.out

set_option maxRecDepth 100000 in
set_option maxHeartbeats 1000000 in
theorem rzero_any (v : Value) (q : Rat) (w : World) (h : IsR w v q) (R : Ending → World → Prop)
    (hR : ∀ w', Below w.heap.size w w' → R (.returned (.bool (decide (q = 0)))) w') :
    Calls Tryz.prog 69 #[v] w R := by
  have HR := Lib.hid hR; clear hR
  obtain ⟨na, a1, n1, c1, a2, n2, c2, hna, rfl, hn1, hn2⟩ := h.parts
  obtain ⟨L, hL⟩ : ∃ L, L = w.alloc (.cells #[.bool na, .slice a1 n1 c1, .slice a2 n2 c2] 85) := ⟨_, rfl⟩
  have HEXT : Hid (Below w.heap.size w L) := Lib.hid (by rw [hL]; exact (Below.refl w.heap.size w).alloc (Nat.le_refl _) _)
  have B0 : Box3 L w.heap.size (.bool na) (.slice a1 n1 c1) (.slice a2 n2 c2) 85 := by rw [hL]; exact Box3.made w _ _ _ _
  have HL := Lib.hid hL
  have X1 : Hid (IsI L (.agg #[.bool na, .slice a1 n1 c1]) q.num) := Lib.hid (IsI.mk hna (hn1.later HEXT.out (Nat.le_refl _)))
  obtain ⟨⟨hA, hB, hC⟩, _, _, _⟩ := B0.cells
  rw [hL] at hA hB hC
  obtain ⟨x, hx⟩ : ∃ x, x = decide (q.num = 0) := ⟨_, rfl⟩
  have hxz : decide (q = 0) = x := by rw [hx]; exact decide_eq_decide.2 Rat.num_eq_zero.symm
  rw [hxz] at HR
  have HX := Lib.hid hx
  clear hna h hn1 hn2 hL B0 hx hxz
  go_enter Tryz.func69, Tryz.ntmps69
  go_wp2_with fail
  rw [← HL.out]
  refine izero_any _ q.num _ X1.out _ ?_
  intro w1 hb1
  rw [← HX.out]
  have HB := Lib.hid (HEXT.out.trans (hb1.mono HEXT.out.size))
  clear hb1 hA hB hC
  dsimp only
  go_wp2
  first | go_ret | skip
  exact HR.out _ HB.out
end Go.Proofs.YtdkjcdfkoahfkaaGreatDoor

namespace Go.Proofs.YtdkjcdfkoahfkaaGreatDoor
open Go Go.RowKit

theorem num_len_zero (q : Rat) (n : Nat) (h : n = (dig 10000 q.num.natAbs).length) : n = 0 ↔ q = 0 := by
  rw [h, List.length_eq_zero_iff, dig_eq_nil (by omega), Int.natAbs_eq_zero]
  exact Rat.num_eq_zero

end Go.Proofs.YtdkjcdfkoahfkaaGreatDoor

namespace Go.Proofs.YtdkjcdfkoahfkaaGreatDoor
open Go Go.RowKit

end Go.Proofs.YtdkjcdfkoahfkaaGreatDoor

namespace Go.Proofs.YtdkjcdfkoahfkaaGreatDoor
open Go Go.RowKit

theorem div_divint (a b : Rat) : Rat.divInt (a.num * (b.den : Int)) ((a.den : Int) * b.num) = a / b := by
  rw [← Rat.divInt_mul_divInt, Rat.num_divInt_den, ← Rat.inv_def, ← Rat.div_def]

set_option maxRecDepth 100000 in
set_option maxHeartbeats 4000000 in
theorem divQ_any (va vb : Value) (a b : Rat) (w : World) (ha : IsQ w va a) (hb : IsQ w vb b) (hla : (dig 10000 a.num.natAbs).length ≤ 400000) (hla2 : (dig 10000 a.den).length ≤ 400000)
    (hlb : (dig 10000 b.num.natAbs).length ≤ 400000) (hlb2 : (dig 10000 b.den).length ≤ 400000) (hbz : b ≠ 0)
    (R : Ending → World → Prop) (hR : ∀ v w', IsQ w' v (a / b) → Below w.heap.size w w' → R (.returned v) w') :
    Calls Tryz.prog 113 #[va, vb] w R := by
  have HR := Lib.hid hR; clear hR
  obtain ⟨na, a1, n1, c1, a2, n2, c2, rfl, hz1, hz2⟩ := ha.parts
  obtain ⟨nb, a3, n3, c3, a4, n4, c4, rfl, hz3, hz4⟩ := hb.parts
  clear ha hb
  obtain ⟨L, hL⟩ : ∃ L, L = ((w.alloc (.cells #[.bool na, .slice a1 n1 c1, .bool false, .slice a2 n2 c2] 75)).alloc (.cells #[.bool nb, .slice a3 n3 c3, .bool false, .slice a4 n4 c4] 75)).alloc (.cells #[.bool false, .slice none 0 0, .bool false, .slice none 0 0] 75) := ⟨_, rfl⟩
  have hLs : L.heap.size = w.heap.size + 3 := by rw [hL]; simp
  have B0 : Box4 L w.heap.size (.bool na) (.slice a1 n1 c1) (.bool false) (.slice a2 n2 c2) 75 := by
    rw [hL]; exact ((Box4.made w _ _ _ _ _).later (B := w.heap.size + 1) ((Below.refl _ _).alloc (by simp) _) (by omega)).later (B := w.heap.size + 2) ((Below.refl _ _).alloc (by simp) _) (by omega)
  have B1 : Box4 L (w.heap.size + 1) (.bool nb) (.slice a3 n3 c3) (.bool false) (.slice a4 n4 c4) 75 := by
    rw [hL]; have := (Box4.made (w.alloc (.cells #[.bool na, .slice a1 n1 c1, .bool false, .slice a2 n2 c2] 75)) (.bool nb) (.slice a3 n3 c3) (.bool false) (.slice a4 n4 c4) 75).later (B := w.heap.size + 2) ((Below.refl _ _).alloc (by simp) (.cells #[.bool false, .slice none 0 0, .bool false, .slice none 0 0] 75)) (by simp); simpa using this
  have B2 : Box4 L (w.heap.size + 2) (.bool false) (.slice none 0 0) (.bool false) (.slice none 0 0) 75 := by
    rw [hL]; have := Box4.made ((w.alloc (.cells #[.bool na, .slice a1 n1 c1, .bool false, .slice a2 n2 c2] 75)).alloc (.cells #[.bool nb, .slice a3 n3 c3, .bool false, .slice a4 n4 c4] 75)) (.bool false) (.slice none 0 0) (.bool false) (.slice none 0 0) 75; simpa using this
  have HEXT : Below w.heap.size w L := by rw [hL]; exact (((Below.refl w.heap.size w).alloc (Nat.le_refl _) _).alloc (by simp) _).alloc (by simp; omega) _
  have HL := Lib.hid hL
  have y1 := (hz1.later HEXT (Nat.le_refl _))
  have y2 := (hz2.later HEXT (Nat.le_refl _))
  have y3 := (hz3.later HEXT (Nat.le_refl _))
  have y4 := (hz4.later HEXT (Nat.le_refl _))
  clear hL hz1 hz2 hz3 hz4
  go_enter Tryz.func113, Tryz.ntmps113
  go_wp2_with fail
  rw [← HL.out]
  obtain ⟨⟨hA0, hA1, hA2, hA3⟩, _, _, _, _⟩ := B0.cells
  obtain ⟨⟨hB0, hB1, hB2, hB3⟩, _, _, _, _⟩ := B1.cells
  have hk0 : w.heap.size < L.heap.size := by omega
  have hk1 : w.heap.size + 1 < L.heap.size := by omega
  have hk2 : w.heap.size + 2 < L.heap.size := by omega
  have hla' : (dig 10000 (a.num.natAbs)).length ≤ 10000000 := by omega
  have hlb' : (dig 10000 (b.num.natAbs)).length ≤ 10000000 := by omega
  have hla2' : (dig 10000 ((a.den : Int).natAbs)).length ≤ 10000000 := by rw [Int.natAbs_natCast]; omega
  have hlb2' : (dig 10000 ((b.den : Int).natAbs)).length ≤ 10000000 := by rw [Int.natAbs_natCast]; omega
  have hm1 : (dig 10000 ((a.num * (b.den : Int)).natAbs)).length ≤ 1000000 := by rw [Int.natAbs_mul, Int.natAbs_natCast]; have := mul_len _ _ _ _ hla hlb2; omega
  have hm2 : (dig 10000 (((a.den : Int) * b.num).natAbs)).length ≤ 1000000 := by rw [Int.natAbs_mul, Int.natAbs_natCast]; have := mul_len _ _ _ _ hla2 hlb; omega
  have hd0 : (a.den : Int) * b.num ≠ 0 := Int.mul_ne_zero (by have := a.den_pos; omega) (fun h => hbz (Rat.num_eq_zero.1 h))
  have HLN := Lib.hid (And.intro hla' (And.intro hlb' (And.intro hla2' (And.intro hlb2' (And.intro hm1 (And.intro hm2 hd0))))))
  clear hla hlb hla2 hlb2 hla' hlb' hla2' hlb2' hm1 hm2 hd0
  go_cut [] (fun wx => QBox w.heap.size w (w.heap.size + 1 + 1) (a / b) wx)
  case first =>
    go_region_law (first
      | (have hguard := hb2; go_simp; go_at_call 154; refine make_any v1 v2 (a.num * (b.den : Int)) ((a.den : Int) * b.num) _ (hv1.later hb2 (Nat.le_refl _)) hv2 HLN.out.2.2.2.2.1 HLN.out.2.2.2.2.2.1 HLN.out.2.2.2.2.2.2 _ ?_; intro v3 w3 hv3 hb3; obtain ⟨n5, a5, m5, c5, a6, m6, c6, rfl, hz5, hz6⟩ := hv3.parts; have bb : Below L.heap.size L w3 := (below_ofDrew hb1).trans ((hb2.mono hb1.size).trans (hb3.mono (Nat.le_trans hb1.size hb2.size))); have d2 := B2.later bb hk2; obtain ⟨⟨hR0, hR1, hR2, hR3⟩, hR4, hR5, hR6, hR7⟩ := d2.cells; clear hguard; dsimp only)
      | (have hguard := hb1; go_simp; go_at_call 176; refine zmul_any (.agg #[.bool false, .slice a2 n2 c2]) (.agg #[.bool nb, .slice a3 n3 c3]) (a.den : Int) b.num _ (y2.drew.later hb1 (Nat.le_refl _)) (y3.drew.later hb1 (Nat.le_refl _)) HLN.out.2.2.1 HLN.out.2.1 _ ?_; intro v2 w2 hv2 hb2; clear hguard; dsimp only)
      | (go_simp; go_at_call 176; refine zmul_any (.agg #[.bool na, .slice a1 n1 c1]) (.agg #[.bool false, .slice a4 n4 c4]) a.num (b.den : Int) _ y1.drew y4.drew HLN.out.1 HLN.out.2.2.2.1 _ ?_; intro v1 w1 hv1 hb1; have e0 := B0.later (below_ofDrew hb1) hk0; have e1 := B1.later (below_ofDrew hb1) hk1; obtain ⟨⟨hC0, hC1, hC2, hC3⟩, _, _, _, _⟩ := e0.cells; obtain ⟨⟨hD0, hD1, hD2, hD3⟩, _, _, _, _⟩ := e1.cells; dsimp only))
    all_goals (go_wp2_with fail; go_meet; exact q_end w L w3 w.heap.size _ _ _ _ _ _ _ _ _ d2 (by rw [← div_divint]; exact hv3) HEXT bb (by omega))
  case rest =>
    clear hA0 hA1 hA2 hA3 hB0 hB1 hB2 hB3
    obtain ⟨b1, x1, x2, hbx, he, ht1, ht2, hbl⟩ := hcut
    obtain ⟨⟨hR0, hR1, hR2, hR3⟩, _, _, _, _⟩ := hbx.cells
    go_wp2
    refine bodyPost_ret_at (by simp [results, Tryz.results113, go_sem, hR0, hR1, hR2, hR3] <;> rfl) rfl ?_
    exact HR.out _ _ ⟨x1, x2, by rw [he], ht1, ht2⟩ hbl
end Go.Proofs.YtdkjcdfkoahfkaaGreatDoor

namespace Go.Proofs.YtdkjcdfkoahfkaaGreatDoor
open Go Go.RowKit

/-- the quotient of two texts that are numbers -/
noncomputable def divO (s t : List UInt8) : Option Rat := match numO s, numO t with
  | some a, some b => if b = 0 then none else some (a / b)
  | _, _ => none
theorem divO_some {s t : List UInt8} {a b : Rat} (ha : numO s = some a) (hb : numO t = some b) (h0 : b ≠ 0) : divO s t = some (a / b) := by unfold divO; rw [ha, hb]; simp [h0]
theorem divO_zero {s t : List UInt8} {b : Rat} (hb : numO t = some b) (h0 : b = 0) : divO s t = none := by
  unfold divO; rw [hb]; cases numO s with
  | none => rfl
  | some a => simp [h0]
theorem divO_none {s t : List UInt8} (h : numO s = none ∨ numO t = none) : divO s t = none := by
  unfold divO
  rcases h with h | h
  · rw [h]
  · rw [h]; cases numO s <;> rfl

theorem divq_len {a b : Rat} (h0 : b ≠ 0) {B : Nat} (hB : 2 ≤ B) (h1 : (dig B a.num.natAbs).length ≤ 60) (h2 : (dig B a.den).length ≤ 60) (h3 : (dig B b.num.natAbs).length ≤ 60) (h4 : (dig B b.den).length ≤ 60) :
    (dig B (a / b).num.natAbs).length ≤ 120 ∧ (dig B (a / b).den).length ≤ 120 := by
  obtain ⟨e1, e2⟩ := inv_parts b h0
  rw [Rat.div_def, rmul_num, rmul_den, Int.natAbs_mul, tdiv_abs, tdiv_abs, e1, e2, sgn_abs]
  exact ⟨dig_mul_len hB (Nat.le_trans (dig_mono hB (Nat.div_le_self _ _)) h1) (Nat.le_trans (dig_mono hB (Nat.div_le_self _ _)) h4),
    dig_mul_len hB (Nat.le_trans (dig_mono hB (Nat.div_le_self _ _)) h2) (Nat.le_trans (dig_mono hB (Nat.div_le_self _ _)) h3)⟩

set_option maxRecDepth 100000 in
set_option maxHeartbeats 2000000 in
theorem impl_divNumbers (s t : ByteArray) (w : World) (hE : Env w) (htab : Lib.TabIs Tryz.prog w "internal/strconv.uint64pow10" .u64 Lib.pow10Tab) (R : Ending → World → Prop)
    (hR : ∀ w', Below w.heap.size w w' → R (.returned (.tuple #[.string (outS (divO s.data.toList t.data.toList)), .bool (outB (divO s.data.toList t.data.toList))])) w') :
    Calls Tryz.prog 17 #[.string s, .string t] w R := by
  have HR := Lib.hid hR; clear hR
  have HE := Lib.hid hE; clear hE
  have HTAB := Lib.hid htab; clear htab
  go_enter Tryz.func17, Tryz.ntmps17
  go_wp2_with fail
  refine read2_any s t _ HE.out _ ?_ ?_
  · intro va vb a b w1 ha hb hva hvb hb1
    obtain ⟨na, a1, n1, c1, a2, n2, c2, hna, rfl, hn1, hn2⟩ := hva.parts
    obtain ⟨nb, a3, n3, c3, a4, n4, c4, hnb, rfl, hn3, hn4⟩ := hvb.parts
    obtain ⟨L, hL⟩ : ∃ L, L = (w1.alloc (.cells #[.bool na, .slice a1 n1 c1, .slice a2 n2 c2] 85)).alloc (.cells #[.bool nb, .slice a3 n3 c3, .slice a4 n4 c4] 85) := ⟨_, rfl⟩
    have hb2 : Below (w1.heap.size + 1) (w1.alloc (.cells #[.bool na, .slice a1 n1 c1, .slice a2 n2 c2] 85)) L := by rw [hL]; exact (Below.refl _ _).alloc (by simp) _
    have B0 : Box3 L w1.heap.size (.bool na) (.slice a1 n1 c1) (.slice a2 n2 c2) 85 := (Box3.made w1 _ _ _ _).later hb2 (by omega)
    have B1 : Box3 L (w1.heap.size + 1) (.bool nb) (.slice a3 n3 c3) (.slice a4 n4 c4) 85 := by
      have := Box3.made (w1.alloc (.cells #[.bool na, .slice a1 n1 c1, .slice a2 n2 c2] 85)) (.bool nb) (.slice a3 n3 c3) (.slice a4 n4 c4) 85
      rw [World.size_alloc, ← hL] at this; exact this
    have hw1 : Below w1.heap.size w1 L := by rw [hL]; exact ((Below.refl w1.heap.size w1).alloc (Nat.le_refl _) _).alloc (by simp) _
    have HL := Lib.hid hL
    have HA := Lib.hid (hva.later hw1 (Nat.le_refl _))
    have HB := Lib.hid (hvb.later hw1 (Nat.le_refl _))
    have HEX := Lib.hid (hb1.trans (hw1.mono hb1.size))
    have HNA := Lib.hid ha
    have HNB := Lib.hid hb
    have HLA := Lib.hid (few_len (numO_few ha) (B := W64) (by rw [W64_eq]; omega))
    have HLB := Lib.hid (few_len (numO_few hb) (B := W64) (by rw [W64_eq]; omega))
    obtain ⟨⟨hA, hB, hC⟩, _, _, _⟩ := B0.cells
    obtain ⟨⟨hD, hF, hG⟩, _, _, _⟩ := B1.cells
    rw [hL] at hA hB hC hD hF hG
    have B0' := Lib.hid B0
    have B1' := Lib.hid B1
    have HLW : Hid (w1.heap.size + 1 < L.heap.size) := Lib.hid (by rw [hL]; simp)
    clear ha hb hva hvb hb1 hna hnb hn1 hn2 hn3 hn4 hL hb2 B0 B1 hw1
    dsimp only
    go_wp2_with fail
    rw [← HL.out]
    refine rzero_any _ b _ HB.out _ ?_
    intro wz hbz
    have HBZ := Lib.hid hbz
    have HEZ := Lib.hid (HEX.out.trans (hbz.mono HEX.out.size))
    have k0 := B0'.out.later hbz (by have := HLW.out; omega)
    have k1 := B1'.out.later hbz HLW.out
    clear hA hB hC hD hF hG hbz
    obtain ⟨⟨hA, hB, hC⟩, _, _, _⟩ := k0.cells
    obtain ⟨⟨hD, hF, hG⟩, _, _, _⟩ := k1.cells
    clear k0 k1
    by_cases h0 : b = 0
    · have hd : decide (b = 0) = true := decide_eq_true h0
      rw [divO_zero HNB.out h0] at HR
      rw [hd]
      clear hd h0
      dsimp only
      go_wp2
      first | go_ret | skip
      exact HR.out _ HEZ.out
    · have hd : decide (b = 0) = false := decide_eq_false h0
      have H0 := Lib.hid h0
      rw [divO_some HNA.out HNB.out h0] at HR
      rw [hd]
      clear hd h0
      dsimp only
      go_wp2_with fail
      refine rdivby_any _ _ a b _ (HA.out.later HBZ.out (Nat.le_refl _)) (HB.out.later HBZ.out (Nat.le_refl _)) H0.out (Nat.le_trans HLA.out.1 (by omega)) (Nat.le_trans HLA.out.2 (by omega)) (Nat.le_trans HLB.out.1 (by omega)) (Nat.le_trans HLB.out.2 (by omega)) _ ?_
      intro vr w2 hr hb2
      obtain ⟨q, hq⟩ : ∃ q : Rat, q = a / b := ⟨_, rfl⟩
      rw [← hq] at HR
      rw [← hq] at hr
      obtain ⟨nr, a5, n5, c5, a6, n6, c6, hnr, rfl, _, _⟩ := hr.parts
      have HR2 := Lib.hid hr
      have HB2 := Lib.hid (HEZ.out.trans (hb2.mono HEZ.out.size))
      clear hr hb2 hnr hq hA hB hC hD hF hG
      dsimp only
      go_wp2_with fail
      refine rtext_o _ q _ HR2.out (tab_later HTAB.out HB2.out (Nat.le_refl _)) _ ?_
      intro w3 hb3
      have HB3 := Lib.hid (HB2.out.trans (hb3.mono HB2.out.size))
      obtain ⟨S, hS⟩ : ∃ S, S = outS (some q) := ⟨_, rfl⟩
      obtain ⟨B, hB⟩ : ∃ B, B = outB (some q) := ⟨_, rfl⟩
      rw [← hS, ← hB] at HR ⊢
      clear hS hB hb3
      dsimp only
      go_wp2
      first | go_ret | skip
      exact HR.out _ HB3.out
  · intro e w1 hn he hb1
    rw [divO_none hn] at HR
    obtain ⟨t', p, rfl⟩ := he
    have HB := Lib.hid hb1
    clear hb1 hn
    unfold zeroR
    dsimp only
    go_wp2
    first | go_ret | skip
    exact HR.out _ ((HB.out.alloc HB.out.size _).alloc (by simp; have := HB.out.size; omega) _)

end Go.Proofs.YtdkjcdfkoahfkaaGreatDoor

namespace Go.Proofs.YtdkjcdfkoahfkaaGreatDoor
open Go Go.RowKit

/-- how two integers compare -/
def cmpZ (a b : Int) : Int := if a < b then -1 else if b < a then 1 else 0

set_option maxRecDepth 100000 in
set_option maxHeartbeats 2000000 in
theorem icmp_any (va vb : Value) (a b : Int) (w : World) (ha : IsI w va a) (hb : IsI w vb b) (hla : (dig W64 a.natAbs).length ≤ 100000000) (hlb : (dig W64 b.natAbs).length ≤ 100000000) (R : Ending → World → Prop)
    (hR : ∀ w', Below w.heap.size w w' → R (.returned (.int .i64 (cmpZ a b))) w') :
    Calls Tryz.prog 121 #[va, vb] w R := by
  have HR := Lib.hid hR; clear hR
  obtain ⟨na, a1, n1, c1, hna, rfl, hn1⟩ := ha.parts
  obtain ⟨nb, a2, n2, c2, hnb, rfl, hn2⟩ := hb.parts
  obtain ⟨L, hL⟩ : ∃ L, L = (w.alloc (.cells #[.bool na, .slice a1 n1 c1] 83)).alloc (.cells #[.bool nb, .slice a2 n2 c2] 83) := ⟨_, rfl⟩
  have hb1 : Below (w.heap.size + 1) (w.alloc (.cells #[.bool na, .slice a1 n1 c1] 83)) L := by rw [hL]; exact (Below.refl _ _).alloc (by simp) _
  have B0 : Box2 L w.heap.size (.bool na) (.slice a1 n1 c1) 83 := (Box2.made w _ _ _).later hb1 (by omega)
  have B1 : Box2 L (w.heap.size + 1) (.bool nb) (.slice a2 n2 c2) 83 := by
    have := Box2.made (w.alloc (.cells #[.bool na, .slice a1 n1 c1] 83)) (.bool nb) (.slice a2 n2 c2) 83
    rw [World.size_alloc, ← hL] at this; exact this
  have HEXT : Hid (Below w.heap.size w L) := Lib.hid (by rw [hL]; exact ((Below.refl w.heap.size w).alloc (Nat.le_refl _) _).alloc (by simp) _)
  have HL := Lib.hid hL
  have Y1 := Lib.hid (hn1.later HEXT.out (Nat.le_refl _))
  have Y2 := Lib.hid (hn2.later HEXT.out (Nat.le_refl _))
  have HLN := Lib.hid (And.intro hla hlb)
  have HNA := Lib.hid hna
  have HNB := Lib.hid hnb
  obtain ⟨hA0, hA1, _, _⟩ := B0.cells
  obtain ⟨hB0, hB1, _, _⟩ := B1.cells
  clear hna hnb ha hb hn1 hn2 hla hlb hb1 B0 B1 hL
  cases na <;> cases nb
  · have h1 : ¬ a < 0 := of_decide_eq_false HNA.out.symm
    have h2 : ¬ b < 0 := of_decide_eq_false HNB.out.symm
    have hc : cmpN a.natAbs b.natAbs = cmpZ a b := by unfold cmpN cmpZ; repeat' split <;> try omega
    have HC := Lib.hid hc
    clear h1 h2 hc
    go_enter Tryz.func121, Tryz.ntmps121
    rw [HL.out] at hA0 hA1 hB0 hB1
    go_wp2_with fail
    rw [← HL.out]
    refine ncmp_any _ _ _ _ _ Y1.out Y2.out (Nat.le_trans HLN.out.1 (by omega)) (Nat.le_trans HLN.out.2 (by omega)) _ ?_
    intro w1 hb1 _
    rw [HC.out]
    have HB := Lib.hid (HEXT.out.trans (hb1.mono HEXT.out.size))
    clear hb1 hA0 hA1 hB0 hB1
    dsimp only
    go_wp2
    first | go_ret | skip
    exact HR.out _ HB.out
  · have h1 : ¬ a < 0 := of_decide_eq_false HNA.out.symm
    have h2 : b < 0 := of_decide_eq_true HNB.out.symm
    have hc : cmpZ a b = 1 := by unfold cmpZ; repeat' split <;> try omega
    rw [hc] at HR
    clear h1 h2 hc
    go_enter Tryz.func121, Tryz.ntmps121
    rw [HL.out] at hA0 hA1 hB0 hB1
    go_wp2
    rw [← HL.out]
    first | go_ret | skip
    exact HR.out _ HEXT.out
  · have h1 : a < 0 := of_decide_eq_true HNA.out.symm
    have h2 : ¬ b < 0 := of_decide_eq_false HNB.out.symm
    have hc : cmpZ a b = -1 := by unfold cmpZ; repeat' split <;> try omega
    rw [hc] at HR
    clear h1 h2 hc
    go_enter Tryz.func121, Tryz.ntmps121
    rw [HL.out] at hA0 hA1 hB0 hB1
    go_wp2
    rw [← HL.out]
    first | go_ret | skip
    exact HR.out _ HEXT.out
  · have h1 : a < 0 := of_decide_eq_true HNA.out.symm
    have h2 : b < 0 := of_decide_eq_true HNB.out.symm
    have hc : cmpN b.natAbs a.natAbs = cmpZ a b := by unfold cmpN cmpZ; repeat' split <;> try omega
    have HC := Lib.hid hc
    clear h1 h2 hc
    go_enter Tryz.func121, Tryz.ntmps121
    rw [HL.out] at hA0 hA1 hB0 hB1
    go_wp2_with fail
    rw [← HL.out]
    refine ncmp_any _ _ _ _ _ Y2.out Y1.out (Nat.le_trans HLN.out.2 (by omega)) (Nat.le_trans HLN.out.1 (by omega)) _ ?_
    intro w1 hb1 _
    rw [HC.out]
    have HB := Lib.hid (HEXT.out.trans (hb1.mono HEXT.out.size))
    clear hb1 hA0 hA1 hB0 hB1
    dsimp only
    go_wp2
    first | go_ret | skip
    exact HR.out _ HB.out
end Go.Proofs.YtdkjcdfkoahfkaaGreatDoor

namespace Go.Proofs.YtdkjcdfkoahfkaaGreatDoor
open Go Go.RowKit

set_option maxRecDepth 100000 in
theorem signQ_any (v : Value) (q : Rat) (w : World) (hq : IsQ w v q) (R : Ending → World → Prop)
    (hR : ∀ w', Below w.heap.size w w' → R (.returned (.int .i64 q.num.sign)) w') :
    Calls Tryz.prog 197 #[v] w R := by
  have HR := Lib.hid hR; clear hR
  obtain ⟨a1, n1, c1, a2, n2, c2, rfl, e1, _, _, _⟩ := hq.open
  have hz := num_len_zero q n1 e1
  clear hq e1
  by_cases h0 : n1 = 0
  · have h1 : q.num = 0 := Rat.num_eq_zero.2 (hz.1 h0)
    rw [h1] at HR ⊢
    subst h0
    clear hz h1
    go_enter Tryz.func197, Tryz.ntmps197
    go_wp2
    first | go_ret | skip
    exact HR.out _ ((Below.refl _ _).alloc (Nat.le_refl _) _)
  · have hne : q.num ≠ 0 := fun h => h0 (hz.2 (Rat.num_eq_zero.1 h))
    have e : (((n1 : Nat) : Int) == 0) = false := by simp; omega
    rcases Int.lt_or_gt_of_ne hne with h | h
    · rw [Int.sign_eq_neg_one_of_neg h] at HR
      rw [decide_eq_true h]
      clear hz hne h
      go_enter Tryz.func197, Tryz.ntmps197
      go_wp2
      first | go_ret | skip
      exact HR.out _ ((Below.refl _ _).alloc (Nat.le_refl _) _)
    · rw [Int.sign_eq_one_of_pos h] at HR
      rw [decide_eq_false (by omega : ¬ q.num < 0)]
      clear hz hne h
      go_enter Tryz.func197, Tryz.ntmps197
      go_wp2
      first | go_ret | skip
      exact HR.out _ ((Below.refl _ _).alloc (Nat.le_refl _) _)
end Go.Proofs.YtdkjcdfkoahfkaaGreatDoor

namespace Go.Proofs.YtdkjcdfkoahfkaaGreatDoor
open Go Go.RowKit

set_option maxRecDepth 100000 in
theorem cmpQ_any (va vb : Value) (a b : Rat) (w : World) (ha : IsQ w va a) (hb : IsQ w vb b) (hla : (dig 10000 a.num.natAbs).length ≤ 400000) (hla2 : (dig 10000 a.den).length ≤ 400000)
    (hlb : (dig 10000 b.num.natAbs).length ≤ 400000) (hlb2 : (dig 10000 b.den).length ≤ 400000)
    (R : Ending → World → Prop) (hR : ∀ w', Below w.heap.size w w' → R (.returned (.int .i64 (a - b).num.sign)) w') :
    Calls Tryz.prog 138 #[va, vb] w R := by
  have HR := Lib.hid hR; clear hR
  obtain ⟨na, a1, n1, c1, a2, n2, c2, rfl, _, _⟩ := ha.parts
  obtain ⟨nb, a3, n3, c3, a4, n4, c4, rfl, _, _⟩ := hb.parts
  obtain ⟨L, hL⟩ : ∃ L, L = (w.alloc (.cells #[.bool na, .slice a1 n1 c1, .bool false, .slice a2 n2 c2] 75)).alloc (.cells #[.bool nb, .slice a3 n3 c3, .bool false, .slice a4 n4 c4] 75) := ⟨_, rfl⟩
  have HEXT : Below w.heap.size w L := by rw [hL]; exact ((Below.refl w.heap.size w).alloc (Nat.le_refl _) _).alloc (by simp) _
  have HL := Lib.hid hL
  have y1 := (ha.later HEXT (Nat.le_refl _))
  have y2 := (hb.later HEXT (Nat.le_refl _))
  clear hL ha hb
  go_enter Tryz.func138, Tryz.ntmps138
  go_wp2_with fail
  rw [← HL.out]
  refine subQ_any _ _ a b L y1 y2 hla hla2 hlb hlb2 _ ?_
  intro v1 w1 hv1 hb1
  dsimp only
  go_wp2_with fail
  refine signQ_any v1 (a - b) w1 hv1 _ ?_
  intro w2 hb2
  dsimp only
  go_wp2
  first | go_ret | skip
  exact HR.out _ (HEXT.trans ((hb1.mono HEXT.size).trans (hb2.mono (Nat.le_trans HEXT.size hb1.size))))
end Go.Proofs.YtdkjcdfkoahfkaaGreatDoor

namespace Go.Proofs.YtdkjcdfkoahfkaaGreatDoor
open Go Go.RowKit

theorem cmp_rat (a b : Rat) : (a - b).num.sign = cmpZ (a.num * (b.den : Int)) (b.num * (a.den : Int)) := by
  have h1 : 0 ≤ (a - b).num ↔ b.num * (a.den : Int) ≤ a.num * (b.den : Int) := by
    rw [Rat.num_nonneg, ← Rat.le_iff_sub_nonneg, Rat.le_iff]
  have h2 : (a - b).num ≤ 0 ↔ a.num * (b.den : Int) ≤ b.num * (a.den : Int) := by
    have e : (b - a).num = -(a - b).num := by rw [← Rat.neg_sub, Rat.neg_num]
    rw [← Rat.le_iff, Rat.le_iff_sub_nonneg, ← Rat.num_nonneg, e]
    omega
  unfold cmpZ
  generalize (a - b).num = n at *
  generalize a.num * (b.den : Int) = x at *
  generalize b.num * (a.den : Int) = y at *
  rcases Int.lt_trichotomy n 0 with h | h | h
  · rw [Int.sign_eq_neg_one_of_neg h, if_pos (by omega)]
  · subst h; rw [if_neg (by omega), if_neg (by omega)]; rfl
  · rw [Int.sign_eq_one_of_pos h, if_neg (by omega), if_pos (by omega)]

set_option maxRecDepth 100000 in
set_option maxHeartbeats 4000000 in
theorem rcmp_any (va vb : Value) (a b : Rat) (w : World) (ha : IsR w va a) (hb : IsR w vb b) (hla : (dig W64 a.num.natAbs).length ≤ 1000000) (hla2 : (dig W64 a.den).length ≤ 1000000)
    (hlb : (dig W64 b.num.natAbs).length ≤ 1000000) (hlb2 : (dig W64 b.den).length ≤ 1000000) (R : Ending → World → Prop)
    (hR : ∀ w', Below w.heap.size w w' → R (.returned (.int .i64 (cmpZ (a.num * (b.den : Int)) (b.num * (a.den : Int))))) w') :
    Calls Tryz.prog 67 #[va, vb] w R := by
  have HR := Lib.hid hR; clear hR
  obtain ⟨na, a1, n1, c1, a2, n2, c2, hna, rfl, hn1, hn2⟩ := ha.parts
  obtain ⟨nb, a3, n3, c3, a4, n4, c4, hnb, rfl, hn3, hn4⟩ := hb.parts
  obtain ⟨L, hL⟩ : ∃ L, L = (w.alloc (.cells #[.bool na, .slice a1 n1 c1, .slice a2 n2 c2] 85)).alloc (.cells #[.bool nb, .slice a3 n3 c3, .slice a4 n4 c4] 85) := ⟨_, rfl⟩
  have hb1 : Below (w.heap.size + 1) (w.alloc (.cells #[.bool na, .slice a1 n1 c1, .slice a2 n2 c2] 85)) L := by rw [hL]; exact (Below.refl _ _).alloc (by simp) _
  have B0 : Box3 L w.heap.size (.bool na) (.slice a1 n1 c1) (.slice a2 n2 c2) 85 := (Box3.made w _ _ _ _).later hb1 (by omega)
  have B1 : Box3 L (w.heap.size + 1) (.bool nb) (.slice a3 n3 c3) (.slice a4 n4 c4) 85 := by
    have := Box3.made (w.alloc (.cells #[.bool na, .slice a1 n1 c1, .slice a2 n2 c2] 85)) (.bool nb) (.slice a3 n3 c3) (.slice a4 n4 c4) 85
    rw [World.size_alloc, ← hL] at this; exact this
  have HEXT : Hid (Below w.heap.size w L) := Lib.hid (by rw [hL]; exact ((Below.refl w.heap.size w).alloc (Nat.le_refl _) _).alloc (by simp) _)
  have hLs : L.heap.size = w.heap.size + 2 := by rw [hL]; simp
  have HL := Lib.hid hL
  have HLS := Lib.hid hLs
  have X1 : Hid (IsI L (.agg #[.bool na, .slice a1 n1 c1]) a.num) := Lib.hid (IsI.mk hna (hn1.later HEXT.out (Nat.le_refl _)))
  have X2 := Lib.hid (hn2.later HEXT.out (Nat.le_refl _))
  have X3 : Hid (IsI L (.agg #[.bool nb, .slice a3 n3 c3]) b.num) := Lib.hid (IsI.mk hnb (hn3.later HEXT.out (Nat.le_refl _)))
  have X4 := Lib.hid (hn4.later HEXT.out (Nat.le_refl _))
  have HLN := Lib.hid (And.intro hla (And.intro hla2 (And.intro hlb hlb2)))
  have HP1 : Hid ((dig W64 (a.num * (b.den : Int)).natAbs).length ≤ 2000000) := Lib.hid (by rw [Int.natAbs_mul, Int.natAbs_natCast]; exact mul_limbs _ _ _ _ hla hlb2)
  have HP2 : Hid ((dig W64 (b.num * (a.den : Int)).natAbs).length ≤ 2000000) := Lib.hid (by rw [Int.natAbs_mul, Int.natAbs_natCast]; exact mul_limbs _ _ _ _ hlb hla2)
  have HSOF : Hid (∀ w', Below (w.heap.size + 2) L w' → (Below (w.heap.size + 2) L w' ∧ (w'.cell? ⟨w.heap.size, 0, none⟩ = some (.bool na) ∧ w'.cell? ⟨w.heap.size, 1, none⟩ = some (.slice a1 n1 c1) ∧ w'.cell? ⟨w.heap.size, 2, none⟩ = some (.slice a2 n2 c2)) ∧
      (w'.cell? ⟨w.heap.size + 1, 0, none⟩ = some (.bool nb) ∧ w'.cell? ⟨w.heap.size + 1, 1, none⟩ = some (.slice a3 n3 c3) ∧ w'.cell? ⟨w.heap.size + 1, 2, none⟩ = some (.slice a4 n4 c4)))) :=
    Lib.hid fun w' hb => ⟨hb, (B0.later hb (by omega)).cells.1, (B1.later hb (by omega)).cells.1⟩
  clear hna hnb ha hb hn1 hn2 hn3 hn4 hla hlb hla2 hlb2 hb1 B0 B1 hL hLs
  go_enter Tryz.func67, Tryz.ntmps67
  go_wp2_with fail
  rw [← HL.out]
  go_region_held3 (fun w' => Below (w.heap.size + 2) L w' ∧ (w'.cell? ⟨w.heap.size, 0, none⟩ = some (.bool na) ∧ w'.cell? ⟨w.heap.size, 1, none⟩ = some (.slice a1 n1 c1) ∧ w'.cell? ⟨w.heap.size, 2, none⟩ = some (.slice a2 n2 c2)) ∧
      (w'.cell? ⟨w.heap.size + 1, 0, none⟩ = some (.bool nb) ∧ w'.cell? ⟨w.heap.size + 1, 1, none⟩ = some (.slice a3 n3 c3) ∧ w'.cell? ⟨w.heap.size + 1, 2, none⟩ = some (.slice a4 n4 c4)))
    (first
      | exact HSOF.out _ HQ3.out
      | exact HSOF.out _ HQ2.out
      | exact HSOF.out _ HQ1.out
      | exact HSOF.out _ (Below.refl _ _).drew)
    (first
      | (go_at_call 121; refine icmp_any v1 v2 (a.num * (b.den : Int)) (b.num * (a.den : Int)) _ (HV1.out.later HB2.out (Nat.le_refl _)) HV2.out (Nat.le_trans HP1.out (by omega)) (Nat.le_trans HP2.out (by omega)) _ ?_; intro w3 hb3; have HQ3 := Lib.hid (HQ2.out.trans (hb3.mono (Nat.le_trans (Nat.le_of_eq HLS.out.symm) HQ2.out.size))); clear hb3; dsimp only)
      | (have hguard := HQ1; go_at_call 116; refine scaled_any _ _ b.num a.den _ (X3.out.later HT1.out (Nat.le_refl _)) (X2.out.later HT1.out (Nat.le_refl _)) (Nat.le_trans HLN.out.2.2.1 (by omega)) (Nat.le_trans HLN.out.2.1 (by omega)) _ ?_; intro v2 w2 hv2 hb2; have HV2 := Lib.hid hv2; have HB2 := Lib.hid hb2; have HQ2 : Hid (Below (w.heap.size + 2) L w2) := Lib.hid (HQ1.out.trans (hb2.mono (Nat.le_trans (Nat.le_of_eq HLS.out.symm) HQ1.out.size))); clear hguard hv2 hb2; dsimp only)
      | (go_at_call 116; refine scaled_any _ _ a.num b.den _ (X1.out.later (Below.refl _ _).drew (Nat.le_refl _)) (X4.out.later (Below.refl _ _).drew (Nat.le_refl _)) (Nat.le_trans HLN.out.1 (by omega)) (Nat.le_trans HLN.out.2.2.2 (by omega)) _ ?_; intro v1 w1 hv1 hb1; have HV1 := Lib.hid hv1; have HT1 : Hid (Below L.heap.size L w1) := Lib.hid (below_unDrew hb1); have HQ1 : Hid (Below (w.heap.size + 2) L w1) := Lib.hid (by rw [← HLS.out]; exact HT1.out); clear hv1 hb1; dsimp only))
  all_goals
    go_wp2
    first | go_ret | skip
    exact HR.out _ (HEXT.out.trans (HQ3.out.mono (by omega)))
end Go.Proofs.YtdkjcdfkoahfkaaGreatDoor

namespace Go.Proofs.YtdkjcdfkoahfkaaGreatDoor
open Go Go.RowKit

theorem cmpZ_cases (a b : Int) : cmpZ a b = -1 ∨ cmpZ a b = 0 ∨ cmpZ a b = 1 := by unfold cmpZ; split <;> (try split) <;> simp

set_option maxRecDepth 100000 in
set_option maxHeartbeats 2000000 in
theorem spec_compare (s t : ByteArray) (w : World) (hs : s.size ≤ 1100000) (ht : t.size ≤ 1100000) (R : Ending → World → Prop)
    (hR : ∀ a b w', numO s.data.toList = some a → numO t.data.toList = some b → Below w.heap.size w w' → R (.returned (.tuple #[.int .i64 (cmpZ (a.num * (b.den : Int)) (b.num * (a.den : Int))), .bool true])) w')
    (hR2 : ∀ w', (numO s.data.toList = none ∨ numO t.data.toList = none) → Below w.heap.size w w' → R (.returned (.tuple #[.int .i64 0, .bool false])) w') :
    Calls Tryz.prog 75 #[.string s, .string t] w R := by
  have HR := Lib.hid hR; clear hR
  have HR2 := Lib.hid hR2; clear hR2
  have HTS := Lib.hid ht
  clear ht
  go_enter Tryz.func75, Tryz.ntmps75
  go_wp2_with fail
  refine isq_any s _ hs _ ?_
  intro w1 hb1
  cases ha : numO s.data.toList with
  | none =>
    have HF := Lib.hid (HR2.out w1 (.inl ha) hb1)
    clear hb1 ha
    simp only [Option.isSome_none]
    go_wp2
    first | go_ret | skip
    exact HF.out
  | some a =>
    have HA := Lib.hid ha
    have HB1 := Lib.hid hb1
    clear hb1 ha
    simp only [Option.isSome_some]
    go_wp2_with fail
    refine isq_any t _ HTS.out _ ?_
    intro w2 hb2
    have HB2 := Lib.hid (HB1.out.trans (hb2.mono HB1.out.size))
    clear hb2
    cases hb : numO t.data.toList with
    | none =>
      have HF := Lib.hid (HR2.out w2 (.inr hb) HB2.out)
      clear hb
      simp only [Option.isSome_none]
      go_wp2
      first | go_ret | skip
      exact HF.out
    | some b =>
      have HB := Lib.hid hb
      clear hb
      simp only [Option.isSome_some]
      go_wp2_with fail
      refine ofq_any s a _ HA.out _ ?_
      intro v3 w3 hq3 hb3
      have HB3 := Lib.hid (HB2.out.trans (hb3.mono HB2.out.size))
      have HQ3 := Lib.hid hq3
      clear hb3
      obtain ⟨ng, a1, n1, c1, a2, n2, c2, rfl, _, _⟩ := hq3.parts
      dsimp only
      go_wp2_with fail
      refine ofq_any t b _ HB.out _ ?_
      intro v4 w4 hq4 hb4
      have HB4 := Lib.hid (HB3.out.trans (hb4.mono HB3.out.size))
      have HQ3' := Lib.hid (HQ3.out.later hb4 (Nat.le_refl _))
      have HQ4 := Lib.hid hq4
      obtain ⟨nh, a3, n3, c3, a4, n4, c4, rfl, _, _⟩ := hq4.parts
      have hl1 := few_len (numO_few HA.out) (B := 10000) (by omega)
      have hl2 := few_len (numO_few HB.out) (B := 10000) (by omega)
      have HLL := Lib.hid (And.intro hl1 hl2)
      clear hb4 hq3 hq4 hl1 hl2
      dsimp only
      go_wp2_with fail
      refine cmpQ_any _ _ a b _ HQ3'.out HQ4.out (by have := HLL.out.1.1; omega) (by have := HLL.out.1.2; omega) (by have := HLL.out.2.1; omega) (by have := HLL.out.2.2; omega) _ ?_
      intro w5 hb5
      rw [cmp_rat]
      obtain ⟨z, hz⟩ : ∃ z, z = cmpZ (a.num * (b.den : Int)) (b.num * (a.den : Int)) := ⟨_, rfl⟩
      have HF := Lib.hid (HR.out a b w5 HA.out HB.out (HB4.out.trans (hb5.mono HB4.out.size)))
      rw [← hz] at HF ⊢
      clear hb5 hz
      dsimp only
      go_wp2
      first | go_ret | skip
      exact HF.out

set_option maxRecDepth 100000 in
set_option maxHeartbeats 2000000 in
theorem impl_compare (s t : ByteArray) (w : World) (hE : Env w) (R : Ending → World → Prop)
    (hR : ∀ a b w', numO s.data.toList = some a → numO t.data.toList = some b → Below w.heap.size w w' → R (.returned (.tuple #[.int .i64 (cmpZ (a.num * (b.den : Int)) (b.num * (a.den : Int))), .bool true])) w')
    (hR2 : ∀ w', (numO s.data.toList = none ∨ numO t.data.toList = none) → Below w.heap.size w w' → R (.returned (.tuple #[.int .i64 0, .bool false])) w') :
    Calls Tryz.prog 15 #[.string s, .string t] w R := by
  have HR := Lib.hid hR; clear hR
  have HR2 := Lib.hid hR2; clear hR2
  have HE := Lib.hid hE; clear hE
  go_enter Tryz.func15, Tryz.ntmps15
  go_wp2_with fail
  refine read2_any s t _ HE.out _ ?_ ?_
  · intro va vb a b w1 ha hb hva hvb hb1
    have hl1 := few_len (numO_few ha) (B := W64) (by rw [W64_eq]; omega)
    have hl2 := few_len (numO_few hb) (B := W64) (by rw [W64_eq]; omega)
    have HLL := Lib.hid (And.intro hl1 hl2)
    obtain ⟨na, a1, n1, c1, a2, n2, c2, _, rfl, _, _⟩ := hva.parts
    obtain ⟨nb, a3, n3, c3, a4, n4, c4, _, rfl, _, _⟩ := hvb.parts
    obtain ⟨L, hL⟩ : ∃ L, L = (w1.alloc (.cells #[.bool na, .slice a1 n1 c1, .slice a2 n2 c2] 85)).alloc (.cells #[.bool nb, .slice a3 n3 c3, .slice a4 n4 c4] 85) := ⟨_, rfl⟩
    have hbL : Below w1.heap.size w1 L := by rw [hL]; exact ((Below.refl _ _).alloc (Nat.le_refl _) _).alloc (by simp) _
    have HBL := Lib.hid (hb1.trans (hbL.mono hb1.size))
    have HVA := Lib.hid (hva.later hbL (Nat.le_refl _))
    have HVB := Lib.hid (hvb.later hbL (Nat.le_refl _))
    have HA := Lib.hid ha
    have HB := Lib.hid hb
    have HL := Lib.hid hL
    rename_i e1 _ _ e2 _ _
    clear e1 e2 hl1 hl2 hL hbL hva hvb ha hb hb1
    dsimp only
    go_wp2_with fail
    rw [← HL.out]
    refine rcmp_any _ _ a b _ HVA.out HVB.out (by have := HLL.out.1.1; omega) (by have := HLL.out.1.2; omega) (by have := HLL.out.2.1; omega) (by have := HLL.out.2.2; omega) _ ?_
    intro w2 hb2
    obtain ⟨z, hz⟩ : ∃ z, z = cmpZ (a.num * (b.den : Int)) (b.num * (a.den : Int)) := ⟨_, rfl⟩
    have HF := Lib.hid (HR.out a b w2 HA.out HB.out (HBL.out.trans (hb2.mono HBL.out.size)))
    rw [← hz] at HF ⊢
    clear hb2 hz
    dsimp only
    go_wp2
    first | go_ret | skip
    exact HF.out
  · intro e w1 hn he hb1
    obtain ⟨t', p, rfl⟩ := he
    have HF := Lib.hid (HR2.out ((w1.alloc (.cells #[.bool false, .slice none 0 0, .slice none 0 0] 85)).alloc (.cells #[.bool false, .slice none 0 0, .slice none 0 0] 85)) hn ((hb1.alloc hb1.size _).alloc (by have := hb1.size; simp; omega) _))
    clear hb1 hn
    unfold zeroR
    dsimp only
    go_wp2
    first | go_ret | skip
    exact HF.out

end Go.Proofs.YtdkjcdfkoahfkaaGreatDoor

namespace Go.Proofs.YtdkjcdfkoahfkaaGreatDoor
open Go Go.RowKit

/-- how two numbers compare -/
def cmpR (p q : Rat) : Int := if p < q then -1 else if q < p then 1 else 0
theorem cmp_r (p q : Rat) : cmpZ (p.num * (q.den : Int)) (q.num * (p.den : Int)) = cmpR p q := by
  unfold cmpZ cmpR
  simp only [Rat.lt_iff]

theorem rsub_lt {p q : Rat} : p - q < 0 ↔ p < q := by
  constructor
  · intro h
    have := (Rat.add_lt_add_right (c := q)).2 h
    rwa [Rat.sub_add_cancel, Rat.zero_add] at this
  · intro h
    have := (Rat.add_lt_add_right (c := -q)).2 h
    rwa [← Rat.sub_eq_add_neg, ← Rat.sub_eq_add_neg, Rat.sub_self] at this
theorem rsub_gt {p q : Rat} : 0 < p - q ↔ q < p := by
  constructor
  · intro h
    have := (Rat.add_lt_add_right (c := q)).2 h
    rwa [Rat.sub_add_cancel, Rat.zero_add] at this
  · intro h
    have := (Rat.add_lt_add_right (c := -q)).2 h
    rwa [← Rat.sub_eq_add_neg, ← Rat.sub_eq_add_neg, Rat.sub_self] at this
theorem cmp_diff (p q : Rat) : cmpR (p - q) 0 = cmpR p q := by
  unfold cmpR
  simp only [rsub_lt, rsub_gt]
theorem radd_sub (p q : Rat) : p + q - q = p := by rw [Rat.sub_eq_add_neg, Rat.add_assoc, Rat.add_neg_cancel, Rat.add_zero]
theorem rmul_div (p q : Rat) (h : q ≠ 0) : p * q / q = p := by rw [Rat.div_def, Rat.mul_assoc, Rat.mul_inv_cancel q h, Rat.mul_one]

theorem iadd_t (A B : ByteArray) (p q : Rat) (w : World) (R : Ending → World → Prop) (hA : IsT A p) (hB : IsT B q) (hf : Bd 60 (p + q)) (hE : Env w) (htab : Lib.TabIs Tryz.prog w "internal/strconv.uint64pow10" .u64 Lib.pow10Tab)
    (hR : ∀ C w', IsT C (p + q) → Below w.heap.size w w' → R (.returned (.tuple #[.string C, .bool true])) w') :
    Calls Tryz.prog 12 #[.string A, .string B] w R := by
  refine impl_addNumbers A B w hE htab R fun w' hb => ?_
  have e : combO (· + ·) A.data.toList B.data.toList = some (p + q) := combO_some hA.num hB.num
  have k := out_t (few_bd hf)
  rw [e, k.2]
  exact hR _ w' k.1 hb

theorem isub_t (A B : ByteArray) (p q : Rat) (w : World) (R : Ending → World → Prop) (hA : IsT A p) (hB : IsT B q) (hf : Bd 60 (p - q)) (hE : Env w) (htab : Lib.TabIs Tryz.prog w "internal/strconv.uint64pow10" .u64 Lib.pow10Tab)
    (hR : ∀ C w', IsT C (p - q) → Below w.heap.size w w' → R (.returned (.tuple #[.string C, .bool true])) w') :
    Calls Tryz.prog 13 #[.string A, .string B] w R := by
  refine impl_subNumbers A B w hE htab R fun w' hb => ?_
  have e : combO (· - ·) A.data.toList B.data.toList = some (p - q) := combO_some hA.num hB.num
  have k := out_t (few_bd hf)
  rw [e, k.2]
  exact hR _ w' k.1 hb

theorem imul_t (A B : ByteArray) (p q : Rat) (w : World) (R : Ending → World → Prop) (hA : IsT A p) (hB : IsT B q) (hf : Bd 60 (p * q)) (hE : Env w) (htab : Lib.TabIs Tryz.prog w "internal/strconv.uint64pow10" .u64 Lib.pow10Tab)
    (hR : ∀ C w', IsT C (p * q) → Below w.heap.size w w' → R (.returned (.tuple #[.string C, .bool true])) w') :
    Calls Tryz.prog 14 #[.string A, .string B] w R := by
  refine impl_mulNumbers A B w hE htab R fun w' hb => ?_
  have e : combO (· * ·) A.data.toList B.data.toList = some (p * q) := combO_some hA.num hB.num
  have k := out_t (few_bd hf)
  rw [e, k.2]
  exact hR _ w' k.1 hb

theorem idiv_t (A B : ByteArray) (p q : Rat) (w : World) (R : Ending → World → Prop) (hA : IsT A p) (hB : IsT B q) (h0 : q ≠ 0) (hf : Bd 60 (p / q)) (hE : Env w) (htab : Lib.TabIs Tryz.prog w "internal/strconv.uint64pow10" .u64 Lib.pow10Tab)
    (hR : ∀ C w', IsT C (p / q) → Below w.heap.size w w' → R (.returned (.tuple #[.string C, .bool true])) w') :
    Calls Tryz.prog 17 #[.string A, .string B] w R := by
  refine impl_divNumbers A B w hE htab R fun w' hb => ?_
  have e : divO A.data.toList B.data.toList = some (p / q) := divO_some hA.num hB.num h0
  have k := out_t (few_bd hf)
  rw [e, k.2]
  exact hR _ w' k.1 hb

theorem idiv_0 (A B : ByteArray) (w : World) (R : Ending → World → Prop) (hB : IsT B 0) (hE : Env w) (htab : Lib.TabIs Tryz.prog w "internal/strconv.uint64pow10" .u64 Lib.pow10Tab)
    (hR : ∀ w', Below w.heap.size w w' → R (.returned (.tuple #[.string ⟨#[]⟩, .bool false])) w') :
    Calls Tryz.prog 17 #[.string A, .string B] w R := by
  refine impl_divNumbers A B w hE htab R fun w' hb => ?_
  have e : divO A.data.toList B.data.toList = none := divO_zero hB.num rfl
  rw [e]
  exact hR w' hb

theorem icmp_t (A B : ByteArray) (p q : Rat) (w : World) (R : Ending → World → Prop) (hA : IsT A p) (hB : IsT B q) (hE : Env w)
    (hR : ∀ w', Below w.heap.size w w' → R (.returned (.tuple #[.int .i64 (cmpR p q), .bool true])) w') :
    Calls Tryz.prog 15 #[.string A, .string B] w R := by
  refine impl_compare A B w hE R (fun a b w' ha hb hw => ?_) (fun w' hn _ => ?_)
  · rw [hA.num] at ha
    rw [hB.num] at hb
    cases ha; cases hb
    rw [cmp_r]
    exact hR w' hw
  · rcases hn with hn | hn
    · rw [hA.num] at hn; cases hn
    · rw [hB.num] at hn; cases hn

set_option maxRecDepth 100000 in
theorem bsub_t (A B : ByteArray) (p q : Rat) (w : World) (R : Ending → World → Prop) (hA : IsT A p) (hB : IsT B q) (hf : Bd 60 (p - q))
    (hR : ∀ C w', IsT C (p - q) → Below w.heap.size w w' → R (.returned (.string C)) w') :
    Calls Tryz.prog 22 #[.string A, .string B] w R := by
  have HR := Lib.hid hR; clear hR
  have hz1 := hA.size
  have hz2 := hB.size
  have e : combO (· - ·) A.data.toList B.data.toList = some (p - q) := combO_some hA.num hB.num
  have HE := Lib.hid e
  have HK := Lib.hid (out_t (few_bd hf))
  clear e hf hA hB
  go_enter Tryz.func22, Tryz.ntmps22
  go_wp2_with fail
  refine spec_subNumbers A B w (by omega) (by omega) _ fun w' hb => ?_
  have HB := Lib.hid hb
  rw [HE.out, HK.out.2]
  obtain ⟨C, hC⟩ : ∃ C, C = outS (some (p - q)) := ⟨_, rfl⟩
  have HC := Lib.hid HK.out.1
  rw [← hC] at HC ⊢
  clear hb hC HK
  dsimp only
  go_wp2
  first | go_ret | skip
  exact HR.out C _ HC.out HB.out

set_option maxRecDepth 100000 in
theorem bmul_t (A B : ByteArray) (p q : Rat) (w : World) (R : Ending → World → Prop) (hA : IsT A p) (hB : IsT B q) (hf : Bd 60 (p * q))
    (hR : ∀ C w', IsT C (p * q) → Below w.heap.size w w' → R (.returned (.string C)) w') :
    Calls Tryz.prog 16 #[.string A, .string B] w R := by
  have HR := Lib.hid hR; clear hR
  have hz1 := hA.size
  have hz2 := hB.size
  have e : combO (· * ·) A.data.toList B.data.toList = some (p * q) := combO_some hA.num hB.num
  have HE := Lib.hid e
  have HK := Lib.hid (out_t (few_bd hf))
  clear e hf hA hB
  go_enter Tryz.func16, Tryz.ntmps16
  go_wp2_with fail
  refine spec_mulNumbers A B w (by omega) (by omega) _ fun w' hb => ?_
  have HB := Lib.hid hb
  rw [HE.out, HK.out.2]
  obtain ⟨C, hC⟩ : ∃ C, C = outS (some (p * q)) := ⟨_, rfl⟩
  have HC := Lib.hid HK.out.1
  rw [← hC] at HC ⊢
  clear hb hC HK
  dsimp only
  go_wp2
  first | go_ret | skip
  exact HR.out C _ HC.out HB.out

set_option maxRecDepth 100000 in
theorem bsign_t (A : ByteArray) (p : Rat) (w : World) (R : Ending → World → Prop) (hA : IsT A p)
    (hR : ∀ w', Below w.heap.size w w' → R (.returned (.int .i64 (cmpR p 0))) w') :
    Calls Tryz.prog 21 #[.string A] w R := by
  have HR := Lib.hid hR; clear hR
  have hz1 := hA.size
  have HA := Lib.hid hA
  clear hA
  go_enter Tryz.func21, Tryz.ntmps21
  go_wp2_with fail
  refine spec_compare A _ w (by omega) (by rw [isT_zero.1]; have := isT_zero.size; rw [isT_zero.1] at this; omega) _ (fun a b w' ha hb hw => ?_) (fun w' hn _ => ?_)
  · rw [HA.out.num] at ha
    have hb2 : numO (⟨#[48]⟩ : ByteArray).data.toList = some b := hb
    rw [isT_zero.num] at hb2
    cases ha; cases hb2
    rw [cmp_r]
    obtain ⟨z, hz⟩ : ∃ z, z = cmpR p 0 := ⟨_, rfl⟩
    have HF := Lib.hid (HR.out w' hw)
    rw [← hz] at HF ⊢
    clear hz hb hw
    dsimp only
    go_wp2
    first | go_ret | skip
    exact HF.out
  · have hn2 : numO A.data.toList = none ∨ numO (⟨#[48]⟩ : ByteArray).data.toList = none := hn
    rw [HA.out.num, isT_zero.num] at hn2
    rcases hn2 with h | h <;> cases h
end Go.Proofs.YtdkjcdfkoahfkaaGreatDoor

namespace Go.Proofs.YtdkjcdfkoahfkaaGreatDoor
open Go Go.RowKit

/-- a slice value reads as bytes -/
def ByB (w : World) (v : Value) : Prop := ∃ ao n cap, v = .slice ao n cap ∧ ∀ i, i < n → ∃ (b off : Nat) (x : Int), ao = some ⟨b, off, none⟩ ∧ b < w.heap.size ∧ w.cell? ⟨b, off + i, none⟩ = some (.int .u8 x) ∧ 0 ≤ x ∧ x < 256

theorem ByB.later {w w' : World} {v : Value} (h : ByB w v) (hb : Below w.heap.size w w') : ByB w' v := by
  obtain ⟨ao, n, cap, rfl, hx⟩ := h
  refine ⟨ao, n, cap, rfl, fun i hi => ?_⟩
  obtain ⟨b, off, x, h1, h2, h3, h4⟩ := hx i hi
  exact ⟨b, off, x, h1, Nat.lt_of_lt_of_le h2 hb.size, by rw [hb.cell (p := ⟨b, off + i, none⟩) h2]; exact h3, h4⟩

theorem byte_wf {x : Int} (h : (Lit.int .u8 x).wf = true) : 0 ≤ x ∧ x < 256 := by
  have e1 : IntKind.u8.min = 0 := rfl
  have e2 : IntKind.u8.max = 255 := rfl
  simp [Lit.wf, e1, e2] at h
  omega

/-- bytes that came in -/
theorem open_by {H : Type} {enc : TypeId × Value → H} {W : World} {a0 : Option Addr} {len cap : Nat} {d : DataW H} {ps : List MemPlace}
    (h : DataW.Trod enc Tryz.prog W 0 (fun _ => true) true 22 (.slice a0 len cap) d ps) : ByB W (.slice a0 len cap) := by
  obtain ⟨fuel, hf⟩ := h
  rcases Go.ChangeShapes.open_ints Tryz.underlying22 Tryz.underlying5 (by kernel_rfl) hf with ⟨hcs, _⟩ | ⟨a, len', cap', zs, hcs, _, hl, hm, hz, hx, hcell, hwz⟩
  · simp [Value.cells] at hcs
    obtain ⟨rfl, rfl, rfl⟩ := hcs
    exact ⟨_, _, _, rfl, fun i hi => absurd hi (by omega)⟩
  · simp [Value.cells] at hcs
    obtain ⟨rfl, rfl, rfl⟩ := hcs
    simp only [if_true] at hz
    refine ⟨_, _, _, rfl, fun i hi => ?_⟩
    have hc := hcell i (by omega)
    obtain ⟨b, off, spot⟩ := a
    have hspot : spot = none := by simpa [Addr.add] using World.cell?_spot (hcell 0 (by omega))
    subst hspot
    rw [Addr.add_lit] at hc
    have hlt : b < W.heap.size := by
      rcases Nat.lt_or_ge b W.heap.size with h1 | h1
      · exact h1
      · simp [World.cell?, Array.getElem?_eq_none h1] at hc
    exact ⟨b, off, _, rfl, hlt, hc, byte_wf (hwz _ (by rw [List.getD_eq_getElem?_getD, List.getElem?_eq_getElem (by omega), Option.getD_some]; exact List.getElem_mem _))⟩

end Go.Proofs.YtdkjcdfkoahfkaaGreatDoor
