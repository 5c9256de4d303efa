/- Contracts of functions of the program and of the model: RatM, Limbs, OverN, TimesI, TimesQ, MulQ, LawMul. -/
import Derived.Test.YtbglfendcpbjpaaGreatDoorPg7
set_option linter.all false
set_option linter.unusedVariables false
set_option linter.unusedSimpArgs false
set_option linter.unnecessarySimpa false
set_option linter.deprecated false
namespace Go.Proofs.YtbglfendcpbjpaaGreatDoor

theorem rmul_num (a b : Rat) : (a * b).num = a.num.tdiv (Nat.gcd a.num.natAbs b.den) * b.num.tdiv (Nat.gcd b.num.natAbs a.den) := by
  show (Rat.mul a b).num = _
  unfold Rat.mul
  simp only [Int.divExact_eq_tdiv]

theorem rmul_den (a b : Rat) : (a * b).den = a.den / Nat.gcd b.num.natAbs a.den * (b.den / Nat.gcd a.num.natAbs b.den) := by
  show (Rat.mul a b).den = _
  unfold Rat.mul
  simp only [Nat.divExact_eq_div]

/-- what the program's sum has above, before it is reduced -/
def addTop (a b : Rat) : Int := a.num * ((b.den / Nat.gcd a.den b.den : Nat) : Int) + b.num * ((a.den / Nat.gcd a.den b.den : Nat) : Int)

theorem radd_parts (a b : Rat) : (a + b).num = (addTop a b).tdiv (Nat.gcd (addTop a b).natAbs (Nat.gcd a.den b.den)) ∧
    (a + b).den = a.den / Nat.gcd a.den b.den * (b.den / Nat.gcd (addTop a b).natAbs (Nat.gcd a.den b.den)) := by
  have hgb : Nat.gcd a.den b.den ∣ b.den := Nat.gcd_dvd_right _ _
  have h1 : Nat.gcd (addTop a b).natAbs (Nat.gcd a.den b.den) ∣ b.den := Nat.dvd_trans (Nat.gcd_dvd_right _ _) hgb
  constructor
  · show (Rat.add a b).num = _
    unfold Rat.add
    simp only []
    split
    · rename_i hg
      simp only [addTop, hg, Nat.div_one, Nat.gcd_one_right, Int.natCast_one, Int.tdiv_one]
    · unfold Rat.maybeNormalize
      split
      · rename_i hg h
        have h' : Nat.gcd (addTop a b).natAbs (Nat.gcd a.den b.den) = 1 := h
        rw [h']
        simp only [addTop, Int.natCast_one, Int.tdiv_one]
      · simp only [Int.divExact_eq_tdiv]
        rfl
  · show (Rat.add a b).den = _
    unfold Rat.add
    simp only []
    split
    · rename_i hg
      simp only [addTop, hg, Nat.div_one, Nat.gcd_one_right]
    · unfold Rat.maybeNormalize
      split
      · rename_i hg h
        have h' : Nat.gcd (addTop a b).natAbs (Nat.gcd a.den b.den) = 1 := h
        rw [h', Nat.div_one]
      · simp only [Nat.divExact_eq_div]
        exact Nat.mul_div_assoc _ h1

theorem sgn_tdiv (z : Int) (d : Nat) : (if z < 0 then -((z.natAbs / d : Nat) : Int) else ((z.natAbs / d : Nat) : Int)) = z.tdiv (d : Int) := by
  by_cases h : z < 0
  · obtain ⟨n, rfl⟩ : ∃ n : Nat, z = -(n : Int) := ⟨z.natAbs, by omega⟩
    rw [if_pos h, Int.neg_tdiv, Int.natAbs_neg, Int.natAbs_natCast]
    rfl
  · obtain ⟨n, rfl⟩ : ∃ n : Nat, z = (n : Int) := ⟨z.natAbs, by omega⟩
    rw [if_neg h, Int.natAbs_natCast]
    rfl

theorem floor_neg (n d : Nat) (hd : 0 < d) : (-(n : Int)) / (d : Int) = -((n / d + (if n % d = 0 then 0 else 1) : Nat) : Int) := by
  have hdm := Nat.div_add_mod n d
  have hlt := Nat.mod_lt n hd
  by_cases h : n % d = 0
  · rw [if_pos h, Nat.add_zero]
    refine ((Int.ediv_emod_unique (by omega)).2 ⟨?_, Int.le_refl 0, by omega⟩).1
    rw [h, Nat.add_zero] at hdm
    have e : (n : Int) = (d : Int) * ((n / d : Nat) : Int) := by rw [← Int.natCast_mul, hdm]
    rw [Int.mul_neg]
    omega
  · rw [if_neg h]
    refine ((Int.ediv_emod_unique (r := ((d - n % d : Nat) : Int)) (by omega)).2 ⟨?_, by omega, by omega⟩).1
    have e : (n : Int) = (d : Int) * ((n / d : Nat) : Int) + ((n % d : Nat) : Int) := by
      rw [← Int.natCast_mul, ← Int.natCast_add, hdm]
    rw [Int.natCast_add, Int.mul_neg, Int.mul_add]
    omega
end Go.Proofs.YtbglfendcpbjpaaGreatDoor

namespace Go.Proofs.YtbglfendcpbjpaaGreatDoor
open Go Go.RowKit

/-- a product has few limbs where its factors have -/
theorem mul_limbs (x y N M : Nat) (hx : (dig W64 x).length ≤ N) (hy : (dig W64 y).length ≤ M) : (dig W64 (x * y)).length ≤ N + M := by
  apply dig_length_le W64_two
  have h1 := Nat.lt_of_lt_of_le (lt_pow_dig W64_two x) (Nat.pow_le_pow_right (by rw [W64_eq]; omega) hx)
  have h2 := Nat.lt_of_lt_of_le (lt_pow_dig W64_two y) (Nat.pow_le_pow_right (by rw [W64_eq]; omega) hy)
  rw [Nat.pow_add]
  exact Nat.mul_lt_mul'' h1 h2

end Go.Proofs.YtbglfendcpbjpaaGreatDoor

namespace Go.Proofs.YtbglfendcpbjpaaGreatDoor
open Go Go.RowKit

set_option maxRecDepth 100000 in
set_option maxHeartbeats 1000000 in
theorem nover_any (va vb : Value) (a b : Nat) (w : World) (ha : IsN w va a) (hb : IsN w vb b) (hla : (dig W64 a).length ≤ 10000000) (hlb : (dig W64 b).length ≤ 10000000) (hb0 : b ≠ 0) (R : Ending → World → Prop)
    (hR : ∀ v' w', IsN w' v' (a / b) → Below w.heap.size w w' → R (.returned v') w') :
    Calls Tryz.prog 81 #[va, vb] w R := by
  have HR := Lib.hid hR; clear hR
  obtain ⟨a1, n1, c1, rfl, ha'⟩ := ha.op
  obtain ⟨a2, n2, c2, rfl, hb'⟩ := hb.op
  have HA := Lib.hid ha'
  have HB := Lib.hid hb'
  have HLL := Lib.hid (And.intro hla (And.intro hlb hb0))
  clear ha hb ha' hb' hla hlb hb0
  go_enter Tryz.func81, Tryz.ntmps81
  go_wp2_with fail
  refine none_any _ b _ HB.out _ ?_
  by_cases h1 : b = 1
  · have hd : decide (b = 1) = true := decide_eq_true h1
    have HD : Hid (a = a / b) := Lib.hid (by rw [h1, Nat.div_one])
    rw [hd]
    clear hd h1
    dsimp only
    go_wp2
    first | go_ret | skip
    exact HR.out _ _ (HA.out.cast HD.out) (Below.refl _ _)
  · have hd : decide (b = 1) = false := decide_eq_false h1
    rw [hd]
    clear hd h1
    dsimp only
    go_wp2_with fail
    refine divide_any _ _ a b _ HA.out HB.out HLL.out.1 HLL.out.2.1 HLL.out.2.2 _ ?_
    intro v1 v2 w1 hv1 hv2 hb1
    obtain ⟨a3, n3, c3, rfl, hv1'⟩ := hv1.op
    obtain ⟨a4, n4, c4, rfl, hv2'⟩ := hv2.op
    have HV1 := Lib.hid hv1'
    have HB1 := Lib.hid hb1
    clear hv1 hv2 hv1' hv2' hb1
    dsimp only
    go_wp2
    first | go_ret | skip
    exact HR.out _ _ HV1.out HB1.out

theorem sgn_div (z : Int) (d : Nat) : sgn (decide (z < 0)) (z.natAbs / d) = z.tdiv (d : Int) := by
  rw [← sgn_tdiv]
  unfold sgn
  by_cases h : z < 0
  · rw [decide_eq_true h, if_pos rfl, if_pos h]
  · rw [decide_eq_false h, if_neg (by decide), if_neg h]

set_option maxRecDepth 100000 in
set_option maxHeartbeats 4000000 in
theorem iover_any (va vb : Value) (z : Int) (b : Nat) (w : World) (ha : IsI w va z) (hb : IsN w vb b) (hla : (dig W64 z.natAbs).length ≤ 10000000) (hlb : (dig W64 b).length ≤ 10000000) (hb0 : b ≠ 0) (R : Ending → World → Prop)
    (hR : ∀ v' w', IsI w' v' (z.tdiv (b : Int)) → Below w.heap.size w w' → R (.returned v') w') :
    Calls Tryz.prog 84 #[va, vb] w R := by
  have HR := Lib.hid hR; clear hR
  obtain ⟨ng, a1, n1, c1, hng, rfl, hn1⟩ := ha.parts
  obtain ⟨a2, n2, c2, rfl, hn2⟩ := hb.op
  have HNG := Lib.hid hng
  obtain ⟨L, hL⟩ : ∃ L, L = (w.alloc (.cells #[.bool ng, .slice a1 n1 c1] 50)).alloc (.cells #[.bool false, .slice none 0 0] 50) := ⟨_, rfl⟩
  have hb1 : Below (w.heap.size + 1) (w.alloc (.cells #[.bool ng, .slice a1 n1 c1] 50)) L := by rw [hL]; exact (Below.refl _ _).alloc (by simp) _
  have B0 : Box2 L w.heap.size (.bool ng) (.slice a1 n1 c1) 50 := (Box2.made w _ _ _).later hb1 (by omega)
  have B1 : Box2 L (w.heap.size + 1) (.bool false) (.slice none 0 0) 50 := by
    have := Box2.made (w.alloc (.cells #[.bool ng, .slice a1 n1 c1] 50)) (.bool false) (.slice none 0 0) 50
    rw [World.size_alloc, ← hL] at this; exact this
  have HEXT : Hid (Below w.heap.size w L) := Lib.hid (by rw [hL]; exact ((Below.refl w.heap.size w).alloc (Nat.le_refl _) _).alloc (by simp) _)
  have hLs : L.heap.size = w.heap.size + 2 := by rw [hL]; simp
  have hk : w.heap.size + 1 < L.heap.size := by omega
  have HL := Lib.hid hL
  have Y1 := Lib.hid (hn1.later HEXT.out (Nat.le_refl _))
  have Y2 := Lib.hid (hn2.later HEXT.out (Nat.le_refl _))
  have HLN := Lib.hid (And.intro hla (And.intro hlb hb0))
  have HSOF : Hid (∀ w', Below (w.heap.size + 1) L w' → (Below (w.heap.size + 1) L w' ∧ w'.cell? ⟨w.heap.size, 0, none⟩ = some (.bool ng) ∧ w'.cell? ⟨w.heap.size, 1, none⟩ = some (.slice a1 n1 c1))) :=
    Lib.hid fun w' hb => ⟨hb, (B0.later hb (by omega)).cells.1, (B0.later hb (by omega)).cells.2.1⟩
  have HB1 := Lib.hid B1
  have HK := Lib.hid hk
  clear hng ha hb hn1 hn2 hla hlb hb0 hb1 B0 B1 hL hLs hk
  go_enter Tryz.func84, Tryz.ntmps84
  go_wp2_with fail
  rw [← HL.out]
  go_region_held3 (fun w' => Below (w.heap.size + 1) L w' ∧ w'.cell? ⟨w.heap.size, 0, none⟩ = some (.bool ng) ∧ w'.cell? ⟨w.heap.size, 1, none⟩ = some (.slice a1 n1 c1))
    (first
      | exact HSOF.out _ HQ2.out
      | exact HSOF.out _ HQ1.out
      | exact HSOF.out _ (Below.refl _ _).drew
      | exact HSOF.out _ ((HQ2.out.setCell (by simp) _).setCell (by simp) _))
    (first
      | (go_at_call 63; refine integerOf_z ng v1 (z.natAbs / b) _ HV1.out _ ?_; intro v2 w2 hv2 hb2; rw [HNG.out, sgn_div] at hv2; obtain ⟨m2, a5, m5, c5, hm2, rfl, hn5⟩ := hv2.parts; have HV5 := Lib.hid hn5; have HM2 := Lib.hid hm2; have HT2 := Lib.hid (HT1.out.trans (hb2.mono HT1.out.size)); have HQ2 := Lib.hid (HT2.out.mono (Nat.le_of_lt HK.out)); have d2 := HB1.out.later HT2.out HK.out; obtain ⟨hR0, hR1, hR2, hR3⟩ := d2.cells; have HD2 := Lib.hid d2; clear hv2 hb2 d2 hn5 hm2; dsimp only)
      | (go_at_call 81; refine nover_any _ _ z.natAbs b _ (Y1.out.later (Below.refl _ _).drew (Nat.le_refl _)) (Y2.out.later (Below.refl _ _).drew (Nat.le_refl _)) HLN.out.1 HLN.out.2.1 HLN.out.2.2 _ ?_; intro v1 w1 hv1 hb1; have HV1 := Lib.hid hv1; have HT1 : Hid (Below L.heap.size L w1) := Lib.hid (below_unDrew hb1); have HQ1 := Lib.hid (HT1.out.mono (Nat.le_of_lt HK.out)); clear hv1 hb1; dsimp only))
  all_goals
    go_wp2
    refine bodyPost_ret_at (by simp [results, Tryz.results84, go_sem, hR0, hR1, hR2, hR3] <;> rfl) rfl ?_
    refine HR.out _ _ (IsI.mk HM2.out (HV5.out.set2 (HD2.out.noInt rfl rfl) _ _ rfl)) ((((HEXT.out.trans (HT2.out.mono HEXT.out.size)).setCell (by simp) _).setCell (by simp) _))
end Go.Proofs.YtbglfendcpbjpaaGreatDoor

namespace Go.Proofs.YtbglfendcpbjpaaGreatDoor
open Go Go.RowKit

theorem sgn_times (a b : Int) : sgn (decide (a < 0) != decide (b < 0)) (a.natAbs * b.natAbs) = a * b := by
  by_cases ha : a < 0
  · obtain ⟨n, rfl⟩ : ∃ n : Nat, a = -(n : Int) := ⟨a.natAbs, by omega⟩
    by_cases hb : b < 0
    · obtain ⟨m, rfl⟩ : ∃ m : Nat, b = -(m : Int) := ⟨b.natAbs, by omega⟩
      rw [decide_eq_true ha, decide_eq_true hb, Int.natAbs_neg, Int.natAbs_neg, Int.natAbs_natCast, Int.natAbs_natCast, Int.neg_mul_neg]
      simp [sgn]
    · obtain ⟨m, rfl⟩ : ∃ m : Nat, b = (m : Int) := ⟨b.natAbs, by omega⟩
      rw [decide_eq_true ha, decide_eq_false hb, Int.natAbs_neg, Int.natAbs_natCast, Int.natAbs_natCast, Int.neg_mul]
      simp [sgn]
  · obtain ⟨n, rfl⟩ : ∃ n : Nat, a = (n : Int) := ⟨a.natAbs, by omega⟩
    by_cases hb : b < 0
    · obtain ⟨m, rfl⟩ : ∃ m : Nat, b = -(m : Int) := ⟨b.natAbs, by omega⟩
      rw [decide_eq_false ha, decide_eq_true hb, Int.natAbs_neg, Int.natAbs_natCast, Int.natAbs_natCast, Int.mul_neg]
      simp [sgn]
    · obtain ⟨m, rfl⟩ : ∃ m : Nat, b = (m : Int) := ⟨b.natAbs, by omega⟩
      rw [decide_eq_false ha, decide_eq_false hb, Int.natAbs_natCast, Int.natAbs_natCast]
      simp [sgn]

set_option maxRecDepth 100000 in
set_option maxHeartbeats 4000000 in
theorem itimes_any (va vb : Value) (a b : Int) (w : World) (ha : IsI w va a) (hb : IsI w vb b) (hla : (dig W64 a.natAbs).length ≤ 10000000) (hlb : (dig W64 b.natAbs).length ≤ 10000000) (R : Ending → World → Prop)
    (hR : ∀ v' w', IsI w' v' (a * b) → Below w.heap.size w w' → R (.returned v') w') :
    Calls Tryz.prog 88 #[va, vb] w R := by
  have HR := Lib.hid hR; clear hR
  obtain ⟨ng, a1, n1, c1, hng, rfl, hn1⟩ := ha.parts
  obtain ⟨mg, a2, n2, c2, hmg, rfl, hn2⟩ := hb.parts
  have HNG := Lib.hid hng
  have HMG := Lib.hid hmg
  obtain ⟨L, hL⟩ : ∃ L, L = ((w.alloc (.cells #[.bool ng, .slice a1 n1 c1] 50)).alloc (.cells #[.bool mg, .slice a2 n2 c2] 50)).alloc (.cells #[.bool false, .slice none 0 0] 50) := ⟨_, rfl⟩
  have HEXT : Hid (Below w.heap.size w L) := Lib.hid (by rw [hL]; exact (((Below.refl w.heap.size w).alloc (Nat.le_refl _) _).alloc (by simp) _).alloc (by simp; omega) _)
  have hLs : L.heap.size = w.heap.size + 3 := by rw [hL]; simp
  have B0 : Box2 L w.heap.size (.bool ng) (.slice a1 n1 c1) 50 := by rw [hL]; exact ((Box2.made w _ _ _).alloc _).alloc _
  have B1 : Box2 L (w.heap.size + 1) (.bool mg) (.slice a2 n2 c2) 50 := by
    have := (Box2.made (w.alloc (.cells #[.bool ng, .slice a1 n1 c1] 50)) (.bool mg) (.slice a2 n2 c2) 50).alloc (.cells #[.bool false, .slice none 0 0] 50)
    rw [World.size_alloc, ← hL] at this; exact this
  have B2 : Box2 L (w.heap.size + 1 + 1) (.bool false) (.slice none 0 0) 50 := by
    have := Box2.made ((w.alloc (.cells #[.bool ng, .slice a1 n1 c1] 50)).alloc (.cells #[.bool mg, .slice a2 n2 c2] 50)) (.bool false) (.slice none 0 0) 50
    rw [World.size_alloc, World.size_alloc, ← hL] at this; exact this
  have hk : w.heap.size + 2 < L.heap.size := by omega
  have HL := Lib.hid hL
  have Y1 := Lib.hid (hn1.later HEXT.out (Nat.le_refl _))
  have Y2 := Lib.hid (hn2.later HEXT.out (Nat.le_refl _))
  have HLN := Lib.hid (And.intro hla hlb)
  have HSOF : Hid (∀ w', Below (w.heap.size + 2) L w' → (Below (w.heap.size + 2) L w' ∧ (w'.cell? ⟨w.heap.size, 0, none⟩ = some (.bool ng) ∧ w'.cell? ⟨w.heap.size, 1, none⟩ = some (.slice a1 n1 c1)) ∧ (w'.cell? ⟨w.heap.size + 1, 0, none⟩ = some (.bool mg) ∧ w'.cell? ⟨w.heap.size + 1, 1, none⟩ = some (.slice a2 n2 c2)))) :=
    Lib.hid fun w' hb => ⟨hb, ⟨(B0.later hb (by omega)).cells.1, (B0.later hb (by omega)).cells.2.1⟩, ⟨(B1.later hb (by omega)).cells.1, (B1.later hb (by omega)).cells.2.1⟩⟩
  have HB1 := Lib.hid B2
  have HK := Lib.hid hk
  clear hng hmg ha hb hn1 hn2 hla hlb B0 B1 B2 hL hLs hk
  go_enter Tryz.func88, Tryz.ntmps88
  go_wp2_with fail
  rw [← HL.out]
  go_region_held3 (fun w' => Below (w.heap.size + 2) L w' ∧ (w'.cell? ⟨w.heap.size, 0, none⟩ = some (.bool ng) ∧ w'.cell? ⟨w.heap.size, 1, none⟩ = some (.slice a1 n1 c1)) ∧ (w'.cell? ⟨w.heap.size + 1, 0, none⟩ = some (.bool mg) ∧ w'.cell? ⟨w.heap.size + 1, 1, none⟩ = some (.slice a2 n2 c2)))
    (first
      | exact HSOF.out _ HQ2.out
      | exact HSOF.out _ HQ1.out
      | exact HSOF.out _ (Below.refl _ _).drew
      | exact HSOF.out _ ((HQ2.out.setCell (by simp) _).setCell (by simp) _))
    (first
      | (go_at_call 63; refine integerOf_z (ng != mg) v1 (a.natAbs * b.natAbs) _ HV1.out _ ?_; intro v2 w2 hv2 hb2; rw [HNG.out, HMG.out, sgn_times] at hv2; obtain ⟨m2, a5, m5, c5, hm2, rfl, hn5⟩ := hv2.parts; have HV5 := Lib.hid hn5; have HM2 := Lib.hid hm2; have HT2 := Lib.hid (HT1.out.trans (hb2.mono HT1.out.size)); have HQ2 := Lib.hid (HT2.out.mono (Nat.le_of_lt HK.out)); have d2 := HB1.out.later HT2.out HK.out; obtain ⟨hR0, hR1, hR2, hR3⟩ := d2.cells; have HD2 := Lib.hid d2; clear hv2 hb2 d2 hn5 hm2; dsimp only)
      | (go_at_call 85; refine ntimes_any _ _ a.natAbs b.natAbs _ (Y1.out.later (Below.refl _ _).drew (Nat.le_refl _)) (Y2.out.later (Below.refl _ _).drew (Nat.le_refl _)) (Nat.le_trans HLN.out.1 (by omega)) (Nat.le_trans HLN.out.2 (by omega)) _ ?_; intro v1 w1 hv1 hb1; have HV1 := Lib.hid hv1; have HT1 : Hid (Below L.heap.size L w1) := Lib.hid (below_unDrew hb1); have HQ1 := Lib.hid (HT1.out.mono (Nat.le_of_lt HK.out)); clear hv1 hb1; dsimp only))
  all_goals
    go_wp2
    refine bodyPost_ret_at (by simp [results, Tryz.results88, go_sem, hR0, hR1, hR2, hR3] <;> rfl) rfl ?_
    refine HR.out _ _ (IsI.mk HM2.out (HV5.out.set2 (HD2.out.noInt rfl rfl) _ _ rfl)) ((((HEXT.out.trans (HT2.out.mono HEXT.out.size)).setCell (show w.heap.size ≤ w.heap.size + 1 + 1 by omega) _).setCell (show w.heap.size ≤ w.heap.size + 1 + 1 by omega) _))

end Go.Proofs.YtbglfendcpbjpaaGreatDoor

namespace Go.Proofs.YtbglfendcpbjpaaGreatDoor
open Go Go.RowKit

theorem dig_mono {B a b : Nat} (hB : 2 ≤ B) (h : a ≤ b) : (dig B a).length ≤ (dig B b).length :=
  dig_length_le hB _ _ (Nat.lt_of_le_of_lt h (lt_pow_dig hB b))

theorem gcd_le_den (x d : Nat) (hd : d ≠ 0) : Nat.gcd x d ≤ d ∧ Nat.gcd x d ≠ 0 :=
  ⟨Nat.gcd_le_right _ (by omega), fun h => hd (Nat.gcd_eq_zero_iff.1 h).2⟩

theorem tdiv_abs (z : Int) (d : Nat) : (z.tdiv (d : Int)).natAbs = z.natAbs / d := by
  rw [Int.natAbs_tdiv, Int.natAbs_natCast]; rfl

set_option maxRecDepth 100000 in
set_option maxHeartbeats 4000000 in
theorem rtimes_any (va vb : Value) (a b : Rat) (w : World) (ha : IsR w va a) (hb : IsR w vb b) (hla : (dig W64 a.num.natAbs).length ≤ 1000000) (hla2 : (dig W64 a.den).length ≤ 1000000)
    (hlb : (dig W64 b.num.natAbs).length ≤ 1000000) (hlb2 : (dig W64 b.den).length ≤ 1000000) (R : Ending → World → Prop)
    (hR : ∀ v' w', IsR w' v' (a * b) → Below w.heap.size w w' → R (.returned v') w') :
    Calls Tryz.prog 45 #[va, vb] w R := by
  have HR := Lib.hid hR; clear hR
  obtain ⟨na, a1, n1, c1, a2, n2, c2, hna, rfl, hn1, hn2⟩ := ha.parts
  obtain ⟨nb, a3, n3, c3, a4, n4, c4, hnb, rfl, hn3, hn4⟩ := hb.parts
  obtain ⟨L, hL⟩ : ∃ L, L = ((w.alloc (.cells #[.bool na, .slice a1 n1 c1, .slice a2 n2 c2] 52)).alloc (.cells #[.bool nb, .slice a3 n3 c3, .slice a4 n4 c4] 52)).alloc (.cells #[.bool false, .slice none 0 0, .slice none 0 0] 52) := ⟨_, rfl⟩
  have HEXT : Hid (Below w.heap.size w L) := Lib.hid (by rw [hL]; exact (((Below.refl w.heap.size w).alloc (Nat.le_refl _) _).alloc (by simp) _).alloc (by simp; omega) _)
  have hLs : L.heap.size = w.heap.size + 3 := by rw [hL]; simp
  have hb1 : Below (w.heap.size + 1) (w.alloc (.cells #[.bool na, .slice a1 n1 c1, .slice a2 n2 c2] 52)) L := by rw [hL]; exact ((Below.refl _ _).alloc (by simp) _).alloc (by simp) _
  have hb2 : Below (w.heap.size + 2) ((w.alloc (.cells #[.bool na, .slice a1 n1 c1, .slice a2 n2 c2] 52)).alloc (.cells #[.bool nb, .slice a3 n3 c3, .slice a4 n4 c4] 52)) L := by rw [hL]; exact (Below.refl _ _).alloc (by simp) _
  have B0 : Box3 L w.heap.size (.bool na) (.slice a1 n1 c1) (.slice a2 n2 c2) 52 := (Box3.made w _ _ _ _).later hb1 (by omega)
  have B1 : Box3 L (w.heap.size + 1) (.bool nb) (.slice a3 n3 c3) (.slice a4 n4 c4) 52 := by
    have := (Box3.made (w.alloc (.cells #[.bool na, .slice a1 n1 c1, .slice a2 n2 c2] 52)) (.bool nb) (.slice a3 n3 c3) (.slice a4 n4 c4) 52).later hb2 (by simp)
    rw [World.size_alloc] at this; exact this
  have B2 : Box3 L (w.heap.size + 1 + 1) (.bool false) (.slice none 0 0) (.slice none 0 0) 52 := by
    have := Box3.made ((w.alloc (.cells #[.bool na, .slice a1 n1 c1, .slice a2 n2 c2] 52)).alloc (.cells #[.bool nb, .slice a3 n3 c3, .slice a4 n4 c4] 52)) (.bool false) (.slice none 0 0) (.slice none 0 0) 52
    rw [World.size_alloc, World.size_alloc, ← hL] at this; exact this
  have HL := Lib.hid hL
  have HLS := Lib.hid hLs
  have HB2 := Lib.hid B2
  have X1 : Hid (IsI L (.agg #[.bool na, .slice a1 n1 c1]) a.num) := Lib.hid (IsI.mk hna (hn1.later HEXT.out (Nat.le_refl _)))
  have Y1 := Lib.hid (hn1.later HEXT.out (Nat.le_refl _))
  have X2 := Lib.hid (hn2.later HEXT.out (Nat.le_refl _))
  have X3 : Hid (IsI L (.agg #[.bool nb, .slice a3 n3 c3]) b.num) := Lib.hid (IsI.mk hnb (hn3.later HEXT.out (Nat.le_refl _)))
  have Y3 := Lib.hid (hn3.later HEXT.out (Nat.le_refl _))
  have X4 := Lib.hid (hn4.later HEXT.out (Nat.le_refl _))
  obtain ⟨g1, hg1⟩ : ∃ g, g = Nat.gcd a.num.natAbs b.den := ⟨_, rfl⟩
  obtain ⟨g2, hg2⟩ : ∃ g, g = Nat.gcd b.num.natAbs a.den := ⟨_, rfl⟩
  have HG1 := Lib.hid hg1
  have HG2 := Lib.hid hg2
  have k1 := gcd_le_den a.num.natAbs b.den b.den_nz
  have k2 := gcd_le_den b.num.natAbs a.den a.den_nz
  rw [← hg1] at k1
  rw [← hg2] at k2
  have HLN := Lib.hid (And.intro hla (And.intro hla2 (And.intro hlb hlb2)))
  have HGN : Hid (((dig W64 g1).length ≤ 1000000 ∧ (dig W64 g2).length ≤ 1000000) ∧ g1 ≠ 0 ∧ g2 ≠ 0) := Lib.hid ⟨⟨Nat.le_trans (dig_mono W64_two k1.1) hlb2, Nat.le_trans (dig_mono W64_two k2.1) hla2⟩, k1.2, k2.2⟩
  have HPN : Hid ((dig W64 (a.num.tdiv (g1 : Int)).natAbs).length ≤ 1000000 ∧ (dig W64 (b.num.tdiv (g2 : Int)).natAbs).length ≤ 1000000 ∧ (dig W64 (a.den / g2)).length ≤ 1000000 ∧ (dig W64 (b.den / g1)).length ≤ 1000000) := Lib.hid (by
    refine ⟨?_, ?_, Nat.le_trans (dig_mono W64_two (Nat.div_le_self _ _)) hla2, Nat.le_trans (dig_mono W64_two (Nat.div_le_self _ _)) hlb2⟩
    · rw [tdiv_abs]; exact Nat.le_trans (dig_mono W64_two (Nat.div_le_self _ _)) hla
    · rw [tdiv_abs]; exact Nat.le_trans (dig_mono W64_two (Nat.div_le_self _ _)) hlb)
  have HNUM : Hid (a.num.tdiv (g1 : Int) * b.num.tdiv (g2 : Int) = (a * b).num) := Lib.hid (by rw [rmul_num, hg1, hg2])
  have HDEN : Hid (a.den / g2 * (b.den / g1) = (a * b).den) := Lib.hid (by rw [rmul_den, hg1, hg2])
  have HSOF : Hid (∀ w', Below (w.heap.size + 2) L w' → (Below (w.heap.size + 2) L w' ∧ (w'.cell? ⟨w.heap.size, 0, none⟩ = some (.bool na) ∧ w'.cell? ⟨w.heap.size, 1, none⟩ = some (.slice a1 n1 c1) ∧ w'.cell? ⟨w.heap.size, 2, none⟩ = some (.slice a2 n2 c2)) ∧
      (w'.cell? ⟨w.heap.size + 1, 0, none⟩ = some (.bool nb) ∧ w'.cell? ⟨w.heap.size + 1, 1, none⟩ = some (.slice a3 n3 c3) ∧ w'.cell? ⟨w.heap.size + 1, 2, none⟩ = some (.slice a4 n4 c4)))) :=
    Lib.hid fun w' hb => ⟨hb, (B0.later hb (by omega)).cells.1, (B1.later hb (by omega)).cells.1⟩
  clear hna hnb ha hb hn1 hn2 hn3 hn4 hla hlb hla2 hlb2 hb1 hb2 B0 B1 B2 hL hLs hg1 hg2 k1 k2
  go_enter Tryz.func45, Tryz.ntmps45
  go_wp2_with fail
  rw [← HL.out]
  go_region_held3 (fun w' => Below (w.heap.size + 2) L w' ∧ (w'.cell? ⟨w.heap.size, 0, none⟩ = some (.bool na) ∧ w'.cell? ⟨w.heap.size, 1, none⟩ = some (.slice a1 n1 c1) ∧ w'.cell? ⟨w.heap.size, 2, none⟩ = some (.slice a2 n2 c2)) ∧
      (w'.cell? ⟨w.heap.size + 1, 0, none⟩ = some (.bool nb) ∧ w'.cell? ⟨w.heap.size + 1, 1, none⟩ = some (.slice a3 n3 c3) ∧ w'.cell? ⟨w.heap.size + 1, 2, none⟩ = some (.slice a4 n4 c4)))
    (first
      | exact HSOF.out _ HQ2.out
      | exact HSOF.out _ HQ1.out
      | exact HSOF.out _ (Below.refl _ _).drew)
    (first
      | (have hguard := HQ1; go_at_call 64; refine gcdn_any _ _ b.num.natAbs a.den _ (Y3.out.later HT1.out (Nat.le_refl _)) (X2.out.later HT1.out (Nat.le_refl _)) (Nat.le_trans HLN.out.2.2.1 (by omega)) (Nat.le_trans HLN.out.2.1 (by omega)) _ ?_; rw [← HG2.out]; intro v2 w2 hv2 hb2; obtain ⟨p2, q2, r2, rfl, hv2'⟩ := hv2.op; have HV2 := Lib.hid hv2'; have HV1' := Lib.hid (HV1.out.later hb2 (Nat.le_refl _)); have HT2 := Lib.hid (HT1.out.trans (hb2.mono HT1.out.size)); have HQ2 : Hid (Below (w.heap.size + 2) L w2) := Lib.hid (HT2.out.mono (by have := HLS.out; omega)); clear hguard hv2 hv2' hb2; dsimp only)
      | (go_at_call 64; refine gcdn_any _ _ a.num.natAbs b.den _ (Y1.out.later (Below.refl _ _).drew (Nat.le_refl _)) (X4.out.later (Below.refl _ _).drew (Nat.le_refl _)) (Nat.le_trans HLN.out.1 (by omega)) (Nat.le_trans HLN.out.2.2.2 (by omega)) _ ?_; rw [← HG1.out]; intro v1 w1 hv1 hb1; obtain ⟨p1, q1, r1, rfl, hv1'⟩ := hv1.op; have HV1 := Lib.hid hv1'; have HT1 : Hid (Below L.heap.size L w1) := Lib.hid (below_unDrew hb1); have HQ1 : Hid (Below (w.heap.size + 2) L w1) := Lib.hid (HT1.out.mono (by have := HLS.out; omega)); clear hv1 hv1' hb1; dsimp only))
  all_goals
    have HS2 : Hid (∀ w', Below w2.heap.size w2 w' → (Below (w.heap.size + 2) L w' ∧ (w'.cell? ⟨w.heap.size, 0, none⟩ = some (.bool na) ∧ w'.cell? ⟨w.heap.size, 1, none⟩ = some (.slice a1 n1 c1) ∧ w'.cell? ⟨w.heap.size, 2, none⟩ = some (.slice a2 n2 c2)) ∧
        (w'.cell? ⟨w.heap.size + 1, 0, none⟩ = some (.bool nb) ∧ w'.cell? ⟨w.heap.size + 1, 1, none⟩ = some (.slice a3 n3 c3) ∧ w'.cell? ⟨w.heap.size + 1, 2, none⟩ = some (.slice a4 n4 c4)))) :=
      Lib.hid fun w' hb => HSOF.out w' ((HT2.out.trans (hb.mono HT2.out.size)).mono (by have := HLS.out; omega))
    have Z1 := Lib.hid (X1.out.later HT2.out (Nat.le_refl _))
    have Z2 := Lib.hid (X2.out.later HT2.out (Nat.le_refl _))
    have Z3 := Lib.hid (X3.out.later HT2.out (Nat.le_refl _))
    have Z4 := Lib.hid (X4.out.later HT2.out (Nat.le_refl _))
    go_wp2_with fail
    go_region_held3 (fun w' => Below (w.heap.size + 2) L w' ∧ (w'.cell? ⟨w.heap.size, 0, none⟩ = some (.bool na) ∧ w'.cell? ⟨w.heap.size, 1, none⟩ = some (.slice a1 n1 c1) ∧ w'.cell? ⟨w.heap.size, 2, none⟩ = some (.slice a2 n2 c2)) ∧
        (w'.cell? ⟨w.heap.size + 1, 0, none⟩ = some (.bool nb) ∧ w'.cell? ⟨w.heap.size + 1, 1, none⟩ = some (.slice a3 n3 c3) ∧ w'.cell? ⟨w.heap.size + 1, 2, none⟩ = some (.slice a4 n4 c4)))
      (first
        | exact HS2.out _ HW8.out
        | exact HS2.out _ HW7.out
        | exact HS2.out _ HW6.out
        | exact HS2.out _ HW5.out
        | exact HS2.out _ HW4.out
        | exact HS2.out _ HW3.out
        | exact HS2.out _ (Below.refl _ _).drew
        | exact HSOF.out _ (((HQ8.out.setCell (by simp) _).setCell (by simp) _).setCell (by simp) _))
      (first
        | (have hguard := HW7; go_at_call 85; refine ntimes_any _ _ (a.den / g2) (b.den / g1) _ (HV6.out.later HB7.out (Nat.le_refl _)) HV7.out (Nat.le_trans HPN.out.2.2.1 (by omega)) (Nat.le_trans HPN.out.2.2.2 (by omega)) _ ?_; rw [HDEN.out]; intro v8 w8 hv8 hb8; obtain ⟨p8, q8, r8, rfl, hv8'⟩ := hv8.op; have HV8 := Lib.hid hv8'; have HV5' := Lib.hid (HV5.out.later (HB67.out.trans (hb8.mono HB67.out.size)) (Nat.le_refl _)); have HW8 := Lib.hid (HW7.out.trans (hb8.mono HW7.out.size)); have HT8 := Lib.hid (HT2.out.trans (HW8.out.mono HT2.out.size)); have HQ8 : Hid (Below (w.heap.size + 2) L w8) := Lib.hid (HT8.out.mono (by have := HLS.out; omega)); have d8 := HB2.out.later HT8.out (by have := HLS.out; omega); obtain ⟨⟨hR0, hR1, hR2⟩, hF0, hF1, hF2⟩ := d8.cells; have HD8 := Lib.hid d8; clear hguard hv8 hv8' hb8 d8; dsimp only)
        | (have hguard := HW6; go_at_call 81; refine nover_any _ _ b.den g1 _ (Z4.out.later HW6.out (Nat.le_refl _)) (HV1'.out.later HW6.out (Nat.le_refl _)) (Nat.le_trans HLN.out.2.2.2 (by omega)) (Nat.le_trans HGN.out.1.1 (by omega)) HGN.out.2.1 _ ?_; intro v7 w7 hv7 hb7; obtain ⟨p7, q7, r7, rfl, hv7'⟩ := hv7.op; have HV7 := Lib.hid hv7'; have HB7 := Lib.hid hb7; have HB67 := Lib.hid (HB6.out.trans (hb7.mono HB6.out.size)); have HW7 := Lib.hid (HW6.out.trans (hb7.mono HW6.out.size)); clear hguard hv7 hv7' hb7; dsimp only)
        | (have hguard := HW5; go_at_call 81; refine nover_any _ _ a.den g2 _ (Z2.out.later HW5.out (Nat.le_refl _)) (HV2.out.later HW5.out (Nat.le_refl _)) (Nat.le_trans HLN.out.2.1 (by omega)) (Nat.le_trans HGN.out.1.2 (by omega)) HGN.out.2.2 _ ?_; intro v6 w6 hv6 hb6; obtain ⟨p6, q6, r6, rfl, hv6'⟩ := hv6.op; have HV6 := Lib.hid hv6'; have HB6 := Lib.hid hb6; have HW6 := Lib.hid (HW5.out.trans (hb6.mono HW5.out.size)); clear hguard hv6 hv6' hb6; dsimp only)
        | (have hguard := HW4; go_at_call 88; refine itimes_any _ _ (a.num.tdiv (g1 : Int)) (b.num.tdiv (g2 : Int)) _ (HV3.out.later HB4.out (Nat.le_refl _)) HV4.out (Nat.le_trans HPN.out.1 (by omega)) (Nat.le_trans HPN.out.2.1 (by omega)) _ ?_; rw [HNUM.out]; intro v5 w5 hv5 hb5; obtain ⟨m5, p5, q5, r5, hm5, rfl, hv5'⟩ := hv5.parts; have HM5 := Lib.hid hm5; have HV5 := Lib.hid hv5'; have HW5 := Lib.hid (HW4.out.trans (hb5.mono HW4.out.size)); clear hguard hv5 hv5' hm5 hb5; dsimp only)
        | (have hguard := HW3; go_at_call 84; refine iover_any _ _ b.num g2 _ (Z3.out.later HW3.out (Nat.le_refl _)) (HV2.out.later HW3.out (Nat.le_refl _)) (Nat.le_trans HLN.out.2.2.1 (by omega)) (Nat.le_trans HGN.out.1.2 (by omega)) HGN.out.2.2 _ ?_; intro v4 w4 hv4 hb4; obtain ⟨m4, p4, q4, r4, hm4, rfl, hv4'⟩ := hv4.parts; have HV4 := Lib.hid (IsI.mk hm4 hv4'); have HB4 := Lib.hid hb4; have HW4 := Lib.hid (HW3.out.trans (hb4.mono HW3.out.size)); clear hguard hv4 hv4' hm4 hb4; dsimp only)
        | (go_at_call 84; refine iover_any _ _ a.num g1 _ (Z1.out.later (Below.refl _ _).drew (Nat.le_refl _)) (HV1'.out.later (Below.refl _ _).drew (Nat.le_refl _)) (Nat.le_trans HLN.out.1 (by omega)) (Nat.le_trans HGN.out.1.1 (by omega)) HGN.out.2.1 _ ?_; intro v3 w3 hv3 hb3; obtain ⟨m3, p3, q3, r3, hm3, rfl, hv3'⟩ := hv3.parts; have HV3 := Lib.hid (IsI.mk hm3 hv3'); have HW3 : Hid (Below w2.heap.size w2 w3) := Lib.hid (below_unDrew hb3); clear hv3 hv3' hm3 hb3; dsimp only))
    all_goals
      go_wp2
      refine bodyPost_ret_at (by simp [results, Tryz.results45, go_sem, hR0, hR1, hR2, hF0, hF1, hF2] <;> rfl) rfl ?_
      have hq : IsR w8 (.agg #[.bool m5, .slice p5 q5 r5, .slice p8 q8 r8]) (a * b) := ⟨_, _, by rw [HM5.out], HV5'.out, HV8.out⟩
      refine HR.out _ _ (IsR.set3 hq (HD8.out.noInt rfl rfl rfl) _ _ _ rfl rfl) ?_
      exact (((HEXT.out.trans (HT8.out.mono HEXT.out.size)).setCell (show w.heap.size ≤ w.heap.size + 1 + 1 by omega) _).setCell (show w.heap.size ≤ w.heap.size + 1 + 1 by omega) _).setCell (show w.heap.size ≤ w.heap.size + 1 + 1 by omega) _
end Go.Proofs.YtbglfendcpbjpaaGreatDoor

namespace Go.Proofs.YtbglfendcpbjpaaGreatDoor
open Go Go.RowKit

set_option maxRecDepth 100000 in
set_option maxHeartbeats 4000000 in
theorem mulQ_any (va vb : Value) (a b : Rat) (w : World) (ha : IsQ w va a) (hb : IsQ w vb b) (hla : (dig 10000 a.num.natAbs).length ≤ 400000) (hla2 : (dig 10000 a.den).length ≤ 400000)
    (hlb : (dig 10000 b.num.natAbs).length ≤ 400000) (hlb2 : (dig 10000 b.den).length ≤ 400000)
    (R : Ending → World → Prop) (hR : ∀ v w', IsQ w' v (a * b) → Below w.heap.size w w' → R (.returned v) w') :
    Calls Tryz.prog 44 #[va, vb] w R := by
  have HR := Lib.hid hR; clear hR
  obtain ⟨na, a1, n1, c1, a2, n2, c2, rfl, hz1, hz2⟩ := ha.parts
  obtain ⟨nb, a3, n3, c3, a4, n4, c4, rfl, hz3, hz4⟩ := hb.parts
  clear ha hb
  obtain ⟨L, hL⟩ : ∃ L, L = ((w.alloc (.cells #[.bool na, .slice a1 n1 c1, .bool false, .slice a2 n2 c2] 41)).alloc (.cells #[.bool nb, .slice a3 n3 c3, .bool false, .slice a4 n4 c4] 41)).alloc (.cells #[.bool false, .slice none 0 0, .bool false, .slice none 0 0] 41) := ⟨_, rfl⟩
  have hLs : L.heap.size = w.heap.size + 3 := by rw [hL]; simp
  have B0 : Box4 L w.heap.size (.bool na) (.slice a1 n1 c1) (.bool false) (.slice a2 n2 c2) 41 := by
    rw [hL]; exact ((Box4.made w _ _ _ _ _).later (B := w.heap.size + 1) ((Below.refl _ _).alloc (by simp) _) (by omega)).later (B := w.heap.size + 2) ((Below.refl _ _).alloc (by simp) _) (by omega)
  have B1 : Box4 L (w.heap.size + 1) (.bool nb) (.slice a3 n3 c3) (.bool false) (.slice a4 n4 c4) 41 := by
    rw [hL]; have := (Box4.made (w.alloc (.cells #[.bool na, .slice a1 n1 c1, .bool false, .slice a2 n2 c2] 41)) (.bool nb) (.slice a3 n3 c3) (.bool false) (.slice a4 n4 c4) 41).later (B := w.heap.size + 2) ((Below.refl _ _).alloc (by simp) (.cells #[.bool false, .slice none 0 0, .bool false, .slice none 0 0] 41)) (by simp); simpa using this
  have B2 : Box4 L (w.heap.size + 2) (.bool false) (.slice none 0 0) (.bool false) (.slice none 0 0) 41 := by
    rw [hL]; have := Box4.made ((w.alloc (.cells #[.bool na, .slice a1 n1 c1, .bool false, .slice a2 n2 c2] 41)).alloc (.cells #[.bool nb, .slice a3 n3 c3, .bool false, .slice a4 n4 c4] 41)) (.bool false) (.slice none 0 0) (.bool false) (.slice none 0 0) 41; simpa using this
  have HEXT : Below w.heap.size w L := by rw [hL]; exact (((Below.refl w.heap.size w).alloc (Nat.le_refl _) _).alloc (by simp) _).alloc (by simp; omega) _
  have HL := Lib.hid hL
  have y1 := (hz1.later HEXT (Nat.le_refl _))
  have y2 := (hz2.later HEXT (Nat.le_refl _))
  have y3 := (hz3.later HEXT (Nat.le_refl _))
  have y4 := (hz4.later HEXT (Nat.le_refl _))
  clear hL hz1 hz2 hz3 hz4
  go_enter Tryz.func44, Tryz.ntmps44
  go_wp2_with fail
  rw [← HL.out]
  obtain ⟨⟨hA0, hA1, hA2, hA3⟩, _, _, _, _⟩ := B0.cells
  obtain ⟨⟨hB0, hB1, hB2, hB3⟩, _, _, _, _⟩ := B1.cells
  have hk0 : w.heap.size < L.heap.size := by omega
  have hk1 : w.heap.size + 1 < L.heap.size := by omega
  have hk2 : w.heap.size + 2 < L.heap.size := by omega
  have hla' : (dig 10000 (a.num.natAbs)).length ≤ 10000000 := by omega
  have hlb' : (dig 10000 (b.num.natAbs)).length ≤ 10000000 := by omega
  have hla2' : (dig 10000 ((a.den : Int).natAbs)).length ≤ 10000000 := by rw [Int.natAbs_natCast]; omega
  have hlb2' : (dig 10000 ((b.den : Int).natAbs)).length ≤ 10000000 := by rw [Int.natAbs_natCast]; omega
  have hm1 : (dig 10000 ((a.num * b.num).natAbs)).length ≤ 1000000 := by rw [Int.natAbs_mul]; have := mul_len _ _ _ _ hla hlb; omega
  have hm2 : (dig 10000 (((a.den : Int) * (b.den : Int)).natAbs)).length ≤ 1000000 := by rw [Int.natAbs_mul, Int.natAbs_natCast, Int.natAbs_natCast]; have := mul_len _ _ _ _ hla2 hlb2; omega
  have hd0 : (a.den : Int) * (b.den : Int) ≠ 0 := by
    have h1 := a.den_pos; have h2 := b.den_pos
    have := Nat.mul_pos h1 h2
    intro h; rw [← Int.natCast_mul] at h; omega
  have HLN := Lib.hid (And.intro hla' (And.intro hlb' (And.intro hla2' (And.intro hlb2' (And.intro hm1 (And.intro hm2 hd0))))))
  clear hla hlb hla2 hlb2 hla' hlb' hla2' hlb2' hm1 hm2 hd0
  go_cut [] (fun wx => QBox w.heap.size w (w.heap.size + 1 + 1) (a * b) wx)
  case first =>
    go_region_law (first
      | (have hguard := hb2; go_simp; go_at_call 76; refine make_any v1 v2 (a.num * b.num) ((a.den : Int) * (b.den : Int)) _ (hv1.later hb2 (Nat.le_refl _)) hv2 HLN.out.2.2.2.2.1 HLN.out.2.2.2.2.2.1 HLN.out.2.2.2.2.2.2 _ ?_; intro v3 w3 hv3 hb3; obtain ⟨n5, a5, m5, c5, a6, m6, c6, rfl, hz5, hz6⟩ := hv3.parts; have bb : Below L.heap.size L w3 := (below_ofDrew hb1).trans ((hb2.mono hb1.size).trans (hb3.mono (Nat.le_trans hb1.size hb2.size))); have d2 := B2.later bb hk2; obtain ⟨⟨hR0, hR1, hR2, hR3⟩, hR4, hR5, hR6, hR7⟩ := d2.cells; clear hguard; dsimp only)
      | (have hguard := hb1; go_simp; go_at_call 78; refine zmul_any (.agg #[.bool false, .slice a2 n2 c2]) (.agg #[.bool false, .slice a4 n4 c4]) (a.den : Int) (b.den : Int) _ (y2.drew.later hb1 (Nat.le_refl _)) (y4.drew.later hb1 (Nat.le_refl _)) HLN.out.2.2.1 HLN.out.2.2.2.1 _ ?_; intro v2 w2 hv2 hb2; clear hguard; dsimp only)
      | (go_simp; go_at_call 78; refine zmul_any (.agg #[.bool na, .slice a1 n1 c1]) (.agg #[.bool nb, .slice a3 n3 c3]) a.num b.num _ y1.drew y3.drew HLN.out.1 HLN.out.2.1 _ ?_; intro v1 w1 hv1 hb1; have e0 := B0.later (below_ofDrew hb1) hk0; have e1 := B1.later (below_ofDrew hb1) hk1; obtain ⟨⟨hC0, hC1, hC2, hC3⟩, _, _, _, _⟩ := e0.cells; obtain ⟨⟨hD0, hD1, hD2, hD3⟩, _, _, _, _⟩ := e1.cells; dsimp only))
    all_goals (go_wp2_with fail; go_meet; exact q_end w L w3 w.heap.size _ _ _ _ _ _ _ _ _ d2 (by rw [← mul_divint]; exact hv3) HEXT bb (by omega))
  case rest =>
    clear hA0 hA1 hA2 hA3 hB0 hB1 hB2 hB3
    obtain ⟨b1, x1, x2, hbx, he, ht1, ht2, hbl⟩ := hcut
    obtain ⟨⟨hR0, hR1, hR2, hR3⟩, _, _, _, _⟩ := hbx.cells
    go_wp2
    refine bodyPost_ret_at (by simp [results, Tryz.results44, go_sem, hR0, hR1, hR2, hR3] <;> rfl) rfl ?_
    exact HR.out _ _ ⟨x1, x2, by rw [he], ht1, ht2⟩ hbl
end Go.Proofs.YtbglfendcpbjpaaGreatDoor

namespace Go.Proofs.YtbglfendcpbjpaaGreatDoor
open Go Go.RowKit

/-- what two texts that are numbers make together -/
noncomputable def combO (f : Rat → Rat → Rat) (s t : List UInt8) : Option Rat := match numO s, numO t with
  | some a, some b => some (f a b)
  | _, _ => none
theorem combO_some {f : Rat → Rat → Rat} {s t : List UInt8} {a b : Rat} (ha : numO s = some a) (hb : numO t = some b) : combO f s t = some (f a b) := by unfold combO; rw [ha, hb]
theorem combO_none {f : Rat → Rat → Rat} {s t : List UInt8} (h : numO s = none ∨ numO t = none) : combO f s t = none := by
  unfold combO
  rcases h with h | h
  · rw [h]
  · rw [h]; cases numO s <;> rfl

theorem dig_mul_len {B x y N M : Nat} (hB : 2 ≤ B) (hx : (dig B x).length ≤ N) (hy : (dig B y).length ≤ M) : (dig B (x * y)).length ≤ N + M := by
  refine dig_length_le hB _ _ ?_
  have h1 := Nat.lt_of_lt_of_le (lt_pow_dig hB x) (Nat.pow_le_pow_right (by omega) hx)
  have h2 := Nat.lt_of_lt_of_le (lt_pow_dig hB y) (Nat.pow_le_pow_right (by omega) hy)
  rw [Nat.pow_add]
  exact Nat.mul_lt_mul'' h1 h2

set_option maxRecDepth 100000 in
set_option maxHeartbeats 2000000 in
theorem combMul_any (s t : ByteArray) (w : World) (hE : Env w) (htab : Lib.TabIs Tryz.prog w "internal/strconv.uint64pow10" .u64 Lib.pow10Tab) (R : Ending → World → Prop)
    (hR : ∀ w', Below w.heap.size w w' → R (.returned (.tuple #[.string (outS (combO (· * ·) s.data.toList t.data.toList)), .bool (outB (combO (· * ·) s.data.toList t.data.toList))])) w') :
    Calls Tryz.prog 40 #[.string s, .string t, .func (Fn.func 45) #[] #[]] w R := by
  have HR := Lib.hid hR; clear hR
  have HE := Lib.hid hE; clear hE
  have HTAB := Lib.hid htab; clear htab
  go_enter Tryz.func40, Tryz.ntmps40
  go_wp2_with fail
  refine read2_any s t _ HE.out _ ?_ ?_
  · intro va vb a b w1 ha hb hva hvb hb1
    rw [combO_some ha hb] at HR
    obtain ⟨na, a1, n1, c1, a2, n2, c2, hna, rfl, hn1, hn2⟩ := hva.parts
    obtain ⟨nb, a3, n3, c3, a4, n4, c4, hnb, rfl, hn3, hn4⟩ := hvb.parts
    obtain ⟨L, hL⟩ : ∃ L, L = (w1.alloc (.cells #[.bool na, .slice a1 n1 c1, .slice a2 n2 c2] 52)).alloc (.cells #[.bool nb, .slice a3 n3 c3, .slice a4 n4 c4] 52) := ⟨_, rfl⟩
    have hb2 : Below (w1.heap.size + 1) (w1.alloc (.cells #[.bool na, .slice a1 n1 c1, .slice a2 n2 c2] 52)) L := by rw [hL]; exact (Below.refl _ _).alloc (by simp) _
    have B0 : Box3 L w1.heap.size (.bool na) (.slice a1 n1 c1) (.slice a2 n2 c2) 52 := (Box3.made w1 _ _ _ _).later hb2 (by omega)
    have B1 : Box3 L (w1.heap.size + 1) (.bool nb) (.slice a3 n3 c3) (.slice a4 n4 c4) 52 := by
      have := Box3.made (w1.alloc (.cells #[.bool na, .slice a1 n1 c1, .slice a2 n2 c2] 52)) (.bool nb) (.slice a3 n3 c3) (.slice a4 n4 c4) 52
      rw [World.size_alloc, ← hL] at this; exact this
    have hw1 : Below w1.heap.size w1 L := by rw [hL]; exact ((Below.refl w1.heap.size w1).alloc (Nat.le_refl _) _).alloc (by simp) _
    have HL := Lib.hid hL
    have HA := Lib.hid (hva.later hw1 (Nat.le_refl _))
    have HB := Lib.hid (hvb.later hw1 (Nat.le_refl _))
    have HEX := Lib.hid (hb1.trans (hw1.mono hb1.size))
    have HLA := Lib.hid (few_len (numO_few ha) (B := W64) (by rw [W64_eq]; omega))
    have HLB := Lib.hid (few_len (numO_few hb) (B := W64) (by rw [W64_eq]; omega))
    obtain ⟨⟨hA, hB, hC⟩, _, _, _⟩ := B0.cells
    obtain ⟨⟨hD, hF, hG⟩, _, _, _⟩ := B1.cells
    rw [hL] at hA hB hC hD hF hG
    clear ha hb hva hvb hb1 hna hnb hn1 hn2 hn3 hn4 hL hb2 B0 B1 hw1
    dsimp only
    go_wp2_with fail
    rw [← HL.out]
    refine rtimes_any _ _ a b _ HA.out HB.out (Nat.le_trans HLA.out.1 (by omega)) (Nat.le_trans HLA.out.2 (by omega)) (Nat.le_trans HLB.out.1 (by omega)) (Nat.le_trans HLB.out.2 (by omega)) _ ?_
    intro vr w2 hr hb2
    obtain ⟨q, hq⟩ : ∃ q : Rat, q = a * b := ⟨_, rfl⟩
    rw [← hq] at HR
    rw [← hq] at hr
    obtain ⟨nr, a5, n5, c5, a6, n6, c6, hnr, rfl, _, _⟩ := hr.parts
    have HR2 := Lib.hid hr
    have HB2 := Lib.hid (HEX.out.trans (hb2.mono HEX.out.size))
    clear hr hb2 hnr hq hA hB hC hD hF hG
    dsimp only
    go_wp2_with fail
    refine rtext_o _ q _ HR2.out (tab_later HTAB.out HB2.out (Nat.le_refl _)) _ ?_
    intro w3 hb3
    have HB3 := Lib.hid (HB2.out.trans (hb3.mono HB2.out.size))
    obtain ⟨S, hS⟩ : ∃ S, S = outS (some q) := ⟨_, rfl⟩
    obtain ⟨B, hB⟩ : ∃ B, B = outB (some q) := ⟨_, rfl⟩
    rw [← hS, ← hB] at HR ⊢
    clear hS hB hb3
    dsimp only
    go_wp2
    first | go_ret | skip
    exact HR.out _ HB3.out
  · intro e w1 hn he hb1
    rw [combO_none hn] at HR
    obtain ⟨t', p, rfl⟩ := he
    have HB := Lib.hid hb1
    clear hb1 hn
    unfold zeroR
    dsimp only
    go_wp2
    first | go_ret | skip
    exact HR.out _ ((HB.out.alloc HB.out.size _).alloc (by simp; have := HB.out.size; omega) _)

set_option maxRecDepth 100000 in
set_option maxHeartbeats 2000000 in
theorem impl_mulNumbers (s t : ByteArray) (w : World) (hE : Env w) (htab : Lib.TabIs Tryz.prog w "internal/strconv.uint64pow10" .u64 Lib.pow10Tab) (R : Ending → World → Prop)
    (hR : ∀ w', Below w.heap.size w w' → R (.returned (.tuple #[.string (outS (combO (· * ·) s.data.toList t.data.toList)), .bool (outB (combO (· * ·) s.data.toList t.data.toList))])) w') :
    Calls Tryz.prog 18 #[.string s, .string t] w R := by
  have HR := Lib.hid hR; clear hR
  have HE := Lib.hid hE; clear hE
  have HTAB := Lib.hid htab; clear htab
  go_enter Tryz.func18, Tryz.ntmps18
  go_wp2_with fail
  refine combMul_any s t _ HE.out HTAB.out _ ?_
  intro w1 hb1
  have HB1 := Lib.hid hb1
  obtain ⟨S, hS⟩ : ∃ S, S = outS (combO (· * ·) s.data.toList t.data.toList) := ⟨_, rfl⟩
  obtain ⟨B, hB⟩ : ∃ B, B = outB (combO (· * ·) s.data.toList t.data.toList) := ⟨_, rfl⟩
  rw [← hS, ← hB] at HR ⊢
  clear hS hB hb1
  dsimp only
  go_wp2
  first | go_ret | skip
  exact HR.out _ HB1.out

set_option maxRecDepth 100000 in
set_option maxHeartbeats 2000000 in
theorem spec_mulNumbers (s t : ByteArray) (w : World) (hs : s.size ≤ 1100000) (ht : t.size ≤ 1100000) (R : Ending → World → Prop)
    (hR : ∀ w', Below w.heap.size w w' → R (.returned (.tuple #[.string (outS (combO (· * ·) s.data.toList t.data.toList)), .bool (outB (combO (· * ·) s.data.toList t.data.toList))])) w') :
    Calls Tryz.prog 17 #[.string s, .string t] w R := by
  have HR := Lib.hid hR; clear hR
  have HS := Lib.hid (And.intro hs ht)
  clear hs ht
  go_enter Tryz.func17, Tryz.ntmps17
  go_wp2_with fail
  refine isq_any s _ HS.out.1 _ ?_
  intro w1 hb1
  have HB1 := Lib.hid hb1
  clear hb1
  cases ha : numO s.data.toList with
  | none =>
    rw [combO_none (.inl ha)] at HR
    rw [Option.isSome_none]
    clear ha
    dsimp only
    go_wp2
    first | go_ret | skip
    exact HR.out _ HB1.out
  | some a =>
    have HA := Lib.hid ha
    rw [Option.isSome_some]
    clear ha
    dsimp only
    go_wp2_with fail
    refine isq_any t _ HS.out.2 _ ?_
    intro w2 hb2
    have HB2 := Lib.hid (HB1.out.trans (hb2.mono HB1.out.size))
    clear hb2
    cases hb : numO t.data.toList with
    | none =>
      rw [combO_none (.inr hb)] at HR
      rw [Option.isSome_none]
      clear hb
      dsimp only
      go_wp2
      first | go_ret | skip
      exact HR.out _ HB2.out
    | some b =>
      have HBB := Lib.hid hb
      rw [combO_some HA.out hb] at HR
      rw [Option.isSome_some]
      have HLA := Lib.hid (few_len (numO_few HA.out) (B := 10000) (by omega))
      have HLB := Lib.hid (few_len (numO_few hb) (B := 10000) (by omega))
      clear hb
      dsimp only
      go_wp2_with fail
      refine ofq_any s a _ HA.out _ ?_
      intro va w3 hqa hb3
      obtain ⟨na, a1, n1, c1, a2, n2, c2, rfl, _, _⟩ := hqa.parts
      have HQA := Lib.hid hqa
      have HB3 := Lib.hid (HB2.out.trans (hb3.mono HB2.out.size))
      clear hqa hb3
      dsimp only
      go_wp2_with fail
      refine ofq_any t b _ HBB.out _ ?_
      intro vb w4 hqb hb4
      obtain ⟨nb, a3, n3, c3, a4, n4, c4, rfl, _, _⟩ := hqb.parts
      have HQB := Lib.hid hqb
      have HQA' := Lib.hid (HQA.out.later hb4 (Nat.le_refl _))
      have HB4 := Lib.hid (HB3.out.trans (hb4.mono HB3.out.size))
      clear hqb hb4
      dsimp only
      go_wp2_with fail
      refine mulQ_any _ _ a b _ HQA'.out HQB.out (Nat.le_trans HLA.out.1 (by omega)) (Nat.le_trans HLA.out.2 (by omega)) (Nat.le_trans HLB.out.1 (by omega)) (Nat.le_trans HLB.out.2 (by omega)) _ ?_
      intro vr w5 hr hb5
      have HLQ : Hid ((dig 10000 (a * b).num.natAbs).length ≤ 1000000000 ∧ (dig 10000 (a * b).den).length ≤ 1000000000) := Lib.hid (by
        rw [rmul_num, rmul_den, Int.natAbs_mul, tdiv_abs, tdiv_abs]
        constructor
        · refine Nat.le_trans (dig_mul_len (by omega) (Nat.le_trans (dig_mono (by omega) (Nat.div_le_self _ _)) HLA.out.1) (Nat.le_trans (dig_mono (by omega) (Nat.div_le_self _ _)) HLB.out.1)) (by omega)
        · refine Nat.le_trans (dig_mul_len (by omega) (Nat.le_trans (dig_mono (by omega) (Nat.div_le_self _ _)) HLA.out.2) (Nat.le_trans (dig_mono (by omega) (Nat.div_le_self _ _)) HLB.out.2)) (by omega))
      obtain ⟨q, hq⟩ : ∃ q : Rat, q = a * b := ⟨_, rfl⟩
      rw [← hq] at HR
      rw [← hq] at hr HLQ
      obtain ⟨nr, a5, n5, c5, a6, n6, c6, rfl, _, _⟩ := hr.parts
      have HQR := Lib.hid hr
      have HB5 := Lib.hid (HB4.out.trans (hb5.mono HB4.out.size))
      clear hr hb5 hq
      dsimp only
      go_wp2_with fail
      refine give_o _ q _ HQR.out HLQ.out.1 HLQ.out.2 _ ?_
      intro w6 hb6
      have HB6 := Lib.hid (HB5.out.trans (hb6.mono HB5.out.size))
      obtain ⟨S, hS⟩ : ∃ S, S = outS (some q) := ⟨_, rfl⟩
      obtain ⟨B, hB⟩ : ∃ B, B = outB (some q) := ⟨_, rfl⟩
      rw [← hS, ← hB] at HR ⊢
      clear hS hB hb6
      dsimp only
      go_wp2
      first | go_ret | skip
      exact HR.out _ HB6.out

set_option maxRecDepth 100000 in
set_option maxHeartbeats 1000000 in
theorem law_mulNumbers (s t : ByteArray) (w : World) (hE : Env w) (htab : Lib.TabIs Tryz.prog w "internal/strconv.uint64pow10" .u64 Lib.pow10Tab) (R : Ending → World → Prop)
    (hR : ∀ w', Below w.heap.size w w' → R (.returned (.bool true)) w') :
    Calls Tryz.prog 5 #[.string s, .string t] w R := by
  have HR := Lib.hid hR; clear hR
  have HE := Lib.hid hE; clear hE
  have HTAB := Lib.hid htab; clear htab
  by_cases hs : s.size ≤ 1048576
  · have hsi : ¬ (1048576 : Int) < (s.size : Int) := by omega
    by_cases ht : t.size ≤ 1048576
    · have hti : ¬ (1048576 : Int) < (t.size : Int) := by omega
      have HS := Lib.hid (And.intro hs ht)
      clear hs ht
      go_enter Tryz.func5, Tryz.ntmps5
      go_wp2_with fail
      refine spec_mulNumbers s t _ (by have := HS.out; omega) (by have := HS.out; omega) _ ?_
      intro w1 hb1
      have HB1 := Lib.hid hb1
      obtain ⟨S, hS⟩ : ∃ S, S = outS (combO (· * ·) s.data.toList t.data.toList) := ⟨_, rfl⟩
      obtain ⟨B, hB⟩ : ∃ B, B = outB (combO (· * ·) s.data.toList t.data.toList) := ⟨_, rfl⟩
      rw [← hS, ← hB]
      have HSS := Lib.hid hS
      have HBB := Lib.hid hB
      clear hb1 hS hB
      dsimp only
      go_wp2_with fail
      refine impl_mulNumbers s t _ (HE.out.later HB1.out (Nat.le_refl _)) (tab_later HTAB.out HB1.out (Nat.le_refl _)) _ ?_
      intro w2 hb2
      rw [← HSS.out, ← HBB.out]
      have HB2 := Lib.hid (HB1.out.trans (hb2.mono HB1.out.size))
      clear hb2
      dsimp only
      cases B <;>
      · go_wp2
        first | go_ret | skip
        exact HR.out _ HB2.out
    · have hti : (1048576 : Int) < (t.size : Int) := by omega
      clear ht hs
      go_enter Tryz.func5, Tryz.ntmps5
      go_wp2
      first | go_ret | skip
      exact HR.out _ (Below.refl _ _)
  · have hsi : (1048576 : Int) < (s.size : Int) := by omega
    clear hs
    go_enter Tryz.func5, Tryz.ntmps5
    go_wp2
    first | go_ret | skip
    exact HR.out _ (Below.refl _ _)
end Go.Proofs.YtbglfendcpbjpaaGreatDoor
