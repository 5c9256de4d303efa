/- Contracts of functions of the program and of the model: Scaled, RatM, Limbs, OverN, TimesI, Read2, TimesQ, Bnd, FitQ, Give, Chunk, FmtU, Bld, DigN, TextI, Out, Comb, PlusN, PlusI, PlusQ, Lst, Tx. -/
import Derived.Test.YtnfehccicnpbpaaGreatDoorPk5
import Derived.Deep.RegionHeld3
import Derived.Lib.AppendIntMem
import Derived.Lib.ItoaMem
import Derived.Shelf.Strings.Builder1
set_option linter.all false
set_option linter.unusedVariables false
set_option linter.unusedSimpArgs false
set_option linter.unnecessarySimpa false
set_option linter.deprecated false
namespace Go.Proofs.YtnfehccicnpbpaaGreatDoor
open Go Go.RowKit

theorem sgn_of (z : Int) : z = sgn (decide (z < 0)) z.natAbs := by
  unfold sgn
  by_cases h : z < 0
  · simp [h]; omega
  · simp [h]; omega

theorem sgn_mul (z : Int) (b : Nat) : sgn (decide (z < 0)) (z.natAbs * b) = z * (b : Int) := by
  have h := sgn_of z
  unfold sgn at *
  by_cases hz : z < 0
  · simp [hz] at h ⊢
    rw [← Int.neg_mul, ← h]
  · simp [hz] at h ⊢
    rw [← h]

theorem IsI.parts {w : World} {v : Value} {z : Int} (h : IsI w v z) : ∃ ng a n c, ng = decide (z < 0) ∧ v = .agg #[.bool ng, .slice a n c] ∧ IsN w (.slice a n c) z.natAbs := by
  obtain ⟨s, rfl, hs⟩ := h
  obtain ⟨a, n, c, rfl, hs'⟩ := hs.op
  exact ⟨_, a, n, c, rfl, rfl, hs'⟩

theorem IsI.mk {w : World} {s : Value} {z : Int} {ng : Bool} (hng : ng = decide (z < 0)) (hs : IsN w s z.natAbs) : IsI w (.agg #[.bool ng, s]) z := ⟨s, by rw [hng], hs⟩

theorem IsR.parts {w : World} {v : Value} {q : Rat} (h : IsR w v q) : ∃ ng a1 n1 c1 a2 n2 c2, ng = decide (q.num < 0) ∧ v = .agg #[.bool ng, .slice a1 n1 c1, .slice a2 n2 c2] ∧ IsN w (.slice a1 n1 c1) q.num.natAbs ∧ IsN w (.slice a2 n2 c2) q.den := by
  obtain ⟨s1, s2, rfl, h1, h2⟩ := h
  obtain ⟨a1, n1, c1, rfl, h1'⟩ := h1.op
  obtain ⟨a2, n2, c2, rfl, h2'⟩ := h2.op
  exact ⟨_, a1, n1, c1, a2, n2, c2, rfl, rfl, h1', h2'⟩

set_option maxRecDepth 100000 in
set_option maxHeartbeats 4000000 in
theorem scaled_any (va vb : Value) (z : Int) (b : Nat) (w : World) (ha : IsI w va z) (hb : IsN w vb b) (hla : (dig W64 z.natAbs).length ≤ 10000000) (hlb : (dig W64 b).length ≤ 10000000) (R : Ending → World → Prop)
    (hR : ∀ v' w', IsI w' v' (z * (b : Int)) → Below w.heap.size w w' → R (.returned v') w') :
    Calls Tryz.prog 182 #[va, vb] w R := by
  have HR := Lib.hid hR; clear hR
  obtain ⟨ng, a1, n1, c1, hng, rfl, hn1⟩ := ha.parts
  obtain ⟨a2, n2, c2, rfl, hn2⟩ := hb.op
  have HNG := Lib.hid hng
  obtain ⟨L, hL⟩ : ∃ L, L = (w.alloc (.cells #[.bool ng, .slice a1 n1 c1] 98)).alloc (.cells #[.bool false, .slice none 0 0] 98) := ⟨_, rfl⟩
  have hb1 : Below (w.heap.size + 1) (w.alloc (.cells #[.bool ng, .slice a1 n1 c1] 98)) L := by rw [hL]; exact (Below.refl _ _).alloc (by simp) _
  have B0 : Box2 L w.heap.size (.bool ng) (.slice a1 n1 c1) 98 := (Box2.made w _ _ _).later hb1 (by omega)
  have B1 : Box2 L (w.heap.size + 1) (.bool false) (.slice none 0 0) 98 := by
    have := Box2.made (w.alloc (.cells #[.bool ng, .slice a1 n1 c1] 98)) (.bool false) (.slice none 0 0) 98
    rw [World.size_alloc, ← hL] at this; exact this
  have HEXT : Hid (Below w.heap.size w L) := Lib.hid (by rw [hL]; exact ((Below.refl w.heap.size w).alloc (Nat.le_refl _) _).alloc (by simp) _)
  have hLs : L.heap.size = w.heap.size + 2 := by rw [hL]; simp
  have hk : w.heap.size + 1 < L.heap.size := by omega
  have HL := Lib.hid hL
  have Y1 := Lib.hid (hn1.later HEXT.out (Nat.le_refl _))
  have Y2 := Lib.hid (hn2.later HEXT.out (Nat.le_refl _))
  have HLN := Lib.hid (And.intro hla hlb)
  have HSOF : Hid (∀ w', Below (w.heap.size + 1) L w' → (Below (w.heap.size + 1) L w' ∧ w'.cell? ⟨w.heap.size, 0, none⟩ = some (.bool ng) ∧ w'.cell? ⟨w.heap.size, 1, none⟩ = some (.slice a1 n1 c1))) :=
    Lib.hid fun w' hb => ⟨hb, (B0.later hb (by omega)).cells.1, (B0.later hb (by omega)).cells.2.1⟩
  have HB1 := Lib.hid B1
  have HK := Lib.hid hk
  clear hng ha hb hn1 hn2 hla hlb hb1 B0 B1 hL hLs hk
  go_enter Tryz.func182, Tryz.ntmps182
  go_wp2_with fail
  rw [← HL.out]
  go_region_held3 (fun w' => Below (w.heap.size + 1) L w' ∧ w'.cell? ⟨w.heap.size, 0, none⟩ = some (.bool ng) ∧ w'.cell? ⟨w.heap.size, 1, none⟩ = some (.slice a1 n1 c1))
    (first
      | exact HSOF.out _ HQ2.out
      | exact HSOF.out _ HQ1.out
      | exact HSOF.out _ (Below.refl _ _).drew
      | exact HSOF.out _ ((HQ2.out.setCell (by simp) _).setCell (by simp) _))
    (first
      | (go_at_call 153; refine integerOf_z ng v1 (z.natAbs * b) _ HV1.out _ ?_; intro v2 w2 hv2 hb2; rw [HNG.out, sgn_mul] at hv2; obtain ⟨m2, a5, m5, c5, hm2, rfl, hn5⟩ := hv2.parts; have HV5 := Lib.hid hn5; have HM2 := Lib.hid hm2; have HT2 := Lib.hid (HT1.out.trans (hb2.mono HT1.out.size)); have HQ2 := Lib.hid (HT2.out.mono (Nat.le_of_lt HK.out)); have d2 := HB1.out.later HT2.out HK.out; obtain ⟨hR0, hR1, hR2, hR3⟩ := d2.cells; have HD2 := Lib.hid d2; clear hv2 hb2 d2 hn5 hm2; dsimp only)
      | (go_at_call 151; refine ntimes_any _ _ z.natAbs b _ (Y1.out.later (Below.refl _ _).drew (Nat.le_refl _)) (Y2.out.later (Below.refl _ _).drew (Nat.le_refl _)) (Nat.le_trans HLN.out.1 (by omega)) (Nat.le_trans HLN.out.2 (by omega)) _ ?_; intro v1 w1 hv1 hb1; have HV1 := Lib.hid hv1; have HT1 : Hid (Below L.heap.size L w1) := Lib.hid (below_unDrew hb1); have HQ1 := Lib.hid (HT1.out.mono (Nat.le_of_lt HK.out)); clear hv1 hb1; dsimp only))
  all_goals
    go_wp2
    refine bodyPost_ret_at (by simp [results, Tryz.results182, go_sem, hR0, hR1, hR2, hR3] <;> rfl) rfl ?_
    refine HR.out _ _ (IsI.mk HM2.out (HV5.out.set2 (HD2.out.noInt rfl rfl) _ _ rfl)) ((((HEXT.out.trans (HT2.out.mono HEXT.out.size)).setCell (by simp) _).setCell (by simp) _))
end Go.Proofs.YtnfehccicnpbpaaGreatDoor

namespace Go.Proofs.YtnfehccicnpbpaaGreatDoor

theorem rmul_num (a b : Rat) : (a * b).num = a.num.tdiv (Nat.gcd a.num.natAbs b.den) * b.num.tdiv (Nat.gcd b.num.natAbs a.den) := by
  show (Rat.mul a b).num = _
  unfold Rat.mul
  simp only [Int.divExact_eq_tdiv]

theorem rmul_den (a b : Rat) : (a * b).den = a.den / Nat.gcd b.num.natAbs a.den * (b.den / Nat.gcd a.num.natAbs b.den) := by
  show (Rat.mul a b).den = _
  unfold Rat.mul
  simp only [Nat.divExact_eq_div]

/-- what the program's sum has above, before it is reduced -/
def addTop (a b : Rat) : Int := a.num * ((b.den / Nat.gcd a.den b.den : Nat) : Int) + b.num * ((a.den / Nat.gcd a.den b.den : Nat) : Int)

theorem radd_parts (a b : Rat) : (a + b).num = (addTop a b).tdiv (Nat.gcd (addTop a b).natAbs (Nat.gcd a.den b.den)) ∧
    (a + b).den = a.den / Nat.gcd a.den b.den * (b.den / Nat.gcd (addTop a b).natAbs (Nat.gcd a.den b.den)) := by
  have hgb : Nat.gcd a.den b.den ∣ b.den := Nat.gcd_dvd_right _ _
  have h1 : Nat.gcd (addTop a b).natAbs (Nat.gcd a.den b.den) ∣ b.den := Nat.dvd_trans (Nat.gcd_dvd_right _ _) hgb
  constructor
  · show (Rat.add a b).num = _
    unfold Rat.add
    simp only []
    split
    · rename_i hg
      simp only [addTop, hg, Nat.div_one, Nat.gcd_one_right, Int.natCast_one, Int.tdiv_one]
    · unfold Rat.maybeNormalize
      split
      · rename_i hg h
        have h' : Nat.gcd (addTop a b).natAbs (Nat.gcd a.den b.den) = 1 := h
        rw [h']
        simp only [addTop, Int.natCast_one, Int.tdiv_one]
      · simp only [Int.divExact_eq_tdiv]
        rfl
  · show (Rat.add a b).den = _
    unfold Rat.add
    simp only []
    split
    · rename_i hg
      simp only [addTop, hg, Nat.div_one, Nat.gcd_one_right]
    · unfold Rat.maybeNormalize
      split
      · rename_i hg h
        have h' : Nat.gcd (addTop a b).natAbs (Nat.gcd a.den b.den) = 1 := h
        rw [h', Nat.div_one]
      · simp only [Nat.divExact_eq_div]
        exact Nat.mul_div_assoc _ h1

theorem sgn_tdiv (z : Int) (d : Nat) : (if z < 0 then -((z.natAbs / d : Nat) : Int) else ((z.natAbs / d : Nat) : Int)) = z.tdiv (d : Int) := by
  by_cases h : z < 0
  · obtain ⟨n, rfl⟩ : ∃ n : Nat, z = -(n : Int) := ⟨z.natAbs, by omega⟩
    rw [if_pos h, Int.neg_tdiv, Int.natAbs_neg, Int.natAbs_natCast]
    rfl
  · obtain ⟨n, rfl⟩ : ∃ n : Nat, z = (n : Int) := ⟨z.natAbs, by omega⟩
    rw [if_neg h, Int.natAbs_natCast]
    rfl

theorem floor_neg (n d : Nat) (hd : 0 < d) : (-(n : Int)) / (d : Int) = -((n / d + (if n % d = 0 then 0 else 1) : Nat) : Int) := by
  have hdm := Nat.div_add_mod n d
  have hlt := Nat.mod_lt n hd
  by_cases h : n % d = 0
  · rw [if_pos h, Nat.add_zero]
    refine ((Int.ediv_emod_unique (by omega)).2 ⟨?_, Int.le_refl 0, by omega⟩).1
    rw [h, Nat.add_zero] at hdm
    have e : (n : Int) = (d : Int) * ((n / d : Nat) : Int) := by rw [← Int.natCast_mul, hdm]
    rw [Int.mul_neg]
    omega
  · rw [if_neg h]
    refine ((Int.ediv_emod_unique (r := ((d - n % d : Nat) : Int)) (by omega)).2 ⟨?_, by omega, by omega⟩).1
    have e : (n : Int) = (d : Int) * ((n / d : Nat) : Int) + ((n % d : Nat) : Int) := by
      rw [← Int.natCast_mul, ← Int.natCast_add, hdm]
    rw [Int.natCast_add, Int.mul_neg, Int.mul_add]
    omega
end Go.Proofs.YtnfehccicnpbpaaGreatDoor

namespace Go.Proofs.YtnfehccicnpbpaaGreatDoor
open Go Go.RowKit

/-- a product has few limbs where its factors have -/
theorem mul_limbs (x y N M : Nat) (hx : (dig W64 x).length ≤ N) (hy : (dig W64 y).length ≤ M) : (dig W64 (x * y)).length ≤ N + M := by
  apply dig_length_le W64_two
  have h1 := Nat.lt_of_lt_of_le (lt_pow_dig W64_two x) (Nat.pow_le_pow_right (by rw [W64_eq]; omega) hx)
  have h2 := Nat.lt_of_lt_of_le (lt_pow_dig W64_two y) (Nat.pow_le_pow_right (by rw [W64_eq]; omega) hy)
  rw [Nat.pow_add]
  exact Nat.mul_lt_mul'' h1 h2

end Go.Proofs.YtnfehccicnpbpaaGreatDoor

namespace Go.Proofs.YtnfehccicnpbpaaGreatDoor
open Go Go.RowKit

set_option maxRecDepth 100000 in
set_option maxHeartbeats 1000000 in
theorem nover_any (va vb : Value) (a b : Nat) (w : World) (ha : IsN w va a) (hb : IsN w vb b) (hla : (dig W64 a).length ≤ 10000000) (hlb : (dig W64 b).length ≤ 10000000) (hb0 : b ≠ 0) (R : Ending → World → Prop)
    (hR : ∀ v' w', IsN w' v' (a / b) → Below w.heap.size w w' → R (.returned v') w') :
    Calls Tryz.prog 166 #[va, vb] w R := by
  have HR := Lib.hid hR; clear hR
  obtain ⟨a1, n1, c1, rfl, ha'⟩ := ha.op
  obtain ⟨a2, n2, c2, rfl, hb'⟩ := hb.op
  have HA := Lib.hid ha'
  have HB := Lib.hid hb'
  have HLL := Lib.hid (And.intro hla (And.intro hlb hb0))
  clear ha hb ha' hb' hla hlb hb0
  go_enter Tryz.func166, Tryz.ntmps166
  go_wp2_with fail
  refine none_any _ b _ HB.out _ ?_
  by_cases h1 : b = 1
  · have hd : decide (b = 1) = true := decide_eq_true h1
    have HD : Hid (a = a / b) := Lib.hid (by rw [h1, Nat.div_one])
    rw [hd]
    clear hd h1
    dsimp only
    go_wp2
    first | go_ret | skip
    exact HR.out _ _ (HA.out.cast HD.out) (Below.refl _ _)
  · have hd : decide (b = 1) = false := decide_eq_false h1
    rw [hd]
    clear hd h1
    dsimp only
    go_wp2_with fail
    refine divide_any _ _ a b _ HA.out HB.out HLL.out.1 HLL.out.2.1 HLL.out.2.2 _ ?_
    intro v1 v2 w1 hv1 hv2 hb1
    obtain ⟨a3, n3, c3, rfl, hv1'⟩ := hv1.op
    obtain ⟨a4, n4, c4, rfl, hv2'⟩ := hv2.op
    have HV1 := Lib.hid hv1'
    have HB1 := Lib.hid hb1
    clear hv1 hv2 hv1' hv2' hb1
    dsimp only
    go_wp2
    first | go_ret | skip
    exact HR.out _ _ HV1.out HB1.out

theorem sgn_div (z : Int) (d : Nat) : sgn (decide (z < 0)) (z.natAbs / d) = z.tdiv (d : Int) := by
  rw [← sgn_tdiv]
  unfold sgn
  by_cases h : z < 0
  · rw [decide_eq_true h, if_pos rfl, if_pos h]
  · rw [decide_eq_false h, if_neg (by decide), if_neg h]

end Go.Proofs.YtnfehccicnpbpaaGreatDoor

namespace Go.Proofs.YtnfehccicnpbpaaGreatDoor
open Go Go.RowKit

theorem sgn_times (a b : Int) : sgn (decide (a < 0) != decide (b < 0)) (a.natAbs * b.natAbs) = a * b := by
  by_cases ha : a < 0
  · obtain ⟨n, rfl⟩ : ∃ n : Nat, a = -(n : Int) := ⟨a.natAbs, by omega⟩
    by_cases hb : b < 0
    · obtain ⟨m, rfl⟩ : ∃ m : Nat, b = -(m : Int) := ⟨b.natAbs, by omega⟩
      rw [decide_eq_true ha, decide_eq_true hb, Int.natAbs_neg, Int.natAbs_neg, Int.natAbs_natCast, Int.natAbs_natCast, Int.neg_mul_neg]
      simp [sgn]
    · obtain ⟨m, rfl⟩ : ∃ m : Nat, b = (m : Int) := ⟨b.natAbs, by omega⟩
      rw [decide_eq_true ha, decide_eq_false hb, Int.natAbs_neg, Int.natAbs_natCast, Int.natAbs_natCast, Int.neg_mul]
      simp [sgn]
  · obtain ⟨n, rfl⟩ : ∃ n : Nat, a = (n : Int) := ⟨a.natAbs, by omega⟩
    by_cases hb : b < 0
    · obtain ⟨m, rfl⟩ : ∃ m : Nat, b = -(m : Int) := ⟨b.natAbs, by omega⟩
      rw [decide_eq_false ha, decide_eq_true hb, Int.natAbs_neg, Int.natAbs_natCast, Int.natAbs_natCast, Int.mul_neg]
      simp [sgn]
    · obtain ⟨m, rfl⟩ : ∃ m : Nat, b = (m : Int) := ⟨b.natAbs, by omega⟩
      rw [decide_eq_false ha, decide_eq_false hb, Int.natAbs_natCast, Int.natAbs_natCast]
      simp [sgn]

set_option maxRecDepth 100000 in
set_option maxHeartbeats 4000000 in
theorem itimes_any (va vb : Value) (a b : Int) (w : World) (ha : IsI w va a) (hb : IsI w vb b) (hla : (dig W64 a.natAbs).length ≤ 10000000) (hlb : (dig W64 b.natAbs).length ≤ 10000000) (R : Ending → World → Prop)
    (hR : ∀ v' w', IsI w' v' (a * b) → Below w.heap.size w w' → R (.returned v') w') :
    Calls Tryz.prog 110 #[va, vb] w R := by
  have HR := Lib.hid hR; clear hR
  obtain ⟨ng, a1, n1, c1, hng, rfl, hn1⟩ := ha.parts
  obtain ⟨mg, a2, n2, c2, hmg, rfl, hn2⟩ := hb.parts
  have HNG := Lib.hid hng
  have HMG := Lib.hid hmg
  obtain ⟨L, hL⟩ : ∃ L, L = ((w.alloc (.cells #[.bool ng, .slice a1 n1 c1] 98)).alloc (.cells #[.bool mg, .slice a2 n2 c2] 98)).alloc (.cells #[.bool false, .slice none 0 0] 98) := ⟨_, rfl⟩
  have HEXT : Hid (Below w.heap.size w L) := Lib.hid (by rw [hL]; exact (((Below.refl w.heap.size w).alloc (Nat.le_refl _) _).alloc (by simp) _).alloc (by simp; omega) _)
  have hLs : L.heap.size = w.heap.size + 3 := by rw [hL]; simp
  have B0 : Box2 L w.heap.size (.bool ng) (.slice a1 n1 c1) 98 := by rw [hL]; exact ((Box2.made w _ _ _).alloc _).alloc _
  have B1 : Box2 L (w.heap.size + 1) (.bool mg) (.slice a2 n2 c2) 98 := by
    have := (Box2.made (w.alloc (.cells #[.bool ng, .slice a1 n1 c1] 98)) (.bool mg) (.slice a2 n2 c2) 98).alloc (.cells #[.bool false, .slice none 0 0] 98)
    rw [World.size_alloc, ← hL] at this; exact this
  have B2 : Box2 L (w.heap.size + 1 + 1) (.bool false) (.slice none 0 0) 98 := by
    have := Box2.made ((w.alloc (.cells #[.bool ng, .slice a1 n1 c1] 98)).alloc (.cells #[.bool mg, .slice a2 n2 c2] 98)) (.bool false) (.slice none 0 0) 98
    rw [World.size_alloc, World.size_alloc, ← hL] at this; exact this
  have hk : w.heap.size + 2 < L.heap.size := by omega
  have HL := Lib.hid hL
  have Y1 := Lib.hid (hn1.later HEXT.out (Nat.le_refl _))
  have Y2 := Lib.hid (hn2.later HEXT.out (Nat.le_refl _))
  have HLN := Lib.hid (And.intro hla hlb)
  have HSOF : Hid (∀ w', Below (w.heap.size + 2) L w' → (Below (w.heap.size + 2) L w' ∧ (w'.cell? ⟨w.heap.size, 0, none⟩ = some (.bool ng) ∧ w'.cell? ⟨w.heap.size, 1, none⟩ = some (.slice a1 n1 c1)) ∧ (w'.cell? ⟨w.heap.size + 1, 0, none⟩ = some (.bool mg) ∧ w'.cell? ⟨w.heap.size + 1, 1, none⟩ = some (.slice a2 n2 c2)))) :=
    Lib.hid fun w' hb => ⟨hb, ⟨(B0.later hb (by omega)).cells.1, (B0.later hb (by omega)).cells.2.1⟩, ⟨(B1.later hb (by omega)).cells.1, (B1.later hb (by omega)).cells.2.1⟩⟩
  have HB1 := Lib.hid B2
  have HK := Lib.hid hk
  clear hng hmg ha hb hn1 hn2 hla hlb B0 B1 B2 hL hLs hk
  go_enter Tryz.func110, Tryz.ntmps110
  go_wp2_with fail
  rw [← HL.out]
  go_region_held3 (fun w' => Below (w.heap.size + 2) L w' ∧ (w'.cell? ⟨w.heap.size, 0, none⟩ = some (.bool ng) ∧ w'.cell? ⟨w.heap.size, 1, none⟩ = some (.slice a1 n1 c1)) ∧ (w'.cell? ⟨w.heap.size + 1, 0, none⟩ = some (.bool mg) ∧ w'.cell? ⟨w.heap.size + 1, 1, none⟩ = some (.slice a2 n2 c2)))
    (first
      | exact HSOF.out _ HQ2.out
      | exact HSOF.out _ HQ1.out
      | exact HSOF.out _ (Below.refl _ _).drew
      | exact HSOF.out _ ((HQ2.out.setCell (by simp) _).setCell (by simp) _))
    (first
      | (go_at_call 153; refine integerOf_z (ng != mg) v1 (a.natAbs * b.natAbs) _ HV1.out _ ?_; intro v2 w2 hv2 hb2; rw [HNG.out, HMG.out, sgn_times] at hv2; obtain ⟨m2, a5, m5, c5, hm2, rfl, hn5⟩ := hv2.parts; have HV5 := Lib.hid hn5; have HM2 := Lib.hid hm2; have HT2 := Lib.hid (HT1.out.trans (hb2.mono HT1.out.size)); have HQ2 := Lib.hid (HT2.out.mono (Nat.le_of_lt HK.out)); have d2 := HB1.out.later HT2.out HK.out; obtain ⟨hR0, hR1, hR2, hR3⟩ := d2.cells; have HD2 := Lib.hid d2; clear hv2 hb2 d2 hn5 hm2; dsimp only)
      | (go_at_call 151; refine ntimes_any _ _ a.natAbs b.natAbs _ (Y1.out.later (Below.refl _ _).drew (Nat.le_refl _)) (Y2.out.later (Below.refl _ _).drew (Nat.le_refl _)) (Nat.le_trans HLN.out.1 (by omega)) (Nat.le_trans HLN.out.2 (by omega)) _ ?_; intro v1 w1 hv1 hb1; have HV1 := Lib.hid hv1; have HT1 : Hid (Below L.heap.size L w1) := Lib.hid (below_unDrew hb1); have HQ1 := Lib.hid (HT1.out.mono (Nat.le_of_lt HK.out)); clear hv1 hb1; dsimp only))
  all_goals
    go_wp2
    refine bodyPost_ret_at (by simp [results, Tryz.results110, go_sem, hR0, hR1, hR2, hR3] <;> rfl) rfl ?_
    refine HR.out _ _ (IsI.mk HM2.out (HV5.out.set2 (HD2.out.noInt rfl rfl) _ _ rfl)) ((((HEXT.out.trans (HT2.out.mono HEXT.out.size)).setCell (show w.heap.size ≤ w.heap.size + 1 + 1 by omega) _).setCell (show w.heap.size ≤ w.heap.size + 1 + 1 by omega) _))

end Go.Proofs.YtnfehccicnpbpaaGreatDoor

namespace Go.Proofs.YtnfehccicnpbpaaGreatDoor
open Go Go.RowKit

theorem IsR.drew {w : World} {v : Value} {q : Rat} (h : IsR w v q) : IsR w.drew v q := h
theorem NoInt.set3 {w : World} {b c : Nat} (h : NoInt w b) {y0 y1 y2 : Value} (h0 : notInt y0 = true) (h1 : notInt y1 = true) (h2 : notInt y2 = true) : NoInt (((w.setCell ⟨c, 0, none⟩ y0).setCell ⟨c, 1, none⟩ y1).setCell ⟨c, 2, none⟩ y2) b :=
  ((h.set 0 c h0).set 1 c h1).set 2 c h2
theorem IsR.set3 {w : World} {v : Value} {q : Rat} (h : IsR w v q) {b : Nat} (hb : NoInt w b) (y0 y1 y2 : Value) (h0 : notInt y0 = true) (h1 : notInt y1 = true) : IsR (((w.setCell ⟨b, 0, none⟩ y0).setCell ⟨b, 1, none⟩ y1).setCell ⟨b, 2, none⟩ y2) v q := by
  obtain ⟨s1, s2, e, h3, h4⟩ := h
  exact ⟨s1, s2, e, h3.set3 hb _ _ _ h0 h1, h4.set3 hb _ _ _ h0 h1⟩

end Go.Proofs.YtnfehccicnpbpaaGreatDoor

namespace Go.Proofs.YtnfehccicnpbpaaGreatDoor
open Go Go.RowKit

theorem dig_mono {B a b : Nat} (hB : 2 ≤ B) (h : a ≤ b) : (dig B a).length ≤ (dig B b).length :=
  dig_length_le hB _ _ (Nat.lt_of_le_of_lt h (lt_pow_dig hB b))

theorem gcd_le_den (x d : Nat) (hd : d ≠ 0) : Nat.gcd x d ≤ d ∧ Nat.gcd x d ≠ 0 :=
  ⟨Nat.gcd_le_right _ (by omega), fun h => hd (Nat.gcd_eq_zero_iff.1 h).2⟩

theorem tdiv_abs (z : Int) (d : Nat) : (z.tdiv (d : Int)).natAbs = z.natAbs / d := by
  rw [Int.natAbs_tdiv, Int.natAbs_natCast]; rfl

end Go.Proofs.YtnfehccicnpbpaaGreatDoor

namespace Go.Proofs.YtnfehccicnpbpaaGreatDoor

/-- a fraction with fewer than N digits above and below -/
def Bd (N : Nat) (q : Rat) : Prop := q.num.natAbs < 10 ^ N ∧ q.den < 10 ^ N
theorem Bd.of {q : Rat} (h : few q) : Bd 60 q := few_lt h
theorem Bd.mono {N M : Nat} {q : Rat} (h : Bd N q) (hm : N ≤ M) : Bd M q :=
  ⟨Nat.lt_of_lt_of_le h.1 (Nat.pow_le_pow_right (by omega) hm), Nat.lt_of_lt_of_le h.2 (Nat.pow_le_pow_right (by omega) hm)⟩
theorem Bd.len {N : Nat} {q : Rat} (h : Bd N q) {B : Nat} (hB : 10 ≤ B) : (dig B q.num.natAbs).length ≤ N ∧ (dig B q.den).length ≤ N :=
  ⟨dig_length_le (by omega) _ _ (Nat.lt_of_lt_of_le h.1 (Nat.pow_le_pow_left hB N)), dig_length_le (by omega) _ _ (Nat.lt_of_lt_of_le h.2 (Nat.pow_le_pow_left hB N))⟩
theorem Bd.zero : Bd 1 0 := ⟨by decide, by decide⟩
theorem Bd.one : Bd 1 1 := ⟨by decide, by decide⟩

theorem tdiv_le (z : Int) (d : Nat) : (z.tdiv (d : Int)).natAbs ≤ z.natAbs := by
  rw [Int.natAbs_tdiv, Int.natAbs_natCast]; exact Nat.div_le_self _ _

theorem Bd.mul {N M : Nat} {a b : Rat} (ha : Bd N a) (hb : Bd M b) : Bd (N + M) (a * b) := by
  unfold Bd
  rw [rmul_num, rmul_den, Nat.pow_add, Int.natAbs_mul]
  exact ⟨Nat.mul_lt_mul'' (Nat.lt_of_le_of_lt (tdiv_le _ _) ha.1) (Nat.lt_of_le_of_lt (tdiv_le _ _) hb.1),
    Nat.mul_lt_mul'' (Nat.lt_of_le_of_lt (Nat.div_le_self _ _) ha.2) (Nat.lt_of_le_of_lt (Nat.div_le_self _ _) hb.2)⟩

theorem Bd.add {N M : Nat} {a b : Rat} (ha : Bd N a) (hb : Bd M b) : Bd (N + M + 1) (a + b) := by
  have hp := radd_parts a b
  unfold Bd
  rw [hp.1, hp.2, Nat.pow_succ, Nat.pow_add]
  have h1 : (a.num * ((b.den / Nat.gcd a.den b.den : Nat) : Int)).natAbs < 10 ^ N * 10 ^ M := by
    rw [Int.natAbs_mul, Int.natAbs_natCast]
    exact Nat.mul_lt_mul'' ha.1 (Nat.lt_of_le_of_lt (Nat.div_le_self _ _) hb.2)
  have h2 : (b.num * ((a.den / Nat.gcd a.den b.den : Nat) : Int)).natAbs < 10 ^ N * 10 ^ M := by
    rw [Int.natAbs_mul, Int.natAbs_natCast, Nat.mul_comm]
    exact Nat.mul_lt_mul'' (Nat.lt_of_le_of_lt (Nat.div_le_self _ _) ha.2) hb.1
  have h3 : a.den / Nat.gcd a.den b.den * (b.den / Nat.gcd (addTop a b).natAbs (Nat.gcd a.den b.den)) < 10 ^ N * 10 ^ M :=
    Nat.mul_lt_mul'' (Nat.lt_of_le_of_lt (Nat.div_le_self _ _) ha.2) (Nat.lt_of_le_of_lt (Nat.div_le_self _ _) hb.2)
  have h4 : (addTop a b).natAbs < 10 ^ N * 10 ^ M + 10 ^ N * 10 ^ M := by
    unfold addTop
    have := Int.natAbs_add_le (a.num * ((b.den / Nat.gcd a.den b.den : Nat) : Int)) (b.num * ((a.den / Nat.gcd a.den b.den : Nat) : Int))
    omega
  have h5 := tdiv_le (addTop a b) (Nat.gcd (addTop a b).natAbs (Nat.gcd a.den b.den))
  generalize 10 ^ N * 10 ^ M = z at *
  exact ⟨by omega, by omega⟩

theorem Bd.neg {N : Nat} {a : Rat} (h : Bd N a) : Bd N (-a) := by
  unfold Bd
  rw [Rat.neg_num, Rat.neg_den, Int.natAbs_neg]
  exact h
theorem Bd.int (n : Nat) (N : Nat) (h : n < 10 ^ N) (hN : 1 ≤ N) : Bd N ((n : Nat) : Rat) := by
  have h2 : 10 ^ 1 ≤ 10 ^ N := Nat.pow_le_pow_right (by omega) hN
  refine ⟨?_, ?_⟩
  · show ((n : Int)).natAbs < _
    rw [Int.natAbs_natCast]; exact h
  · show 1 < _
    omega
theorem sub_bd {N M : Nat} {a b : Rat} (ha : Bd N a) (hb : Bd M b) : Bd (N + M + 1) (a - b) := by
  rw [Rat.sub_eq_add_neg]; exact ha.add hb.neg
end Go.Proofs.YtnfehccicnpbpaaGreatDoor

namespace Go.Proofs.YtnfehccicnpbpaaGreatDoor
open Go Go.RowKit

end Go.Proofs.YtnfehccicnpbpaaGreatDoor

namespace Go.Proofs.YtnfehccicnpbpaaGreatDoor
open Go Go.RowKit

end Go.Proofs.YtnfehccicnpbpaaGreatDoor

namespace Go.Proofs.YtnfehccicnpbpaaGreatDoor
open Go

/-- how many values a chunk has -/
def C19 : Nat := 10000000000000000000
theorem C19_eq : C19 = 10000000000000000000 := rfl
theorem C19_two : 2 ≤ C19 := by rw [C19_eq]; omega
theorem C19_pow : C19 = 10 ^ 19 := by decide

/-- a chunk that is not the first -/
def pad19 (r : Nat) : List UInt8 := List.replicate (19 - (decs r).length) 48 ++ decs r

theorem chr_zero48 : chr 0 = 48 := by decide

theorem val10_pad (xs : List Nat) (k : Nat) : val 10 (xs ++ List.replicate k 0) = val 10 xs := by
  rw [val_append]
  have : val 10 (List.replicate k 0) = 0 := by
    induction k with
    | zero => rfl
    | succ k ih => rw [List.replicate_succ, val, ih]
  rw [this]; omega

theorem len10 {r : Nat} (h : r < C19) : (dig 10 r).length ≤ 19 := dig_length_le (by omega) 19 r (by rw [← C19_pow]; exact h)

theorem dig10_chunk (q r : Nat) (hq : q ≠ 0) (hr : r < C19) : dig 10 (q * C19 + r) = (dig 10 r ++ List.replicate (19 - (dig 10 r).length) 0) ++ dig 10 q := by
  have hl := len10 hr
  have h1 : val 10 ((dig 10 r ++ List.replicate (19 - (dig 10 r).length) 0) ++ dig 10 q) = q * C19 + r := by
    rw [val_append, val10_pad, val_dig (by omega), val_dig (by omega), List.length_append, List.length_replicate, show (dig 10 r).length + (19 - (dig 10 r).length) = 19 by omega, ← C19_pow, Nat.mul_comm]
    omega
  rw [← h1, dig_val (by omega)]
  · intro d hd
    simp only [List.mem_append, List.mem_replicate] at hd
    rcases hd with (hd | ⟨_, rfl⟩) | hd
    · exact dig_lt (by omega) _ d hd
    · omega
    · exact dig_lt (by omega) _ d hd
  · have hne : dig 10 q ≠ [] := fun e => hq ((dig_eq_nil (by omega)).1 e)
    rw [List.getLast?_append]
    have h9 := getLast_dig q
    cases hl : (dig 10 q).getLast? with
    | none => exact absurd (List.getLast?_eq_none_iff.1 hl) hne
    | some z => rw [hl] at h9; simpa using h9

theorem decs_ne {n : Nat} (h : n ≠ 0) : decs n = (dig 10 n).reverse.map chr := by unfold decs; rw [if_neg h]

theorem decs_chunk (q r : Nat) (hq : q ≠ 0) (hr : r < C19) : decs (q * C19 + r) = decs q ++ pad19 r := by
  have hn : q * C19 + r ≠ 0 := by
    have : 0 < q * C19 := Nat.mul_pos (by omega) (by rw [C19_eq]; omega)
    omega
  rw [decs_ne hn, decs_ne hq, dig10_chunk q r hq hr, List.reverse_append, List.map_append, List.reverse_append, List.map_append, List.reverse_replicate, List.map_replicate, chr_zero48]
  congr 1
  unfold pad19
  by_cases h0 : r = 0
  · subst h0
    rw [dig_zero]
    have : decs 0 = [48] := rfl
    rw [this]
    rfl
  · rw [decs_ne h0]
    simp

theorem decs_len_lt {n k : Nat} (hk : 1 ≤ k) (h : n < 10 ^ k) : (decs n).length ≤ k := by
  by_cases h0 : n = 0
  · subst h0; show 1 ≤ k; exact hk
  · rw [decs_ne h0, List.length_map, List.length_reverse]
    exact dig_length_le (by omega) k n h

theorem decs_len19 {r : Nat} (h : r < C19) : (decs r).length ≤ 19 := decs_len_lt (by omega) (by rw [← C19_pow]; exact h)

/-- a number of few digits has few limbs -/
theorem limbs_few {n : Nat} (h : (decs n).length ≤ 60) : (dig 18446744073709551616 n).length ≤ 4 := by
  refine dig_length_le (by omega) 4 n ?_
  have h1 : n < 10 ^ 60 := by
    by_cases h0 : n = 0
    · subst h0; exact Nat.pow_pos (by omega)
    · rw [decs_ne h0, List.length_map, List.length_reverse] at h
      exact Nat.lt_of_lt_of_le (lt_pow_dig (by omega) n) (Nat.pow_le_pow_right (by omega) h)
  have h2 : (10 : Nat) ^ 60 ≤ 18446744073709551616 ^ 4 := by decide
  omega

/-- four limbs have few chunks -/
theorem chunks_few {n : Nat} (h : (dig 18446744073709551616 n).length ≤ 4) : (dig C19 n).length ≤ 5 := by
  refine dig_length_le C19_two 5 n ?_
  have h1 := Nat.lt_of_lt_of_le (lt_pow_dig (B := 18446744073709551616) (by omega) n) (Nat.pow_le_pow_right (by omega) h)
  have h2 : (18446744073709551616 : Nat) ^ 4 ≤ C19 ^ 5 := by decide
  omega

theorem decs_few_chunks {n : Nat} (h : (dig 18446744073709551616 n).length ≤ 4) : (decs n).length ≤ 80 := by
  refine decs_len_lt (by omega) ?_
  have h1 := Nat.lt_of_lt_of_le (lt_pow_dig (B := 18446744073709551616) (by omega) n) (Nat.pow_le_pow_right (by omega) h)
  have h2 : (18446744073709551616 : Nat) ^ 4 ≤ 10 ^ 80 := by decide
  omega
end Go.Proofs.YtnfehccicnpbpaaGreatDoor

namespace Go.Proofs.YtnfehccicnpbpaaGreatDoor
open Go Go.RowKit Go.Sort Go.Lib

theorem decDigits_eqd (n : Nat) : Lib.decDigits n = decs n := by
  induction n using Nat.strongRecOn with
  | _ n ih =>
    rw [Lib.decDigits]
    by_cases h : n < 10
    · rw [dif_pos h]
      by_cases h0 : n = 0
      · subst h0; rfl
      · rw [decs, if_neg h0, dig_small h0 h]; rfl
    · rw [dif_neg h, ih (n / 10) (by omega), decs, decs, if_neg (by omega), if_neg (by omega), dig_pos (by omega) (by omega : n ≠ 0)]
      simp [chr]

theorem fin_zero (w : World) (o : Obj) (dk : Array UInt8) (k : Nat) : ∃ os, (putRow (fun (b : UInt8) => Value.int .u8 (b.toNat : Int)) (w.alloc o) w.heap.size 0 dk).drewN k = grow (w.drewN k) os := by
  rw [alloc_eq_grow]
  obtain ⟨os', _, e⟩ := putRow_grow_new (fun (b : UInt8) => Value.int .u8 (b.toNat : Int)) w #[o] w.heap.size 0 dk (Nat.le_refl _)
  exact ⟨os', by rw [e]; rfl⟩

set_option maxHeartbeats 6400000 in
set_option maxRecDepth 100000 in
theorem fmtui_any (u : Nat) (hu64 : u < 18446744073709551616) (w : World) (htab : Lib.TabIs Tryz.prog w "internal/strconv.uint64pow10" .u64 Lib.pow10Tab) (R : Ending → World → Prop)
    (hR : ∀ w', Below w.heap.size w w' → R (.returned (.string ⟨(decs u).toArray⟩)) w') :
    Calls Tryz.prog 193 #[.int .u64 (u : Int), .int .i64 10] w R := by
  have HR := Lib.hid hR; clear hR
  have HTAB := Lib.hid htab; clear htab
  by_cases hs : u < 100
  · have hlt : (u : Int) < 100 := by omega
    have hwc : IntKind.i64.wrap (u : Int) = (u : Int) := IntWalk.i64_in _ (by omega)
    go_enter Tryz.func193, Tryz.ntmps193
    go_wp2_with fail
    refine (Tryz.internal_strconv_small u hs _).mono ?_
    rintro e w' ⟨rfl, rfl⟩
    rw [decDigits_eqd]
    clear hlt hwc
    dsimp only
    go_wp2
    first | go_ret | skip
    exact HR.out _ (Below.refl _ _)
  · have hlt : ¬ (u : Int) < 100 := by omega
    have hu1 : 1 ≤ u := by omega
    have hnd20 : Lib.nDigits u ≤ 20 := by have := Lib.numDigits_eq u hu1 hu64; split at this <;> omega
    obtain ⟨nd, hnd⟩ : ∃ nd, nd = Lib.nDigits u := ⟨_, rfl⟩
    have HND := Lib.hid hnd
    have hnd24 : nd ≤ 24 := by omega
    have hal : Tryz.prog.arrayLen 254 = 24 := by simp [Program.arrayLen, Tryz.underlying254]
    have hsl : ∀ W, (Instr.sliceAt 254 (.pointer (some ⟨w.heap.size, 0, none⟩)) none (some (.int .i64 (nd : Int))) none).run Tryz.prog W = .ok (.slice (some ⟨w.heap.size, 0, none⟩) nd 24) W := fun W => by
      rw [run_sliceAt_array_h W 254 ⟨w.heap.size, 0, none⟩ (by simp [Program.arrayLen, Program.elem, Tryz.underlying254]) .i64 (nd : Int) (by omega) (by rw [hal]; omega)]
      go_simp
    have hH0 := Lib.holds_zero0 w 254 nd hnd24
    have hfmt := Tryz.internal_strconv_formatBase10 w.heap.size 0 24 u (Array.replicate nd 0) (w.alloc (.cells Lib.zeros24 254)) hH0 (by rw [Array.size_replicate, hnd]; exact Lib.lt_pow_nDigits u) hu64 (by rw [Array.size_replicate]; omega)
    rw [Array.size_replicate] at hfmt
    have HH0 := Lib.hid hH0
    have HFMT := Lib.hid hfmt
    clear hH0 hal hfmt hnd20
    go_enter Tryz.func193, Tryz.ntmps193
    go_wp2_with fail
    refine (Tryz.internal_strconv_numDigits u hu1 hu64 _ (Lib.tabIs_alloc HTAB.out _)).mono ?_
    rintro e w' ⟨rfl, rfl⟩
    rw [← HND.out]
    clear hnd
    dsimp only
    go_wp2_with fail
    refine HFMT.out.mono ?_
    rintro e w' ⟨rfl, k, v', dk, rfl, hF⟩
    have hF' := hF
    rw [HND.out] at hF'
    have hcv : (convert 44 9 (.slice (some ⟨w.heap.size, 0, none⟩) nd 24)).run Tryz.prog ((putRow (fun (b : UInt8) => Value.int .u8 (b.toNat : Int)) (w.alloc (.cells Lib.zeros24 254)) w.heap.size 0 dk).drewN k) = .ok (.string ⟨(Lib.decDigits u).toArray⟩) ((putRow (fun (b : UInt8) => Value.int .u8 (b.toNat : Int)) (w.alloc (.cells Lib.zeros24 254)) w.heap.size 0 dk).drewN k) := by
      have h := run_convert_bytes_back (P := Tryz.prog) ((putRow (fun (b : UInt8) => Value.int .u8 (b.toNat : Int)) (w.alloc (.cells Lib.zeros24 254)) w.heap.size 0 dk).drewN k) 44 9 5 ⟨w.heap.size, 0, none⟩ 24 (Lib.decDigits u) Tryz.underlying44 Tryz.underlying5 Tryz.underlying9 (fun j hj => by
        rw [Lib.row_is_numeral hF' j hj, Lib.add_plain, World.cell?_drewN]
        exact cell?_putRow (fun (b : UInt8) => Value.int .u8 (b.toNat : Int)) _ w.heap.size 0 _ dk HH0.out (by rw [hF.size, Array.size_replicate]) j (by rw [hF.size, HND.out]; rw [Lib.decDigits_length] at hj; exact hj))
      rw [Lib.decDigits_length, ← HND.out] at h
      exact h
    rw [decDigits_eqd] at hcv
    have HBB : Hid (Below w.heap.size w ((putRow (fun (b : UInt8) => Value.int .u8 (b.toNat : Int)) (w.alloc (.cells Lib.zeros24 254)) w.heap.size 0 dk).drewN k)) := Lib.hid (by
      obtain ⟨os, eo⟩ := fin_zero w (.cells Lib.zeros24 254) dk k
      rw [eo]
      exact Lib.below_grow w.heap.size w (Nat.le_refl _) k os)
    clear hF hF'
    dsimp only
    go_wp2
    first | go_ret | skip
    exact HR.out _ HBB.out

set_option maxRecDepth 100000 in
theorem fmtu_any (u : Nat) (hu64 : u < 18446744073709551616) (w : World) (htab : Lib.TabIs Tryz.prog w "internal/strconv.uint64pow10" .u64 Lib.pow10Tab) (R : Ending → World → Prop)
    (hR : ∀ w', Below w.heap.size w w' → R (.returned (.string ⟨(decs u).toArray⟩)) w') :
    Calls Tryz.prog 156 #[.int .u64 (u : Int), .int .i64 10] w R := by
  have HR := Lib.hid hR; clear hR
  have HTAB := Lib.hid htab; clear htab
  have HU := Lib.hid hu64; clear hu64
  go_enter Tryz.func156, Tryz.ntmps156
  go_wp2_with fail
  refine fmtui_any u HU.out _ HTAB.out _ ?_
  intro w1 hb1
  have HB := Lib.hid hb1
  obtain ⟨T, hT⟩ : ∃ T, T = decs u := ⟨_, rfl⟩
  rw [← hT] at HR ⊢
  clear hT hb1
  dsimp only
  go_wp2
  first | go_ret | skip
  exact HR.out _ HB.out
end Go.Proofs.YtnfehccicnpbpaaGreatDoor

namespace Go.Proofs.YtnfehccicnpbpaaGreatDoor
open Go Go.RowKit Go.Shelf

/-- the numbering of the contract of WriteByte -/
def renB : Go.Shelf.Ren := ⟨fun | 167 => 113 | n => Tryz.lays105_ren.f n, Tryz.lays105_ren.t, Tryz.lays105_ren.g⟩

set_option maxRecDepth 100000 in
theorem lays166B : Go.Proofs.Lays.n166 Tryz.prog Tryz.lays105_ren := { Tryz.lays105 with }
set_option maxRecDepth 100000 in
theorem lays167B : Go.Proofs.Lays.n167 Tryz.prog renB := { Tryz.lays105 with f167 := Tryz.func113.trans (congrArg some (by kernel_rfl)) }
set_option maxRecDepth 100000 in
theorem extraB : Go.Proofs.Builder.Extra Tryz.prog renB := { Tryz.Builder_Extra_105 with }

/-- a builder of the call's own, in block b, that holds a text -/
def IsB (w : World) (b : Nat) (T : List UInt8) : Prop := Lib.IsBuilder 147 5 b b (Lib.byteCells T) w

theorem IsB.fresh (w : World) : IsB (w.alloc (.cells #[.pointer none, .slice none 0 0] 147)) w.heap.size [] := by
  refine .inl ⟨Nat.le_refl _, .slice none 0 0, ?_, World.ownsRow_nil _ _ _ _, by simp [Value.ownBlock]⟩
  show (w.heap.push _)[_]? = _
  simp

theorem IsB.lt {w : World} {b : Nat} {T : List UInt8} (h : IsB w b T) : b < w.heap.size := by
  rcases h with h | h
  · exact h.lt
  · exact h.lt

/-- a change of later blocks alone -/
theorem IsB.later {w w' : World} {b : Nat} {T : List UInt8} (h : IsB w b T) (hb : Below w.heap.size w w') : IsB w' b T := by
  have key : ∀ p, Lib.BuilderAt 147 5 b b p (Lib.byteCells T) w → Lib.BuilderAt 147 5 b b p (Lib.byteCells T) w' := by
    rintro p ⟨h1, v, h2, h3, h4⟩
    refine ⟨h1, v, by rw [hb.block b (lt_of_block h2)]; exact h2, ?_, h4⟩
    refine World.ownsRow.kept (row := none) h3 ⟨hb.os, hb.tape, hb.output, hb.size, fun k hk _ => hb.block k hk⟩ ?_
    by_cases h0 : v.ownBlock = none
    · exact .inl h0
    · exact .inr h0
  rcases h with h | h
  · exact .inl (key _ h)
  · exact .inr (key _ h)

theorem byteCells_append (T U : List UInt8) : Lib.byteCells (T ++ U) = Lib.byteCells T ++ Lib.byteCells U := by simp [Lib.byteCells]
theorem strCells_eq (s : ByteArray) : Lib.strCells s = Lib.byteCells s.data.toList := rfl
theorem byteCells_length (T : List UInt8) : (Lib.byteCells T).length = T.length := by simp [Lib.byteCells]

theorem bws_any (b : Nat) (T : List UInt8) (s : ByteArray) (w : World) (h : IsB w b T) (hlen : T.length + s.size ≤ 1000000) (R : Ending → World → Prop)
    (hR : ∀ w', IsB w' b (T ++ s.data.toList) → Below b w w' → R (.returned (.tuple #[.int .i64 (s.size : Int), .nilIface])) w') :
    Calls Tryz.prog 114 #[.pointer (some ⟨b, 0, none⟩), .string s] w R := by
  refine (Go.Proofs.Any.Builder_WriteString lays166B Tryz.Builder_Extra_105 b b (Lib.byteCells T) s w h (by rw [byteCells_length]; omega) (Nat.le_of_lt h.lt)).mono ?_
  rintro e w' ⟨rfl, h1, h2⟩
  refine hR w' (.inr ?_) h2
  rw [byteCells_append, ← strCells_eq]
  exact h1

theorem bwb_any (b : Nat) (T : List UInt8) (c : UInt8) (z : Int) (hz : z = (c.toNat : Int)) (w : World) (h : IsB w b T) (hlen : T.length + 1 ≤ 1000000) (R : Ending → World → Prop)
    (hR : ∀ w', IsB w' b (T ++ [c]) → Below b w w' → R (.returned .nilIface) w') :
    Calls Tryz.prog 113 #[.pointer (some ⟨b, 0, none⟩), .int .u8 z] w R := by
  subst hz
  refine (Go.Proofs.Any.Builder_WriteByte lays167B extraB b b (Lib.byteCells T) (c.toNat : Int) w h (by rw [byteCells_length]; omega) (Nat.le_of_lt h.lt)).mono ?_
  rintro e w' ⟨rfl, h1, h2⟩
  refine hR w' (.inr ?_) h2
  rw [byteCells_append]
  exact h1

theorem bstr_any (b : Nat) (T : List UInt8) (w : World) (h : IsB w b T) (R : Ending → World → Prop)
    (hR : ∀ w', Below b w w' → R (.returned (.string ⟨T.toArray⟩)) w') :
    Calls Tryz.prog 116 #[.pointer (some ⟨b, 0, none⟩)] w R := by
  refine (Tryz.Builder_String_any b b T w h (Nat.le_of_lt h.lt)).mono ?_
  rintro e w' ⟨rfl, h2⟩
  exact hR w' h2
end Go.Proofs.YtnfehccicnpbpaaGreatDoor

namespace Go.Proofs.YtnfehccicnpbpaaGreatDoor
open Go Go.RowKit Go.Shelf

theorem C19_lt : C19 < W64 := by rw [C19_eq, W64_eq]; omega
theorem C19_pos : 0 < C19 := by rw [C19_eq]; omega

theorem tab_later {P : Program} {w w' : World} {name : String} {k : IntKind} {zs : List Int} {B : Nat} (h : Lib.TabIs P w name k zs) (hb : Below B w w') (hB : w.heap.size ≤ B) : Lib.TabIs P w' name k zs := by
  have hv' : w.var? P name = some (zs.map fun z => Value.int k z).toArray := h
  have hv := hv'
  unfold World.var? at hv'
  show w'.var? P name = some _
  cases hg : P.globalNamed name with
  | none => rw [hg] at hv'; simp at hv'
  | some g =>
    refine var?_below (hb.mono hB |> fun h => h) hg ?_ hv
    rw [hg] at hv'
    simp only [Option.bind_some] at hv'
    rcases Nat.lt_or_ge g w.heap.size with h | h
    · exact h
    · rw [Array.getElem?_eq_none (by omega)] at hv'; simp at hv'

theorem drop_val_ne (n j : Nat) (h : j < (dig C19 n).length) : val C19 ((dig C19 n).drop j) ≠ 0 := by
  intro h0
  have h1 := val_take_drop C19 (dig C19 n) j (by omega)
  rw [h0, val_dig C19_two, Nat.mul_zero, Nat.add_zero] at h1
  have h2 := val_lt (B := C19) ((dig C19 n).take j) (fun d hd => dig_lt C19_two n d (List.mem_of_mem_take hd))
  rw [← h1, List.length_take, Nat.min_eq_left (by omega)] at h2
  have := dig_length_le C19_two j n h2
  omega

def lenS : Value → Nat
  | .slice _ n _ => n
  | _ => 0

set_option maxRecDepth 100000 in
theorem divsC_any (v : Value) (a : Nat) (w : World) (h : IsN w v a) (hlen : (dig W64 a).length ≤ 4) (R : Ending → World → Prop)
    (hR : ∀ v' w', IsN w' v' (a / C19) → Below w.heap.size w w' → (∀ b, blk v' = some b → w.heap.size ≤ b) → R (.returned (.tuple #[v', .int .u64 ((a % C19 : Nat) : Int)])) w') :
    Calls Tryz.prog 155 #[v, .int .u64 10000000000000000000] w R := by
  have := divs_own v a C19 w h C19_pos C19_lt (by omega) R hR
  exact this

/-- a slice elsewhere, behind an append -/
theorem Sl.grown {k : IntKind} {w w' : World} {v : Value} {xs : List Nat} {row : Option Nat} (h : Sl k w v xs) (hg : w.grownBy w' row) (hr : ∀ g, row = some g → blk v ≠ some g) : Sl k w' v xs := by
  obtain ⟨ao, cap, hv, hc, hx⟩ := h
  refine ⟨ao, cap, hv, hc, fun i hi => ?_⟩
  obtain ⟨b, off, h1, h2, h3⟩ := hx i hi
  refine ⟨b, off, h1, Nat.lt_of_lt_of_le h2 hg.size, ?_⟩
  have hb : some b ≠ row := by
    intro e
    refine hr b e.symm ?_
    rw [hv, h1]; rfl
  have := World.cell?_of_block (w := w) (w' := w') (a := ⟨b, off + i, none⟩) (hg.block b h2 hb)
  rw [this]; exact h3

/-- one limb is appended to a slice that the call has made; nothing else changes -/
theorem wpList_pushg {P : Program} {w : World} {ops : Array Oper} {rest : List Oper} {o : Oper} {a : Act} {Q : Exit → Act → World → Prop} (hgd : o.guard = none) (s x : Operand) (t : TypeId)
    (ho : o.op = .call { callee := .builtin .append, args := #[s, x], argTypes := #[t, t] })
    (e : TypeId) (k : IntKind) (bytes : Nat) (ht : P.underlying t = some (.slice e)) (hi : (P.info? e).map (fun i => (i.zero, i.size, i.bytes)) = some (some (.int k 0), 1, bytes)) (hby : bytes ≤ 16)
    (B : Nat) (v : Value) (xs : List Nat) (n : Nat) (hs : a.eval s = v) (hown : Own k e w B v xs)
    (g : Nat) (hx : a.eval x = .slice (some ⟨g, 0, none⟩) 1 1) (hg : w.cell? ⟨g, 0, none⟩ = some (.int k ((n : Nat) : Int)))
    (hlen : xs.length ≤ 100000000) (hB : B ≤ w.heap.size)
    (h : ∀ v' w', Own k e w' B v' (xs ++ [n]) → Below B w w' → w.grownBy w' v.ownBlock → wpList P ops Q rest (a.put o.dst v') w') : wpList P ops Q (o :: rest) a w := by
  obtain ⟨i0, hi0, hz0, hz1, hz2⟩ := info_parts hi
  refine wpList_append_own w hgd s x t ho B e i0 (.int k 0) 1 bytes ht hi0 hz0 hz1 hz2 rfl (by decide) v xs.length (nums k xs) hs hown ⟨g, 0, none⟩ 1 1 [.int k ((n : Nat) : Int)] hx rfl ?_ ?_ ?_ ?_ hB ?_
  · intro j u hj
    match j, hj with
    | 0, hj => simp at hj; subst hj; simpa [Addr.add] using hg
  · intro u hu; simp at hu; subst hu; rfl
  · simp only [maxLen]; omega
  · have : (xs.length + 1) * bytes ≤ (xs.length + 1) * 16 := Nat.mul_le_mul_left _ hby
    omega
  · intro v' w' hown' hgrow _
    refine h v' w' ?_ ?_ hgrow
    · simpa [Own, nums] using hown'
    · refine (Below.refl B w).grown hgrow hB (fun g' hg' => ?_)
      exact (Own.ownBlock hown g' hg').1

theorem Own.shapeS {k : IntKind} {e : TypeId} {w : World} {B : Nat} {v : Value} {xs : List Nat} (h : Own k e w B v xs) : ∃ ao c, v = .slice ao xs.length c := by
  rcases h.2 with ⟨rfl, h2⟩ | ⟨g, cap, cur, rfl, _⟩
  · exact ⟨none, 0, by rw [h2]⟩
  · exact ⟨_, _, rfl⟩

/-- what the first loop keeps: the chunks so far, and what is left -/
def DigRel (w : World) (n : Nat) (av cv : Value) (wr : World) : Prop :=
  ∃ m cs, IsN wr av m ∧ Own .u64 61 wr w.heap.size cv cs ∧ cs ++ dig C19 m = dig C19 n ∧ (dig W64 m).length ≤ 4 ∧ Below w.heap.size w wr

theorem digs_step {n m : Nat} {cs : List Nat} (h : cs ++ dig C19 m = dig C19 n) (hm : m ≠ 0) : (cs ++ [m % C19]) ++ dig C19 (m / C19) = dig C19 n := by
  rw [← h, dig_pos C19_two hm]; simp

theorem limbs_div {m k : Nat} (h : (dig W64 m).length ≤ k) : (dig W64 (m / C19)).length ≤ k := by
  refine dig_length_le W64_two k _ ?_
  have h1 := Nat.lt_of_lt_of_le (lt_pow_dig W64_two m) (Nat.pow_le_pow_right (by rw [W64_eq]; omega) h)
  exact Nat.lt_of_le_of_lt (Nat.div_le_self _ _) h1

/-- what the second loop keeps -/
def OutRel (wr : World) (L : Nat) (cs : List Nat) (iv : Value) (wx : World) : Prop :=
  ∃ k : Nat, iv = .int .i64 ((k : Int) - 1) ∧ k ≤ L ∧ IsB wx wr.heap.size (decs (val C19 (cs.drop k))) ∧ Below wr.heap.size wr wx

theorem rep_zero (c : Nat) : Lib.repeatL [48] c = List.replicate c 48 := by
  induction c with
  | zero => rfl
  | succ c ih => rw [Lib.repeatL, ih, List.replicate_succ]; rfl

set_option maxRecDepth 100000 in
theorem rep48_any (c : Nat) (w : World) (hc : c ≤ 100) (R : Ending → World → Prop)
    (hR : ∀ w', Below w.heap.size w w' → R (.returned (.string ⟨(List.replicate c 48).toArray⟩)) w') :
    Calls Tryz.prog 157 #[.string ⟨#[48]⟩, .int .i64 (c : Int)] w R := by
  refine (Tryz.strings_Repeat ⟨#[48]⟩ c w (by omega) (by show 1 * c ≤ _; omega)).mono ?_
  rintro e w' ⟨rfl, hb⟩
  have := hR w' hb
  rw [← rep_zero] at this
  exact this

theorem bstrF_any (b : Nat) (T : List UInt8) (w : World) (h : IsB w b T) (R : Ending → World → Prop)
    (hR : ∀ w', Lib.IsBuilderF 147 5 b b (Lib.byteCells T) w' → Below b w w' → R (.returned (.string ⟨T.toArray⟩)) w') :
    Calls Tryz.prog 116 #[.pointer (some ⟨b, 0, none⟩)] w R := by
  refine (Tryz.Builder_String_any_f b b T w (Lib.IsBuilderF.of h) (Nat.le_of_lt h.lt)).mono ?_
  rintro e w' ⟨rfl, h1, h2⟩
  exact hR w' h1 h2

theorem blenF_any (b : Nat) (T : List UInt8) (w : World) (h : Lib.IsBuilderF 147 5 b b (Lib.byteCells T) w) (R : Ending → World → Prop)
    (hR : R (.returned (.int .i64 (T.length : Int))) w) :
    Calls Tryz.prog 158 #[.pointer (some ⟨b, 0, none⟩)] w R := by
  refine (Tryz.Builder_Len_f b b (Lib.byteCells T) w h).mono ?_
  rintro e w' ⟨rfl, rfl⟩
  rw [byteCells_length]
  exact hR

theorem chunk_step {n j L : Nat} {cs : List Nat} (hcs : cs = dig C19 n) (hL : cs.length = L + 1) (hj : j < L) :
    decs (val C19 (cs.drop j)) = decs (val C19 (cs.drop (j + 1))) ++ (List.replicate (19 - (decs (cs.getD j 0)).length) 48 ++ decs (cs.getD j 0)) := by
  rw [val_drop C19 cs j (by omega), Nat.add_comm, Nat.mul_comm]
  refine decs_chunk _ _ ?_ ?_
  · rw [hcs]; exact drop_val_ne n (j + 1) (by rw [← hcs]; omega)
  · rw [hcs]; exact dig_getD_lt C19_two n j

set_option maxRecDepth 100000 in
set_option maxHeartbeats 4000000 in
theorem digits_any (v : Value) (n : Nat) (w : World) (h : IsN w v n) (htab : Lib.TabIs Tryz.prog w "internal/strconv.uint64pow10" .u64 Lib.pow10Tab) (R : Ending → World → Prop)
    (hR : ∀ w', (decs n).length ≤ 60 → Below w.heap.size w w' → R (.returned (.tuple #[.string ⟨(decs n).toArray⟩, .bool true])) w')
    (hR2 : ∀ s w', ¬ (decs n).length ≤ 60 → Below w.heap.size w w' → R (.returned (.tuple #[.string s, .bool false])) w') :
    Calls Tryz.prog 112 #[v] w R := by
  have HR := Lib.hid hR; clear hR
  have HR2 := Lib.hid hR2; clear hR2
  have HTAB := Lib.hid htab; clear htab
  obtain ⟨ao, k, cap, rfl, hk, hs⟩ := h.open
  have HK := Lib.hid hk
  have HS := Lib.hid hs
  clear h hk hs
  by_cases h0 : n = 0
  · have HN0 := Lib.hid h0
    have hd : decide (n = 0) = true := decide_eq_true h0
    clear h0
    go_enter Tryz.func112, Tryz.ntmps112
    go_wp2_with fail
    refine nzero_any _ n _ HS.out _ ?_
    rw [hd]
    clear hd
    dsimp only
    go_wp2
    first | go_ret | skip
    have := HR.out w (by rw [HN0.out]; decide) (Below.refl _ _)
    rw [HN0.out] at this
    exact this
  · have hd : decide (n = 0) = false := decide_eq_false h0
    have HNZ := Lib.hid h0
    clear h0
    go_enter Tryz.func112, Tryz.ntmps112
    go_wp2_with fail
    refine nzero_any _ n _ HS.out _ ?_
    rw [hd]
    clear hd
    dsimp only
    by_cases h4 : k ≤ 4
    · have h4' : ¬ ((4 : Int) < (k : Int)) := by omega
      have H4 := Lib.hid h4
      clear h4
      go_wp2_with fail
      go_loopw [0, 4] (fun av cv wr => DigRel w n av cv wr) (fun _ cv _ => 5 - lenS cv)
      case atStart => exact ⟨n, [], HS.out, Own.nil _ _ _ _, rfl, by rw [← HK.out]; exact H4.out, Below.refl _ _⟩
      case round =>
        obtain ⟨m, cs, hv, hown, hcs, hl4, hbel⟩ := hrel
        obtain ⟨am, km, capm, rfl, hv'⟩ := IsN.op hv
        obtain ⟨ac, cc, hcv⟩ := hown.shapeS
        obtain ⟨lc, hlcE⟩ : ∃ lc, lc = cs.length := ⟨_, rfl⟩
        rw [← hlcE] at hcv
        subst hcv
        have HLE := Lib.hid hlcE
        clear hlcE
        have hln : (dig C19 n).length ≤ 5 := chunks_few (by have := H4.out; rw [HK.out, W64_eq] at this; exact this)
        have hlc : cs.length + (dig C19 m).length = (dig C19 n).length := by rw [← hcs, List.length_append]
        have HV := Lib.hid hv'
        have HOWN := Lib.hid hown
        have HCS := Lib.hid hcs
        have HL4 := Lib.hid hl4
        have HB := Lib.hid hbel
        have HLC := Lib.hid hlc
        have HLN := Lib.hid hln
        clear hv hv' hown hcs hl4 hbel hlc hln
        go_wp2_with fail
        refine nzero_any _ m _ HV.out _ ?_
        by_cases hm : m = 0
        · have hd : decide (m = 0) = true := decide_eq_true hm
          have HC : Hid (cs = dig C19 n) := Lib.hid (by have := HCS.out; rw [hm, dig_zero, List.append_nil] at this; exact this)
          rw [hd]
          clear hd hm
          dsimp only
          obtain ⟨wo, hwo⟩ : ∃ wo, wo = wr := ⟨_, rfl⟩
          subst hwo
          obtain ⟨L, rfl⟩ : ∃ L, lc = L + 1 := ⟨lc - 1, by
            have h1 : lc ≠ 0 := by
              rw [HLE.out, HC.out]; intro e; exact HNZ.out ((dig_eq_nil C19_two).1 (List.eq_nil_of_length_eq_zero e))
            omega⟩
          have hL5 : L ≤ 5 := by have := HLN.out; have := HLE.out; rw [HC.out] at this; omega
          obtain ⟨gb, go, rfl, hgl, hgc⟩ := HOWN.out.sl.at L (by omega)
          have HSL := Lib.hid HOWN.out.sl
          obtain ⟨u, hu⟩ : ∃ u, u = cs.getD L 0 := ⟨_, rfl⟩
          rw [← hu] at hgc
          have hu19 : u < C19 := by rw [hu, HC.out]; exact dig_getD_lt C19_two n L
          have HU64 : Hid (u < 18446744073709551616) := Lib.hid (Nat.lt_trans hu19 C19_lt)
          have HUV : Hid (decs (val C19 (cs.drop L)) = decs u) := Lib.hid (by
            rw [val_drop C19 cs L (by have := HLE.out; omega), ← hu, val_drop_all C19 cs (L + 1) (by have := HLE.out; omega), Nat.mul_zero, Nat.add_zero])
          have HU19 := Lib.hid (decs_len19 hu19)
          obtain ⟨W0, hW0⟩ : ∃ W0, W0 = wo.alloc (.cells #[.pointer none, .slice none 0 0] 147) := ⟨_, rfl⟩
          have HW0 := Lib.hid hW0
          have HWB : Hid (Below wo.heap.size wo W0) := Lib.hid (by rw [hW0]; exact (Below.refl _ _).alloc (Nat.le_refl _) _)
          have HIB : Hid (IsB W0 wo.heap.size []) := Lib.hid (by rw [hW0]; exact IsB.fresh wo)
          have HTAB0 : Hid (Lib.TabIs Tryz.prog W0 "internal/strconv.uint64pow10" .u64 Lib.pow10Tab) := Lib.hid (tab_later HTAB.out (HB.out.trans (HWB.out.mono HB.out.size)) (Nat.le_refl _))
          have hgc2 := hgc
          obtain ⟨gb', go', hg', _, hgc0⟩ := (HSL.out.later HWB.out (Nat.le_refl _)).at L (by omega)
          simp only [Option.some.injEq, Addr.mk.injEq, and_true] at hg'
          obtain ⟨rfl, rfl⟩ := hg'
          rw [← hu, hW0] at hgc0
          clear hu hu19 hW0 hgl hgc hgc2
          go_wp2_with fail
          rw [← HW0.out]
          refine fmtu_any u HU64.out _ HTAB0.out _ ?_
          intro w1 hb1
          obtain ⟨t, ht⟩ : ∃ t : ByteArray, t = ⟨(decs u).toArray⟩ := ⟨_, rfl⟩
          rw [← ht]
          have HT : Hid (t.data.toList = decs u) := Lib.hid (by rw [ht])
          have HTS : Hid (t.size ≤ 19) := Lib.hid (by rw [← size_list, HT.out]; exact HU19.out)
          have HIB1 := Lib.hid (HIB.out.later hb1)
          have HWB1 := Lib.hid (HWB.out.trans (hb1.mono HWB.out.size))
          clear ht hb1 hgc0
          dsimp only
          go_wp2_with fail
          refine bws_any wo.heap.size [] t w1 HIB1.out (by have := HTS.out; simp; omega) _ ?_
          intro w2 hib2 hb2
          have HREL : Hid (OutRel wo L cs (.int .i64 ((L : Int) - 1)) w2) := Lib.hid ⟨L, rfl, Nat.le_refl _, by rw [HUV.out, ← HT.out]; exact hib2, HWB1.out.trans hb2⟩
          clear hib2 hb2
          dsimp only
          go_wp2_with fail
          go_loopw [8] (fun iv wx => OutRel wo L cs iv wx) (fun iv _ => (intOf iv + 1).toNat)
          case atStart => exact HREL.out
          case round =>
            clear HREL
            obtain ⟨j, rfl, hjL, hib, hbx⟩ := hrel
            have HIBX := Lib.hid hib
            have HBX := Lib.hid hbx
            have HBWX := Lib.hid (HB.out.trans (hbx.mono HB.out.size))
            clear hib hbx
            by_cases hj0 : j = 0
            · subst hj0
              have HFIN : Hid (IsB _ wo.heap.size (decs n)) := Lib.hid (by have := HIBX.out; rw [List.drop_zero, HC.out, val_dig C19_two] at this; exact this)
              go_wp2_with fail
              refine bstrF_any _ _ _ HFIN.out _ ?_
              intro w3 hib3 hb3
              have HIB3 := Lib.hid hib3
              have HB3 := Lib.hid (HBWX.out.trans (hb3.mono HB.out.size))
              clear hib3 hb3
              obtain ⟨T, hT⟩ : ∃ T, T = decs n := ⟨_, rfl⟩
              rw [← hT] at HR HR2 HIB3 ⊢
              dsimp only
              go_wp2_with fail
              refine blenF_any _ _ _ HIB3.out _ ?_
              by_cases h60 : T.length ≤ 60
              · have h60' : ((T.length : Nat) : Int) ≤ 60 := by omega
                have HL := Lib.hid h60
                clear h60 hT
                dsimp only
                go_wp2
                first | go_ret | skip
                exact HR.out _ HL.out HB3.out
              · have h60' : ¬ ((T.length : Nat) : Int) ≤ 60 := by omega
                have HL := Lib.hid h60
                clear h60 hT
                dsimp only
                go_wp2
                first | go_ret | skip
                exact HR2.out _ _ HL.out HB3.out
            · obtain ⟨i, rfl⟩ : ∃ i, j = i + 1 := ⟨j - 1, by omega⟩
              rw [show ((i + 1 : Nat) : Int) - 1 = (i : Int) by omega]
              have hiL : i < L := by omega
              obtain ⟨gb', go', hg', _, hgc⟩ := (HSL.out.later HBX.out (Nat.le_refl _)).at i (by omega)
              simp only [Option.some.injEq, Addr.mk.injEq, and_true] at hg'
              obtain ⟨rfl, rfl⟩ := hg'
              obtain ⟨u, hu⟩ : ∃ u, u = cs.getD i 0 := ⟨_, rfl⟩
              rw [← hu] at hgc
              have hu19 : u < C19 := by rw [hu, HC.out]; exact dig_getD_lt C19_two n i
              have HU64 : Hid (u < 18446744073709551616) := Lib.hid (Nat.lt_trans hu19 C19_lt)
              have HU19 := Lib.hid (decs_len19 hu19)
              have HSTEP := Lib.hid (chunk_step HC.out HLE.out.symm hiL)
              have HU := Lib.hid hu
              have HTABX : Hid (Lib.TabIs Tryz.prog _ "internal/strconv.uint64pow10" .u64 Lib.pow10Tab) := Lib.hid (tab_later HTAB.out HBWX.out (Nat.le_refl _))
              clear hu hu19
              go_wp2_with fail
              refine fmtu_any u HU64.out _ HTABX.out _ ?_
              intro w3 hb3
              obtain ⟨t, ht⟩ : ∃ t : ByteArray, t = ⟨(decs u).toArray⟩ := ⟨_, rfl⟩
              rw [← ht]
              have HT : Hid (t.data.toList = decs u) := Lib.hid (by rw [ht])
              have hts : t.size ≤ 19 := by rw [← size_list, HT.out]; exact HU19.out
              obtain ⟨p, hp⟩ : ∃ p, p = 19 - t.size := ⟨_, rfl⟩
              have hpe : (19 : Int) - (t.size : Int) = (p : Int) := by omega
              have hpw : IntKind.i64.wrap ((19 : Int) - (t.size : Int)) = (p : Int) := by rw [hpe]; exact IntWalk.i64_in _ (by omega)
              have HP : Hid (p = 19 - (decs u).length ∧ p ≤ 19 ∧ t.size ≤ 19) := Lib.hid (by rw [← HT.out, size_list]; omega)
              have HIB3 := Lib.hid (HIBX.out.later hb3)
              have HB3 := Lib.hid (HBX.out.trans (hb3.mono HBX.out.size))
              clear ht hb3 hgc hp
              dsimp only
              go_wp2_with fail
              refine rep48_any p _ (by have := HP.out; omega) _ ?_
              intro w4 hb4
              obtain ⟨z, hz⟩ : ∃ z : ByteArray, z = ⟨(List.replicate p 48).toArray⟩ := ⟨_, rfl⟩
              rw [← hz]
              have HZ : Hid (z.data.toList = List.replicate p 48) := Lib.hid (by rw [hz])
              have HZS : Hid (z.size = p) := Lib.hid (by rw [← size_list, HZ.out, List.length_replicate])
              have HIB4 := Lib.hid (HIB3.out.later hb4)
              have HB4 := Lib.hid (HB3.out.trans (hb4.mono HB3.out.size))
              obtain ⟨T, hT⟩ : ∃ T, T = decs (val C19 (cs.drop (i + 1))) := ⟨_, rfl⟩
              rw [← hT] at HIB4 HSTEP
              have HTL : Hid (T.length ≤ 200) := Lib.hid (by
                rw [hT]
                refine decs_len_lt (by omega) ?_
                refine Nat.lt_of_lt_of_le (val_lt (B := C19) _ (fun d hd => dig_lt C19_two n d (by rw [HC.out] at hd; exact List.mem_of_mem_drop hd))) ?_
                rw [C19_pow, ← Nat.pow_mul]
                refine Nat.pow_le_pow_right (by omega) ?_
                rw [List.length_drop, ← HLE.out]
                omega)
              clear hz hb4 hpe hpw hT hts
              dsimp only
              go_wp2_with fail
              refine bws_any wo.heap.size T z w4 HIB4.out (by have := HTL.out; have := HZS.out; have := HP.out; omega) _ ?_
              intro w5 hib5 hb5
              have HIB5 := Lib.hid hib5
              have HB5 := Lib.hid (HB4.out.trans hb5)
              clear hib5 hb5
              dsimp only
              go_wp2_with fail
              refine bws_any wo.heap.size _ t w5 HIB5.out (by have := HTL.out; have h1 := HZS.out; have h2 := HP.out; rw [List.length_append, size_list]; omega) _ ?_
              intro w6 hib6 hb6
              have HREL : Hid (OutRel wo L cs (.int .i64 ((i : Int) - 1)) w6) := Lib.hid ⟨i, rfl, by omega, by
                rw [HSTEP.out, ← HU.out, ← HP.out.1, ← HT.out, ← HZ.out, ← List.append_assoc]; exact hib6, HB5.out.trans hb6⟩
              clear hib6 hb6
              dsimp only
              go_wp2
              go_roundw
              case rel => exact HREL.out
              case measure => (first | omega | (simp only [intOf]; omega))
        · have hd : decide (m = 0) = false := decide_eq_false hm
          have HM := Lib.hid hm
          rw [hd]
          clear hd hm
          dsimp only
          go_wp2_with fail
          refine divsC_any _ m _ HV.out HL4.out _ ?_
          intro v1 w1 hv1 hb1 hbl1
          obtain ⟨a1, n1, c1, rfl, hv1'⟩ := IsN.op hv1
          have HV1 := Lib.hid hv1'
          have HB1 := Lib.hid hb1
          have HBL := Lib.hid hbl1
          have HBB := Lib.hid (HB.out.trans (hb1.mono HB.out.size))
          have hown1 := HOWN.out.later hb1 (Nat.le_refl _)
          obtain ⟨r, hr⟩ : ∃ r, r = m % C19 := ⟨_, rfl⟩
          have HRR := Lib.hid hr
          rw [← hr]
          have hsz : w.heap.size ≤ w1.heap.size := HBB.out.size
          have hcl : cs.length ≤ 100000000 := by have := HLC.out; have := HLN.out; omega
          clear hv1 hv1' hb1 hr hbl1
          dsimp only
          go_wp2_with (at_builtin; go_must (refine wpList_pushg rfl (.tmp 23) (.tmp 25) 63 rfl 61 .u64 8 Tryz.underlying63 info_u64 (by omega) w.heap.size _ cs r rfl (hown1.alloc _) w1.heap.size rfl (World.cell?_alloc_at _ _ _ _ rfl) hcl (by simp; omega) ?_))
          intro v' w2 hown2 hbw hgr
          obtain ⟨a2, c2, hv2⟩ := hown2.shapeS
          have hb12 : Below w.heap.size w1 w2 := ((Below.refl w.heap.size w1).alloc hsz _).trans hbw
          have hv12 : IsN w2 (.slice a1 n1 c1) (m / C19) := Sl.grown (Sl.alloc HV1.out _) hgr (fun g hg e => by
            have h1 := (HOWN.out.ownBlock g hg).2
            have h2 := HBL.out g e
            omega)
          have HREL : Hid (DigRel w n (.slice a1 n1 c1) v' w2) := Lib.hid ⟨m / C19, cs ++ [r], hv12, hown2, by rw [HRR.out]; exact digs_step HCS.out HM.out, limbs_div HL4.out, HBB.out.trans hb12⟩
          have HM2 : Hid (lenS v' = lc + 1 ∧ lc < 5) := Lib.hid (by
            rw [HLE.out]
            refine ⟨by rw [hv2]; simp [lenS], ?_⟩
            have h1 := HLC.out
            rw [dig_pos C19_two HM.out] at h1
            have := HLN.out
            simp only [List.length_cons] at h1
            omega)
          clear hv12 hgr
          clear hown1 hown2 hbw hb12 hv2 hsz hcl
          go_wp2
          go_roundw
          case rel => exact HREL.out
          case measure => rw [HM2.out.1]; simp only [lenS]; have := HM2.out.2; omega
    · have h4' : ((4 : Int) < (k : Int)) := by omega
      have H4 := Lib.hid (show ¬ (decs n).length ≤ 60 from fun h => h4 (by rw [HK.out, W64_eq]; exact limbs_few h))
      clear h4
      go_wp2_with fail
      first | go_ret | skip
      exact HR2.out _ w H4.out (Below.refl _ _)
end Go.Proofs.YtnfehccicnpbpaaGreatDoor

namespace Go.Proofs.YtnfehccicnpbpaaGreatDoor
open Go Go.RowKit

set_option maxRecDepth 100000 in
set_option maxHeartbeats 4000000 in
theorem rtext_any (v : Value) (q : Rat) (w : World) (h : IsR w v q) (htab : Lib.TabIs Tryz.prog w "internal/strconv.uint64pow10" .u64 Lib.pow10Tab) (R : Ending → World → Prop)
    (hR : ∀ w', few q → Below w.heap.size w w' → R (.returned (.tuple #[.string ⟨(textQ q).toArray⟩, .bool true])) w')
    (hR2 : ∀ w', ¬ few q → Below w.heap.size w w' → R (.returned (.tuple #[.string ⟨#[]⟩, .bool false])) w') :
    Calls Tryz.prog 77 #[v] w R := by
  have HR := Lib.hid hR; clear hR
  have HR2 := Lib.hid hR2; clear hR2
  obtain ⟨na, a1, n1, c1, a2, n2, c2, hna, rfl, hn1, hn2⟩ := h.parts
  obtain ⟨L, hL⟩ : ∃ L, L = w.alloc (.cells #[.bool na, .slice a1 n1 c1, .slice a2 n2 c2] 100) := ⟨_, rfl⟩
  have B0 : Hid (Box3 L w.heap.size (.bool na) (.slice a1 n1 c1) (.slice a2 n2 c2) 100) := Lib.hid (by rw [hL]; exact Box3.made w _ _ _ _)
  have HEXT : Hid (Below w.heap.size w L) := Lib.hid (by rw [hL]; exact (Below.refl w.heap.size w).alloc (Nat.le_refl _) _)
  have hLs : L.heap.size = w.heap.size + 1 := by rw [hL]; simp
  have HLS := Lib.hid hLs
  have HL := Lib.hid hL
  have HN := Lib.hid (hn1.later HEXT.out (Nat.le_refl _))
  have HDD := Lib.hid (hn2.later HEXT.out (Nat.le_refl _))
  have HTAB := Lib.hid (tab_later htab HEXT.out (Nat.le_refl _))
  have HNA := Lib.hid hna
  obtain ⟨⟨hA, hB, hC⟩, _, _, _⟩ := B0.out.cells
  rw [hL] at hA hB hC
  clear h hn1 hn2 htab hna hL hLs
  go_enter Tryz.func77, Tryz.ntmps77
  go_wp2_with fail
  rw [← HL.out]
  refine digits_any _ q.num.natAbs L HN.out HTAB.out _ ?_ ?_
  · intro w1 hl1 hb1
    have HL1 := Lib.hid hl1
    have HB1 := Lib.hid hb1
    obtain ⟨s1, hs1⟩ : ∃ s : ByteArray, s = ⟨(decs q.num.natAbs).toArray⟩ := ⟨_, rfl⟩
    rw [← hs1]
    have HS1D : Hid (s1.data.toList = decs q.num.natAbs) := Lib.hid (by rw [hs1])
    have HS1 : Hid (s1.size ≤ 60) := Lib.hid (by rw [← size_list, HS1D.out]; exact hl1)
    have k1 := B0.out.later hb1 (by have := HLS.out; omega)
    clear hA hB hC hl1 hb1 hs1
    obtain ⟨⟨hA, hB, hC⟩, _, _, _⟩ := k1.cells
    clear k1
    dsimp only
    go_wp2_with fail
    refine digits_any _ q.den _ (HDD.out.later HB1.out (Nat.le_refl _)) (tab_later HTAB.out HB1.out (Nat.le_refl _)) _ ?_ ?_
    · intro w2 hl2 hb2
      have HFEW : Hid (few q) := Lib.hid ⟨HL1.out, hl2⟩
      have HB2 := Lib.hid (HB1.out.trans (hb2.mono HB1.out.size))
      obtain ⟨s2, hs2⟩ : ∃ s : ByteArray, s = ⟨(decs q.den).toArray⟩ := ⟨_, rfl⟩
      rw [← hs2]
      have HS2D : Hid (s2.data.toList = decs q.den) := Lib.hid (by rw [hs2])
      have HS2 : Hid (s2.size ≤ 60) := Lib.hid (by rw [← size_list, HS2D.out]; exact hl2)
      clear hA hB hC hl2 hb2 hs2
      obtain ⟨b, hb⟩ : ∃ b, b = w2.heap.size := ⟨_, rfl⟩
      obtain ⟨W3, hW3⟩ : ∃ W3, W3 = w2.alloc (.cells #[.pointer none, .slice none 0 0] 147) := ⟨_, rfl⟩
      have HW3 := Lib.hid hW3
      have HBD := Lib.hid hb
      have HIB3 : Hid (IsB W3 b []) := Lib.hid (by rw [hW3, hb]; exact IsB.fresh w2)
      have HB23 : Hid (Below b w2 W3) := Lib.hid (by rw [hW3, hb]; exact (Below.refl _ _).alloc (Nat.le_refl _) _)
      have HBW : Hid (Below w.heap.size w w2) := Lib.hid (HEXT.out.trans (HB2.out.mono HEXT.out.size))
      have HLT : Hid (w.heap.size < b ∧ L.heap.size ≤ b ∧ w2.heap.size = b) := Lib.hid (by have := HLS.out; have := HB2.out.size; omega)
      have HBOX : Hid (Box3 w2 w.heap.size (.bool na) (.slice a1 n1 c1) (.slice a2 n2 c2) 100) := Lib.hid (B0.out.later HB2.out (by have := HLS.out; omega))
      have HD : Hid (IsN w2 (.slice a2 n2 c2) q.den) := Lib.hid (HDD.out.later HB2.out (Nat.le_refl _))
      have k3 := HBOX.out.later HB23.out (by have := HLT.out; omega)
      obtain ⟨⟨hA, hB, hC⟩, _, _, _⟩ := k3.cells
      rw [hW3] at hA hB hC
      clear k3 hW3
      cases na with
      | true =>
        have HNEG : Hid (q.num < 0) := Lib.hid (of_decide_eq_true HNA.out.symm)
        dsimp only
        go_wp2_with fail
        rw [← HW3.out, ← hb]
        refine bwb_any b [] 45 45 rfl _ HIB3.out (by simp) _ ?_
        intro w4 hib4 hb4
        have HBS := Lib.hid (HB23.out.trans hb4)
        have HIBS : Hid (IsB w4 b [45]) := Lib.hid hib4
        clear hA hB hC hb hib4 hb4
        dsimp only
        go_wp2_with fail
        refine bws_any b [45] s1 _ HIBS.out (by simp; have := HS1.out; omega) _ ?_
        intro w5 hib5 hb5
        have HB5 := Lib.hid (HBS.out.trans hb5)
        have HIB5 := Lib.hid hib5
        have k5 := HBOX.out.later HB5.out (by have := HLT.out; omega)
        obtain ⟨⟨hA, hB, hC⟩, _, _, _⟩ := k5.cells
        clear hib5 hb5
        dsimp only
        go_wp2_with fail
        refine none_any _ q.den _ (HD.out.later HB5.out (by have := HLT.out; omega)) _ ?_
        by_cases hd1 : q.den = 1
        · have hdd : decide (q.den = 1) = true := decide_eq_true hd1
          have HTX : Hid (textQ q = [45] ++ s1.data.toList) := Lib.hid (by unfold textQ; rw [if_pos HNEG.out, HS1D.out, if_pos hd1]; simp)
          rw [hdd]
          clear hdd hd1 hA hB hC
          dsimp only
          go_wp2_with fail
          refine bstr_any b _ _ HIB5.out _ ?_
          intro w6 hb6
          have HB6 := Lib.hid (HB5.out.trans hb6)
          rw [← HTX.out]
          obtain ⟨T, hT⟩ : ∃ T, T = textQ q := ⟨_, rfl⟩
          rw [← hT] at HR ⊢
          clear hT hb6
          dsimp only
          go_wp2
          first | go_ret | skip
          exact HR.out _ HFEW.out (HBW.out.trans (HB6.out.mono (by have := HLT.out; omega)))
        · have hdd : decide (q.den = 1) = false := decide_eq_false hd1
          have HTX : Hid (textQ q = (([45] ++ s1.data.toList) ++ [47]) ++ s2.data.toList) := Lib.hid (by unfold textQ; rw [if_pos HNEG.out, HS1D.out, HS2D.out, if_neg hd1]; simp)
          rw [hdd]
          clear hdd hd1 hA hB hC
          dsimp only
          go_wp2_with fail
          refine bwb_any b _ 47 47 rfl _ HIB5.out (by have := HS1.out; simp; have := size_list s1; simp only [Array.length_toList] at this; omega) _ ?_
          intro w6 hib6 hb6
          have HB6 := Lib.hid (HB5.out.trans hb6)
          have HIB6 := Lib.hid hib6
          clear hib6 hb6
          dsimp only
          go_wp2_with fail
          refine bws_any b _ s2 _ HIB6.out (by have := HS1.out; have := HS2.out; simp; have := size_list s1; simp only [Array.length_toList] at this; omega) _ ?_
          intro w7 hib7 hb7
          have HB7 := Lib.hid (HB6.out.trans hb7)
          have HIB7 := Lib.hid hib7
          clear hib7 hb7
          dsimp only
          go_wp2_with fail
          refine bstr_any b _ _ HIB7.out _ ?_
          intro w8 hb8
          have HB8 := Lib.hid (HB7.out.trans hb8)
          rw [← HTX.out]
          obtain ⟨T, hT⟩ : ∃ T, T = textQ q := ⟨_, rfl⟩
          rw [← hT] at HR ⊢
          clear hT hb8
          dsimp only
          go_wp2
          first | go_ret | skip
          exact HR.out _ HFEW.out (HBW.out.trans (HB8.out.mono (by have := HLT.out; omega)))
      | false =>
        have HNEG : Hid (¬ q.num < 0) := Lib.hid (of_decide_eq_false HNA.out.symm)
        have HBS : Hid (Below b w2 W3) := Lib.hid HB23.out
        have HIBS : Hid (IsB W3 b []) := Lib.hid HIB3.out
        dsimp only
        go_wp2_with fail
        rw [← HW3.out, ← hb]
        clear hA hB hC hb
        refine bws_any b [] s1 _ HIBS.out (by simp; have := HS1.out; omega) _ ?_
        intro w5 hib5 hb5
        have HB5 := Lib.hid (HBS.out.trans hb5)
        have HIB5 := Lib.hid hib5
        have k5 := HBOX.out.later HB5.out (by have := HLT.out; omega)
        obtain ⟨⟨hA, hB, hC⟩, _, _, _⟩ := k5.cells
        clear hib5 hb5
        dsimp only
        go_wp2_with fail
        refine none_any _ q.den _ (HD.out.later HB5.out (by have := HLT.out; omega)) _ ?_
        by_cases hd1 : q.den = 1
        · have hdd : decide (q.den = 1) = true := decide_eq_true hd1
          have HTX : Hid (textQ q = [] ++ s1.data.toList) := Lib.hid (by unfold textQ; rw [if_neg (show ¬ q.num < 0 by have := HNEG.out; omega), HS1D.out, if_pos hd1]; simp)
          rw [hdd]
          clear hdd hd1 hA hB hC
          dsimp only
          go_wp2_with fail
          refine bstr_any b _ _ HIB5.out _ ?_
          intro w6 hb6
          have HB6 := Lib.hid (HB5.out.trans hb6)
          rw [← HTX.out]
          obtain ⟨T, hT⟩ : ∃ T, T = textQ q := ⟨_, rfl⟩
          rw [← hT] at HR ⊢
          clear hT hb6
          dsimp only
          go_wp2
          first | go_ret | skip
          exact HR.out _ HFEW.out (HBW.out.trans (HB6.out.mono (by have := HLT.out; omega)))
        · have hdd : decide (q.den = 1) = false := decide_eq_false hd1
          have HTX : Hid (textQ q = (([] ++ s1.data.toList) ++ [47]) ++ s2.data.toList) := Lib.hid (by unfold textQ; rw [if_neg (show ¬ q.num < 0 by have := HNEG.out; omega), HS1D.out, HS2D.out, if_neg hd1]; simp)
          rw [hdd]
          clear hdd hd1 hA hB hC
          dsimp only
          go_wp2_with fail
          refine bwb_any b _ 47 47 rfl _ HIB5.out (by have := HS1.out; simp; have := size_list s1; simp only [Array.length_toList] at this; omega) _ ?_
          intro w6 hib6 hb6
          have HB6 := Lib.hid (HB5.out.trans hb6)
          have HIB6 := Lib.hid hib6
          clear hib6 hb6
          dsimp only
          go_wp2_with fail
          refine bws_any b _ s2 _ HIB6.out (by have := HS1.out; have := HS2.out; simp; have := size_list s1; simp only [Array.length_toList] at this; omega) _ ?_
          intro w7 hib7 hb7
          have HB7 := Lib.hid (HB6.out.trans hb7)
          have HIB7 := Lib.hid hib7
          clear hib7 hb7
          dsimp only
          go_wp2_with fail
          refine bstr_any b _ _ HIB7.out _ ?_
          intro w8 hb8
          have HB8 := Lib.hid (HB7.out.trans hb8)
          rw [← HTX.out]
          obtain ⟨T, hT⟩ : ∃ T, T = textQ q := ⟨_, rfl⟩
          rw [← hT] at HR ⊢
          clear hT hb8
          dsimp only
          go_wp2
          first | go_ret | skip
          exact HR.out _ HFEW.out (HBW.out.trans (HB8.out.mono (by have := HLT.out; omega)))
    · intro s w2 hl2 hb2
      have HF : Hid (¬ few q) := Lib.hid fun h => hl2 h.2
      have HB2 := Lib.hid (HB1.out.trans (hb2.mono HB1.out.size))
      clear hA hB hC hl2 hb2
      dsimp only
      go_wp2
      first | go_ret | skip
      exact HR2.out _ HF.out (HEXT.out.trans (HB2.out.mono HEXT.out.size))
  · intro s w1 hl1 hb1
    have HF : Hid (¬ few q) := Lib.hid fun h => hl1 h.1
    have HB1 := Lib.hid hb1
    clear hA hB hC hl1 hb1
    dsimp only
    go_wp2
    first | go_ret | skip
    exact HR2.out _ HF.out (HEXT.out.trans (HB1.out.mono HEXT.out.size))
end Go.Proofs.YtnfehccicnpbpaaGreatDoor

namespace Go.Proofs.YtnfehccicnpbpaaGreatDoor
open Go Go.RowKit

instance (q : Rat) : Decidable (few q) := by unfold few; infer_instance
/-- the text that is returned -/
def outS (o : Option Rat) : ByteArray := match o with
  | some q => if few q then ⟨(textQ q).toArray⟩ else ⟨#[]⟩
  | none => ⟨#[]⟩
/-- whether there is one -/
def outB (o : Option Rat) : Bool := match o with
  | some q => decide (few q)
  | none => false

theorem rtext_o (v : Value) (q : Rat) (w : World) (h : IsR w v q) (htab : Lib.TabIs Tryz.prog w "internal/strconv.uint64pow10" .u64 Lib.pow10Tab) (R : Ending → World → Prop)
    (hR : ∀ w', Below w.heap.size w w' → R (.returned (.tuple #[.string (outS (some q)), .bool (outB (some q))])) w') :
    Calls Tryz.prog 77 #[v] w R :=
  rtext_any v q w h htab R (fun w' hf hb => by have := hR w' hb; simp only [outS, outB, if_pos hf, decide_eq_true hf] at this; exact this)
    (fun w' hf hb => by have := hR w' hb; simp only [outS, outB, if_neg hf, decide_eq_false hf] at this; exact this)
end Go.Proofs.YtnfehccicnpbpaaGreatDoor

namespace Go.Proofs.YtnfehccicnpbpaaGreatDoor
open Go Go.RowKit

/-- what two texts that are numbers make together -/
noncomputable def combO (f : Rat → Rat → Rat) (s t : List UInt8) : Option Rat := match numO s, numO t with
  | some a, some b => some (f a b)
  | _, _ => none
theorem combO_some {f : Rat → Rat → Rat} {s t : List UInt8} {a b : Rat} (ha : numO s = some a) (hb : numO t = some b) : combO f s t = some (f a b) := by unfold combO; rw [ha, hb]
theorem combO_none {f : Rat → Rat → Rat} {s t : List UInt8} (h : numO s = none ∨ numO t = none) : combO f s t = none := by
  unfold combO
  rcases h with h | h
  · rw [h]
  · rw [h]; cases numO s <;> rfl

theorem dig_mul_len {B x y N M : Nat} (hB : 2 ≤ B) (hx : (dig B x).length ≤ N) (hy : (dig B y).length ≤ M) : (dig B (x * y)).length ≤ N + M := by
  refine dig_length_le hB _ _ ?_
  have h1 := Nat.lt_of_lt_of_le (lt_pow_dig hB x) (Nat.pow_le_pow_right (by omega) hx)
  have h2 := Nat.lt_of_lt_of_le (lt_pow_dig hB y) (Nat.pow_le_pow_right (by omega) hy)
  rw [Nat.pow_add]
  exact Nat.mul_lt_mul'' h1 h2

end Go.Proofs.YtnfehccicnpbpaaGreatDoor

namespace Go.Proofs.YtnfehccicnpbpaaGreatDoor
open Go Go.RowKit

theorem app_lt {xs : List Nat} (h : ∀ d ∈ xs, d < W64) : ∀ d ∈ xs ++ [0], d < W64 := by
  intro d hd
  rcases List.mem_append.1 hd with h1 | h1
  · exact h d h1
  · simp at h1; subst h1; rw [W64_eq]; omega

theorem addc_parts (x y c s m : Nat) (hx : x < W64) (hy : y < W64) (hc : c ≤ 1) (hs : s = (x + y + c) % W64) (hm : m = (x + y + c) / W64) : x + y + c = s + W64 * m ∧ m ≤ 1 ∧ s < W64 := by
  rw [W64_eq] at *
  omega

def PlusRel (w : World) (g n : Nat) (xs ys : List Nat) (cv iv : Value) (wr : World) : Prop :=
  ∃ (k c : Nat) (cur : List Nat), iv = .int .i64 ((k : Nat) : Int) ∧ cv = .int .u64 ((c : Nat) : Int) ∧ k ≤ n ∧ c ≤ 1 ∧ Arr .u64 61 wr g cur ∧ cur.length = n + 1 ∧ (∀ d ∈ cur, d < W64) ∧
    cur.drop k = xs.drop k ++ [0] ∧ val W64 (cur.take k) + W64 ^ k * c = val W64 (xs.take k) + val W64 (ys.take k) ∧ Below w.heap.size w wr ∧ wr.heap.size = w.heap.size + 1

theorem take_set_same (xs : List Nat) (k s : Nat) : (xs.set k s).take k = xs.take k := by
  rw [List.take_set_of_le (Nat.le_refl _)]

theorem val_take_y (ys : List Nat) (k y : Nat) (hy : y = ys.getD k 0) : val W64 (ys.take (k + 1)) = val W64 (ys.take k) + W64 ^ k * y := by
  by_cases h : k < ys.length
  · rw [val_take_succ W64 ys k h, hy]
  · rw [List.take_of_length_le (by omega), List.take_of_length_le (by omega), hy]
    simp [List.getD, List.getElem?_eq_none (by omega : ys.length ≤ k)]

theorem plus_fin (cur : List Nat) (k c : Nat) (hl : cur.length = k + 1) : val W64 (cur.set k c) = val W64 (cur.take k) + W64 ^ k * c := by
  have h := val_take_succ W64 (cur.set k c) k (by simp [hl])
  rw [List.take_of_length_le (by simp [hl]), take_set_same] at h
  rw [h]
  simp [List.getD, hl]

theorem plus_rel (w wr : World) (g n k c x y s m : Nat) (xs ys cur : List Nat) (hk : k < n) (hxl : xs.length = n) (hA : Arr .u64 61 wr g cur) (hl : cur.length = n + 1) (hlt : ∀ d ∈ cur, d < W64)
    (hd : cur.drop k = xs.drop k ++ [0]) (hv : val W64 (cur.take k) + W64 ^ k * c = val W64 (xs.take k) + val W64 (ys.take k)) (hb : Below w.heap.size w wr) (hs : wr.heap.size = w.heap.size + 1) (hg : w.heap.size ≤ g)
    (hx : cur.getD k 0 = x) (hy : y = ys.getD k 0) (hsm : x + y + c = s + W64 * m) (hm : m ≤ 1) (hsl : s < W64) :
    PlusRel w g n xs ys (.int .u64 ((m : Nat) : Int)) (.int .i64 ((k + 1 : Nat) : Int)) (wr.setCell ⟨g, k, none⟩ (.int .u64 ((s : Nat) : Int))) := by
  refine ⟨k + 1, m, cur.set k s, rfl, rfl, by omega, hm, hA.set _ _, by simp [hl], set_ltN _ _ _ hlt hsl, ?_, ?_, hb.setCell hg _, by simp [hs]⟩
  · rw [drop_set_out _ _ _ _ (by omega)]
    have h2 := congrArg (List.drop 1) hd
    rw [List.drop_drop, List.drop_append_of_le_length (by rw [List.length_drop, hxl]; omega), List.drop_drop] at h2
    exact h2
  · have hxx : xs.getD k 0 = x := by
      have h2 := congrArg (fun l => l.getD 0 0) hd
      simp only [List.getD, List.getElem?_drop, Nat.add_zero, List.getElem?_append, List.length_drop] at h2
      rw [if_pos (by omega)] at h2
      rw [← hx]
      simp only [List.getD]
      exact h2.symm
    rw [val_take_succ W64 (cur.set k s) k (by simp [hl]; omega), take_set_same, val_take_succ W64 xs k (by omega), hxx, val_take_y ys k y hy, Nat.pow_succ]
    have e : (cur.set k s).getD k 0 = s := by simp [List.getD, hl, show k < n + 1 by omega]
    rw [e]
    generalize W64 ^ k = P at *
    generalize val W64 (cur.take k) = A at *
    generalize val W64 (xs.take k) = X at *
    generalize val W64 (ys.take k) = Y at *
    generalize W64 = W at *
    grind

set_option maxRecDepth 100000 in
set_option maxHeartbeats 2000000 in
theorem nplus_any (va vb : Value) (a b : Nat) (w : World) (ha : IsN w va a) (hb : IsN w vb b) (hlen : (dig W64 a).length ≤ 10000000) (hlenb : (dig W64 b).length ≤ 10000000) (R : Ending → World → Prop)
    (hR : ∀ v' w', IsN w' v' (a + b) → Below w.heap.size w w' → R (.returned v') w') :
    Calls Tryz.prog 152 #[va, vb] w R := by
  have HR := Lib.hid hR; clear hR
  obtain ⟨ao, n, cap, rfl, hn, hsa⟩ := ha.open
  obtain ⟨bo, nb, capb, rfl, hnb, hsb⟩ := hb.open
  obtain ⟨xs, hxs⟩ : ∃ xs, xs = dig W64 a := ⟨_, rfl⟩
  obtain ⟨ys, hys⟩ : ∃ ys, ys = dig W64 b := ⟨_, rfl⟩
  have hvx : val W64 xs = a := by rw [hxs]; exact val_dig W64_two _
  have hvy : val W64 ys = b := by rw [hys]; exact val_dig W64_two _
  have hx : ∀ d ∈ xs, d < W64 := by rw [hxs]; exact limb_lt _
  have hy : ∀ d ∈ ys, d < W64 := by rw [hys]; exact limb_lt _
  unfold IsN at hsa hsb
  rw [← hn] at hlen
  rw [← hnb] at hlenb
  rw [← hxs] at hsa hn
  rw [← hys] at hsb hnb
  have HN := Lib.hid hn
  have HNB := Lib.hid hnb
  have HVX := Lib.hid hvx
  have HVY := Lib.hid hvy
  have HX := Lib.hid hx
  have HY := Lib.hid hy
  have HSA := Lib.hid hsa
  have HSB := Lib.hid hsb
  clear ha hb hn hnb hxs hys hvx hvy hx hy hsa hsb
  by_cases hab : n < nb
  · have hlt : (n : Int) < (nb : Int) := by omega
    go_enter Tryz.func152, Tryz.ntmps152
    go_wp2_with (at_make; go_must (refine wpList_makez _ rfl (.tmp 18) 63 rfl 61 .u64 8 Tryz.underlying63 info_u64 (by omega) .i64 _ (nb + 1) (by rfl) (by omega) (by omega) ?_))
    intro W hA hbW hsW
    go_wp2_with (with_reducible refine wpList_copy_nums rfl (.tmp 20) (.tmp 21) 63 96 rfl 61 Tryz.underlying63 (by kernel_rfl) .u64 61 w.heap.size (nb + 1) (nb + 1) (List.replicate (nb + 1) 0) ys hA rfl (.slice bo nb capb) rfl (HSB.out.later hbW (Nat.le_refl _)) (by rw [← HNB.out]; omega) (by simp) ?_)
    intro W2 hA2 hbut2 hsz2
    have hst : PlusRel w w.heap.size nb ys xs (.int .u64 0) (.int .i64 0) W2 := by
      refine ⟨0, 0, ys ++ [0], rfl, rfl, Nat.zero_le _, Nat.zero_le _, ?_, by simp [← HNB.out], app_lt HY.out, by simp, by simp [val], hbW.trans (hbut2.below (Nat.le_refl _) (by omega)), by omega⟩
      have := hA2
      rwa [← HNB.out, Nat.add_sub_cancel_left, List.replicate_one] at this
    have HST := Lib.hid hst
    clear hst hA hbW hsW hA2 hbut2 hsz2
    go_wp2
    go_loopw [6, 25] (fun c i wr => PlusRel w w.heap.size nb ys xs c i wr) (fun _ i _ => nb - (intOf i).toNat)
    case atStart => exact HST.out
    case round =>
      clear HST
      obtain ⟨k, c, cur, rfl, rfl, hk, hc, hA, hl, hlt, hd, hv, hbel, hsz⟩ := hrel
      have HL := Lib.hid hl
      have HLT := Lib.hid hlt
      have HD := Lib.hid hd
      have HV := Lib.hid hv
      have HB := Lib.hid hbel
      have HSZ := Lib.hid hsz
      clear hl hlt hd hv hsz
      by_cases hkn : k < nb
      · obtain ⟨x, hx⟩ : ∃ x, x = cur.getD k 0 := ⟨_, rfl⟩
        obtain ⟨y, hy⟩ : ∃ y, y = xs.getD k 0 := ⟨_, rfl⟩
        have hck := hA.cell k (by rw [HL.out]; omega)
        have hfk := hA.frozen k
        rw [← hx] at hck
        have hxl : x < W64 := by rw [hx]; exact getD_lt (by rw [W64_eq]; omega) _ HLT.out _
        have hyl : y < W64 := by rw [hy]; exact getD_lt (by rw [W64_eq]; omega) _ HX.out _
        obtain ⟨s, hs⟩ : ∃ s, s = (x + y + c) % W64 := ⟨_, rfl⟩
        obtain ⟨m, hm⟩ : ∃ m, m = (x + y + c) / W64 := ⟨_, rfl⟩
        obtain ⟨h1, h2, h3⟩ := addc_parts x y c s m hxl hyl hc hs hm
        have HREL := Lib.hid (plus_rel w wr w.heap.size nb k c x y s m ys xs cur hkn HNB.out.symm hA HL.out HLT.out HD.out HV.out HB.out HSZ.out (Nat.le_refl _) hx.symm hy h1 h2 h3)
        have ea := add64_at x y c hc s m hs hm
        have Hy := Lib.hid hy
        have hkn2 : (k : Int) < (nb : Int) := by omega
        have hkn3 : (k : Int) < (nb : Int) + 1 := by omega
        clear hx hy hxl hyl hs hm h1 h2 h3 hA
        by_cases hkb : k < n
        · obtain ⟨b, o, rfl, hb1, hc1⟩ := Sl.at HSA.out k hkb
          rw [← hbel.cell (p := ⟨b, o + k, none⟩) hb1, ← Hy.out] at hc1
          have hkb2 : (k : Int) < (n : Int) := by omega
          clear hbel
          go_wp2_with (simp only [ea])
          go_roundw
          case rel => exact HREL.out
          case measure => simp [intOf]; omega
        · have hkb2 : ¬ (k : Int) < (n : Int) := by omega
          have hy0 : y = 0 := by rw [Hy.out]; simp [List.getD, List.getElem?_eq_none (by rw [← HN.out]; omega : xs.length ≤ k)]
          clear hbel
          subst hy0
          have ea0 := ea
          rw [show ((0 : Nat) : Int) = 0 from rfl] at ea0
          clear ea
          go_wp2_with (simp only [ea0])
          go_roundw
          case rel => exact HREL.out
          case measure => simp [intOf]; omega
      · obtain rfl : k = nb := by omega
        have hfin : val W64 (cur.set k c) = a + b := by
          rw [plus_fin cur k c HL.out, HV.out, List.take_of_length_le (by rw [← HNB.out]; exact Nat.le_refl _), List.take_of_length_le (by rw [← HN.out]; omega), HVX.out, HVY.out, Nat.add_comm]
        have HF := Lib.hid hfin
        have hfk := hA.frozen k
        have hck := hA.cell k (by rw [HL.out]; omega)
        have hA3 := hA.set k c
        have HLT3 : Hid (∀ d ∈ cur.set k c, d < W64) := Lib.hid (set_ltN _ _ _ HLT.out (by rw [W64_eq]; omega))
        have HA3 := Lib.hid hA3
        have HB3 := Lib.hid (hbel.setCell (Nat.le_refl _) (p := ⟨w.heap.size, k, none⟩) (.int .u64 ((c : Nat) : Int)))
        clear hfin hbel hA hA3
        go_wp2_with fail
        refine trimmed_any _ (cur.set k c) _ (HA3.out.sl _ _ (by rw [List.length_set, HL.out]) (Nat.le_refl _)) HLT3.out (by rw [List.length_set, HL.out]; omega) _ ?_
        intro v' hv' _
        rw [HF.out] at hv'
        dsimp only
        go_wp2
        first | go_ret | skip
        exact HR.out _ _ hv' HB3.out
  · have hlt : ¬ (n : Int) < (nb : Int) := by omega
    go_enter Tryz.func152, Tryz.ntmps152
    go_wp2_with (at_make; go_must (refine wpList_makez _ rfl (.tmp 18) 63 rfl 61 .u64 8 Tryz.underlying63 info_u64 (by omega) .i64 _ (n + 1) (by rfl) (by omega) (by omega) ?_))
    intro W hA hbW hsW
    go_wp2_with (with_reducible refine wpList_copy_nums rfl (.tmp 20) (.tmp 21) 63 96 rfl 61 Tryz.underlying63 (by kernel_rfl) .u64 61 w.heap.size (n + 1) (n + 1) (List.replicate (n + 1) 0) xs hA rfl (.slice ao n cap) rfl (HSA.out.later hbW (Nat.le_refl _)) (by rw [← HN.out]; omega) (by simp) ?_)
    intro W2 hA2 hbut2 hsz2
    have hst : PlusRel w w.heap.size n xs ys (.int .u64 0) (.int .i64 0) W2 := by
      refine ⟨0, 0, xs ++ [0], rfl, rfl, Nat.zero_le _, Nat.zero_le _, ?_, by simp [← HN.out], app_lt HX.out, by simp, by simp [val], hbW.trans (hbut2.below (Nat.le_refl _) (by omega)), by omega⟩
      have := hA2
      rwa [← HN.out, Nat.add_sub_cancel_left, List.replicate_one] at this
    have HST := Lib.hid hst
    clear hst hA hbW hsW hA2 hbut2 hsz2
    go_wp2
    go_loopw [6, 25] (fun c i wr => PlusRel w w.heap.size n xs ys c i wr) (fun _ i _ => n - (intOf i).toNat)
    case atStart => exact HST.out
    case round =>
      clear HST
      obtain ⟨k, c, cur, rfl, rfl, hk, hc, hA, hl, hlt, hd, hv, hbel, hsz⟩ := hrel
      have HL := Lib.hid hl
      have HLT := Lib.hid hlt
      have HD := Lib.hid hd
      have HV := Lib.hid hv
      have HB := Lib.hid hbel
      have HSZ := Lib.hid hsz
      clear hl hlt hd hv hsz
      by_cases hkn : k < n
      · obtain ⟨x, hx⟩ : ∃ x, x = cur.getD k 0 := ⟨_, rfl⟩
        obtain ⟨y, hy⟩ : ∃ y, y = ys.getD k 0 := ⟨_, rfl⟩
        have hck := hA.cell k (by rw [HL.out]; omega)
        have hfk := hA.frozen k
        rw [← hx] at hck
        have hxl : x < W64 := by rw [hx]; exact getD_lt (by rw [W64_eq]; omega) _ HLT.out _
        have hyl : y < W64 := by rw [hy]; exact getD_lt (by rw [W64_eq]; omega) _ HY.out _
        obtain ⟨s, hs⟩ : ∃ s, s = (x + y + c) % W64 := ⟨_, rfl⟩
        obtain ⟨m, hm⟩ : ∃ m, m = (x + y + c) / W64 := ⟨_, rfl⟩
        obtain ⟨h1, h2, h3⟩ := addc_parts x y c s m hxl hyl hc hs hm
        have HREL := Lib.hid (plus_rel w wr w.heap.size n k c x y s m xs ys cur hkn HN.out.symm hA HL.out HLT.out HD.out HV.out HB.out HSZ.out (Nat.le_refl _) hx.symm hy h1 h2 h3)
        have ea := add64_at x y c hc s m hs hm
        have Hy := Lib.hid hy
        have hkn2 : (k : Int) < (n : Int) := by omega
        have hkn3 : (k : Int) < (n : Int) + 1 := by omega
        clear hx hy hxl hyl hs hm h1 h2 h3 hA
        by_cases hkb : k < nb
        · obtain ⟨b, o, rfl, hb1, hc1⟩ := Sl.at HSB.out k hkb
          rw [← hbel.cell (p := ⟨b, o + k, none⟩) hb1, ← Hy.out] at hc1
          have hkb2 : (k : Int) < (nb : Int) := by omega
          clear hbel
          go_wp2_with (simp only [ea])
          go_roundw
          case rel => exact HREL.out
          case measure => simp [intOf]; omega
        · have hkb2 : ¬ (k : Int) < (nb : Int) := by omega
          have hy0 : y = 0 := by rw [Hy.out]; simp [List.getD, List.getElem?_eq_none (by rw [← HNB.out]; omega : ys.length ≤ k)]
          clear hbel
          subst hy0
          have ea0 := ea
          rw [show ((0 : Nat) : Int) = 0 from rfl] at ea0
          clear ea
          go_wp2_with (simp only [ea0])
          go_roundw
          case rel => exact HREL.out
          case measure => simp [intOf]; omega
      · obtain rfl : k = n := by omega
        have hfin : val W64 (cur.set k c) = a + b := by
          rw [plus_fin cur k c HL.out, HV.out, List.take_of_length_le (by rw [← HN.out]; exact Nat.le_refl _), List.take_of_length_le (by rw [← HNB.out]; omega), HVX.out, HVY.out]
        have HF := Lib.hid hfin
        have hfk := hA.frozen k
        have hck := hA.cell k (by rw [HL.out]; omega)
        have hA3 := hA.set k c
        have HLT3 : Hid (∀ d ∈ cur.set k c, d < W64) := Lib.hid (set_ltN _ _ _ HLT.out (by rw [W64_eq]; omega))
        have HA3 := Lib.hid hA3
        have HB3 := Lib.hid (hbel.setCell (Nat.le_refl _) (p := ⟨w.heap.size, k, none⟩) (.int .u64 ((c : Nat) : Int)))
        clear hfin hbel hA hA3
        go_wp2_with fail
        refine trimmed_any _ (cur.set k c) _ (HA3.out.sl _ _ (by rw [List.length_set, HL.out]) (Nat.le_refl _)) HLT3.out (by rw [List.length_set, HL.out]; omega) _ ?_
        intro v' hv' _
        rw [HF.out] at hv'
        dsimp only
        go_wp2
        first | go_ret | skip
        exact HR.out _ _ hv' HB3.out
end Go.Proofs.YtnfehccicnpbpaaGreatDoor

namespace Go.Proofs.YtnfehccicnpbpaaGreatDoor
open Go Go.RowKit

theorem sgn_same {a b : Int} (h : decide (a < 0) = decide (b < 0)) : sgn (decide (a < 0)) (a.natAbs + b.natAbs) = a + b := by
  have h' : a < 0 ↔ b < 0 := decide_eq_decide.1 h
  unfold sgn
  by_cases ha : a < 0
  · rw [decide_eq_true ha, if_pos rfl]; have := h'.1 ha; omega
  · rw [decide_eq_false ha, if_neg (by decide)]; have : ¬ b < 0 := fun hb => ha (h'.2 hb); omega
theorem sgn_diff {a b : Int} (h : decide (a < 0) ≠ decide (b < 0)) (hl : ¬ a.natAbs < b.natAbs) : sgn (decide (a < 0)) (a.natAbs - b.natAbs) = a + b := by
  have h' : ¬ (a < 0 ↔ b < 0) := fun e => h (decide_eq_decide.2 e)
  unfold sgn
  by_cases ha : a < 0
  · rw [decide_eq_true ha, if_pos rfl]; have : ¬ b < 0 := fun hb => h' ⟨fun _ => hb, fun _ => ha⟩; omega
  · rw [decide_eq_false ha, if_neg (by decide)]; have : b < 0 := by by_cases hb : b < 0; exact hb; exact absurd ⟨fun x => absurd x ha, fun x => absurd x hb⟩ h'
    omega

theorem cmpN_neg {x y : Nat} (h : cmpN x y < 0) : x < y := by
  unfold cmpN at h
  split at h
  · assumption
  · split at h <;> omega

set_option maxRecDepth 100000 in
set_option maxHeartbeats 4000000 in
theorem iplus_any (va vb : Value) (a b : Int) (w : World) (ha : IsI w va a) (hb : IsI w vb b) (hla : (dig W64 a.natAbs).length ≤ 10000000) (hlb : (dig W64 b.natAbs).length ≤ 10000000) (R : Ending → World → Prop)
    (hR : ∀ v' w', IsI w' v' (a + b) → Below w.heap.size w w' → R (.returned v') w') :
    Calls Tryz.prog 180 #[va, vb] w R := by
  have HR := Lib.hid hR; clear hR
  obtain ⟨ng, a1, n1, c1, hng, rfl, hn1⟩ := ha.parts
  obtain ⟨mg, a2, n2, c2, hmg, rfl, hn2⟩ := hb.parts
  have HNG := Lib.hid hng
  have HMG := Lib.hid hmg
  obtain ⟨L, hL⟩ : ∃ L, L = ((w.alloc (.cells #[.bool ng, .slice a1 n1 c1] 98)).alloc (.cells #[.bool mg, .slice a2 n2 c2] 98)).alloc (.cells #[.bool false, .slice none 0 0] 98) := ⟨_, rfl⟩
  have HEXT : Hid (Below w.heap.size w L) := Lib.hid (by rw [hL]; exact (((Below.refl w.heap.size w).alloc (Nat.le_refl _) _).alloc (by simp) _).alloc (by simp; omega) _)
  have hLs : L.heap.size = w.heap.size + 3 := by rw [hL]; simp
  have B0 : Hid (Box2 L w.heap.size (.bool ng) (.slice a1 n1 c1) 98) := Lib.hid (by rw [hL]; exact ((Box2.made w _ _ _).alloc _).alloc _)
  have B1 : Hid (Box2 L (w.heap.size + 1) (.bool mg) (.slice a2 n2 c2) 98) := Lib.hid (by
    have := (Box2.made (w.alloc (.cells #[.bool ng, .slice a1 n1 c1] 98)) (.bool mg) (.slice a2 n2 c2) 98).alloc (.cells #[.bool false, .slice none 0 0] 98)
    rw [World.size_alloc, ← hL] at this; exact this)
  have B2 : Hid (Box2 L (w.heap.size + 1 + 1) (.bool false) (.slice none 0 0) 98) := Lib.hid (by
    have := Box2.made ((w.alloc (.cells #[.bool ng, .slice a1 n1 c1] 98)).alloc (.cells #[.bool mg, .slice a2 n2 c2] 98)) (.bool false) (.slice none 0 0) 98
    rw [World.size_alloc, World.size_alloc, ← hL] at this; exact this)
  have HK : Hid (w.heap.size + 2 < L.heap.size) := Lib.hid (by omega)
  have HL := Lib.hid hL
  have Y1 := Lib.hid (hn1.later HEXT.out (Nat.le_refl _))
  have Y2 := Lib.hid (hn2.later HEXT.out (Nat.le_refl _))
  have HLN := Lib.hid (And.intro hla hlb)
  obtain ⟨hA, hB, _, _⟩ := B0.out.cells
  obtain ⟨hC, hD, _, _⟩ := B1.out.cells
  rw [hL] at hA hB hC hD
  clear hng hmg ha hb hn1 hn2 hla hlb hL hLs
  by_cases hsame : ng = mg
  · have e0 : (ng == mg) = true := by simp [hsame]
    have HSG : Hid (sgn ng (a.natAbs + b.natAbs) = a + b) := Lib.hid (by rw [HNG.out]; exact sgn_same (by rw [← HNG.out, ← HMG.out]; exact hsame))
    clear hsame
    go_enter Tryz.func180, Tryz.ntmps180
    go_wp2_with fail
    rw [← HL.out]
    clear hA hB hC hD e0
    have HSOF : Hid (∀ w', Below (w.heap.size + 2) L w' → (Below (w.heap.size + 2) L w' ∧ (w'.cell? ⟨w.heap.size, 0, none⟩ = some (.bool ng) ∧ w'.cell? ⟨w.heap.size, 1, none⟩ = some (.slice a1 n1 c1)) ∧ (w'.cell? ⟨w.heap.size + 1, 0, none⟩ = some (.bool mg) ∧ w'.cell? ⟨w.heap.size + 1, 1, none⟩ = some (.slice a2 n2 c2)))) :=
      Lib.hid fun w' hb => ⟨hb, ⟨(B0.out.later hb (by omega)).cells.1, (B0.out.later hb (by omega)).cells.2.1⟩, ⟨(B1.out.later hb (by omega)).cells.1, (B1.out.later hb (by omega)).cells.2.1⟩⟩
    go_region_held3 (fun w' => Below (w.heap.size + 2) L w' ∧ (w'.cell? ⟨w.heap.size, 0, none⟩ = some (.bool ng) ∧ w'.cell? ⟨w.heap.size, 1, none⟩ = some (.slice a1 n1 c1)) ∧ (w'.cell? ⟨w.heap.size + 1, 0, none⟩ = some (.bool mg) ∧ w'.cell? ⟨w.heap.size + 1, 1, none⟩ = some (.slice a2 n2 c2)))
      (first
        | exact HSOF.out _ HQ2.out
        | exact HSOF.out _ HQ1.out
        | exact HSOF.out _ (Below.refl _ _).drew
        | exact HSOF.out _ ((HQ2.out.setCell (by simp) _).setCell (by simp) _))
      (first
        | (go_at_call 153; refine integerOf_z ng v1 (a.natAbs + b.natAbs) _ HV1.out _ ?_; intro v2 w2 hv2 hb2; rw [HSG.out] at hv2; obtain ⟨m2, a5, m5, c5, hm2, rfl, hn5⟩ := hv2.parts; have HV5 := Lib.hid hn5; have HM2 := Lib.hid hm2; have HT2 := Lib.hid (HT1.out.trans (hb2.mono HT1.out.size)); have HQ2 := Lib.hid (HT2.out.mono (Nat.le_of_lt HK.out)); have d2 := B2.out.later HT2.out HK.out; obtain ⟨hR0, hR1, hR2, hR3⟩ := d2.cells; have HD2 := Lib.hid d2; clear hv2 hb2 d2 hn5 hm2; dsimp only)
        | (go_at_call 152; refine nplus_any _ _ a.natAbs b.natAbs _ (Y1.out.later (Below.refl _ _).drew (Nat.le_refl _)) (Y2.out.later (Below.refl _ _).drew (Nat.le_refl _)) (Nat.le_trans HLN.out.1 (by omega)) (Nat.le_trans HLN.out.2 (by omega)) _ ?_; intro v1 w8 hv1 hb1; have HV1 := Lib.hid hv1; have HT1 : Hid (Below L.heap.size L w8) := Lib.hid (below_unDrew hb1); have HQ1 := Lib.hid (HT1.out.mono (Nat.le_of_lt HK.out)); clear hv1 hb1; dsimp only))
    all_goals
      go_wp2
      refine bodyPost_ret_at (by simp [results, Tryz.results180, go_sem, hR0, hR1, hR2, hR3] <;> rfl) rfl ?_
      refine HR.out _ _ (IsI.mk HM2.out (HV5.out.set2 (HD2.out.noInt rfl rfl) _ _ rfl)) ((((HEXT.out.trans (HT2.out.mono HEXT.out.size)).setCell (show w.heap.size ≤ w.heap.size + 1 + 1 by omega) _).setCell (show w.heap.size ≤ w.heap.size + 1 + 1 by omega) _))
  · have e0 : (ng == mg) = false := by simp [hsame]
    have HDF : Hid (decide (a < 0) ≠ decide (b < 0)) := Lib.hid (by rw [← HNG.out, ← HMG.out]; exact hsame)
    clear hsame
    go_enter Tryz.func180, Tryz.ntmps180
    go_wp2_with fail
    rw [← HL.out]
    refine ncmp_any _ _ a.natAbs b.natAbs _ Y1.out Y2.out (Nat.le_trans HLN.out.1 (by omega)) (Nat.le_trans HLN.out.2 (by omega)) _ ?_
    intro w1 hb1 hs1
    have hB0 := B0.out.later hb1 (by have := HK.out; omega)
    have hB1 := B1.out.later hb1 (by have := HK.out; omega)
    have hB2 := B2.out.later hb1 HK.out
    have hY1 := Y1.out.later hb1 (Nat.le_refl _)
    have hY2 := Y2.out.later hb1 (Nat.le_refl _)
    have hEX := HEXT.out.trans (hb1.mono HEXT.out.size)
    have hK1 : w.heap.size + 2 < w1.heap.size := by have := HK.out; omega
    obtain ⟨r, hr⟩ : ∃ r, r = cmpN a.natAbs b.natAbs := ⟨_, rfl⟩
    rw [← hr]
    clear hA hB hC hD B0 B1 B2 Y1 Y2 HEXT HK e0 hb1 hs1 HL
    obtain ⟨hA, hB, hF0, hF1⟩ := hB0.cells
    obtain ⟨hC, hD, hF2, hF3⟩ := hB1.cells
    by_cases hlt : a.natAbs < b.natAbs
    · have hr0 : r < 0 := by rw [hr, cmpN_lt hlt]; omega
      have HSG : Hid (sgn mg (b.natAbs - a.natAbs) = a + b) := Lib.hid (by rw [HMG.out, Int.add_comm]; exact sgn_diff (fun e => HDF.out e.symm) (by omega))
      have HLE : Hid (a.natAbs ≤ b.natAbs) := Lib.hid (by omega)
      obtain ⟨X, hX⟩ : ∃ X, X = (((w1.setCell ⟨w.heap.size, 0, none⟩ (.bool mg)).setCell ⟨w.heap.size, 1, none⟩ (.slice a2 n2 c2)).setCell ⟨w.heap.size + 1, 0, none⟩ (.bool ng)).setCell ⟨w.heap.size + 1, 1, none⟩ (.slice a1 n1 c1) := ⟨_, rfl⟩
      have N0 := hB0.noInt rfl rfl
      have N1 := hB1.noInt rfl rfl
      have B0 : Hid (Box2 X w.heap.size (.bool mg) (.slice a2 n2 c2) 98) := Lib.hid (by rw [hX]; exact ((hB0.set01 _ _).setOther (by omega) _ _).setOther (by omega) _ _)
      have B1 : Hid (Box2 X (w.heap.size + 1) (.bool ng) (.slice a1 n1 c1) 98) := Lib.hid (by rw [hX]; exact Box2.set01 ((hB1.setOther (by omega) _ _).setOther (by omega) _ _) _ _)
      have B2 : Hid (Box2 X (w.heap.size + 1 + 1) (.bool false) (.slice none 0 0) 98) := Lib.hid (by rw [hX]; exact (((hB2.setOther (by omega) _ _).setOther (by omega) _ _).setOther (by omega) _ _).setOther (by omega) _ _)
      have Y1 : Hid (IsN X (.slice a2 n2 c2) b.natAbs) := Lib.hid (by rw [hX]; exact (hY2.set2 N0 _ _ rfl).set2 ((N1.set _ _ rfl).set _ _ rfl) _ _ rfl)
      have Y2 : Hid (IsN X (.slice a1 n1 c1) a.natAbs) := Lib.hid (by rw [hX]; exact (hY1.set2 N0 _ _ rfl).set2 ((N1.set _ _ rfl).set _ _ rfl) _ _ rfl)
      have HEXT : Hid (Below w.heap.size w X) := Lib.hid (by rw [hX]; exact (((hEX.setCell (Nat.le_refl _) _).setCell (Nat.le_refl _) _).setCell (show w.heap.size ≤ w.heap.size + 1 by omega) _).setCell (show w.heap.size ≤ w.heap.size + 1 by omega) _)
      have HK : Hid (w.heap.size + 2 < X.heap.size) := Lib.hid (by rw [hX]; simp only [heap_size_set]; exact hK1)
      have HX := Lib.hid hX
      clear hlt hr hX N0 N1 hB0 hB1 hB2 hY1 hY2 hEX hK1
      dsimp only
      go_wp2_with fail
      rw [← HX.out]
      clear hA hB hC hD hF0 hF1 hF2 hF3 hr0
      have HSOF : Hid (∀ w', Below (w.heap.size + 2) X w' → (Below (w.heap.size + 2) X w' ∧ (w'.cell? ⟨w.heap.size, 0, none⟩ = some (.bool mg) ∧ w'.cell? ⟨w.heap.size, 1, none⟩ = some (.slice a2 n2 c2)) ∧ (w'.cell? ⟨w.heap.size + 1, 0, none⟩ = some (.bool ng) ∧ w'.cell? ⟨w.heap.size + 1, 1, none⟩ = some (.slice a1 n1 c1)))) :=
        Lib.hid fun w' hb => ⟨hb, ⟨(B0.out.later hb (by omega)).cells.1, (B0.out.later hb (by omega)).cells.2.1⟩, ⟨(B1.out.later hb (by omega)).cells.1, (B1.out.later hb (by omega)).cells.2.1⟩⟩
      go_region_held3 (fun w' => Below (w.heap.size + 2) X w' ∧ (w'.cell? ⟨w.heap.size, 0, none⟩ = some (.bool mg) ∧ w'.cell? ⟨w.heap.size, 1, none⟩ = some (.slice a2 n2 c2)) ∧ (w'.cell? ⟨w.heap.size + 1, 0, none⟩ = some (.bool ng) ∧ w'.cell? ⟨w.heap.size + 1, 1, none⟩ = some (.slice a1 n1 c1)))
        (first
          | exact HSOF.out _ HQ2.out
          | exact HSOF.out _ HQ1.out
          | exact HSOF.out _ (Below.refl _ _).drew
          | exact HSOF.out _ ((HQ2.out.setCell (by simp) _).setCell (by simp) _))
        (first
          | (go_at_call 153; refine integerOf_z mg v1 (b.natAbs - a.natAbs) _ HV1.out _ ?_; intro v2 w2 hv2 hb2; rw [HSG.out] at hv2; obtain ⟨m2, a5, m5, c5, hm2, rfl, hn5⟩ := hv2.parts; have HV5 := Lib.hid hn5; have HM2 := Lib.hid hm2; have HT2 := Lib.hid (HT1.out.trans (hb2.mono HT1.out.size)); have HQ2 := Lib.hid (HT2.out.mono (Nat.le_of_lt HK.out)); have d2 := B2.out.later HT2.out HK.out; obtain ⟨hR0, hR1, hR2, hR3⟩ := d2.cells; have HD2 := Lib.hid d2; clear hv2 hb2 d2 hn5 hm2; dsimp only)
          | (go_at_call 213; refine minus_any _ _ b.natAbs a.natAbs _ (Y1.out.later (Below.refl _ _).drew (Nat.le_refl _)) (Y2.out.later (Below.refl _ _).drew (Nat.le_refl _)) HLE.out (Nat.le_trans HLN.out.2 (by omega)) _ ?_; intro v1 w8 hv1 hb1; have HV1 := Lib.hid hv1; have HT1 : Hid (Below X.heap.size X w8) := Lib.hid (below_unDrew hb1); have HQ1 := Lib.hid (HT1.out.mono (Nat.le_of_lt HK.out)); clear hv1 hb1; dsimp only))
      all_goals
        go_wp2
        refine bodyPost_ret_at (by simp [results, Tryz.results180, go_sem, hR0, hR1, hR2, hR3] <;> rfl) rfl ?_
        refine HR.out _ _ (IsI.mk HM2.out (HV5.out.set2 (HD2.out.noInt rfl rfl) _ _ rfl)) ((((HEXT.out.trans (HT2.out.mono HEXT.out.size)).setCell (show w.heap.size ≤ w.heap.size + 1 + 1 by omega) _).setCell (show w.heap.size ≤ w.heap.size + 1 + 1 by omega) _))
    · have hr0 : ¬ r < 0 := by rw [hr]; intro h9; exact hlt (cmpN_neg h9)
      have HSG : Hid (sgn ng (a.natAbs - b.natAbs) = a + b) := Lib.hid (by rw [HNG.out]; exact sgn_diff HDF.out hlt)
      have HLE : Hid (b.natAbs ≤ a.natAbs) := Lib.hid (by omega)
      have B0 := Lib.hid hB0
      have B1 := Lib.hid hB1
      have B2 := Lib.hid hB2
      have Y1 := Lib.hid hY1
      have Y2 := Lib.hid hY2
      have HEXT := Lib.hid hEX
      have HK := Lib.hid hK1
      clear hlt hr hB0 hB1 hB2 hY1 hY2 hEX hK1
      dsimp only
      go_wp2_with fail
      clear hA hB hC hD hF0 hF1 hF2 hF3 hr0
      have HSOF : Hid (∀ w', Below (w.heap.size + 2) w1 w' → (Below (w.heap.size + 2) w1 w' ∧ (w'.cell? ⟨w.heap.size, 0, none⟩ = some (.bool ng) ∧ w'.cell? ⟨w.heap.size, 1, none⟩ = some (.slice a1 n1 c1)) ∧ (w'.cell? ⟨w.heap.size + 1, 0, none⟩ = some (.bool mg) ∧ w'.cell? ⟨w.heap.size + 1, 1, none⟩ = some (.slice a2 n2 c2)))) :=
        Lib.hid fun w' hb => ⟨hb, ⟨(B0.out.later hb (by omega)).cells.1, (B0.out.later hb (by omega)).cells.2.1⟩, ⟨(B1.out.later hb (by omega)).cells.1, (B1.out.later hb (by omega)).cells.2.1⟩⟩
      go_region_held3 (fun w' => Below (w.heap.size + 2) w1 w' ∧ (w'.cell? ⟨w.heap.size, 0, none⟩ = some (.bool ng) ∧ w'.cell? ⟨w.heap.size, 1, none⟩ = some (.slice a1 n1 c1)) ∧ (w'.cell? ⟨w.heap.size + 1, 0, none⟩ = some (.bool mg) ∧ w'.cell? ⟨w.heap.size + 1, 1, none⟩ = some (.slice a2 n2 c2)))
        (first
          | exact HSOF.out _ HQ2.out
          | exact HSOF.out _ HQ1.out
          | exact HSOF.out _ (Below.refl _ _).drew
          | exact HSOF.out _ ((HQ2.out.setCell (by simp) _).setCell (by simp) _))
        (first
          | (go_at_call 153; refine integerOf_z ng v1 (a.natAbs - b.natAbs) _ HV1.out _ ?_; intro v2 w2 hv2 hb2; rw [HSG.out] at hv2; obtain ⟨m2, a5, m5, c5, hm2, rfl, hn5⟩ := hv2.parts; have HV5 := Lib.hid hn5; have HM2 := Lib.hid hm2; have HT2 := Lib.hid (HT1.out.trans (hb2.mono HT1.out.size)); have HQ2 := Lib.hid (HT2.out.mono (Nat.le_of_lt HK.out)); have d2 := B2.out.later HT2.out HK.out; obtain ⟨hR0, hR1, hR2, hR3⟩ := d2.cells; have HD2 := Lib.hid d2; clear hv2 hb2 d2 hn5 hm2; dsimp only)
          | (go_at_call 213; refine minus_any _ _ a.natAbs b.natAbs _ (Y1.out.later (Below.refl _ _).drew (Nat.le_refl _)) (Y2.out.later (Below.refl _ _).drew (Nat.le_refl _)) HLE.out (Nat.le_trans HLN.out.1 (by omega)) _ ?_; intro v1 w8 hv1 hb1; have HV1 := Lib.hid hv1; have HT1 : Hid (Below w1.heap.size w1 w8) := Lib.hid (below_unDrew hb1); have HQ1 := Lib.hid (HT1.out.mono (Nat.le_of_lt HK.out)); clear hv1 hb1; dsimp only))
      all_goals
        go_wp2
        refine bodyPost_ret_at (by simp [results, Tryz.results180, go_sem, hR0, hR1, hR2, hR3] <;> rfl) rfl ?_
        refine HR.out _ _ (IsI.mk HM2.out (HV5.out.set2 (HD2.out.noInt rfl rfl) _ _ rfl)) ((((HEXT.out.trans (HT2.out.mono HEXT.out.size)).setCell (show w.heap.size ≤ w.heap.size + 1 + 1 by omega) _).setCell (show w.heap.size ≤ w.heap.size + 1 + 1 by omega) _))
end Go.Proofs.YtnfehccicnpbpaaGreatDoor

namespace Go.Proofs.YtnfehccicnpbpaaGreatDoor
open Go Go.RowKit

theorem bDrew {B : Nat} {a w : World} (h : Below B a w) : Below B a w.drew := h.drew
theorem bAlloc {B : Nat} {a w : World} (hB : B ≤ a.heap.size) (h : Below B a w) (o : Obj) : Below B a (w.alloc o) := h.alloc (Nat.le_trans hB h.size) o
theorem bThen {B : Nat} {a W w1 : World} (hB : B ≤ a.heap.size) (h : Below B a W) (hb : Below W.heap.size W w1) : Below B a w1 := h.trans (hb.mono (Nat.le_trans hB h.size))
theorem Box2.drw {w : World} {b : Nat} {u v : Value} {t : TypeId} (h : Box2 w b u v t) : Box2 w.drew b u v t := h

theorem dig_mul_len0 {x y N M : Nat} (hx : (dig W64 x).length ≤ N) (hy : (dig W64 y).length ≤ M) : (dig W64 (x * y)).length ≤ N + M := by
  refine dig_length_le W64_two _ _ ?_
  have h1 := Nat.lt_of_lt_of_le (lt_pow_dig W64_two x) (Nat.pow_le_pow_right (by rw [W64_eq]; omega) hx)
  have h2 := Nat.lt_of_lt_of_le (lt_pow_dig W64_two y) (Nat.pow_le_pow_right (by rw [W64_eq]; omega) hy)
  rw [Nat.pow_add]
  exact Nat.mul_lt_mul'' h1 h2
theorem addTop_len {a b : Rat} {N : Nat} (h1 : (dig W64 a.num.natAbs).length ≤ N) (h2 : (dig W64 b.num.natAbs).length ≤ N) (h3 : (dig W64 a.den).length ≤ N) (h4 : (dig W64 b.den).length ≤ N) : (dig W64 (addTop a b).natAbs).length ≤ 2 * N + 1 := by
  have p1 := Nat.lt_of_lt_of_le (lt_pow_dig W64_two a.num.natAbs) (Nat.pow_le_pow_right (by rw [W64_eq]; omega) h1)
  have p2 := Nat.lt_of_lt_of_le (lt_pow_dig W64_two b.num.natAbs) (Nat.pow_le_pow_right (by rw [W64_eq]; omega) h2)
  have p3 := Nat.lt_of_lt_of_le (lt_pow_dig W64_two a.den) (Nat.pow_le_pow_right (by rw [W64_eq]; omega) h3)
  have p4 := Nat.lt_of_lt_of_le (lt_pow_dig W64_two b.den) (Nat.pow_le_pow_right (by rw [W64_eq]; omega) h4)
  refine dig_length_le W64_two _ _ ?_
  rw [Nat.pow_succ, Nat.two_mul, Nat.pow_add]
  have q1 : (a.num * ((b.den / Nat.gcd a.den b.den : Nat) : Int)).natAbs < W64 ^ N * W64 ^ N := by
    rw [Int.natAbs_mul, Int.natAbs_natCast]
    exact Nat.mul_lt_mul'' p1 (Nat.lt_of_le_of_lt (Nat.div_le_self _ _) p4)
  have q2 : (b.num * ((a.den / Nat.gcd a.den b.den : Nat) : Int)).natAbs < W64 ^ N * W64 ^ N := by
    rw [Int.natAbs_mul, Int.natAbs_natCast]
    exact Nat.mul_lt_mul'' p2 (Nat.lt_of_le_of_lt (Nat.div_le_self _ _) p3)
  have q3 := Int.natAbs_add_le (a.num * ((b.den / Nat.gcd a.den b.den : Nat) : Int)) (b.num * ((a.den / Nat.gcd a.den b.den : Nat) : Int))
  have q4 : W64 ^ N * W64 ^ N * 2 ≤ W64 ^ N * W64 ^ N * W64 := Nat.mul_le_mul_left _ W64_two
  unfold addTop
  generalize W64 ^ N * W64 ^ N * W64 = z at *
  generalize W64 ^ N * W64 ^ N = y at *
  omega

end Go.Proofs.YtnfehccicnpbpaaGreatDoor

namespace Go.Proofs.YtnfehccicnpbpaaGreatDoor
open Go Go.RowKit

/-- what is asked of the reading of an element -/
structure Elem {α : Type} (sz : Nat) (E : World → List Value → α → Prop) : Prop where
  len : ∀ {w cs x}, E w cs x → cs.length = sz
  ints : ∀ {w cs x}, E w cs x → ∀ u ∈ cs, notInt u = true
  one : ∀ {w cs x}, E w cs x → ∀ u ∈ cs, u.oneCell' = true
  keep : ∀ {w w' g cs x}, E w cs x → But g w w' → NoInt w g → E w' cs x

theorem NoInt.new (w : World) (b : Nat) (h : w.heap.size ≤ b) : NoInt w b := by
  intro o u hu
  simp [World.cell?, Array.getElem?_eq_none h] at hu

theorem NoInt.of {w : World} {g : Nat} {cur : Array Value} {e : TypeId} (h : w.heap[g]? = some (.cells cur e (0, 0))) (hc : ∀ u ∈ cur.toList, notInt u = true) : NoInt w g := by
  intro o u hu
  simp only [World.cell?, h, Option.isSome_none, Bool.false_eq_true, if_false] at hu
  exact hc u (by rw [← Array.getElem?_toList] at hu; exact List.mem_of_getElem? hu)

theorem Elem.below {α : Type} {sz : Nat} {E : World → List Value → α → Prop} (hE : Elem sz E) {w w' : World} {cs : List Value} {x : α} {B : Nat} (h : E w cs x) (hb : Below B w w') (hB : w.heap.size ≤ B) : E w' cs x :=
  hE.keep (g := w.heap.size) h (But.ofBelow (hb.mono hB)) (NoInt.new _ _ (Nat.le_refl _))

/-- a slice value reads as a list -/
def SlE {α : Type} (sz : Nat) (E : World → List Value → α → Prop) (w : World) (v : Value) (xs : List α) : Prop :=
  ∃ ao cap, v = .slice ao xs.length cap ∧ xs.length ≤ cap ∧ ∀ i x, xs[i]? = some x → ∃ b off cs, ao = some ⟨b, off, none⟩ ∧ b < w.heap.size ∧ (∀ j u, cs[j]? = some u → w.cell? ⟨b, off + (i * sz + j), none⟩ = some u) ∧ E w cs x

theorem SlE.later {α : Type} {sz : Nat} {E : World → List Value → α → Prop} (hE : Elem sz E) {w w' : World} {v : Value} {xs : List α} {B : Nat} (h : SlE sz E w v xs) (hb : Below B w w') (hB : w.heap.size ≤ B) : SlE sz E w' v xs := by
  obtain ⟨ao, cap, hv, hc, hx⟩ := h
  refine ⟨ao, cap, hv, hc, fun i x hi => ?_⟩
  obtain ⟨b, off, cs, h1, h2, h3, h4⟩ := hx i x hi
  exact ⟨b, off, cs, h1, Nat.lt_of_lt_of_le h2 hb.size, fun j u hj => by rw [hb.cell (by exact Nat.lt_of_lt_of_le h2 hB)]; exact h3 j u hj, hE.below h4 hb hB⟩

theorem SlE.open {α : Type} {sz : Nat} {E : World → List Value → α → Prop} {w : World} {v : Value} {xs : List α} (h : SlE sz E w v xs) : ∃ ao n cap, v = .slice ao n cap ∧ n = xs.length ∧ n ≤ cap ∧ SlE sz E w (.slice ao n cap) xs := by
  obtain ⟨ao, cap, rfl, hc, hx⟩ := h
  exact ⟨ao, _, cap, rfl, rfl, hc, ao, cap, rfl, hc, hx⟩

theorem SlE.at {α : Type} {sz : Nat} {E : World → List Value → α → Prop} {w : World} {ao : Option Addr} {n cap : Nat} {xs : List α} (h : SlE sz E w (.slice ao n cap) xs) (i : Nat) (x : α) (hi : xs[i]? = some x) :
    ∃ b off cs, ao = some ⟨b, off, none⟩ ∧ b < w.heap.size ∧ (∀ j u, cs[j]? = some u → w.cell? ⟨b, off + (i * sz + j), none⟩ = some u) ∧ E w cs x := by
  obtain ⟨_, _, hv, _, hx⟩ := h
  simp only [Value.slice.injEq] at hv
  obtain ⟨rfl, _, _⟩ := hv
  exact hx i x hi

theorem SlE.nil {α : Type} {sz : Nat} {E : World → List Value → α → Prop} (w : World) (ao : Option Addr) (cap : Nat) : SlE sz E w (.slice ao 0 cap) ([] : List α) :=
  ⟨ao, cap, rfl, Nat.zero_le _, fun i x h => by simp at h⟩

/-- a slice that the call has made itself, from block B on; no cell of its block holds a number -/
def OwE {α : Type} (sz : Nat) (E : World → List Value → α → Prop) (e : TypeId) (w : World) (B : Nat) (v : Value) (xs : List α) : Prop :=
  (v = .slice none 0 0 ∧ xs = []) ∨ ∃ g cap cur, v = .slice (some ⟨g, 0, none⟩) xs.length cap ∧ B ≤ g ∧ w.heap[g]? = some (.cells cur e (0, 0)) ∧ xs.length ≤ cap ∧ cap ≤ maxLen ∧ cur.size = cap * sz ∧
    (∀ u ∈ cur.toList, notInt u = true) ∧ ∀ i x, xs[i]? = some x → E w ((cur.toList.drop (i * sz)).take sz) x

theorem OwE.nil {α : Type} {sz : Nat} {E : World → List Value → α → Prop} (e : TypeId) (w : World) (B : Nat) : OwE sz E e w B (.slice none 0 0) ([] : List α) := .inl ⟨rfl, rfl⟩

theorem OwE.lit {α : Type} {sz : Nat} {E : World → List Value → α → Prop} (e : TypeId) (w : World) (B : Nat) (hB : B ≤ w.heap.size) : OwE sz E e (w.alloc (.cells #[] e)) B (.slice (some ⟨w.heap.size, 0, none⟩) 0 0) ([] : List α) := by
  refine .inr ⟨w.heap.size, 0, #[], rfl, hB, ?_, Nat.le_refl _, by simp only [maxLen]; omega, by simp, by simp, fun i x h => by simp at h⟩
  show (w.heap.push _)[_]? = _
  simp

theorem OwE.shape {α : Type} {sz : Nat} {E : World → List Value → α → Prop} {e : TypeId} {w : World} {B : Nat} {v : Value} {xs : List α} (h : OwE sz E e w B v xs) : ∃ ao n c, v = .slice ao n c ∧ n = xs.length := by
  rcases h with ⟨rfl, rfl⟩ | ⟨g, cap, cur, rfl, _⟩
  · exact ⟨none, 0, 0, rfl, rfl⟩
  · exact ⟨_, _, _, rfl, rfl⟩

theorem OwE.later {α : Type} {sz : Nat} {E : World → List Value → α → Prop} (hE : Elem sz E) {e : TypeId} {w w' : World} {B B' : Nat} {v : Value} {xs : List α} (h : OwE sz E e w B v xs) (hb : Below B' w w') (hB : w.heap.size ≤ B') : OwE sz E e w' B v xs := by
  rcases h with h | ⟨g, cap, cur, h1, h2, h3, h4, h5, h6, h7, h8⟩
  · exact .inl h
  · exact .inr ⟨g, cap, cur, h1, h2, by rw [hb.block g (Nat.lt_of_lt_of_le (lt_of_block h3) hB)]; exact h3, h4, h5, h6, h7, fun i x hi => hE.below (h8 i x hi) hb hB⟩

theorem OwE.drew {α : Type} {sz : Nat} {E : World → List Value → α → Prop} (hE : Elem sz E) {e : TypeId} {w : World} {B : Nat} {v : Value} {xs : List α} (h : OwE sz E e w B v xs) : OwE sz E e w.drew B v xs :=
  h.later hE (Below.refl w.heap.size w).drew (Nat.le_refl _)

theorem OwE.noInt {α : Type} {sz : Nat} {E : World → List Value → α → Prop} {e : TypeId} {w : World} {B : Nat} {v : Value} {xs : List α} (h : OwE sz E e w B v xs) : ∀ g, v.ownBlock = some g → NoInt w g := by
  rcases h with ⟨rfl, _⟩ | ⟨g, cap, cur, rfl, h2, h3, h4, h5, h6, h7, h8⟩
  · intro g hg; cases hg
  · intro g' hg
    obtain rfl : g = g' := by simpa [Value.ownBlock] using hg
    exact NoInt.of h3 h7

theorem seg_le {i n sz : Nat} (h : i < n) : i * sz + sz ≤ n * sz := by
  have := Nat.mul_le_mul_right sz (show i + 1 ≤ n from h)
  rw [Nat.add_mul, Nat.one_mul] at this
  exact this

theorem OwE.sl {α : Type} {sz : Nat} {E : World → List Value → α → Prop} {e : TypeId} {w : World} {B : Nat} {v : Value} {xs : List α} (h : OwE sz E e w B v xs) : SlE sz E w v xs := by
  rcases h with ⟨rfl, rfl⟩ | ⟨g, cap, cur, rfl, h2, h3, h4, h5, h6, h7, h8⟩
  · exact SlE.nil _ _ _
  · refine ⟨_, cap, rfl, h4, fun i x hi => ⟨g, 0, _, rfl, lt_of_block h3, fun j u hj => ?_, h8 i x hi⟩⟩
    simp only [World.cell?, h3, Option.isSome_none, Bool.false_eq_true, if_false, Nat.zero_add]
    rw [← Array.getElem?_toList]
    rw [List.getElem?_take] at hj
    split at hj
    · rw [List.getElem?_drop] at hj; exact hj
    · cases hj

theorem seg_lt {A B : List Value} {n sz i : Nat} (hA : A.length = n * sz) (hi : i < n) : ((A ++ B).drop (i * sz)).take sz = (A.drop (i * sz)).take sz := by
  have h := seg_le (sz := sz) hi
  rw [List.drop_append_of_le_length (by omega), List.take_append_of_le_length (by rw [List.length_drop]; omega)]

theorem seg_take {C : List Value} {n sz i : Nat} (hi : i < n) : ((C.take (n * sz)).drop (i * sz)).take sz = (C.drop (i * sz)).take sz := by
  have h := seg_le (sz := sz) hi
  rw [List.drop_take, List.take_take]
  congr 1
  omega

theorem seg_at {A news Z : List Value} {n sz : Nat} (hA : A.length = n * sz) (hn : news.length = sz) : ((A ++ (news ++ Z)).drop (n * sz)).take sz = news := by
  rw [← hA, List.drop_left, ← hn, List.take_left]

theorem zeroCells_ints (z : Array Value) (n : Nat) (h : ∀ u ∈ z.toList, notInt u = true) : ∀ u ∈ (Builtin.zeroCells z n).toList, notInt u = true := by
  intro u hu
  simp only [Builtin.zeroCells, Array.toList_map, List.mem_map] at hu
  obtain ⟨i, hi, rfl⟩ := hu
  have hi' : i < n * z.size := by simpa using hi
  have hz : 0 < z.size := by
    rcases Nat.eq_zero_or_pos z.size with h0 | h0
    · rw [h0] at hi'; simp at hi'
    · exact h0
  have hm : i % z.size < z.size := Nat.mod_lt _ hz
  rw [getElem!_pos z _ hm]
  exact h _ (Array.mem_toList_iff.2 (Array.getElem_mem hm))

theorem get_snoc {α : Type} {xs : List α} {x y : α} {i : Nat} (h : (xs ++ [x])[i]? = some y) : (i < xs.length ∧ xs[i]? = some y) ∨ (i = xs.length ∧ x = y) := by
  rcases Nat.lt_trichotomy i xs.length with h1 | h1 | h1
  · rw [List.getElem?_append_left h1] at h; exact .inl ⟨h1, h⟩
  · subst h1; rw [List.getElem?_append_right (Nat.le_refl _)] at h; simp at h; exact .inr ⟨rfl, h⟩
  · rw [List.getElem?_eq_none (by simp; omega)] at h; cases h

/-- one element is appended to a slice that the call has made -/
theorem run_pushE {α : Type} {P : Program} {w : World} {sz : Nat} {E : World → List Value → α → Prop} (hE : Elem sz E) (hsz : 0 < sz) (t ty e : TypeId) (bytes : Nat) (z : Value) (ht : P.underlying t = some (.slice e))
    (hi : (P.info? e).map (fun i => (i.zero, i.size, i.bytes)) = some (some z, sz, bytes)) (hzs : z.cells.size = sz) (hzi : ∀ u ∈ z.cells.toList, notInt u = true) (hby : bytes ≤ 100)
    (B : Nat) (v : Value) (xs : List α) (h : OwE sz E e w B v xs) (hlen : xs.length ≤ 100000000) (hB : B ≤ w.heap.size) (g : Nat) (cs : List Value) (x : α) (hcs : E w cs x) (hc : ∀ j u, cs[j]? = some u → w.cell? ⟨g, j, none⟩ = some u) :
    ∃ v' w', (Builtin.append_ #[t, t] ty #[v, .slice (some ⟨g, 0, none⟩) 1 1]).run P w = .ok v' w' ∧ OwE sz E e w' B v' (xs ++ [x]) ∧ w.grownBy w' v.ownBlock ∧ Below B w w' := by
  obtain ⟨i0, hi0, hz0, hz1, hz2⟩ := info_parts hi
  subst hz1
  have hl : cs.length = 1 * i0.size := by rw [hE.len hcs, Nat.one_mul]
  have hnews : ∀ j u, cs[j]? = some u → w.cell? ((⟨g, 0, none⟩ : Addr).add j) = some u := fun j u hj => by
    rw [Addr.add_lit, Nat.zero_add]; exact hc j u hj
  have hbyt : ∀ k : Nat, k ≤ 100000001 → k * i0.bytes ≤ 140737488355328 := fun k hk => by
    have : k * i0.bytes ≤ 100000001 * 100 := Nat.mul_le_mul hk (by omega)
    omega
  have fresh : ∀ (o : Obj), Below w.heap.size w (w.drew.alloc o) := fun o => (Below.refl _ _).drew.alloc (Nat.le_refl _) o
  have hzl : ∀ k : Nat, (Builtin.zeroCells z.cells k).toList.length = k * i0.size := fun k => by rw [Array.length_toList, size_zeroCells, hzs]
  have grownAll : ∀ (A Z : List Value) (cap : Nat), A.length = xs.length * i0.size → xs.length + 1 ≤ cap → cap ≤ maxLen → (A ++ (cs ++ Z)).length = cap * i0.size → (∀ u ∈ A, notInt u = true) → (∀ u ∈ Z, notInt u = true) →
      (∀ i y, xs[i]? = some y → E w ((A.drop (i * i0.size)).take i0.size) y) →
      OwE i0.size E e (w.drew.alloc (.cells (A ++ (cs ++ Z)).toArray e)) B (.slice (some ⟨w.heap.size, 0, none⟩) (xs.length + 1) cap) (xs ++ [x]) := by
    intro A Z cap hA hcap hmax hsize hAi hZi hel
    refine .inr ⟨w.heap.size, cap, (A ++ (cs ++ Z)).toArray, by rw [List.length_append]; rfl, hB, ?_, by rw [List.length_append]; exact hcap, hmax, hsize, ?_, ?_⟩
    · show (w.heap.push _)[_]? = _
      simp
    · intro u hu
      simp only [List.mem_append] at hu
      rcases hu with hu | hu | hu
      · exact hAi u hu
      · exact hE.ints hcs u hu
      · exact hZi u hu
    · intro i y hy
      rcases get_snoc hy with ⟨h1, h2⟩ | ⟨rfl, rfl⟩
      · show E _ (((A ++ (cs ++ Z)).drop (i * i0.size)).take i0.size) y
        rw [seg_lt hA h1]
        exact hE.below (hel i y h2) (fresh _) (Nat.le_refl _)
      · show E _ (((A ++ (cs ++ Z)).drop (xs.length * i0.size)).take i0.size) x
        rw [seg_at hA (hE.len hcs)]
        exact hE.below hcs (fresh _) (Nat.le_refl _)
  rcases h with ⟨rfl, rfl⟩ | ⟨g0, cap, cur, rfl, h2, h3, h4, h5, h6, h7, h8⟩
  · have hr := run_append_nil (P := P) w t ty e i0 z ht hi0 hz0 ⟨g, 0, none⟩ 1 1 cs hl hnews (by omega) (by omega) (by have := hbyt 1 (by omega); omega)
    have hge := grownCap_ge w 1 0 e
    have e1 : cs.toArray ++ Builtin.zeroCells z.cells (grownCap w 1 0 e - 1) = ([] ++ (cs ++ (Builtin.zeroCells z.cells (grownCap w 1 0 e - 1)).toList)).toArray := Array.toList_inj.1 (by simp)
    rw [e1] at hr
    refine ⟨_, _, hr, ?_, ⟨rfl, rfl, rfl, by simp, fun k hk _ => (fresh _).block k hk⟩, (fresh _).mono hB⟩
    refine grownAll [] _ _ (by simp) hge (grownCap_le_maxLen w 1 0 e (by simp only [maxLen]; omega)) ?_ (by simp) (zeroCells_ints _ _ hzi) (fun i y hy => by simp at hy)
    rw [List.nil_append, List.length_append, hzl, hl, ← Nat.add_mul]
    congr 1; omega
  · have hnc : cur.toList.length = cap * i0.size := by rw [Array.length_toList]; exact h6
    have hle : xs.length * i0.size ≤ cap * i0.size := Nat.mul_le_mul_right _ h4
    have hA : (cur.toList.take (xs.length * i0.size)).length = xs.length * i0.size := by rw [List.length_take]; omega
    by_cases hroom : xs.length + 1 ≤ cap
    · have hfit : xs.length * i0.size + cs.length ≤ cur.size := by
        rw [hl, h6, ← Nat.add_mul]; exact Nat.mul_le_mul_right _ hroom
      have hr := run_append_room (P := P) w t ty e i0 ht hi0 g0 xs.length cap cur h3 ⟨g, 0, none⟩ 1 1 cs hl hnews (hE.one hcs) hroom hfit
      have hbut : But g0 w (w.setRow g0 (cur.toList.take (xs.length * i0.size) ++ cs ++ cur.toList.drop (xs.length * i0.size + cs.length)).toArray) :=
        ⟨rfl, rfl, rfl, by simp, fun k _ hk => setRow_other w g0 k _ hk⟩
      have hni := NoInt.of h3 h7
      refine ⟨_, _, hr, ?_, ⟨rfl, rfl, rfl, by simp, fun k _ hk => setRow_other w g0 k _ (fun e9 => hk (by simp [Value.ownBlock, e9]))⟩, hbut.below h2 hB⟩
      refine .inr ⟨g0, cap, _, by rw [List.length_append]; rfl, h2, setRow_heap w g0 cur _ e _ h3, by rw [List.length_append]; exact hroom, h5, ?_, ?_, ?_⟩
      · simp only [List.size_toArray, List.length_append, List.length_take, List.length_drop, Array.length_toList]
        omega
      · intro u hu
        simp only [List.mem_append] at hu
        rcases hu with (hu | hu) | hu
        · exact h7 u (List.mem_of_mem_take hu)
        · exact hE.ints hcs u hu
        · exact h7 u (List.mem_of_mem_drop hu)
      · intro i y hy
        rcases get_snoc hy with ⟨q1, q2⟩ | ⟨rfl, rfl⟩
        · show E _ (((cur.toList.take (xs.length * i0.size) ++ cs ++ cur.toList.drop (xs.length * i0.size + cs.length)).drop (i * i0.size)).take i0.size) y
          have e9 : ((cur.toList.take (xs.length * i0.size) ++ cs ++ cur.toList.drop (xs.length * i0.size + cs.length)).drop (i * i0.size)).take i0.size = (cur.toList.drop (i * i0.size)).take i0.size := by
            rw [List.append_assoc, seg_lt hA q1, seg_take q1]
          rw [e9]
          exact hE.keep (h8 i y q2) hbut hni
        · show E _ (((cur.toList.take (xs.length * i0.size) ++ cs ++ cur.toList.drop (xs.length * i0.size + cs.length)).drop (xs.length * i0.size)).take i0.size) x
          have e9 : ((cur.toList.take (xs.length * i0.size) ++ cs ++ cur.toList.drop (xs.length * i0.size + cs.length)).drop (xs.length * i0.size)).take i0.size = cs := by
            rw [List.append_assoc, seg_at hA (hE.len hcs)]
          rw [e9]
          exact hE.keep hcs hbut hni
    · have holds : ∀ j u, (cur.toList.take (xs.length * i0.size))[j]? = some u → w.cell? ((⟨g0, 0, none⟩ : Addr).add j) = some u := by
        intro j u hj
        rw [Addr.add_lit, Nat.zero_add]
        simp only [World.cell?, h3, Option.isSome_none, Bool.false_eq_true, if_false]
        rw [← Array.getElem?_toList]
        rw [List.getElem?_take] at hj
        split at hj
        · exact hj
        · cases hj
      have hr := run_append_grow (P := P) w t ty e i0 z ht hi0 hz0 ⟨g0, 0, none⟩ xs.length cap (cur.toList.take (xs.length * i0.size)) hA holds ⟨g, 0, none⟩ 1 1 cs hl hnews (by omega) (by omega) (growslice_fits (by omega) (hbyt _ (by omega)))
      have hge := grownCap_ge w (xs.length + 1) cap e
      have e1 : (cur.toList.take (xs.length * i0.size)).toArray ++ cs.toArray ++ Builtin.zeroCells z.cells (grownCap w (xs.length + 1) cap e - (xs.length + 1)) =
          (cur.toList.take (xs.length * i0.size) ++ (cs ++ (Builtin.zeroCells z.cells (grownCap w (xs.length + 1) cap e - (xs.length + 1))).toList)).toArray := Array.toList_inj.1 (by simp)
      rw [e1] at hr
      refine ⟨_, _, hr, ?_, ⟨rfl, rfl, rfl, by simp, fun k hk _ => (fresh _).block k hk⟩, (fresh _).mono hB⟩
      refine grownAll _ _ _ hA hge (grownCap_le_maxLen w (xs.length + 1) cap e (by simp only [maxLen]; omega)) ?_ (fun u hu => h7 u (List.mem_of_mem_take hu)) (zeroCells_ints _ _ hzi) (fun i y hy => ?_)
      · rw [List.length_append, List.length_append, hA, hzl, hl, ← Nat.add_assoc, ← Nat.add_mul, ← Nat.add_mul]
        congr 1; omega
      · have hi9 : i < xs.length := (List.getElem?_eq_some_iff.1 hy).1
        rw [seg_take hi9]
        exact h8 i y hy

/-- the same as an operation of a walk -/
theorem wpList_pushE {α : Type} {P : Program} {w : World} {ops : Array Oper} {rest : List Oper} {o : Oper} {a : Act} {Q : Exit → Act → World → Prop} {sz : Nat} {E : World → List Value → α → Prop} (hE : Elem sz E) (hsz : 0 < sz) (hgd : o.guard = none) (s x : Operand) (t : TypeId)
    (ho : o.op = .call { callee := .builtin .append, args := #[s, x], argTypes := #[t, t] })
    (e : TypeId) (bytes : Nat) (z : Value) (ht : P.underlying t = some (.slice e))
    (hi : (P.info? e).map (fun i => (i.zero, i.size, i.bytes)) = some (some z, sz, bytes)) (hzs : z.cells.size = sz) (hzi : ∀ u ∈ z.cells.toList, notInt u = true) (hby : bytes ≤ 100)
    (B : Nat) (xs : List α) (h : OwE sz E e w B (a.eval s) xs) (hlen : xs.length ≤ 100000000) (hB : B ≤ w.heap.size) (g : Nat) (cs : List Value) (y : α) (hx : a.eval x = .slice (some ⟨g, 0, none⟩) 1 1) (hcs : E w cs y) (hc : ∀ j u, cs[j]? = some u → w.cell? ⟨g, j, none⟩ = some u)
    (hK : ∀ ao n c w', OwE sz E e w' B (.slice ao n c) (xs ++ [y]) → n = xs.length + 1 → w.grownBy w' (a.eval s).ownBlock → Below B w w' → wpList P ops Q rest (a.put o.dst (.slice ao n c)) w') : wpList P ops Q (o :: rest) a w := by
  obtain ⟨v', w', hr, h2, h3, h4⟩ := run_pushE (P := P) hE hsz t o.type e bytes z ht hi hzs hzi hby B _ xs h hlen hB g cs y hcs hc
  refine wpList_plain hgd fun K hK' => ?_
  unfold Oper.wp execOp
  obtain ⟨ao, n, c, rfl, hn⟩ := h2.shape
  simp only [ho, resolve, invoke, builtin, Sem.run_bind, Sem.run_pure, Result.andThen_ok, List.map_toArray, List.map_cons, List.map_nil, hx, hr]
  exact hK' _ _ (hK ao n c w' h2 (by simpa using hn) h3 h4)

/-- the same as a step of a region that draws its order -/
theorem step_pushE {α : Type} {P : Program} {w : World} {ops : Array Oper} {o : Oper} {a : Act} {K : Act → World → Prop} {Q : Exit → Act → World → Prop} {E0 : Prop} {sz : Nat} {E : World → List Value → α → Prop} (hE : Elem sz E) (hsz : 0 < sz) (hgd : o.guard = none) (s x : Operand) (t : TypeId)
    (ho : o.op = .call { callee := .builtin .append, args := #[s, x], argTypes := #[t, t] })
    (e : TypeId) (bytes : Nat) (z : Value) (ht : P.underlying t = some (.slice e))
    (hi : (P.info? e).map (fun i => (i.zero, i.size, i.bytes)) = some (some z, sz, bytes)) (hzs : z.cells.size = sz) (hzi : ∀ u ∈ z.cells.toList, notInt u = true) (hby : bytes ≤ 100)
    (B : Nat) (xs : List α) (h : OwE sz E e w B (a.eval s) xs) (hlen : xs.length ≤ 100000000) (hB : B ≤ w.heap.size) (g : Nat) (cs : List Value) (y : α) (hx : a.eval x = .slice (some ⟨g, 0, none⟩) 1 1) (hcs : E w cs y) (hc : ∀ j u, cs[j]? = some u → w.cell? ⟨g, j, none⟩ = some u)
    (hK : ∀ ao n c w', OwE sz E e w' B (.slice ao n c) (xs ++ [y]) → n = xs.length + 1 → w.grownBy w' (a.eval s).ownBlock → Below B w w' → K (a.put o.dst (.slice ao n c)) w') :
    if Region.wanted o (yielded ops a.tmps) = true then Oper.wp P o a w K Q else E0 := by
  have hw : Region.wanted o (yielded ops a.tmps) = true := by simp [Region.wanted, hgd]
  rw [if_pos hw]
  obtain ⟨v', w', hr, h2, h3, h4⟩ := run_pushE (P := P) hE hsz t o.type e bytes z ht hi hzs hzi hby B _ xs h hlen hB g cs y hcs hc
  unfold Oper.wp execOp
  obtain ⟨ao, n, c, rfl, hn⟩ := h2.shape
  simp only [ho, resolve, invoke, builtin, Sem.run_bind, Sem.run_pure, Result.andThen_ok, List.map_toArray, List.map_cons, List.map_nil, hx, hr]
  exact hK ao n c w' h2 (by simpa using hn) h3 h4

/-- a text as an element -/
def ET (_ : World) (cs : List Value) (s : ByteArray) : Prop := cs = [.string s]
theorem elemT : Elem 1 ET where
  len := by intro w cs x h; rw [h]; rfl
  ints := by intro w cs x h u hu; rw [h] at hu; simp at hu; subst hu; rfl
  one := by intro w cs x h u hu; rw [h] at hu; simp at hu; subst hu; rfl
  keep := by intro w w' g cs x h _ _; exact h

/-- a slice value reads as a list of texts -/
def TxL (w : World) (v : Value) (L : List ByteArray) : Prop := SlE 1 ET w v L

theorem TxL.later {w w' : World} {v : Value} {L : List ByteArray} {B : Nat} (h : TxL w v L) (hb : Below B w w') (hB : w.heap.size ≤ B) : TxL w' v L := SlE.later elemT h hb hB
theorem TxL.at {w : World} {ao : Option Addr} {n cap : Nat} {L : List ByteArray} (h : TxL w (.slice ao n cap) L) (i : Nat) (s : ByteArray) (hi : L[i]? = some s) :
    ∃ b off, ao = some ⟨b, off, none⟩ ∧ b < w.heap.size ∧ w.cell? ⟨b, off + i, none⟩ = some (.string s) := by
  obtain ⟨b, off, cs, h1, h2, h3, rfl⟩ := SlE.at h i s hi
  refine ⟨b, off, h1, h2, ?_⟩
  have := h3 0 _ rfl
  rwa [Nat.mul_one, Nat.add_zero] at this
theorem TxL.open {w : World} {v : Value} {L : List ByteArray} (h : TxL w v L) : ∃ ao n cap, v = .slice ao n cap ∧ n = L.length ∧ n ≤ cap ∧ TxL w (.slice ao n cap) L := SlE.open h

theorem SlE.op {α : Type} {sz : Nat} {E : World → List Value → α → Prop} {w : World} {v : Value} {xs : List α} (h : SlE sz E w v xs) : ∃ ao n cap, v = .slice ao n cap ∧ SlE sz E w (.slice ao n cap) xs := by
  obtain ⟨ao, n, cap, h1, _, _, h2⟩ := h.open
  exact ⟨ao, n, cap, h1, h2⟩
theorem TxL.op {w : World} {v : Value} {L : List ByteArray} (h : TxL w v L) : ∃ ao n cap, v = .slice ao n cap ∧ TxL w (.slice ao n cap) L := SlE.op h

/-- a slice without room or not is one of cells that lie there -/
theorem TxL.mk {w : World} {b off n cap : Nat} {L : List ByteArray} (hn : n = L.length) (hc : n ≤ cap) (hb : b < w.heap.size) (hx : ∀ i s, L[i]? = some s → w.cell? ⟨b, off + i, none⟩ = some (.string s)) : TxL w (.slice (some ⟨b, off, none⟩) n cap) L := by
  subst hn
  refine ⟨_, cap, rfl, hc, fun i s hi => ⟨b, off, [.string s], rfl, hb, fun j u hj => ?_, rfl⟩⟩
  match j, hj with
  | 0, hj => simp at hj; subst hj; rw [Nat.mul_one, Nat.add_zero]; exact hx i s hi
  | (k + 1), hj => simp at hj

/-- a block of texts that is known whole -/
def TArr (e : TypeId) (w : World) (g : Nat) (L : List ByteArray) : Prop := w.heap[g]? = some (.cells (L.map Value.string).toArray e (0, 0))
theorem TArr.lt {e : TypeId} {w : World} {g : Nat} {L : List ByteArray} (h : TArr e w g L) : g < w.heap.size := lt_of_block h
theorem TArr.cell {e : TypeId} {w : World} {g : Nat} {L : List ByteArray} (h : TArr e w g L) (i : Nat) (s : ByteArray) (hi : L[i]? = some s) : w.cell? ⟨g, i, none⟩ = some (.string s) := by
  unfold TArr at h
  simp [World.cell?, h, hi]
theorem TArr.frozen {e : TypeId} {w : World} {g : Nat} {L : List ByteArray} (h : TArr e w g L) (i : Nat) : w.frozen? ⟨g, i, none⟩ = false := by
  unfold TArr at h
  simp [World.frozen?, h]
theorem TArr.set {e : TypeId} {w : World} {g : Nat} {L : List ByteArray} (h : TArr e w g L) (i : Nat) (s : ByteArray) : TArr e (w.setCell ⟨g, i, none⟩ (.string s)) g (L.set i s) := by
  unfold TArr at *
  simp only [World.setCell, Array.getElem?_modify, h, if_true, Option.map_some]
  congr 2
  simp [List.map_set]
theorem TArr.drewN {e : TypeId} {w : World} {g : Nat} {L : List ByteArray} (h : TArr e w g L) (n : Nat) : TArr e (w.drewN n) g L := h
theorem TArr.sl {e : TypeId} {w : World} {g : Nat} {L : List ByteArray} (h : TArr e w g L) (n cap : Nat) (hn : n = L.length) (hc : n ≤ cap) : TxL w (.slice (some ⟨g, 0, none⟩) n cap) L :=
  TxL.mk hn hc h.lt fun i s hi => by rw [Nat.zero_add]; exact h.cell i s hi

/-- make of texts with a length that is a number of the walk's -/
theorem wpList_maket {P : Program} (w : World) {ops : Array Oper} {rest : List Oper} {o : Oper} {a : Act} {Q : Exit → Act → World → Prop}
    (hg : o.guard = none) (l : Operand) (t : TypeId) (hop : o.op = Op.makeSlice t l l)
    (e : TypeId) (bytes : Nat) (h1 : P.underlying t = some (.slice e)) (hi : (P.info? e).map (fun i => (i.zero, i.size, i.bytes)) = some (some (.string ByteArray.empty), 1, bytes)) (hby : bytes ≤ 16)
    (kl : IntKind) (L : Int) (n : Nat) (hl : a.eval l = .int kl L) (hL : L = (n : Int)) (hn : n ≤ 1000000000000)
    (hK : ∀ w', TArr e w' w.heap.size (List.replicate n ByteArray.empty) → Below w.heap.size w w' → w'.heap.size = w.heap.size + 1 → wpList P ops Q rest (a.put o.dst (.slice (some ⟨w.heap.size, 0, none⟩) n n)) w') :
    wpList P ops Q (o :: rest) a w := by
  obtain ⟨i0, hi0, hz0, hz1, hz2⟩ := info_parts hi
  refine wpList_plain hg fun K hK' => ?_
  subst hL
  have hb : (i0.bytes : Int) * (n : Int) ≤ 281474976710656 := by
    rw [hz2]
    have : bytes * n ≤ 16 * n := Nat.mul_le_mul_right n hby
    have h2 : ((bytes * n : Nat) : Int) ≤ 281474976710656 := by omega
    rwa [Int.natCast_mul] at h2
  have hr := run_make (P := P) w t e i0 (.string ByteArray.empty) h1 hi0 hz0 kl kl n n (by omega) (Int.le_refl _) hb (by omega)
  simp only [Int.toNat_natCast, hz1, Nat.mul_one] at hr
  unfold Oper.wp
  simp [execOp, hop, hl, hr, Result.andThen]
  refine hK' _ _ (hK _ ?_ ?_ ?_)
  · show (w.heap.push _)[_]? = _
    rw [Array.getElem?_push, if_pos rfl]
    congr 2
    apply Array.toList_inj.1
    have h3 := toList_madeCells_one (.string ByteArray.empty) n
    simp only [Value.cells] at h3 ⊢
    rw [h3]
    simp
  · exact (Below.refl _ _).alloc (Nat.le_refl _) _
  · simp
end Go.Proofs.YtnfehccicnpbpaaGreatDoor

namespace Go.Proofs.YtnfehccicnpbpaaGreatDoor
open Go Go.RowKit

def sizes (L : List ByteArray) : Nat := (L.map (·.size)).sum
def tot (L : List ByteArray) : Nat := L.length + sizes L

theorem sizes_succ (L : List ByteArray) (k : Nat) (s : ByteArray) (h : L[k]? = some s) : sizes (L.take (k + 1)) = sizes (L.take k) + s.size := by
  have hk := (List.getElem?_eq_some_iff.1 h).1
  have : L.take (k + 1) = L.take k ++ [s] := by rw [List.take_add_one, h]; rfl
  simp [sizes, this]
theorem sizes_take_le (L : List ByteArray) (k : Nat) : sizes (L.take k) ≤ sizes L := by
  have : sizes L = sizes (L.take k) + sizes (L.drop k) := by
    rw [sizes, sizes, sizes, ← List.sum_append, ← List.map_append, List.take_append_drop]
  omega
theorem size_le_sizes {L : List ByteArray} {s : ByteArray} (h : s ∈ L) : s.size ≤ sizes L := by
  obtain ⟨k, hk, rfl⟩ := List.mem_iff_getElem.1 h
  have := sizes_succ L k L[k] (List.getElem?_eq_getElem hk)
  have h2 := sizes_take_le L (k + 1)
  omega

theorem maxLen_eq : maxLen = 9223372036854775807 := rfl

set_option maxRecDepth 100000 in
set_option maxHeartbeats 1000000 in
theorem szT_any (v : Value) (L : List ByteArray) (w : World) (left : Nat) (h : TxL w v L) (hn : L.length ≤ maxLen) (hs : ∀ s ∈ L, s.size ≤ maxLen) (hl : left ≤ 1048576) (R : Ending → World → Prop)
    (hR : tot L ≤ left → R (.returned (.int .i64 ((left - tot L : Nat) : Int))) w) (hR2 : left < tot L → R (.returned (.int .i64 (-1))) w) :
    Calls Tryz.prog 47 #[v, .int .i64 (left : Int)] w R := by
  have HR := Lib.hid hR; clear hR
  have HR2 := Lib.hid hR2; clear hR2
  obtain ⟨ao, n, cap, rfl, hnl, hc, hh⟩ := h.open
  have HH := Lib.hid hh
  rw [maxLen_eq] at hn
  have HS := Lib.hid hs
  have HN := Lib.hid hnl
  rw [← hnl] at hn
  clear h hs hnl hh
  by_cases h0 : left < n
  · obtain ⟨y, hy⟩ : ∃ y : Int, y = (left : Int) - (n : Int) := ⟨_, rfl⟩
    have hw : IntKind.i64.wrap ((left : Int) - (n : Int)) = y := by rw [hy]; exact IntWalk.i64_in _ (by omega)
    have hyn : y < 0 := by omega
    have HF := Lib.hid (HR2.out (by unfold tot; rw [← HN.out]; omega))
    clear hy h0
    go_enter Tryz.func47, Tryz.ntmps47
    go_wp2
    first | go_ret | skip
    exact HF.out
  · obtain ⟨y, hy⟩ : ∃ y : Nat, left = y + n := ⟨left - n, by omega⟩
    have hw : IntKind.i64.wrap ((left : Int) - (n : Int)) = (y : Int) := by rw [IntWalk.i64_in _ (by omega)]; omega
    have HY := Lib.hid hy
    clear hy h0
    go_enter Tryz.func47, Tryz.ntmps47
    go_wp2
    clear hw
    go_loop [5, 1] (fun i l => ∃ k x : Nat, i = .int .i64 (k : Int) ∧ k ≤ n ∧ l = .int .i64 (x : Int) ∧ y = x + sizes (L.take k)) (fun i _ => n - (intOf i).toNat)
    case atStart => exact ⟨0, y, rfl, Nat.zero_le _, rfl, by simp [sizes]⟩
    case round =>
      obtain ⟨k, x, rfl, hk, rfl, hx⟩ := hrel
      have HX := Lib.hid hx
      clear hx
      by_cases hkn : k = n
      · subst hkn
        have hfin : R (.returned (.int .i64 (x : Int))) w := by
          have h1 := HX.out
          rw [HN.out, List.take_length] at h1
          have h2 := HY.out
          have h3 := HR.out (by unfold tot; rw [← HN.out]; omega)
          rw [show left - tot L = x by unfold tot; rw [← HN.out]; omega] at h3
          exact h3
        have HF := Lib.hid hfin
        clear hfin
        go_wp2
        first | go_ret | skip
        exact HF.out
      · have hkl : k < n := by omega
        obtain ⟨s, hs⟩ : ∃ s, L[k]? = some s := ⟨_, List.getElem?_eq_getElem (by rw [← HN.out]; exact hkl)⟩
        have hsz := HS.out s (List.mem_of_getElem? hs)
        rw [maxLen_eq] at hsz
        obtain ⟨b, off, rfl, hb, hcell⟩ := TxL.at HH.out k s hs
        have HSZ := Lib.hid (sizes_succ L k s hs)
        have HLE := Lib.hid (sizes_take_le L (k + 1))
        clear hs
        obtain ⟨m, hm⟩ : ∃ m, m = s.size := ⟨_, rfl⟩
        have HM := Lib.hid hm
        have hxb : x ≤ 1048576 := by have := HX.out; have := HY.out; omega
        by_cases hxm : x < m
        · obtain ⟨z, hz⟩ : ∃ z : Int, z = (x : Int) - (s.size : Int) := ⟨_, rfl⟩
          have hw : IntKind.i64.wrap ((x : Int) - (s.size : Int)) = z := by rw [hz]; exact IntWalk.i64_in _ (by omega)
          have hzn : z < 0 := by omega
          have HF := Lib.hid (HR2.out (by have h1 := HX.out; have h2 := HY.out; have h3 := HSZ.out; have h4 := HLE.out; unfold tot; rw [← HN.out]; omega))
          clear hz hm hxm hsz
          go_wp2
          first | go_ret | skip
          exact HF.out
        · obtain ⟨z, hz⟩ : ∃ z : Nat, x = z + s.size := ⟨x - s.size, by omega⟩
          have hw : IntKind.i64.wrap ((x : Int) - (s.size : Int)) = (z : Int) := by rw [IntWalk.i64_in _ (by omega)]; omega
          have hw1 : IntKind.i64.wrap ((k : Int) + 1) = ((k + 1 : Nat) : Int) := by rw [IntWalk.i64_in _ (by omega)]; omega
          have HZ := Lib.hid (show y = z + sizes (L.take (k + 1)) by have h1 := HX.out; have h3 := HSZ.out; omega)
          clear hz hm hxm hsz hxb
          go_wp2
          go_round
          case rel => exact ⟨k + 1, z, by first | rfl | go_num, by omega, rfl, HZ.out⟩
          case measure => simp [intOf]; omega

theorem set_copy {α : Type} (L : List α) (k n : Nat) (e s : α) (hk : k < n) (h : L[k]? = some s) : (L.take k ++ List.replicate (n - k) e).set k s = L.take (k + 1) ++ List.replicate (n - (k + 1)) e := by
  have hl : k < L.length := (List.getElem?_eq_some_iff.1 h).1
  have h1 : n - k = (n - (k + 1)) + 1 := by omega
  have h2 : (L.take k).length = k := by rw [List.length_take]; omega
  rw [h1, List.replicate_succ, List.set_append_right _ _ (by omega), h2, Nat.sub_self, List.set_cons_zero, List.take_add_one, h]
  simp

theorem info_str : (Tryz.prog.info? 9).map (fun i => (i.zero, i.size, i.bytes)) = some (some (.string ByteArray.empty), 1, 16) := by kernel_rfl

def CopyRel (w : World) (n : Nat) (L : List ByteArray) (i : Value) (wr : World) : Prop :=
  ∃ k : Nat, i = .int .i64 (k : Int) ∧ k ≤ n ∧ TArr 9 wr w.heap.size (L.take k ++ List.replicate (n - k) ByteArray.empty) ∧ Below w.heap.size w wr

set_option maxRecDepth 100000 in
set_option maxHeartbeats 1000000 in
theorem toT_any (v : Value) (L : List ByteArray) (w : World) (h : TxL w v L) (hn : L.length ≤ 1048576) (R : Ending → World → Prop)
    (hR : ∀ v' w', TxL w' v' L → Below w.heap.size w w' → R (.returned v') w') :
    Calls Tryz.prog 53 #[v] w R := by
  have HR := Lib.hid hR; clear hR
  obtain ⟨ao, n, cap, rfl, hnl, hc, hh⟩ := h.open
  have HH := Lib.hid hh
  have HN := Lib.hid hnl
  rw [← hnl] at hn
  clear h hnl hh
  go_enter Tryz.func53, Tryz.ntmps53
  go_wp2_with (at_make; go_must (refine wpList_maket _ rfl (.tmp 6) 22 rfl 9 16 Tryz.underlying22 info_str (by omega) .i64 _ n rfl (by omega) (by omega) ?_))
  intro W hA hbW hsW
  have HST : Hid (CopyRel w n L (.int .i64 0) W) := Lib.hid ⟨0, rfl, Nat.zero_le _, by simpa using hA, hbW⟩
  clear hA hbW hsW
  go_wp2
  go_loopw [4] (fun i wr => CopyRel w n L i wr) (fun i _ => n - (intOf i).toNat)
  case atStart => exact HST.out
  case round =>
    clear HST
    obtain ⟨k, rfl, hk, hA, hbel⟩ := hrel
    have HB := Lib.hid hbel
    by_cases hkn : k = n
    · subst hkn
      have hL : L.take k ++ List.replicate (k - k) ByteArray.empty = L := by rw [Nat.sub_self, HN.out, List.take_length]; simp
      rw [hL] at hA
      have HT := Lib.hid (hA.sl k k HN.out (Nat.le_refl _))
      clear hA hbel hL
      go_wp2
      first | go_ret | skip
      exact HR.out _ _ HT.out HB.out
    · have hkl : k < n := by omega
      obtain ⟨s, hs⟩ : ∃ s, L[k]? = some s := ⟨_, List.getElem?_eq_getElem (by rw [← HN.out]; exact hkl)⟩
      obtain ⟨b, off, rfl, hb, hcell⟩ := TxL.at HH.out k s hs
      rw [← hbel.cell (p := ⟨b, off + k, none⟩) hb] at hcell
      have hlen : (L.take k ++ List.replicate (n - k) ByteArray.empty).length = n := by rw [List.length_append, List.length_take, List.length_replicate, ← HN.out]; omega
      have hc2 := hA.cell k _ (List.getElem?_eq_getElem (by rw [hlen]; exact hkl))
      have hf2 := hA.frozen k
      have hA2 := hA.set k s
      rw [set_copy L k n ByteArray.empty s hkl hs] at hA2
      have HA2 := Lib.hid hA2
      obtain ⟨u, hu⟩ : ∃ u, u = (L.take k ++ List.replicate (n - k) ByteArray.empty)[k]'(by rw [hlen]; exact hkl) := ⟨_, rfl⟩
      rw [← hu] at hc2
      have hw1 : IntKind.i64.wrap ((k : Int) + 1) = ((k + 1 : Nat) : Int) := by rw [IntWalk.i64_in _ (by omega)]; omega
      clear hA hA2 hbel hlen hs hu
      go_wp2
      go_roundw
      case rel => exact ⟨k + 1, by first | rfl | go_num, by omega, HA2.out, HB.out.setCell (Nat.le_refl _) _⟩
      case measure => simp [intOf]; omega

set_option maxRecDepth 100000 in
set_option maxHeartbeats 1000000 in
theorem eqT_any (v1 v2 : Value) (L1 L2 : List ByteArray) (w : World) (h1 : TxL w v1 L1) (h2 : TxL w v2 L2) (hn : L1.length ≤ 281474976710656) (hn2 : L2.length ≤ 281474976710656) (R : Ending → World → Prop)
    (hR : ∀ w', Below w.heap.size w w' → R (.returned (.bool (decide (L1 = L2)))) w') :
    Calls Tryz.prog 57 #[v1, v2] w R := by
  have HR := Lib.hid hR; clear hR
  obtain ⟨a1, n, c1, rfl, hn1, hc1, hh1⟩ := h1.open
  obtain ⟨a2, n2, c2, rfl, hn2', hc2, hh2⟩ := h2.open
  have HH1 := Lib.hid hh1
  have HH2 := Lib.hid hh2
  have HN1 := Lib.hid hn1
  have HN2 := Lib.hid hn2'
  rw [← hn1] at hn
  rw [← hn2'] at hn2
  clear h1 h2 hn1 hn2' hh1 hh2
  by_cases hne : n = n2
  · subst hne
    have e0 : ((n : Int) != (n : Int)) = false := by simp
    go_enter Tryz.func57, Tryz.ntmps57
    go_wp2
    clear e0
    go_loopw [5] (fun i wr => ∃ k : Nat, i = .int .i64 (k : Int) ∧ k ≤ n ∧ L1.take k = L2.take k ∧ Below w.heap.size w wr) (fun i _ => n - (intOf i).toNat)
    case atStart => exact ⟨0, rfl, Nat.zero_le _, by simp, Below.refl _ _⟩
    case round =>
      obtain ⟨k, rfl, hk, htk, hbel⟩ := hrel
      have HTK := Lib.hid htk
      have HB := Lib.hid hbel
      clear htk
      by_cases hkn : k = n
      · subst hkn
        have he : L1 = L2 := by
          have := HTK.out
          rw [HN1.out, List.take_length] at this
          rw [this, ← HN1.out, HN2.out, List.take_length]
        rw [decide_eq_true he] at HR
        clear hbel he
        go_wp2
        first | go_ret | skip
        exact HR.out _ HB.out
      · have hkl : k < n := by omega
        obtain ⟨s, hs⟩ : ∃ s, L1[k]? = some s := ⟨_, List.getElem?_eq_getElem (by rw [← HN1.out]; exact hkl)⟩
        obtain ⟨t, ht⟩ : ∃ t, L2[k]? = some t := ⟨_, List.getElem?_eq_getElem (by rw [← HN2.out]; exact hkl)⟩
        obtain ⟨b1, o1, rfl, hb1, hcell1⟩ := TxL.at HH1.out k s hs
        obtain ⟨b2, o2, rfl, hb2, hcell2⟩ := TxL.at HH2.out k t ht
        rw [← hbel.cell (p := ⟨b1, o1 + k, none⟩) hb1] at hcell1
        rw [← hbel.cell (p := ⟨b2, o2 + k, none⟩) hb2] at hcell2
        have hw1 : IntKind.i64.wrap ((k : Int) + 1) = ((k + 1 : Nat) : Int) := by rw [IntWalk.i64_in _ (by omega)]; omega
        have hk0 : (0 : Int) ≤ (k : Int) := by omega
        have hk1 : (k : Int) < (n : Int) := by omega
        by_cases hst : s = t
        · have HT2 := Lib.hid (show L1.take (k + 1) = L2.take (k + 1) by rw [List.take_add_one, List.take_add_one, hs, ht, HTK.out, hst])
          have e9 : (s.toList == t.toList) = true := by subst hst; simp
          clear hs ht hbel hst
          go_wp2
          go_quiet (fail)
          go_wp2
          go_roundw
          case rel => exact ⟨k + 1, by first | rfl | go_num, by omega, HT2.out, below_draws HB.out _⟩
          case measure => simp [intOf]; omega
        · have hne : L1 ≠ L2 := fun e => by subst e; rw [hs] at ht; exact hst (Option.some.inj ht)
          have e9 : (s.toList == t.toList) = false := by
            rw [beq_eq_false_iff_ne]
            intro e
            rw [Lib.toList_data, Lib.toList_data] at e
            exact hst (by cases s; cases t; simpa [← Array.toList_inj] using e)
          rw [decide_eq_false hne] at HR
          clear hs ht hbel hst hne
          go_wp2
          go_quiet (fail)
          go_wp2
          first | go_ret | skip
          exact HR.out _ (below_draws HB.out _)
  · have e0 : ((n : Int) != (n2 : Int)) = true := by simp; omega
    have hd : L1 ≠ L2 := fun e => hne (by rw [HN1.out, HN2.out, e])
    rw [decide_eq_false hd] at HR
    clear hne hd
    go_enter Tryz.func57, Tryz.ntmps57
    go_wp2
    first | go_ret | skip
    exact HR.out _ (Below.refl _ _)
end Go.Proofs.YtnfehccicnpbpaaGreatDoor
