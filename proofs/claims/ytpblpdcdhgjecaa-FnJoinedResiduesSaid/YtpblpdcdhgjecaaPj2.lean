/- Contracts of functions of the program and of the model: GcdL, JoinM, JoinI, LawJoin. -/
import Derived.Test.YtpblpdcdhgjecaaPk1
import Derived.Test.YtpblpdcdhgjecaaProg
import Derived.Deep.CutBlock
set_option linter.all false
set_option linter.unusedVariables false
set_option linter.unusedSimpArgs false
set_option linter.unnecessarySimpa false
set_option linter.deprecated false
namespace Go.Proofs.Ytpblpdcdhgjecaa
open Go Go.RowKit

set_option maxRecDepth 100000 in
set_option maxHeartbeats 1000000 in
theorem gcdl_any (a b : Nat) (w : World) (ha : a < W64) (hb : b < W64) (R : Ending → World → Prop)
    (hR : ∀ w', Below w.heap.size w w' → w'.heap.size = w.heap.size → R (.returned (.int .u64 ((Nat.gcd a b : Nat) : Int))) w') :
    Calls Try.prog 13 #[.int .u64 ((a : Nat) : Int), .int .u64 ((b : Nat) : Int)] w R := by
  have HR := Lib.hid hR; clear hR
  go_enter Try.func13, Try.ntmps13
  have HA := Lib.hid ha
  have HB := Lib.hid hb
  clear ha hb
  go_wp2
  go_loopw [0, 1] (fun av bv wr => ∃ x y : Nat, av = .int .u64 ((x : Nat) : Int) ∧ bv = .int .u64 ((y : Nat) : Int) ∧ Nat.gcd x y = Nat.gcd a b ∧ x < W64 ∧ y < W64 ∧ Below w.heap.size w wr ∧ wr.heap.size = w.heap.size) (fun _ bv _ => (intOf bv).toNat)
  case atStart => exact ⟨a, b, rfl, rfl, rfl, HA.out, HB.out, Below.refl _ _, rfl⟩
  case round =>
    clear HA HB
    obtain ⟨x, y, rfl, rfl, hg, hx, hy, hbel, hsz⟩ := hrel
    have HG := Lib.hid hg
    have HX := Lib.hid hx
    have HY := Lib.hid hy
    have HB := Lib.hid hbel
    have HSZ := Lib.hid hsz
    clear hg hx hy hbel hsz
    by_cases hy0 : y = 0
    · subst hy0
      have hfin := HR.out _ HB.out HSZ.out
      rw [← HG.out, Nat.gcd_zero_right] at hfin
      have HF := Lib.hid hfin
      clear hfin
      go_wp2
      first | go_ret | skip
      exact HF.out
    · have hyp : (0 : Int) < (y : Int) := by omega
      have hy1 : (1 : Int) ≤ (y : Int) := by omega
      have hyn : ((y : Int) == 0) = false := by simp; omega
      obtain ⟨r, hr⟩ : ∃ r, r = x % y := ⟨_, rfl⟩
      have hre : (x : Int) % (y : Int) = (r : Int) := by rw [hr]; exact (Int.natCast_emod x y).symm
      have hrt : (x : Int).tmod (y : Int) = (r : Int) := by rw [Int.tmod_eq_emod_of_nonneg (by omega)]; exact hre
      have hrl : r < y := by rw [hr]; exact Nat.mod_lt _ (by omega)
      have hg2 : Nat.gcd y r = Nat.gcd a b := by rw [← HG.out, hr, Nat.gcd_comm y, ← Nat.gcd_rec, Nat.gcd_comm]
      have HG2 := Lib.hid hg2
      clear hr hg2
      go_wp2
      go_quiet (fail)
      go_wp2
      go_roundw
      case rel => exact ⟨y, r, rfl, rfl, HG2.out, HY.out, Nat.lt_trans hrl HY.out, below_draws HB.out _, HSZ.out⟩
      case measure => simp [intOf]; omega

end Go.Proofs.Ytpblpdcdhgjecaa

namespace Go.Proofs.Ytpblpdcdhgjecaa

/-- how often m is added -/
def joinBy (a m b n : Nat) : Nat := ((m / Nat.gcd m n * n + b - a) / Nat.gcd m n) * invR (m / Nat.gcd m n % (n / Nat.gcd m n)) (n / Nat.gcd m n) % (n / Nat.gcd m n)
def joinB (a m b n : Nat) : Bool := decide ((m / Nat.gcd m n * n + b - a) % Nat.gcd m n = 0)

theorem join_parts {m n : Nat} (hm : 0 < m) (hn : 0 < n) : ∃ x p q, x = Nat.gcd m n ∧ 0 < x ∧ 0 < p ∧ 0 < q ∧ m = x * p ∧ n = x * q ∧ m / x = p ∧ n / x = q ∧ Nat.gcd p q = 1 := by
  obtain ⟨x, hx⟩ : ∃ x, x = Nat.gcd m n := ⟨_, rfl⟩
  have h0 : 0 < x := by rw [hx]; exact Nat.gcd_pos_of_pos_left _ hm
  obtain ⟨p, hp⟩ : x ∣ m := by rw [hx]; exact Nat.gcd_dvd_left _ _
  obtain ⟨q, hq⟩ : x ∣ n := by rw [hx]; exact Nat.gcd_dvd_right _ _
  refine ⟨x, p, q, hx, h0, ?_, ?_, hp, hq, ?_, ?_, ?_⟩
  · rcases Nat.eq_zero_or_pos p with h | h
    · subst h; omega
    · exact h
  · rcases Nat.eq_zero_or_pos q with h | h
    · subst h; omega
    · exact h
  · rw [hp]; exact Nat.mul_div_cancel_left _ h0
  · rw [hq]; exact Nat.mul_div_cancel_left _ h0
  · have e : x * Nat.gcd p q = x * 1 := by rw [← Nat.gcd_mul_left, ← hp, ← hq, ← hx, Nat.mul_one]
    exact Nat.eq_of_mul_eq_mul_left h0 e

theorem gcd_mod_one {p q : Nat} (h : Nat.gcd p q = 1) : Nat.gcd q (p % q) = 1 := by
  rw [Nat.gcd_comm p q, Nat.gcd_rec q p, Nat.gcd_comm] at h
  exact h

/-- whether there is one, as the model asks -/
theorem joinB_iff {a m b n : Nat} (hm : 0 < m) (hn : 0 < n) (ha : a < m) : joinB a m b n = true ↔ ((Nat.gcd m n : Nat) : Int) ∣ (b : Int) - a := by
  obtain ⟨x, p, q, hx, h0, hp, hq, e1, e2, e3, e4, _⟩ := join_parts hm hn
  unfold joinB
  rw [← hx, e3, decide_eq_true_iff]
  have hge : a ≤ p * n + b := by
    have : m ≤ p * n := by rw [e1, e2]; calc x * p = p * x := Nat.mul_comm _ _
                                          _ ≤ p * (x * q) := Nat.mul_le_mul_left _ (Nat.le_mul_of_pos_right _ hq)
    omega
  have ez : (((p * n + b - a : Nat)) : Int) = (x : Int) * (p * q : Nat) + ((b : Int) - a) := by
    have : x * (p * q) = p * n := by rw [e2, Nat.mul_left_comm]
    rw [← Int.natCast_mul, this]; omega
  constructor
  · intro h
    obtain ⟨k, hk⟩ := Nat.dvd_of_mod_eq_zero h
    exact ⟨(k : Int) - ((p * q : Nat) : Int), by rw [Int.mul_sub, ← Int.natCast_mul x k, ← hk, ez]; omega⟩
  · rintro ⟨k, hk⟩
    apply Nat.mod_eq_zero_of_dvd
    have : (x : Int) ∣ ((p * n + b - a : Nat) : Int) := ⟨((p * q : Nat) : Int) + k, by rw [ez, Int.mul_add, ← hk]⟩
    exact Int.natCast_dvd_natCast.1 this

/-- the quotient that is left, as the model has it -/
theorem join_gap {a m b n : Nat} (hm : 0 < m) (hn : 0 < n) (ha : a < m) {k : Int} (hk : (b : Int) - a = ((Nat.gcd m n : Nat) : Int) * k) :
    (((m / Nat.gcd m n * n + b - a) / Nat.gcd m n : Nat) : Int) = ((m / Nat.gcd m n : Nat) : Int) * ((n / Nat.gcd m n : Nat) : Int) + k := by
  obtain ⟨x, p, q, hx, h0, hp, hq, e1, e2, e3, e4, _⟩ := join_parts hm hn
  rw [← hx] at hk ⊢
  rw [e3, e4]
  have hge : a ≤ p * n + b := by
    have : m ≤ p * n := by rw [e1, e2]; calc x * p = p * x := Nat.mul_comm _ _
                                          _ ≤ p * (x * q) := Nat.mul_le_mul_left _ (Nat.le_mul_of_pos_right _ hq)
    omega
  have ez : (((p * n + b - a : Nat)) : Int) = (x : Int) * ((p : Int) * (q : Int) + k) := by
    have e5 : x * (p * q) = p * n := by rw [e2, Nat.mul_left_comm]
    rw [Int.mul_add, ← hk, ← Int.natCast_mul p q, ← Int.natCast_mul, e5]; omega
  rw [Int.natCast_ediv, ez, Int.mul_ediv_cancel_left _ (by omega)]

/-- the number of times, as the model reckons it -/
theorem join_by {a m b n : Nat} (hm : 0 < m) (hn : 0 < n) (ha : a < m) {k : Int} (hk : (b : Int) - a = ((Nat.gcd m n : Nat) : Int) * k) :
    ((joinBy a m b n : Nat) : Int) = (k % ((n / Nat.gcd m n : Nat) : Int)) * ((invR (m / Nat.gcd m n % (n / Nat.gcd m n)) (n / Nat.gcd m n) : Nat) : Int) % ((n / Nat.gcd m n : Nat) : Int) := by
  unfold joinBy
  rw [Int.natCast_emod, Int.natCast_mul, join_gap hm hn ha hk, Int.mul_emod, Int.add_comm, Int.mul_comm ((m / Nat.gcd m n : Nat) : Int), Int.add_mul_emod_self_left, ← Int.mul_emod]
  simp [Int.mul_emod]

/-- it is the joined residue -/
theorem join_ok {a m b n : Nat} (hm : 0 < m) (hn : 0 < n) (ha : a < m) (hd : ((Nat.gcd m n : Nat) : Int) ∣ (b : Int) - a) : (n : Int) ∣ (a : Int) + m * (joinBy a m b n : Nat) - b := by
  obtain ⟨k, hk⟩ := hd
  have hby := join_by hm hn ha hk
  obtain ⟨x, p, q, hx, h0, hp, hq, e1, e2, e3, e4, hg⟩ := join_parts hm hn
  rw [← hx, e3, e4] at hby
  rw [← hx] at hk
  have hinv := invR_mul hq (gcd_mod_one hg)
  generalize invR (p % q) q = i at *
  generalize joinBy a m b n = y at *
  obtain ⟨u, hu⟩ := hinv
  have d1 := Int.emod_add_mul_ediv (k % (q : Int) * (i : Int)) (q : Int)
  have d2 := Int.emod_add_mul_ediv k (q : Int)
  have d3 := Nat.mod_add_div p q
  rw [← hby] at d1
  generalize (k % (q : Int) * (i : Int)) / (q : Int) = s at *
  generalize k % (q : Int) = r at *
  generalize k / (q : Int) = t at *
  have d3' : ((p % q : Nat) : Int) = (p : Int) - (q : Int) * ((p / q : Nat) : Int) := by rw [← Int.natCast_mul]; omega
  rw [d3'] at hu
  generalize ((p / q : Nat) : Int) = v at *
  have e1' : (m : Int) = (x : Int) * (p : Int) := by rw [e1, Int.natCast_mul]
  have e2' : (n : Int) = (x : Int) * (q : Int) := by rw [e2, Int.natCast_mul]
  rw [e1', e2']
  generalize (p : Int) = P at *
  generalize (q : Int) = Q at *
  generalize (i : Int) = I at *
  generalize (y : Int) = Y at *
  generalize (x : Int) = X at *
  clear hby d3 d3' e1 e2 e3 e4 hg e1' e2' hp hq h0 hx
  -- Y = r I - Q s, r = k - Q t, 1 - I (P - Q v) = Q u, b - a = X k
  have hY : Y = r * I - Q * s := by omega
  have hr : r = k - Q * t := by omega
  refine ⟨-(k * u) + k * v * I - t * I * P - P * s, ?_⟩
  have hz : (a : Int) + X * P * Y - b = X * P * Y - X * k := by omega
  rw [hz, hY, hr]
  grind

theorem joinBy_lt {a m b n : Nat} (hm : 0 < m) (hn : 0 < n) : joinBy a m b n < n / Nat.gcd m n := by
  obtain ⟨x, p, q, hx, h0, hp, hq, e1, e2, e3, e4, hg⟩ := join_parts hm hn
  unfold joinBy
  rw [← hx, e4]
  exact Nat.mod_lt _ hq

end Go.Proofs.Ytpblpdcdhgjecaa

namespace Go.Proofs.Ytpblpdcdhgjecaa
open Go Go.RowKit

/-- what is told of two residues -/
def joinOK (a m b n : Int) : Bool := resB a m && resB b n && joinB a.toNat m.toNat b.toNat n.toNat
def joinV (a m b n : Int) : Value := if joinOK a m b n = true then .tuple #[.int .i64 ((a.toNat + m.toNat * joinBy a.toNat m.toNat b.toNat n.toNat : Nat) : Int), .int .i64 ((m.toNat / Nat.gcd m.toNat n.toNat * n.toNat : Nat) : Int), .bool true]
  else .tuple #[.int .i64 0, .int .i64 0, .bool false]

theorem joinV_no {a m b n : Int} (h : joinOK a m b n = false) : joinV a m b n = .tuple #[.int .i64 0, .int .i64 0, .bool false] := by
  unfold joinV; rw [h, if_neg (by decide)]
theorem joinV_yes {a m b n : Nat} (h : joinOK a m b n = true) : joinV a m b n = .tuple #[.int .i64 ((a + m * joinBy a m b n : Nat) : Int), .int .i64 ((m / Nat.gcd m n * n : Nat) : Int), .bool true] := by
  unfold joinV; rw [h, if_pos rfl]; simp only [Int.toNat_natCast]

theorem invO_one {p q : Nat} (h : Nat.gcd p q = 1) : invO (p % q) q = invR (p % q) q := by
  unfold invO; rw [if_pos ((invB_iff _ _).2 (gcd_mod_one h))]

set_option maxRecDepth 100000 in
set_option maxHeartbeats 2000000 in
theorem impl_join (a m b n : Int) (w : World) (R : Ending → World → Prop)
    (hR : ∀ w', Below w.heap.size w w' → R (.returned (joinV a m b n)) w') :
    Calls Try.prog 8 #[.int .i64 a, .int .i64 m, .int .i64 b, .int .i64 n] w R := by
  have HR := Lib.hid hR; clear hR
  cases h1 : resB a m with
  | false =>
    rw [joinV_no (by unfold joinOK; rw [h1]; rfl)] at HR
    have H1 := Lib.hid h1
    clear h1
    go_enter Try.func8, Try.ntmps8
    go_wp2_with fail
    refine isres_any a m _ _ ?_
    rw [H1.out]
    dsimp only
    go_wp2
    first | go_ret3 | skip
    exact HR.out _ (Below.refl _ _)
  | true =>
    have H1 := Lib.hid h1
    cases h2 : resB b n with
    | false =>
      rw [joinV_no (by unfold joinOK; rw [h2]; simp)] at HR
      have H2 := Lib.hid h2
      clear h1 h2
      go_enter Try.func8, Try.ntmps8
      go_wp2_with fail
      refine isres_any a m _ _ ?_
      rw [H1.out]
      dsimp only
      go_wp2_with fail
      refine isres_any b n _ _ ?_
      rw [H2.out]
      dsimp only
      go_wp2
      first | go_ret3 | skip
      exact HR.out _ (Below.refl _ _)
    | true =>
      have H2 := Lib.hid h2
      obtain ⟨x, k, rfl, rfl, hk1, hk2, hx⟩ := resB_parts h1
      obtain ⟨y, l, rfl, rfl, hl1, hl2, hy⟩ := resB_parts h2
      obtain ⟨g, p, q, hg, hg0, hp0, hq0, ek, el, ep, eq', hpq⟩ := join_parts (m := k) (n := l) (by omega) (by omega)
      have hgk : g ≤ k := by rw [ek]; exact Nat.le_mul_of_pos_right _ hp0
      have hpk : p ≤ k := by rw [ek]; exact Nat.le_mul_of_pos_left _ hg0
      have hql : q ≤ l := by rw [el]; exact Nat.le_mul_of_pos_left _ hg0
      obtain ⟨M, hM⟩ : ∃ M, M = p * l := ⟨_, rfl⟩
      have hMb : M ≤ 1000000 * 1000000 := by rw [hM]; exact Nat.mul_le_mul (by omega) hl2
      have hMk : k ≤ M := by
        rw [hM, ek, el, Nat.mul_comm]; exact Nat.mul_le_mul_left _ (Nat.le_mul_of_pos_right _ hq0)
      obtain ⟨gp, hgp⟩ : ∃ gp, gp = M + y - x := ⟨_, rfl⟩
      obtain ⟨rr, hrr⟩ : ∃ rr, rr = gp % g := ⟨_, rfl⟩
      have hrl : rr < g := by rw [hrr]; exact Nat.mod_lt _ hg0
      have e0 : Hid (Nat.gcd k l = g) := Lib.hid hg.symm
      have c1 : IntKind.u64.wrap (k : Int) = (k : Int) := wrapu _ (by omega) (by omega)
      have c2 : IntKind.u64.wrap (l : Int) = (l : Int) := wrapu _ (by omega) (by omega)
      have c3 : IntKind.i64.wrap (g : Int) = (g : Int) := IntWalk.i64_in _ (by omega)
      have d1 : (k : Int) / (g : Int) = (p : Int) := by rw [← ep, hg]; omega
      have d2 : Int.tdiv (k : Int) (g : Int) = (p : Int) := by rw [Int.tdiv_eq_ediv_of_nonneg (by omega)]; exact d1
      have c4 : IntKind.i64.wrap (p : Int) = (p : Int) := IntWalk.i64_in _ (by omega)
      have c5 : IntKind.i64.wrap ((p : Int) * (l : Int)) = (M : Int) := by rw [hM, Int.natCast_mul, IntWalk.i64_in _ (by rw [← Int.natCast_mul, ← hM]; omega)]
      have c6 : IntKind.i64.wrap ((M : Int) + (y : Int)) = (M : Int) + (y : Int) := IntWalk.i64_in _ (by omega)
      have c7 : IntKind.i64.wrap ((M : Int) + (y : Int) - (x : Int)) = (gp : Int) := by rw [IntWalk.i64_in _ (by omega)]; omega
      have d3 : (gp : Int) % (g : Int) = (rr : Int) := by rw [hrr]; omega
      have d4 : Int.tmod (gp : Int) (g : Int) = (rr : Int) := by rw [tmodN, hrr]
      have c8 : IntKind.i64.wrap (rr : Int) = (rr : Int) := IntWalk.i64_in _ (by omega)
      have z1 : ((g : Int) == 0) = false := by rw [beq_eq_false_iff_ne]; omega
      have z2 : ¬ ((g : Int) = 0) := by omega
      have hJ : joinB x k y l = decide (rr = 0) := by unfold joinB; rw [hrr, hgp, ← hg, ep, hM]
      have hOK : joinOK (x : Int) (k : Int) (y : Int) (l : Int) = decide (rr = 0) := by
        unfold joinOK; rw [h1, h2]; simp only [Int.toNat_natCast, Bool.true_and]; exact hJ
      have HW : Hid (k < W64 ∧ l < W64) := Lib.hid (by rw [W64_eq]; omega)
      by_cases hr0 : rr = 0
      · have t1 : ((rr : Int) != 0) = false := by rw [hr0]; rfl
        rw [decide_eq_true hr0] at hOK
        rw [joinV_yes hOK, ← hg, ep, ← hM] at HR
        obtain ⟨kk, hkk⟩ : ∃ kk, kk = gp / g := ⟨_, rfl⟩
        obtain ⟨pq, hpq2⟩ : ∃ pq, pq = p % q := ⟨_, rfl⟩
        have hpql : pq < q := by rw [hpq2]; exact Nat.mod_lt _ hq0
        obtain ⟨iv, hiv⟩ : ∃ iv, iv = invO pq q := ⟨_, rfl⟩
        have hivq : iv < q := by rw [hiv, hpq2, invO_one hpq]; exact invR_lt hq0
        obtain ⟨ad, had⟩ : ∃ ad, ad = kk * iv % q := ⟨_, rfl⟩
        have hadq : ad < q := by rw [had]; exact Nat.mod_lt _ hq0
        have hBY : joinBy x k y l = ad := by
          unfold joinBy; rw [had, hkk, hiv, hpq2, invO_one hpq, hgp, ← hg, ep, eq', hM]
        rw [hBY] at HR
        have hkg : kk ≤ gp := by rw [hkk]; exact Nat.div_le_self _ _
        obtain ⟨mb, hmb⟩ : ∃ mb, mb = k * ad := ⟨_, rfl⟩
        have hmbl : mb ≤ 1000000 * 1000000 := by rw [hmb]; exact Nat.mul_le_mul hk2 (by omega)
        rw [← hmb] at HR
        have d5 : (l : Int) / (g : Int) = (q : Int) := by rw [← eq', hg]; omega
        have d6 : Int.tdiv (l : Int) (g : Int) = (q : Int) := by rw [Int.tdiv_eq_ediv_of_nonneg (by omega)]; exact d5
        have c9 : IntKind.i64.wrap (q : Int) = (q : Int) := IntWalk.i64_in _ (by omega)
        have c10 : IntKind.u64.wrap (q : Int) = (q : Int) := wrapu _ (by omega) (by omega)
        have c11 : IntKind.u64.wrap (p : Int) = (p : Int) := wrapu _ (by omega) (by omega)
        have d7 : (p : Int) % (q : Int) = (pq : Int) := by rw [hpq2]; omega
        have d8 : Int.tmod (p : Int) (q : Int) = (pq : Int) := by rw [tmodN, hpq2]
        have c12 : IntKind.u64.wrap (pq : Int) = (pq : Int) := wrapu _ (by omega) (by omega)
        have z3 : ((q : Int) == 0) = false := by rw [beq_eq_false_iff_ne]; omega
        have z4 : ¬ ((q : Int) = 0) := by omega
        have d9 : (gp : Int) / (g : Int) = (kk : Int) := by rw [hkk]; omega
        have d10 : Int.tdiv (gp : Int) (g : Int) = (kk : Int) := by rw [Int.tdiv_eq_ediv_of_nonneg (by omega)]; exact d9
        have c13 : IntKind.i64.wrap (kk : Int) = (kk : Int) := IntWalk.i64_in _ (by omega)
        have c14 : IntKind.u64.wrap (kk : Int) = (kk : Int) := wrapu _ (by omega) (by omega)
        have c15 : IntKind.i64.wrap (ad : Int) = (ad : Int) := IntWalk.i64_in _ (by omega)
        have c16 : IntKind.i64.wrap ((k : Int) * (ad : Int)) = (mb : Int) := by rw [hmb, Int.natCast_mul, IntWalk.i64_in _ (by rw [← Int.natCast_mul, ← hmb]; omega)]
        have c17 : IntKind.i64.wrap ((x : Int) + (mb : Int)) = (x : Int) + (mb : Int) := IntWalk.i64_in _ (by omega)
        rw [Int.natCast_add] at HR
        have HIV := Lib.hid hiv
        have HAD := Lib.hid had
        have HT : Hid (kk < W64 ∧ iv < W64 ∧ q < W64) := Lib.hid (by rw [W64_eq]; omega)
        clear h1 h2 hg hp0 hg0 ek el ep eq' hM hgp hrr hJ hOK hkk hpq2 hiv had hBY hmb hpq hr0 hMk hMb
        go_enter Try.func8, Try.ntmps8
        go_wp2_with fail
        refine isres_any _ _ _ _ ?_
        rw [H1.out]
        dsimp only
        go_wp2_with fail
        refine isres_any _ _ _ _ ?_
        rw [H2.out]
        dsimp only
        go_wp2_with fail
        refine gcdl_any k l _ HW.out.1 HW.out.2 _ ?_
        intro w1 hb1 _
        rw [e0.out]
        have HB1 := Lib.hid hb1
        clear hb1
        dsimp only
        go_wp2_with fail
        refine inverse_any q pq _ hpql (by omega) _ ?_
        intro w2 hb2
        rw [← HIV.out]
        have HB2 := Lib.hid (HB1.out.trans (hb2.mono HB1.out.size))
        clear hb2
        dsimp only
        go_wp2_with fail
        refine mtimes_any q kk iv _ HT.out.1 HT.out.2.1 HT.out.2.2 hq0 _ ?_
        intro n3
        rw [← HAD.out]
        have HF := Lib.hid (HR.out (w2.drewN n3) (below_draws HB2.out _))
        dsimp only
        go_wp2
        first | go_ret3 | skip
        exact HF.out
      · have t1 : ((rr : Int) != 0) = true := by rw [bne_iff_ne]; omega
        rw [decide_eq_false hr0] at hOK
        rw [joinV_no hOK] at HR
        clear h1 h2 hg hp0 hq0 hg0 ek el ep eq' hM hgp hrr hJ hOK hpq hr0 hMk hMb
        go_enter Try.func8, Try.ntmps8
        go_wp2_with fail
        refine isres_any _ _ _ _ ?_
        rw [H1.out]
        dsimp only
        go_wp2_with fail
        refine isres_any _ _ _ _ ?_
        rw [H2.out]
        dsimp only
        go_wp2_with fail
        refine gcdl_any k l _ HW.out.1 HW.out.2 _ ?_
        intro w1 hb1 _
        rw [e0.out]
        have HF := Lib.hid (HR.out w1 hb1)
        clear hb1
        dsimp only
        go_wp2
        first | go_ret3 | skip
        exact HF.out
end Go.Proofs.Ytpblpdcdhgjecaa

namespace Go.Proofs.Ytpblpdcdhgjecaa
open Go Go.RowKit

theorem tdivN (y m : Nat) : Int.tdiv (y : Int) (m : Int) = ((y / m : Nat) : Int) := by
  rw [Int.tdiv_eq_ediv_of_nonneg (by omega)]; omega

/-- the loop of the model's common divisor -/
def GcdRelS (k l : Nat) (xv yv : Value) : Prop :=
  ∃ x y : Nat, xv = .int .i64 (x : Int) ∧ yv = .int .i64 (y : Int) ∧ Nat.gcd x y = Nat.gcd k l ∧ x ≤ 1000000 ∧ y ≤ 1000000

set_option maxRecDepth 100000 in
set_option maxHeartbeats 4000000 in
theorem spec_join_ok (x k y l : Nat) (w : World) (h1 : resB (x : Int) (k : Int) = true) (h2 : resB (y : Int) (l : Int) = true) (R : Ending → World → Prop)
    (hR : R (.returned (joinV (x : Int) (k : Int) (y : Int) (l : Int))) w) :
    Calls Try.prog 11 #[.int .i64 (x : Int), .int .i64 (k : Int), .int .i64 (y : Int), .int .i64 (l : Int)] w R := by
  have HR := Lib.hid hR; clear hR
  obtain ⟨x', k', ex, ek0, hk1, hk2, hx⟩ := resB_parts h1
  obtain ⟨y', l', ey, el0, hl1, hl2, hy⟩ := resB_parts h2
  obtain rfl : x = x' := by omega
  obtain rfl : k = k' := by omega
  obtain rfl : y = y' := by omega
  obtain rfl : l = l' := by omega
  have HM1 := Lib.hid (show decide ((2 : Int) ≤ (k : Int) ∧ (k : Int) ≤ 1000000) = true from decide_eq_true ⟨by omega, by omega⟩)
  have HM2 := Lib.hid (show decide ((2 : Int) ≤ (l : Int) ∧ (l : Int) ≤ 1000000) = true from decide_eq_true ⟨by omega, by omega⟩)
  have HA1 := Lib.hid (show decide ((0 : Int) ≤ (x : Int) ∧ (x : Int) ≤ (k : Int) - 1) = true from decide_eq_true ⟨by omega, by omega⟩)
  have HA2 := Lib.hid (show decide ((0 : Int) ≤ (y : Int) ∧ (y : Int) ≤ (l : Int) - 1) = true from decide_eq_true ⟨by omega, by omega⟩)
  have ew1 : IntKind.i64.wrap ((k : Int) - 1) = (k : Int) - 1 := IntWalk.i64_in _ (by omega)
  have ew2 : IntKind.i64.wrap ((l : Int) - 1) = (l : Int) - 1 := IntWalk.i64_in _ (by omega)
  have HST : Hid (GcdRelS k l (.int .i64 (k : Int)) (.int .i64 (l : Int))) := Lib.hid ⟨k, l, rfl, rfl, rfl, hk2, hl2⟩
  have H1 := Lib.hid h1
  have H2 := Lib.hid h2
  clear ex ek0 ey el0 h1 h2
  go_enter Try.func11, Try.ntmps11
  go_wp2_with fail
  refine smod_any _ _ _ ?_
  rw [HM1.out]
  dsimp only
  go_wp2_with fail
  refine smod_any _ _ _ ?_
  rw [HM2.out]
  dsimp only
  go_wp2_with fail
  refine in_any _ _ _ _ _ ?_
  rw [HA1.out]
  dsimp only
  go_wp2_with fail
  refine in_any _ _ _ _ _ ?_
  rw [HA2.out]
  dsimp only
  go_wp2_with fail
  clear ew1 ew2
  go_loop [11, 12] (fun xv yv => GcdRelS k l xv yv) (fun _ yv => (intOf yv).toNat)
  case atStart => exact HST.out
  case round =>
    clear HST
    obtain ⟨u, v, rfl, rfl, hg, hu, hv⟩ := hrel
    have HG := Lib.hid hg
    clear hg
    by_cases hv0 : v = 0
    · subst hv0
      obtain ⟨g, p, q, hg, hg0, hp0, hq0, ek, el, ep, eq', hpq⟩ := join_parts (m := k) (n := l) (by omega) (by omega)
      have hug : u = g := by rw [hg, ← HG.out, Nat.gcd_zero_right]
      subst hug
      have hpk : p ≤ k := by rw [ek]; exact Nat.le_mul_of_pos_left _ hg0
      have hql : q ≤ l := by rw [el]; exact Nat.le_mul_of_pos_left _ hg0
      obtain ⟨d, hd⟩ : ∃ d : Int, d = (y : Int) - (x : Int) := ⟨_, rfl⟩
      obtain ⟨t, ht⟩ : ∃ t : Int, t = Int.tmod d (u : Int) := ⟨_, rfl⟩
      have htl : t.natAbs < u := by rw [ht, Int.natAbs_tmod, Int.natAbs_natCast]; exact Nat.mod_lt _ hg0
      have c1 : IntKind.i64.wrap ((y : Int) - (x : Int)) = d := by rw [← hd]; exact IntWalk.i64_in _ (by omega)
      have c2 : Int.tmod d (u : Int) = t := ht.symm
      have c3 : IntKind.i64.wrap t = t := IntWalk.i64_in _ (by omega)
      have z1 : ((u : Int) == 0) = false := by rw [beq_eq_false_iff_ne]; omega
      have z2 : ¬ ((u : Int) = 0) := by omega
      have hdl : d ≤ 1000000 := by omega
      have hdg : -1000000 ≤ d := by omega
      have hJ := joinB_iff (a := x) (b := y) (m := k) (n := l) (by omega) (by omega) hx
      rw [← hg, ← hd] at hJ
      have hOK : joinOK (x : Int) (k : Int) (y : Int) (l : Int) = joinB x k y l := by
        unfold joinOK; rw [H1.out, H2.out]; simp only [Int.toNat_natCast, Bool.true_and]
      by_cases ht0 : t = 0
      · have hdv : (u : Int) ∣ d := Int.dvd_of_tmod_eq_zero (by rw [← ht]; exact ht0)
        rw [hJ.2 hdv] at hOK
        have hVV := HR.out
        rw [joinV_yes hOK, ← hg, ep] at hVV
        obtain ⟨kk, hkk⟩ := hdv
        have hby := join_by (a := x) (m := k) (b := y) (n := l) (by omega) (by omega) hx (k := kk) (by rw [← hg, ← hd]; exact hkk)
        rw [← hg, ep, eq'] at hby
        have t1 : (t != 0) = false := by rw [ht0]; rfl
        have d5 : (l : Int) / (u : Int) = (q : Int) := by rw [← eq']; omega
        have d6 : Int.tdiv (l : Int) (u : Int) = (q : Int) := by rw [Int.tdiv_eq_ediv_of_nonneg (by omega)]; exact d5
        have c9 : IntKind.i64.wrap (q : Int) = (q : Int) := IntWalk.i64_in _ (by omega)
        obtain ⟨ad, had⟩ : ∃ ad, ad = joinBy x k y l := ⟨_, rfl⟩
        rw [← had] at hby hVV
        have hadq : ad < q := by rw [had]; have := joinBy_lt (a := x) (b := y) (m := k) (n := l) (by omega) (by omega); rw [← hg, eq'] at this; exact this
        obtain ⟨mb, hmb⟩ : ∃ mb, mb = k * ad := ⟨_, rfl⟩
        have hmbl : mb ≤ 1000000 * 1000000 := by rw [hmb]; exact Nat.mul_le_mul hk2 (by omega)
        obtain ⟨M, hM⟩ : ∃ M, M = p * l := ⟨_, rfl⟩
        have hMb : M ≤ 1000000 * 1000000 := by rw [hM]; exact Nat.mul_le_mul (by omega) hl2
        have hMq : k * q = M := by rw [hM, ek, el]; rw [Nat.mul_comm u p, Nat.mul_assoc]
        rw [← hmb, ← hM, Int.natCast_add] at hVV
        have c16 : IntKind.i64.wrap ((k : Int) * (ad : Int)) = (mb : Int) := by rw [hmb, Int.natCast_mul, IntWalk.i64_in _ (by rw [← Int.natCast_mul, ← hmb]; omega)]
        have c17 : IntKind.i64.wrap ((x : Int) + (mb : Int)) = (x : Int) + (mb : Int) := IntWalk.i64_in _ (by omega)
        have c18 : IntKind.i64.wrap ((k : Int) * (q : Int)) = (M : Int) := by rw [← hMq, Int.natCast_mul, IntWalk.i64_in _ (by rw [← Int.natCast_mul, hMq]; omega)]
        have HF := Lib.hid hVV
        by_cases hq1 : q = 1
        · have ha0 : ad = 0 := by omega
          have hm0 : mb = 0 := by rw [hmb, ha0]; rfl
          have t2 : ¬ ((1 : Int) < (q : Int)) := by omega
          have c19 : IntKind.i64.wrap ((k : Int) * 0) = 0 := by rw [Int.mul_zero]; rfl
          have HF2 := Lib.hid (show R (.returned (.tuple #[.int .i64 (x : Int), .int .i64 (M : Int), .bool true])) w by
            have := HF.out; rw [hm0] at this; simpa using this)
          clear hg ek el ep eq' hpq hd ht hJ hOK hkk hby ht0 had hmb hM hMq ha0 hm0 hVV c16 c17 hg0 hp0 hq0 hadq hmbl hq1
          go_wp2
          first | go_ret3 | skip
          exact HF2.out
        · have t2 : (1 : Int) < (q : Int) := by omega
          obtain ⟨pq, hpq2⟩ : ∃ pq, pq = p % q := ⟨_, rfl⟩
          have hpql : pq < q := by rw [hpq2]; exact Nat.mod_lt _ hq0
          obtain ⟨iv, hiv⟩ : ∃ iv, iv = invR pq q := ⟨_, rfl⟩
          rw [← hpq2, ← hiv] at hby
          have hivq : iv < q := by rw [hiv]; exact invR_lt hq0
          have HIV := Lib.hid hiv
          have f1 : (k : Int) / (u : Int) = (p : Int) := by rw [← ep]; omega
          have f2 : Int.tdiv (k : Int) (u : Int) = (p : Int) := by rw [Int.tdiv_eq_ediv_of_nonneg (by omega)]; exact f1
          have f3 : IntKind.i64.wrap (p : Int) = (p : Int) := IntWalk.i64_in _ (by omega)
          have f4 : (p : Int) % (q : Int) = (pq : Int) := by rw [hpq2]; omega
          have f5 : Int.tmod (p : Int) (q : Int) = (pq : Int) := by rw [tmodN, hpq2]
          have f6 : IntKind.i64.wrap (pq : Int) = (pq : Int) := IntWalk.i64_in _ (by omega)
          have f7 : Int.tdiv d (u : Int) = kk := by rw [hkk]; exact Int.mul_tdiv_cancel_left _ (by omega)
          have hkb : kk.natAbs ≤ d.natAbs := by rw [hkk, Int.natAbs_mul, Int.natAbs_natCast]; exact Nat.le_mul_of_pos_left _ hg0
          have f8 : IntKind.i64.wrap kk = kk := IntWalk.i64_in _ (by omega)
          obtain ⟨m1, m2, m3, m4⟩ := mod_again (x := kk) hq0
          obtain ⟨t3, ht3⟩ : ∃ t, t = Int.tmod kk (q : Int) := ⟨_, rfl⟩
          rw [← ht3] at m1 m2 m3 m4
          obtain ⟨s, hs⟩ : ∃ s, s = t3 + (q : Int) := ⟨_, rfl⟩
          obtain ⟨r, hr⟩ : ∃ r : Nat, r = (kk % (q : Int)).toNat := ⟨_, rfl⟩
          have hrq : r < q := by
            have := Int.emod_lt_of_pos kk (show (0 : Int) < (q : Int) by omega)
            have := Int.emod_nonneg kk (show (q : Int) ≠ 0 by omega)
            omega
          have hr2 : kk % (q : Int) = (r : Int) := by
            have := Int.emod_nonneg kk (show (q : Int) ≠ 0 by omega)
            omega
          obtain ⟨ri, hri⟩ : ∃ ri, ri = r * iv := ⟨_, rfl⟩
          have hril : ri ≤ 1000000 * 1000000 := by rw [hri]; exact Nat.mul_le_mul (by omega) (by omega)
          have hadr : (ad : Int) = (ri : Int) % (q : Int) := by rw [hby, hr2, hri, Int.natCast_mul]
          have g1 : Int.tmod kk (q : Int) = t3 := ht3.symm
          have g2 : IntKind.i64.wrap t3 = t3 := IntWalk.i64_in _ (by omega)
          have g3 : IntKind.i64.wrap (t3 + (q : Int)) = s := by rw [IntWalk.i64_in _ (by omega)]; exact hs.symm
          have g4 : Int.tmod s (q : Int) = (r : Int) := by rw [hs, m1, hr]
          have g5 : s % (q : Int) = (r : Int) := by rw [← g4, Int.tmod_eq_emod_of_nonneg (by omega)]
          have g6 : IntKind.i64.wrap (r : Int) = (r : Int) := IntWalk.i64_in _ (by omega)
          have g7 : IntKind.i64.wrap ((r : Int) * (iv : Int)) = (ri : Int) := by rw [hri, Int.natCast_mul, IntWalk.i64_in _ (by rw [← Int.natCast_mul, ← hri]; omega)]
          have g8 : Int.tmod (ri : Int) (q : Int) = (ad : Int) := by rw [Int.tmod_eq_emod_of_nonneg (by omega), hadr]
          have g9 : (ri : Int) % (q : Int) = (ad : Int) := hadr.symm
          have g10 : IntKind.i64.wrap (ad : Int) = (ad : Int) := IntWalk.i64_in _ (by omega)
          have z3 : ((q : Int) == 0) = false := by rw [beq_eq_false_iff_ne]; omega
          have z4 : ¬ ((q : Int) = 0) := by omega
          have hs0 : 0 ≤ s := by omega
          have hsm : s < 2 * (q : Int) := by omega
          have hk3 : kk ≤ 1000000 := by omega
          have hk4 : -1000000 ≤ kk := by omega
          clear hg ek el ep eq' hpq hd ht hJ hOK hkk hby ht0 had hmb hM hMq hVV hpq2 hiv hkb m1 ht3 hs hr hr2 hri hadr
          go_wp2_with fail
          refine spec_inverse q pq _ hpql (by omega) _ ?_
          rw [← HIV.out]
          obtain ⟨BB, hBB⟩ : ∃ BB, BB = invB pq q := ⟨_, rfl⟩
          rw [← hBB]
          clear hBB
          dsimp only
          go_wp2
          first | go_ret3 | skip
          exact HF.out
      · have hOK2 : joinB x k y l = false := by
          cases hj : joinB x k y l with
          | false => rfl
          | true => exact absurd (by rw [ht]; exact Int.tmod_eq_zero_of_dvd (hJ.1 hj)) ht0
        rw [hOK2] at hOK
        have hVV := HR.out
        rw [joinV_no hOK] at hVV
        have HF := Lib.hid hVV
        have t1 : (t != 0) = true := by rw [bne_iff_ne]; exact ht0
        clear hg ek el ep eq' hpq hd ht hJ hOK ht0 hVV hOK2
        go_wp2
        first | go_ret3 | skip
        exact HF.out
    · have hv1 : 0 < v := by omega
      obtain ⟨r, hr⟩ : ∃ r, r = u % v := ⟨_, rfl⟩
      have hrv : r < v := by rw [hr]; exact Nat.mod_lt _ hv1
      have HN : Hid (GcdRelS k l (.int .i64 (v : Int)) (.int .i64 (r : Int))) := Lib.hid ⟨v, r, rfl, rfl, by rw [← HG.out, hr, Nat.gcd_comm v, ← Nat.gcd_rec, Nat.gcd_comm], hv, by omega⟩
      have e1 : (u : Int) % (v : Int) = (r : Int) := by rw [hr]; omega
      have e2 : Int.tmod (u : Int) (v : Int) = (r : Int) := by rw [tmodN, hr]
      have e3 : IntKind.i64.wrap (r : Int) = (r : Int) := IntWalk.i64_in _ (by omega)
      have z1 : ((v : Int) == 0) = false := by rw [beq_eq_false_iff_ne]; omega
      have z2 : ¬ ((v : Int) = 0) := by omega
      clear hr hv0
      go_wp2
      go_round
      case rel => exact HN.out
      case measure => simp [intOf]; omega

set_option maxRecDepth 100000 in
set_option maxHeartbeats 4000000 in
theorem spec_join (a m b n : Int) (w : World) (R : Ending → World → Prop)
    (hR : R (.returned (joinV a m b n)) w) :
    Calls Try.prog 11 #[.int .i64 a, .int .i64 m, .int .i64 b, .int .i64 n] w R := by
  have HR := Lib.hid hR; clear hR
  by_cases hm : 2 ≤ m ∧ m ≤ 1000000
  · have HM := Lib.hid (decide_eq_true hm)
    by_cases hn : 2 ≤ n ∧ n ≤ 1000000
    · have HN := Lib.hid (decide_eq_true hn)
      have ew1 : IntKind.i64.wrap (m - 1) = m - 1 := IntWalk.i64_in _ (by omega)
      have ew2 : IntKind.i64.wrap (n - 1) = n - 1 := IntWalk.i64_in _ (by omega)
      by_cases ha : 0 ≤ a ∧ a ≤ m - 1
      · by_cases hb : 0 ≤ b ∧ b ≤ n - 1
        · obtain ⟨x, rfl⟩ : ∃ x : Nat, a = (x : Int) := ⟨a.toNat, by omega⟩
          obtain ⟨k, rfl⟩ : ∃ k : Nat, m = (k : Int) := ⟨m.toNat, by omega⟩
          obtain ⟨y, rfl⟩ : ∃ y : Nat, b = (y : Int) := ⟨b.toNat, by omega⟩
          obtain ⟨l, rfl⟩ : ∃ l : Nat, n = (l : Int) := ⟨n.toNat, by omega⟩
          exact spec_join_ok x k y l w (by unfold resB; exact decide_eq_true ⟨by omega, by omega, by omega, by omega⟩) (by unfold resB; exact decide_eq_true ⟨by omega, by omega, by omega, by omega⟩) R HR.out
        · have HF := Lib.hid HR.out
          rw [joinV_no (by unfold joinOK resB; rw [show decide (2 ≤ n ∧ n ≤ 1000000 ∧ 0 ≤ b ∧ b < n) = false from decide_eq_false (fun h => hb ⟨by omega, by omega⟩)]; simp)] at HF
          have HA := Lib.hid (decide_eq_true ha)
          have HB := Lib.hid (decide_eq_false hb)
          clear hm hn ha hb
          go_enter Try.func11, Try.ntmps11
          go_wp2_with fail
          refine smod_any _ _ _ ?_
          rw [HM.out]
          dsimp only
          go_wp2_with fail
          refine smod_any _ _ _ ?_
          rw [HN.out]
          dsimp only
          go_wp2_with fail
          refine in_any _ _ _ _ _ ?_
          rw [HA.out]
          dsimp only
          go_wp2_with fail
          refine in_any _ _ _ _ _ ?_
          rw [HB.out]
          dsimp only
          go_wp2
          first | go_ret3 | skip
          exact HF.out
      · have HF := Lib.hid HR.out
        rw [joinV_no (by unfold joinOK resB; rw [show decide (2 ≤ m ∧ m ≤ 1000000 ∧ 0 ≤ a ∧ a < m) = false from decide_eq_false (fun h => ha ⟨by omega, by omega⟩)]; simp)] at HF
        have HA := Lib.hid (decide_eq_false ha)
        clear hm hn ha
        go_enter Try.func11, Try.ntmps11
        go_wp2_with fail
        refine smod_any _ _ _ ?_
        rw [HM.out]
        dsimp only
        go_wp2_with fail
        refine smod_any _ _ _ ?_
        rw [HN.out]
        dsimp only
        go_wp2_with fail
        refine in_any _ _ _ _ _ ?_
        rw [HA.out]
        dsimp only
        go_wp2
        first | go_ret3 | skip
        exact HF.out
    · have HF := Lib.hid HR.out
      rw [joinV_no (by unfold joinOK resB; rw [show decide (2 ≤ n ∧ n ≤ 1000000 ∧ 0 ≤ b ∧ b < n) = false from decide_eq_false (fun h => hn ⟨h.1, h.2.1⟩)]; simp)] at HF
      have HN := Lib.hid (decide_eq_false hn)
      clear hm hn
      go_enter Try.func11, Try.ntmps11
      go_wp2_with fail
      refine smod_any _ _ _ ?_
      rw [HM.out]
      dsimp only
      go_wp2_with fail
      refine smod_any _ _ _ ?_
      rw [HN.out]
      dsimp only
      go_wp2
      first | go_ret3 | skip
      exact HF.out
  · have HF := Lib.hid HR.out
    rw [joinV_no (by unfold joinOK resB; rw [show decide (2 ≤ m ∧ m ≤ 1000000 ∧ 0 ≤ a ∧ a < m) = false from decide_eq_false (fun h => hm ⟨h.1, h.2.1⟩)]; simp)] at HF
    have HM := Lib.hid (decide_eq_false hm)
    clear hm
    go_enter Try.func11, Try.ntmps11
    go_wp2_with fail
    refine smod_any _ _ _ ?_
    rw [HM.out]
    dsimp only
    go_wp2
    first | go_ret3 | skip
    exact HF.out

set_option maxRecDepth 100000 in
set_option maxHeartbeats 1000000 in
theorem law_joinResidues (a m b n : Int) (w : World) (R : Ending → World → Prop)
    (hR : ∀ w', Below w.heap.size w w' → R (.returned (.bool true)) w') :
    Calls Try.prog 5 #[.int .i64 a, .int .i64 m, .int .i64 b, .int .i64 n] w R := by
  have HR := Lib.hid hR; clear hR
  obtain ⟨c, l, B, hV⟩ : ∃ (c l : Int) (B : Bool), joinV a m b n = .tuple #[.int .i64 c, .int .i64 l, .bool B] := by
    unfold joinV; split
    · exact ⟨_, _, _, rfl⟩
    · exact ⟨_, _, _, rfl⟩
  have HV := Lib.hid hV
  clear hV
  have e1 : (c != c) = false := by simp
  have e2 : (l != l) = false := by simp
  have e3 : (B != B) = false := by cases B <;> rfl
  go_enter Try.func5, Try.ntmps5
  go_wp2_with fail
  refine spec_join a m b n _ _ ?_
  rw [HV.out]
  dsimp only
  go_wp2_with fail
  refine impl_join a m b n _ _ ?_
  intro w1 hb1
  rw [HV.out]
  have HF := Lib.hid (HR.out w1 hb1)
  clear hb1
  dsimp only
  go_wp2
  first | go_ret | skip
  exact HF.out
end Go.Proofs.Ytpblpdcdhgjecaa
