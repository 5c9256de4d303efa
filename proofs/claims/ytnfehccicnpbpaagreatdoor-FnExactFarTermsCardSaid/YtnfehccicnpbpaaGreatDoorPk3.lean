/- Contracts of functions of the program and of the model: Leh, Bits, Decid, GcdS, GcdN, Dec, Rdec, ZRead, DigB, Add, Sub, Mul. -/
import Derived.Test.YtnfehccicnpbpaaGreatDoorPk2
set_option linter.all false
set_option linter.unusedVariables false
set_option linter.unusedSimpArgs false
set_option linter.unnecessarySimpa false
set_option linter.deprecated false
namespace Go.Proofs.YtnfehccicnpbpaaGreatDoor

/-- what holds of the coefficients of decided steps of Euclid's algorithm over the highest words A ≥ H; ev: the number k of steps is even -/
def LInv (A H k : Nat) (ev : Bool) (fA fB sA sB f s : Nat) : Prop :=
  f * sB + s * fB = A ∧ f * sA + s * fA = H ∧ s ≤ f ∧ (if ev then fA * sB = fB * sA + 1 else fB * sA = fA * sB + 1) ∧ sA ≤ sB ∧ k + 1 ≤ sB + (if k = 0 then 0 else 1) ∧
    (if k = 0 then fA = 1 ∧ fB = 0 ∧ sA = 0 ∧ sB = 1 ∧ ev = true else fA ≤ fB ∧ 1 ≤ fB)

/-- the two numbers with which the steps end -/
def LTrue (ev : Bool) (a b fA fB sA sB tf ts : Nat) : Prop :=
  if ev then fA * a = fB * b + tf ∧ sB * b = sA * a + ts else fB * b = fA * a + tf ∧ sA * a = sB * b + ts

theorem LInv.start (A H : Nat) (h : H ≤ A) : LInv A H 0 true 1 0 0 1 A H := by
  unfold LInv; simp; omega

theorem LInv.sB_pos {A H k : Nat} {ev : Bool} {fA fB sA sB f s : Nat} (h : LInv A H k ev fA fB sA sB f s) : 1 ≤ sB := by
  obtain ⟨_, _, _, _, _, h, h2⟩ := h
  by_cases hk : k = 0
  · rw [if_pos hk] at h2; omega
  · rw [if_neg hk] at h; omega

theorem LInv.sum_le {A H k : Nat} {ev : Bool} {fA fB sA sB f s : Nat} (h : LInv A H k ev fA fB sA sB f s) (hs : 1 ≤ s) : fB + sB ≤ A ∧ 1 ≤ sB ∧ s ≤ f := by
  have hp := h.sB_pos
  obtain ⟨h1, h2, h3, h4, h5, h6, h7⟩ := h
  have e1 : 1 * sB ≤ f * sB := Nat.mul_le_mul_right _ (by omega)
  have e2 : 1 * fB ≤ s * fB := Nat.mul_le_mul_right _ hs
  omega

theorem LInv.count {A H k : Nat} {ev : Bool} {fA fB sA sB f s : Nat} (h : LInv A H k ev fA fB sA sB f s) (hs : sB ≤ s) : k * k ≤ A := by
  have hp := h.sB_pos
  obtain ⟨h1, h2, h3, h4, h5, h6, h7⟩ := h
  have hk : k ≤ sB := by split at h6 <;> omega
  have e1 : k * k ≤ f * sB := Nat.mul_le_mul (by omega) hk
  omega

theorem LInv.step {A H k : Nat} {ev : Bool} {fA fB sA sB f s : Nat} (h : LInv A H k ev fA fB sA sB f s) (hs : sB ≤ s) :
    LInv A H (k + 1) (!ev) sA sB (fA + f / s * sA) (fB + f / s * sB) s (f % s) ∧ fB + f / s * sB ≤ A ∧ fA + f / s * sA ≤ A := by
  have hp := h.sB_pos
  obtain ⟨h1, h2, h3, h4, h5, h6, h7⟩ := h
  have hq : 1 ≤ f / s := (Nat.le_div_iff_mul_le (by omega)).2 (by omega)
  have hdm := Nat.div_add_mod f s
  have hml := Nat.mod_lt f (show 0 < s by omega)
  generalize f / s = q at *
  generalize f % s = r at *
  have e1 : s * (fB + q * sB) + r * sB = A := by rw [← h1, ← hdm]; grind
  have e2 : s * (fA + q * sA) + r * sA = H := by rw [← h2, ← hdm]; grind
  have m1 : q * sA ≤ q * sB := Nat.mul_le_mul_left _ h5
  have m2 : 1 * sB ≤ q * sB := Nat.mul_le_mul_right _ hq
  have hle : fA + q * sA ≤ fB + q * sB := by
    by_cases hk : k = 0
    · rw [if_pos hk] at h7
      obtain ⟨ha, hb, hc, hd, _⟩ := h7
      subst ha hb hc hd; omega
    · rw [if_neg hk] at h7; omega
  have hb : fB + q * sB ≤ A := by
    have : 1 * (fB + q * sB) ≤ s * (fB + q * sB) := Nat.mul_le_mul_right _ (by omega)
    omega
  refine ⟨⟨e1, e2, by omega, ?_, hle, ?_, ?_⟩, hb, by omega⟩
  · cases ev
    · simp at h4 ⊢; grind
    · simp at h4 ⊢; grind
  · rw [if_neg (by omega)]
    by_cases hk : k = 0
    · rw [if_pos hk] at h7; omega
    · rw [if_neg hk] at h6 h7; omega
  · rw [if_neg (by omega)]; omega

theorem gcd_combo (a b x y p q r t : Nat) (hx : p * b = q * a + x) (hy : r * a = t * b + y) (hdet : p * r = q * t + 1) : Nat.gcd x y = Nat.gcd a b := by
  have ha : t * x + p * y = a := by grind
  have hb : r * x + q * y = b := by grind
  apply Nat.dvd_antisymm
  · have h1 := Nat.gcd_dvd_left x y
    have h2 := Nat.gcd_dvd_right x y
    apply Nat.dvd_gcd
    · rw [← ha]; exact Nat.dvd_add (Nat.dvd_mul_left_of_dvd h1 _) (Nat.dvd_mul_left_of_dvd h2 _)
    · rw [← hb]; exact Nat.dvd_add (Nat.dvd_mul_left_of_dvd h1 _) (Nat.dvd_mul_left_of_dvd h2 _)
  · have h1 := Nat.gcd_dvd_left a b
    have h2 := Nat.gcd_dvd_right a b
    apply Nat.dvd_gcd
    · exact (Nat.dvd_add_right (Nat.dvd_mul_left_of_dvd h1 q)).1 (hx ▸ Nat.dvd_mul_left_of_dvd h2 p)
    · exact (Nat.dvd_add_right (Nat.dvd_mul_left_of_dvd h2 t)).1 (hy ▸ Nat.dvd_mul_left_of_dvd h1 r)

/-- steps that the highest words decide are steps of the numbers themselves -/
theorem LInv.accept {A H k : Nat} {ev : Bool} {fA fB sA sB f s : Nat} (h : LInv A H k ev fA fB sA sB f s) (hs : sB ≤ s) (hd : fB + sB ≤ f - s) (T a b a0 b0 : Nat) (ha : a = A * T + a0) (hb : b = H * T + b0) (ha0 : a0 < T) (hb0 : b0 < T) :
    ∃ tf ts, LTrue ev a b fA fB sA sB tf ts ∧ ts < tf ∧ Nat.gcd tf ts = Nat.gcd a b := by
  have hp := h.sB_pos
  obtain ⟨h1, h2, h3, h4, h5, h6, h7⟩ := h
  have i1 : fB * b0 ≤ fB * T := Nat.mul_le_mul_left _ (by omega)
  have i2 : fB * T ≤ f * T := Nat.mul_le_mul_right _ (by omega)
  have i3 : sA * a0 ≤ sA * T := Nat.mul_le_mul_left _ (by omega)
  have i4 : sA * T ≤ s * T := Nat.mul_le_mul_right _ (by omega)
  have i5 : sB * b0 ≤ sB * T := Nat.mul_le_mul_left _ (by omega)
  have i6 : sB * T ≤ s * T := Nat.mul_le_mul_right _ (by omega)
  have i7 : (fB + sB + s) * T ≤ f * T := Nat.mul_le_mul_right _ (by omega)
  have i8 : sB * (b0 + 1) ≤ sB * T := Nat.mul_le_mul_left _ (by omega)
  have i9 : sA * T ≤ sB * T := Nat.mul_le_mul_right _ (by omega)
  cases ev
  · simp only [Bool.false_eq_true, if_false] at h4
    have hkne : k ≠ 0 := by intro hk; rw [if_pos hk] at h7; exact absurd h7.2.2.2.2 (by simp)
    rw [if_neg hkne] at h7
    have e1 : fB * H = fA * A + f := by rw [← h1, ← h2]; grind
    have e2 : sA * A = sB * H + s := by rw [← h1, ← h2]; grind
    have j1 : fA * a0 ≤ fA * T := Nat.mul_le_mul_left _ (by omega)
    have j2 : fA * T ≤ fB * T := Nat.mul_le_mul_right _ (by omega)
    have j3 : sA * (a0 + 1) ≤ sA * T := Nat.mul_le_mul_left _ (by omega)
    have ea : fB * b = fA * A * T + f * T + fB * b0 := by rw [hb, Nat.mul_add, ← Nat.mul_assoc, e1, Nat.add_mul]
    have eb : fA * a = fA * A * T + fA * a0 := by rw [ha, Nat.mul_add, ← Nat.mul_assoc]
    have ec : sA * a = sB * H * T + s * T + sA * a0 := by rw [ha, Nat.mul_add, ← Nat.mul_assoc, e2, Nat.add_mul]
    have ed : sB * b = sB * H * T + sB * b0 := by rw [hb, Nat.mul_add, ← Nat.mul_assoc]
    have hTpos : 1 ≤ T := by omega
    have j4 : 1 * T ≤ sB * T := Nat.mul_le_mul_right _ hp
    have j5 : fA * a0 + sA * a0 < fB * T + sB * T := by
      by_cases hz : sA = 0
      · subst hz; omega
      · have : sA * (a0 + 1) = sA * a0 + sA := by rw [Nat.mul_add, Nat.mul_one]
        omega
    rw [Nat.add_mul, Nat.add_mul] at i7
    obtain ⟨tf, htf⟩ : ∃ tf, fB * b = fA * a + tf := ⟨fB * b - fA * a, by omega⟩
    obtain ⟨ts, hts⟩ : ∃ ts, sA * a = sB * b + ts := ⟨sA * a - sB * b, by omega⟩
    refine ⟨tf, ts, by simp [LTrue, htf, hts], by omega, ?_⟩
    exact gcd_combo _ _ _ _ fB fA sA sB htf hts (by rw [h4])
  · simp only [if_true] at h4
    have e1 : fA * A = fB * H + f := by rw [← h1, ← h2]; grind
    have e2 : sB * H = sA * A + s := by rw [← h1, ← h2]; grind
    have ea : fA * a = fB * H * T + f * T + fA * a0 := by rw [ha, Nat.mul_add, ← Nat.mul_assoc, e1, Nat.add_mul]
    have eb : fB * b = fB * H * T + fB * b0 := by rw [hb, Nat.mul_add, ← Nat.mul_assoc]
    have ec : sB * b = sA * A * T + s * T + sB * b0 := by rw [hb, Nat.mul_add, ← Nat.mul_assoc, e2, Nat.add_mul]
    have ed : sA * a = sA * A * T + sA * a0 := by rw [ha, Nat.mul_add, ← Nat.mul_assoc]
    have j5 : fB * b0 + sB * b0 < fB * T + sB * T := by
      have : sB * (b0 + 1) = sB * b0 + sB := by rw [Nat.mul_add, Nat.mul_one]
      omega
    rw [Nat.add_mul, Nat.add_mul] at i7
    obtain ⟨tf, htf⟩ : ∃ tf, fA * a = fB * b + tf := ⟨fA * a - fB * b, by omega⟩
    obtain ⟨ts, hts⟩ : ∃ ts, sB * b = sA * a + ts := ⟨sB * b - sA * a, by omega⟩
    refine ⟨tf, ts, by simp [LTrue, htf, hts], by omega, ?_⟩
    rw [gcd_combo b a tf ts fA fB sB sA htf hts (by rw [h4]), Nat.gcd_comm]

/-- what is kept of the steps that are decided -/
def Dec (a b k : Nat) (ev : Bool) (fA fB sA sB : Nat) : Prop :=
  ∃ tf ts, LTrue ev a b fA fB sA sB tf ts ∧ Nat.gcd tf ts = Nat.gcd a b ∧ (1 ≤ k → ts < tf ∧ tf ≤ b)

theorem Dec.start (a b : Nat) : Dec a b 0 true 1 0 0 1 := ⟨a, b, by simp [LTrue], rfl, by omega⟩

/-- the steps that are looked at: a further step of those that are decided, so that the first number is at most b -/
def Nxt (a b A H k : Nat) (ev : Bool) (fA fB sA sB f s : Nat) : Prop :=
  LInv A H k ev fA fB sA sB f s ∧ (1 ≤ k → ∀ tf ts, LTrue ev a b fA fB sA sB tf ts → tf ≤ b)

theorem Nxt.start (a b A H : Nat) (h : H ≤ A) : Nxt a b A H 0 true 1 0 0 1 A H := ⟨LInv.start A H h, by omega⟩

theorem Nxt.go {a b A H k : Nat} {ev : Bool} {fA fB sA sB f s : Nat} (h : Nxt a b A H k ev fA fB sA sB f s) (hs : sB ≤ s) (hd : fB + sB ≤ f - s) (T a0 b0 : Nat) (ha : a = A * T + a0) (hb : b = H * T + b0) (ha0 : a0 < T) (hb0 : b0 < T) :
    Dec a b k ev fA fB sA sB ∧ Nxt a b A H (k + 1) (!ev) sA sB (fA + f / s * sA) (fB + f / s * sB) s (f % s) ∧ fB + f / s * sB ≤ A ∧ fA + f / s * sA ≤ A := by
  obtain ⟨hi, hle⟩ := h
  obtain ⟨tf, ts, ht, hlt, hg⟩ := hi.accept hs hd T a b a0 b0 ha hb ha0 hb0
  obtain ⟨hn, hb1, hb2⟩ := hi.step hs
  refine ⟨⟨tf, ts, ht, hg, fun hk => ⟨hlt, hle hk tf ts ht⟩⟩, ⟨hn, ?_⟩, hb1, hb2⟩
  intro _ tf' ts' ht'
  have e : tf' = ts := by
    unfold LTrue at ht ht'
    cases ev <;> simp at ht ht' <;> omega
  rw [e]
  by_cases hk : k = 0
  · obtain ⟨_, _, _, _, _, _, h7⟩ := hi
    rw [if_pos hk] at h7
    obtain ⟨rfl, rfl, rfl, rfl, rfl⟩ := h7
    simp [LTrue] at ht
    omega
  · have := hle (by omega) tf ts ht
    omega

end Go.Proofs.YtnfehccicnpbpaaGreatDoor

namespace Go.Proofs.YtnfehccicnpbpaaGreatDoor
open Go Go.RowKit

/-- the bits at a place -/
def hib (a i s : Nat) : Nat := (dig W64 a).getD i 0 * 2 ^ s + (dig W64 a).getD (i - 1) 0 / 2 ^ (64 - s)

set_option maxRecDepth 100000 in
set_option maxHeartbeats 1000000 in
theorem bits_any (v : Value) (a i s : Nat) (w : World) (h : IsN w v a) (hi : 1 ≤ i) (hib2 : i ≤ 10000000) (hla : (dig W64 a).length ≤ 10000000) (hs64 : s < 64) (htop : (dig W64 a).getD i 0 * 2 ^ s < W64) (R : Ending → World → Prop)
    (hR : ∀ n, R (.returned (.int .u64 ((hib a i s : Nat) : Int))) (w.drewN n)) :
    Calls Tryz.prog 229 #[v, .int .i64 ((i : Nat) : Int), .int .i64 ((s : Nat) : Int)] w R := by
  have HR := Lib.hid hR; clear hR
  obtain ⟨ao, n, cap, rfl, hn, hsl⟩ := h.open
  obtain ⟨xs, hxs⟩ : ∃ xs, xs = dig W64 a := ⟨_, rfl⟩
  have hx : ∀ d ∈ xs, d < W64 := by rw [hxs]; exact limb_lt _
  unfold IsN at hsl
  unfold hib at HR
  rw [← hn] at hla
  rw [← hxs] at hsl hn htop HR
  obtain ⟨x, hxe⟩ : ∃ x, x = xs.getD i 0 := ⟨_, rfl⟩
  obtain ⟨y, hye⟩ : ∃ y, y = xs.getD (i - 1) 0 := ⟨_, rfl⟩
  have hxl : x < W64 := by rw [hxe]; exact getD_lt (by rw [W64_eq]; omega) _ hx _
  have hyl : y < W64 := by rw [hye]; exact getD_lt (by rw [W64_eq]; omega) _ hx _
  rw [← hxe] at htop HR
  rw [← hye] at HR
  have hq : 0 < 2 ^ (64 - s) := Nat.pow_pos (by omega)
  have hlq : y / 2 ^ (64 - s) < 2 ^ s := shr_lt y s (by omega) hyl
  have hyw : y / 2 ^ (64 - s) < W64 := Nat.lt_of_le_of_lt (Nat.div_le_self _ _) hyl
  have hor : x * 2 ^ s ||| y / 2 ^ (64 - s) = x * 2 ^ s + y / 2 ^ (64 - s) := by
    rw [Nat.or_comm, or_add _ _ _ hlq, Nat.add_comm]
  obtain ⟨p, hp⟩ : ∃ p, p = x * 2 ^ s := ⟨_, rfl⟩
  obtain ⟨r, hr⟩ : ∃ r, r = y / 2 ^ (64 - s) := ⟨_, rfl⟩
  have he1 : IntKind.u64.wrap ((x : Int) * 2 ^ s) = (p : Int) := by
    rw [hp, show ((x : Int) * 2 ^ s) = ((x * 2 ^ s : Nat) : Int) by rw [Int.natCast_mul, Int.natCast_pow]; rfl]
    exact Mul64.wrapN _ htop
  have he2 := shr_nat y (64 - s)
  rw [← hr] at he2 hor hyw HR
  rw [← hp] at hor htop HR
  obtain ⟨z, hz⟩ : ∃ z, z = p + r := ⟨_, rfl⟩
  have he3 : bits .or .u64 (p : Int) (r : Int) = (z : Int) := by rw [bits_or_u64_nat p r htop hyw, hor, hz]
  rw [← hz] at HR
  have hcn : (0 : Int) ≤ 64 - (s : Int) := by omega
  have hcn2 : ¬ (64 - (s : Int) < 0) := by omega
  have hcn3 : (64 - (s : Int)).toNat = 64 - s := by omega
  have hs0 : (0 : Int) ≤ (s : Int) := by omega
  have hs65 : (s : Int) < 64 := by omega
  have hi1 : (0 : Int) ≤ (i : Int) - 1 := by omega
  have hi3 : ((i : Int) - 1).toNat = i - 1 := by omega
  have HN := Lib.hid hn
  have HXE := Lib.hid hxe
  have HYE := Lib.hid hye
  clear h hxs hx hxl hyl htop hq hlq hyw hor hp hr hz hn hxe hye
  by_cases h1 : i < n
  · obtain ⟨b, o, rfl, hb1, hc1⟩ := Sl.at hsl i h1
    obtain ⟨b2, o2, he, _, hc2⟩ := Sl.at hsl (i - 1) (by omega)
    obtain ⟨rfl, rfl⟩ : b = b2 ∧ o = o2 := by cases he; exact ⟨rfl, rfl⟩
    rw [← HXE.out] at hc1
    rw [← HYE.out] at hc2
    have h1i : (i : Int) < (n : Int) := by omega
    have h2i : (i : Int) - 1 < (n : Int) := by omega
    clear he hsl
    go_enter Tryz.func229, Tryz.ntmps229
    go_wp2
    go_quiet (fail)
    go_wp2
    first | go_ret | skip
    exact HR.out _
  · have hx0 : x = 0 := by rw [HXE.out]; simp [List.getD, List.getElem?_eq_none (by rw [← HN.out]; omega : xs.length ≤ i)]
    have h1i : ¬ (i : Int) < (n : Int) := by omega
    subst hx0
    have he1' : IntKind.u64.wrap (0 * 2 ^ s) = (p : Int) := he1
    have hp0 : (p : Int) = 0 := by rw [← he1', Int.zero_mul]; rfl
    have hp0n : p = 0 := by omega
    subst hp0n
    by_cases h2 : i - 1 < n
    · obtain ⟨b2, o2, rfl, _, hc2⟩ := Sl.at hsl (i - 1) h2
      rw [← HYE.out] at hc2
      have h2i : (i : Int) - 1 < (n : Int) := by omega
      clear hsl he1 he1' hp0
      have he3' : bits .or .u64 0 (r : Int) = (z : Int) := he3
      clear he3
      go_enter Tryz.func229, Tryz.ntmps229
      go_wp2
      go_quiet (fail)
      go_wp2
      first | go_ret | skip
      exact HR.out _
    · have h2i : ¬ (i : Int) - 1 < (n : Int) := by omega
      have hy0 : y = 0 := by rw [HYE.out]; simp [List.getD, List.getElem?_eq_none (by rw [← HN.out]; omega : xs.length ≤ i - 1)]
      subst hy0
      have hr0 : (r : Int) = 0 := by rw [← he2]; simp
      have hr0n : r = 0 := by omega
      subst hr0n
      have hz0 : (z : Int) = 0 := by rw [← he3]; rfl
      have hz0n : z = 0 := by omega
      subst hz0n
      clear hsl he1 he1' hp0 he2 hr0 he3 hz0
      go_enter Tryz.func229, Tryz.ntmps229
      go_wp2
      go_quiet (fail)
      go_wp2
      first | go_ret | skip
      exact HR.out _

set_option maxRecDepth 100000 in
set_option maxHeartbeats 1000000 in
theorem after_any (c fA fB sA sB q : Nat) (w : World) (hc : c ≤ 1000000000000) (h1 : fA + q * sA < W64) (h2 : fB + q * sB < W64) (R : Ending → World → Prop)
    (hR : ∀ w', Below w.heap.size w w' → R (.returned (.agg #[.int .i64 ((c + 1 : Nat) : Int), .int .u64 ((sA : Nat) : Int), .int .u64 ((sB : Nat) : Int), .int .u64 ((fA + q * sA : Nat) : Int), .int .u64 ((fB + q * sB : Nat) : Int)])) w') :
    Calls Tryz.prog 230 #[.agg #[.int .i64 ((c : Nat) : Int), .int .u64 ((fA : Nat) : Int), .int .u64 ((fB : Nat) : Int), .int .u64 ((sA : Nat) : Int), .int .u64 ((sB : Nat) : Int)], .int .u64 ((q : Nat) : Int)] w R := by
  have HR := Lib.hid hR; clear hR
  obtain ⟨m1, hm1⟩ : ∃ m, m = q * sA := ⟨_, rfl⟩
  obtain ⟨m2, hm2⟩ : ∃ m, m = q * sB := ⟨_, rfl⟩
  have e1 : (q : Int) * (sA : Int) = (m1 : Int) := by rw [hm1]; exact (Int.natCast_mul q sA).symm
  have e2 : (q : Int) * (sB : Int) = (m2 : Int) := by rw [hm2]; exact (Int.natCast_mul q sB).symm
  rw [← hm1] at h1 HR
  rw [← hm2] at h2 HR
  have b1 : (fA : Int) + (m1 : Int) ≤ 18446744073709551615 := by rw [W64_eq] at h1; omega
  have b2 : (fB : Int) + (m2 : Int) ≤ 18446744073709551615 := by rw [W64_eq] at h2; omega
  have HC := Lib.hid hc
  have hc2 : (c : Int) ≤ 1000000000000 := by omega
  clear h1 h2 hm1 hm2 hc
  go_enter Tryz.func230, Tryz.ntmps230
  go_wp2
  refine bodyPost_ret_at (by simp [results, Tryz.results230, go_sem] <;> rfl) rfl ?_
  rw [show (c : Int) + 1 = ((c + 1 : Nat) : Int) by omega, show (fA : Int) + (m1 : Int) = ((fA + m1 : Nat) : Int) by omega, show (fB : Int) + (m2 : Int) = ((fB + m2 : Nat) : Int) by omega]
  exact HR.out _ (((Below.refl _ _).alloc (Nat.le_refl _) _).alloc (by simp) _)

/-- the two highest words of two numbers, the first one being at least the second: what is below them -/
theorem hib_parts (a b i s : Nat) (hi : 1 ≤ i) (hla : (dig W64 a).length = i + 1) (hle : b ≤ a) (hs : s < 64) (htop : (dig W64 a).getD i 0 * 2 ^ s < W64) :
    ∃ T a0 b0, a = hib a i s * T + a0 ∧ b = hib b i s * T + b0 ∧ a0 < T ∧ b0 < T ∧ hib b i s ≤ hib a i s ∧ hib a i s < W64 ∧ (dig W64 b).getD i 0 * 2 ^ s < W64 := by
  have hq : 0 < 2 ^ (64 - s) := Nat.pow_pos (by omega)
  have hpq := pow_split s (by omega)
  have hlb : (dig W64 b).length ≤ i + 1 := by rw [← hla]; exact dig_length_mono' W64_two hle
  have key : ∀ c : Nat, (dig W64 c).length ≤ i + 1 → ∃ c0, c = hib c i s * (W64 ^ (i - 1) * 2 ^ (64 - s)) + c0 ∧ c0 < W64 ^ (i - 1) * 2 ^ (64 - s) := by
    intro c hc
    obtain ⟨j, rfl⟩ : ∃ j, i = j + 1 := ⟨i - 1, by omega⟩
    have hv : c = val W64 ((dig W64 c).take j) + W64 ^ j * ((dig W64 c).getD j 0 + W64 * (dig W64 c).getD (j + 1) 0) := by
      have ht : ∀ k, val W64 ((dig W64 c).take (k + 1)) = val W64 ((dig W64 c).take k) + W64 ^ k * (dig W64 c).getD k 0 := by
        intro k
        by_cases hk : k < (dig W64 c).length
        · exact val_take_succ W64 _ k hk
        · rw [List.take_of_length_le (by omega), List.take_of_length_le (by omega)]
          simp [List.getD, List.getElem?_eq_none (by omega : (dig W64 c).length ≤ k)]
      have h1 := ht (j + 1)
      rw [List.take_of_length_le (by omega), val_dig W64_two, ht j, Nat.pow_succ] at h1
      generalize (dig W64 c).getD j 0 = y at *
      generalize (dig W64 c).getD (j + 1) 0 = x at *
      rw [Nat.mul_add, ← Nat.mul_assoc]
      omega
    have hl := val_lt (B := W64) ((dig W64 c).take j) (fun d hd => limb_lt c d (List.mem_of_mem_take hd))
    have hl2 : W64 ^ ((dig W64 c).take j).length ≤ W64 ^ j := Nat.pow_le_pow_right (by rw [W64_eq]; omega) (by rw [List.length_take]; omega)
    unfold hib
    rw [Nat.add_sub_cancel]
    have hdm := Nat.div_add_mod ((dig W64 c).getD j 0) (2 ^ (64 - s))
    have hml := Nat.mod_lt ((dig W64 c).getD j 0) hq
    refine ⟨val W64 ((dig W64 c).take j) + W64 ^ j * ((dig W64 c).getD j 0 % 2 ^ (64 - s)), ?_, ?_⟩
    · conv => lhs; rw [hv]
      generalize val W64 ((dig W64 c).take j) = v at *
      generalize (dig W64 c).getD (j + 1) 0 = x at *
      generalize (dig W64 c).getD j 0 % 2 ^ (64 - s) = m at *
      generalize (dig W64 c).getD j 0 / 2 ^ (64 - s) = d at *
      rw [← hdm, ← hpq]
      generalize W64 ^ j = P at *
      grind
    · have : W64 ^ j * ((dig W64 c).getD j 0 % 2 ^ (64 - s) + 1) ≤ W64 ^ j * 2 ^ (64 - s) := Nat.mul_le_mul_left _ hml
      rw [Nat.mul_add, Nat.mul_one] at this
      omega
  obtain ⟨a0, ha, ha0⟩ := key a (by omega)
  obtain ⟨b0, hb, hb0⟩ := key b hlb
  have hT : 0 < W64 ^ (i - 1) * 2 ^ (64 - s) := Nat.mul_pos (pow_pos' _) hq
  have hxb : (dig W64 b).getD i 0 ≤ (dig W64 a).getD i 0 := by
    have ht : ∀ c : Nat, (dig W64 c).length ≤ i + 1 → (dig W64 c).getD i 0 = c / W64 ^ i := by
      intro c hc
      have h1 : val W64 (dig W64 c) = val W64 ((dig W64 c).take i) + W64 ^ i * (dig W64 c).getD i 0 := by
        by_cases hk : i < (dig W64 c).length
        · have := val_take_succ W64 (dig W64 c) i hk
          rwa [List.take_of_length_le (by omega)] at this
        · rw [List.take_of_length_le (by omega)]
          simp [List.getD, List.getElem?_eq_none (by omega : (dig W64 c).length ≤ i)]
      have hl := val_lt (B := W64) ((dig W64 c).take i) (fun d hd => limb_lt c d (List.mem_of_mem_take hd))
      have hl2 : W64 ^ ((dig W64 c).take i).length ≤ W64 ^ i := Nat.pow_le_pow_right (by rw [W64_eq]; omega) (by rw [List.length_take]; omega)
      rw [val_dig W64_two] at h1
      conv => rhs; rw [h1, Nat.add_mul_div_left _ _ (pow_pos' i), Nat.div_eq_of_lt (by omega), Nat.zero_add]
    rw [ht a (by omega), ht b hlb]
    exact Nat.div_le_div_right hle
  have hAH : hib b i s ≤ hib a i s := by
    rcases Nat.lt_or_ge (hib a i s) (hib b i s) with h | h
    · exfalso
      have : (hib a i s + 1) * (W64 ^ (i - 1) * 2 ^ (64 - s)) ≤ hib b i s * (W64 ^ (i - 1) * 2 ^ (64 - s)) := Nat.mul_le_mul_right _ h
      rw [Nat.add_mul, Nat.one_mul] at this
      omega
    · exact h
  refine ⟨_, a0, b0, ha, hb, ha0, hb0, hAH, ?_, Nat.lt_of_le_of_lt (Nat.mul_le_mul_right _ hxb) htop⟩
  unfold hib
  have hlt := shr_lt ((dig W64 a).getD (i - 1) 0) s (by omega) (getD_lt (by rw [W64_eq]; omega) _ (limb_lt a) _)
  have h1 : ((dig W64 a).getD i 0 + 1) * 2 ^ s ≤ W64 := by
    generalize (dig W64 a).getD i 0 = t at *
    rw [← hpq, Nat.mul_comm (2 ^ s)] at htop
    have h5 := Nat.lt_of_mul_lt_mul_right htop
    rw [← hpq, Nat.mul_comm (2 ^ s)]
    exact Nat.mul_le_mul_right _ h5
  rw [Nat.add_mul, Nat.one_mul] at h1
  omega

end Go.Proofs.YtnfehccicnpbpaaGreatDoor

namespace Go.Proofs.YtnfehccicnpbpaaGreatDoor
open Go Go.RowKit

theorem below_unDrew {B : Nat} {w w' : World} (h : Below B w.drew w') : Below B w w' := ⟨h.os, h.tape, h.output, h.size, h.block⟩

/-- a block of five cells -/
def Box5 (w : World) (b : Nat) (x0 x1 x2 x3 x4 : Value) (t : TypeId) : Prop := w.heap[b]? = some (.cells #[x0, x1, x2, x3, x4] t (0, 0))
theorem Box5.cells {w : World} {b : Nat} {x0 x1 x2 x3 x4 : Value} {t : TypeId} (h : Box5 w b x0 x1 x2 x3 x4 t) :
    (w.cell? ⟨b, 0, none⟩ = some x0 ∧ w.cell? ⟨b, 1, none⟩ = some x1 ∧ w.cell? ⟨b, 2, none⟩ = some x2 ∧ w.cell? ⟨b, 3, none⟩ = some x3 ∧ w.cell? ⟨b, 4, none⟩ = some x4) ∧
    (w.frozen? ⟨b, 0, none⟩ = false ∧ w.frozen? ⟨b, 1, none⟩ = false ∧ w.frozen? ⟨b, 2, none⟩ = false ∧ w.frozen? ⟨b, 3, none⟩ = false ∧ w.frozen? ⟨b, 4, none⟩ = false) := by
  unfold Box5 at h
  simp [World.cell?, World.frozen?, h]
theorem Box5.later {w w' : World} {b : Nat} {x0 x1 x2 x3 x4 : Value} {t : TypeId} {B : Nat} (h : Box5 w b x0 x1 x2 x3 x4 t) (hb : Below B w w') (hB : b < B) : Box5 w' b x0 x1 x2 x3 x4 t := by
  unfold Box5 at *; rw [hb.block b hB]; exact h
theorem Box5.made (w : World) (x0 x1 x2 x3 x4 : Value) (t : TypeId) : Box5 (w.alloc (.cells #[x0, x1, x2, x3, x4] t)) w.heap.size x0 x1 x2 x3 x4 t := by
  show (w.heap.push _)[_]? = _
  simp
theorem Box5.alloc {w : World} {b : Nat} {x0 x1 x2 x3 x4 : Value} {t : TypeId} (h : Box5 w b x0 x1 x2 x3 x4 t) (o : Obj) : Box5 (w.alloc o) b x0 x1 x2 x3 x4 t :=
  h.later ((Below.refl w.heap.size w).alloc (Nat.le_refl _) o) (lt_of_block h)
theorem Box5.drew {w : World} {b : Nat} {x0 x1 x2 x3 x4 : Value} {t : TypeId} (h : Box5 w b x0 x1 x2 x3 x4 t) : Box5 w.drew b x0 x1 x2 x3 x4 t := h
theorem Box5.drewN {w : World} {b : Nat} {x0 x1 x2 x3 x4 : Value} {t : TypeId} (h : Box5 w b x0 x1 x2 x3 x4 t) (n : Nat) : Box5 (w.drewN n) b x0 x1 x2 x3 x4 t := h

/-- five stores into a block -/
def set5 (w : World) (b : Nat) (y0 y1 y2 y3 y4 : Value) : World := ((((w.setCell ⟨b, 0, none⟩ y0).setCell ⟨b, 1, none⟩ y1).setCell ⟨b, 2, none⟩ y2).setCell ⟨b, 3, none⟩ y3).setCell ⟨b, 4, none⟩ y4
theorem Box5.set5 {w : World} {b : Nat} {x0 x1 x2 x3 x4 : Value} {t : TypeId} (h : Box5 w b x0 x1 x2 x3 x4 t) (y0 y1 y2 y3 y4 : Value) : Box5 (set5 w b y0 y1 y2 y3 y4) b y0 y1 y2 y3 y4 t := by
  unfold Box5 Go.Proofs.YtnfehccicnpbpaaGreatDoor.set5 at *
  simp [World.setCell, Array.getElem?_modify, h]
theorem Box5.noSet5 {w : World} {g : Nat} {x0 x1 x2 x3 x4 : Value} {t : TypeId} (h : Box5 w g x0 x1 x2 x3 x4 t) {b : Nat} (hb : g ≠ b) (y0 y1 y2 y3 y4 : Value) : Box5 (Go.Proofs.YtnfehccicnpbpaaGreatDoor.set5 w b y0 y1 y2 y3 y4) g x0 x1 x2 x3 x4 t := by
  unfold Box5 Go.Proofs.YtnfehccicnpbpaaGreatDoor.set5 at *
  simp [World.setCell, Array.getElem?_modify, h, Ne.symm hb]
theorem below_set5 {B : Nat} {a w : World} (h : Below B a w) {b : Nat} (hb : B ≤ b) (y0 y1 y2 y3 y4 : Value) : Below B a (Go.Proofs.YtnfehccicnpbpaaGreatDoor.set5 w b y0 y1 y2 y3 y4) :=
  ((((h.setCell hb _).setCell hb _).setCell hb _).setCell hb _).setCell hb _

theorem parity (k : Nat) : (!(k % 2 == 0)) = ((k + 1) % 2 == 0) := by
  rcases (by omega : k % 2 = 0 ∨ k % 2 = 1) with h | h
  · have h2 : (k + 1) % 2 = 1 := by omega
    rw [h, h2]; rfl
  · have h2 : (k + 1) % 2 = 0 := by omega
    rw [h, h2]; rfl

/-- the value of the program's type of steps -/
def stepsV (k fA fB sA sB : Nat) : Value := .agg #[.int .i64 ((k : Nat) : Int), .int .u64 ((fA : Nat) : Int), .int .u64 ((fB : Nat) : Int), .int .u64 ((sA : Nat) : Int), .int .u64 ((sB : Nat) : Int)]

def StBox (w : World) (b : Nat) (k fA fB sA sB : Nat) : Prop := Box5 w b (.int .i64 ((k : Nat) : Int)) (.int .u64 ((fA : Nat) : Int)) (.int .u64 ((fB : Nat) : Int)) (.int .u64 ((sA : Nat) : Int)) (.int .u64 ((sB : Nat) : Int)) 244

def DecRel (w : World) (g8 g9 a b A H : Nat) (fv sv : Value) (wr : World) : Prop :=
  ∃ (kd : Nat) (evd : Bool) (dA dB dC dD kn : Nat) (evn : Bool) (nA nB nC nD f s : Nat), fv = .int .u64 ((f : Nat) : Int) ∧ sv = .int .u64 ((s : Nat) : Int) ∧ StBox wr g8 kd dA dB dC dD ∧ StBox wr g9 kn nA nB nC nD ∧ StBox wr w.heap.size 0 0 0 0 0 ∧
    Dec a b kd evd dA dB dC dD ∧ Nxt a b A H kn evn nA nB nC nD f s ∧ evd = (kd % 2 == 0) ∧ evn = (kn % 2 == 0) ∧ kd ≤ 1000000000000 ∧ dA < W64 ∧ dB < W64 ∧ dC < W64 ∧ dD < W64 ∧ nA < W64 ∧ nB < W64 ∧ nC < W64 ∧ nD < W64 ∧ f < W64 ∧ Below w.heap.size w wr

set_option maxRecDepth 100000 in
set_option maxHeartbeats 2000000 in
theorem decided_any (va vb : Value) (a b : Nat) (w : World) (ha : IsN w va a) (hb : IsN w vb b) (hla : (dig W64 a).length ≤ 10000000) (hlb : 2 ≤ (dig W64 b).length) (hle : b ≤ a) (R : Ending → World → Prop)
    (hR : ∀ k ev fA fB sA sB w', Dec a b k ev fA fB sA sB → ev = (k % 2 == 0) → k ≤ 1000000000000 → fA < W64 → fB < W64 → sA < W64 → sB < W64 → Below w.heap.size w w' → R (.returned (stepsV k fA fB sA sB)) w') :
    Calls Tryz.prog 204 #[va, vb] w R := by
  have HR := Lib.hid hR; clear hR
  have hnn : (dig W64 b).length ≤ (dig W64 a).length := dig_length_mono' W64_two hle
  obtain ⟨aa, la, ca, rfl, hlae, ha'⟩ := ha.open
  obtain ⟨ab, nb, cb, rfl, hb'⟩ := hb.op
  obtain ⟨i, hi⟩ : ∃ i, la = i + 1 := ⟨la - 1, by omega⟩
  subst hi
  have hi1 : 1 ≤ i := by omega
  have ha0 : a ≠ 0 := by intro h; subst h; rw [dig_zero] at hlae; simp at hlae
  have htop := top_pos (B := W64) (n := a) W64_two ha0
  rw [← hlae, Nat.add_sub_cancel] at htop
  obtain ⟨d, hd⟩ : ∃ d, d = (dig W64 a).getD i 0 := ⟨_, rfl⟩
  rw [← hd] at htop
  have hdw : d < W64 := by rw [hd]; exact getD_lt (by rw [W64_eq]; omega) _ (limb_lt a) _
  obtain ⟨s, hs64, hs, hn1, hn2⟩ := lead_spec d htop hdw
  obtain ⟨T, a0, b0, hpa, hpb, hpa0, hpb0, hAH, hAW, hbt⟩ := hib_parts a b i s hi1 hlae.symm hle hs64 (by rw [← hd]; exact hn2)
  obtain ⟨bk, o, rfl, hbk, hc⟩ := Sl.at ha' i (by omega)
  rw [← hd] at hc
  have hila : i ≤ 10000000 := by omega
  have HA := Lib.hid ha'
  have HB := Lib.hid hb'
  have HLA := Lib.hid hla
  have HLB := Lib.hid (Nat.le_trans hnn hla)
  have HS := Lib.hid hs
  have HT1 := Lib.hid (show (dig W64 a).getD i 0 * 2 ^ s < W64 by rw [← hd]; exact hn2)
  have HT2 := Lib.hid hbt
  have hd1 : (0 : Int) ≤ (d : Int) := by omega
  have hd2 : (d : Int) ≤ 18446744073709551615 := by rw [W64_eq] at hdw; omega
  have hii : (0 : Int) ≤ (i : Int) := by omega
  have hii2 : (i : Int) < (i : Int) + 1 := by omega
  obtain ⟨A, hA⟩ : ∃ A, A = hib a i s := ⟨_, rfl⟩
  obtain ⟨H, hH⟩ : ∃ H, H = hib b i s := ⟨_, rfl⟩
  rw [← hA, ← hH] at hAH
  rw [← hA] at hpa hAW
  rw [← hH] at hpb
  have HAE := Lib.hid hA
  have HHE := Lib.hid hH
  have HPA := Lib.hid hpa
  have HPB := Lib.hid hpb
  have HAW := Lib.hid hAW
  have B0 := Box5.made w (.int .i64 0) (.int .u64 0) (.int .u64 0) (.int .u64 0) (.int .u64 0) 244
  have HB0 := Lib.hid B0
  have hcw : (w.alloc (.cells #[.int .i64 0, .int .u64 0, .int .u64 0, .int .u64 0, .int .u64 0] 244)).cell? ⟨bk, o + i, none⟩ = some (.int .u64 (d : Int)) := by
    rw [World.cell?_alloc_past _ _ _ hbk]; exact hc
  clear ha hb ha' hb' hla hlb hle hnn hlae ha0 htop hd hdw hs hn1 hn2 hpa hpb hAW hbt hc hA hH B0
  go_enter Tryz.func204, Tryz.ntmps204
  go_wp2_with fail
  refine (Tryz.bits_LeadingZeros64 (d : Int) _ hd1 hd2).mono ?_
  rintro e w2 ⟨rfl, hw2⟩
  rw [hw2, HS.out]
  have HEXT : Hid (Below w.heap.size w (w.alloc (.cells #[.int .i64 0, .int .u64 0, .int .u64 0, .int .u64 0, .int .u64 0] 244))) := Lib.hid ((Below.refl _ _).alloc (Nat.le_refl _) _)
  clear hcw hw2
  dsimp only
  go_wp2_with fail
  refine bits_any _ a i s _ (HA.out.later HEXT.out (Nat.le_refl _)) hi1 hila HLA.out hs64 HT1.out _ ?_
  intro n1
  rw [← HAE.out]
  dsimp only
  go_wp2_with fail
  refine bits_any _ b i s _ ((HB.out.later HEXT.out (Nat.le_refl _)).drewN n1) hi1 hila HLB.out hs64 HT2.out _ ?_
  intro n2
  rw [← HHE.out]
  dsimp only
  obtain ⟨W0, hW0⟩ : ∃ W0, W0 = ((w.alloc (.cells #[.int .i64 0, .int .u64 0, .int .u64 0, .int .u64 0, .int .u64 0] 244)).drewN n1).drewN n2 := ⟨_, rfl⟩
  have HW1 : Hid (Below w.heap.size w W0) := Lib.hid (by rw [hW0]; exact below_draws (below_draws HEXT.out _) _)
  have HW2 : Hid (StBox W0 w.heap.size 0 0 0 0 0) := Lib.hid (by rw [hW0]; exact HB0.out)
  rw [← hW0]
  have hst : DecRel w W0.heap.size (W0.heap.size + 1) a b A H (.int .u64 ((A : Nat) : Int)) (.int .u64 ((H : Nat) : Int)) ((W0.alloc (.cells #[.int .i64 0, .int .u64 1, .int .u64 0, .int .u64 0, .int .u64 1] 244)).alloc (.cells #[.int .i64 0, .int .u64 1, .int .u64 0, .int .u64 0, .int .u64 1] 244)) := by
    have h1 : (0 : Nat) < W64 := by rw [W64_eq]; omega
    have h2 : (1 : Nat) < W64 := by rw [W64_eq]; omega
    refine ⟨0, true, 1, 0, 0, 1, 0, true, 1, 0, 0, 1, A, H, rfl, rfl, (Box5.made W0 _ _ _ _ _ _).alloc _, ?_, (HW2.out.alloc _).alloc _, Dec.start a b, Nxt.start a b A H hAH, rfl, rfl, by omega, h2, h1, h1, h2, h2, h1, h1, h2, HAW.out, (HW1.out.alloc HW1.out.size _).alloc (by have := HW1.out.size; simp; omega) _⟩
    have := Box5.made (W0.alloc (.cells #[.int .i64 0, .int .u64 1, .int .u64 0, .int .u64 0, .int .u64 1] 244)) (.int .i64 0) (.int .u64 1) (.int .u64 0) (.int .u64 0) (.int .u64 1) 244
    unfold StBox
    simpa using this
  have HST := Lib.hid hst
  have hg8 : w.heap.size < W0.heap.size := lt_of_block HW2.out
  obtain ⟨g8, hg8e⟩ : ∃ g, g = W0.heap.size := ⟨_, rfl⟩
  rw [← hg8e] at HST hg8
  have HG8 := Lib.hid hg8e
  clear hst hW0 hg8e HB0
  go_wp2
  rw [← HG8.out]
  go_loopw [6, 7] (fun f s wr => DecRel w g8 (g8 + 1) a b A H f s wr) (fun _ s _ => (intOf s).toNat)
  case atStart => exact HST.out
  case round =>
    clear HST
    obtain ⟨kd, evd, dA, dB, dC, dD, kn, evn, nA, nB, nC, nD, f, t, rfl, rfl, b8, b9, b0', hdec, hnxt, hevd, hevn, hkd, hdA, hdB, hdC, hdD, hnA, hnB, hnC, hnD, hf, hbel⟩ := hrel
    obtain ⟨⟨hP0, hP1, hP2, hP3, hP4⟩, hP5, hP6, hP7, hP8, hP9⟩ := Box5.cells b8
    obtain ⟨⟨hN0, hN1, hN2, hN3, hN4⟩, hN5, hN6, hN7, hN8, hN9⟩ := Box5.cells b9
    obtain ⟨⟨hR0, hR1, hR2, hR3, hR4⟩, hR5, hR6, hR7, hR8, hR9⟩ := Box5.cells b0'
    have HLI := Lib.hid hnxt.1
    have HDEC := Lib.hid hdec
    have HNXT := Lib.hid hnxt
    have HEVD := Lib.hid hevd
    have HEVN := Lib.hid hevn
    have HBEL := Lib.hid hbel
    have HDD := Lib.hid (And.intro hkd (And.intro hdA (And.intro hdB (And.intro hdC hdD))))
    have HNN := Lib.hid (And.intro hnA (And.intro hnB (And.intro hnC hnD)))
    have B8 := Lib.hid b8
    have B9 := Lib.hid b9
    have B0 := Lib.hid b0'
    have hfin : R (.returned (stepsV kd dA dB dC dD)) (set5 wr w.heap.size (.int .i64 ((kd : Nat) : Int)) (.int .u64 ((dA : Nat) : Int)) (.int .u64 ((dB : Nat) : Int)) (.int .u64 ((dC : Nat) : Int)) (.int .u64 ((dD : Nat) : Int))) :=
      HR.out _ _ _ _ _ _ _ hdec hevd hkd hdA hdB hdC hdD (below_set5 hbel (Nat.le_refl _) _ _ _ _ _)
    have HFIN := Lib.hid hfin
    have hf2 : (f : Int) ≤ 18446744073709551615 := by rw [W64_eq] at hf; omega
    have HF := Lib.hid hf
    have hpos := HLI.out.sB_pos
    have hsf := HLI.out.2.2.1
    clear b8 b9 b0' hdec hnxt hevd hevn hbel hkd hdA hdB hdC hdD hnA hnB hnC hnD hfin hf
    by_cases hc1 : nD ≤ t
    · obtain ⟨hs1, _, _⟩ := HLI.out.sum_le (by omega)
      have hAWn := HAW.out
      have hs2 : (nB : Int) + (nD : Int) ≤ 18446744073709551615 := by rw [W64_eq] at hAWn; omega
      have hc1i : (nD : Int) ≤ (t : Int) := by omega
      have hsfi : (t : Int) ≤ (f : Int) := by omega
      clear hAWn hs1
      by_cases hc2 : nB + nD ≤ f - t
      · have hc2i : (nB : Int) + (nD : Int) ≤ (f : Int) - (t : Int) := by omega
        have hcnt := HLI.out.count hc1
        obtain ⟨hgo1, hgo2, hgo3, hgo4⟩ := HNXT.out.go hc1 hc2 T a0 b0 HPA.out HPB.out hpa0 hpb0
        obtain ⟨q, hq⟩ : ∃ q, q = f / t := ⟨_, rfl⟩
        obtain ⟨r, hr⟩ : ∃ r, r = f % t := ⟨_, rfl⟩
        rw [← hq] at hgo2 hgo3 hgo4
        rw [← hr] at hgo2
        have hqe : (f : Int) / (t : Int) = (q : Int) := by rw [hq]; exact (Int.natCast_ediv f t).symm
        have hqt : (f : Int).tdiv (t : Int) = (q : Int) := by rw [Int.tdiv_eq_ediv_of_nonneg (by omega)]; exact hqe
        have hre : (f : Int) % (t : Int) = (r : Int) := by rw [hr]; exact (Int.natCast_emod f t).symm
        have hrt : (f : Int).tmod (t : Int) = (r : Int) := by rw [Int.tmod_eq_emod_of_nonneg (by omega)]; exact hre
        have hqf : q ≤ f := by rw [hq]; exact Nat.div_le_self _ _
        have hqw := wrapu (q : Int) (by omega) (by omega)
        have ht0 : ((t : Int) == 0) = false := by simp; omega
        have ht1 : (1 : Int) ≤ (t : Int) := by omega
        have htne : ¬ t = 0 := by omega
        have hrl : r < t := by rw [hr]; exact Nat.mod_lt _ (by omega)
        have hkn : kn ≤ 4294967296 := by
          rcases Nat.lt_or_ge 4294967296 kn with h | h
          · have h1 : 4294967297 * 4294967297 ≤ kn * kn := Nat.mul_le_mul h h
            have h2 := HAW.out
            rw [W64_eq] at h2; omega
          · exact h
        have hm1 : nA + q * nC < W64 := Nat.lt_of_le_of_lt hgo4 HAW.out
        have hm2 : nB + q * nD < W64 := Nat.lt_of_le_of_lt hgo3 HAW.out
        obtain ⟨L, hL⟩ : ∃ L, L = set5 wr g8 (.int .i64 ((kn : Nat) : Int)) (.int .u64 ((nA : Nat) : Int)) (.int .u64 ((nB : Nat) : Int)) (.int .u64 ((nC : Nat) : Int)) (.int .u64 ((nD : Nat) : Int)) := ⟨_, rfl⟩
        have L8 : StBox L g8 kn nA nB nC nD := by rw [hL]; exact Box5.set5 B8.out _ _ _ _ _
        have L9 : StBox L (g8 + 1) kn nA nB nC nD := by rw [hL]; exact Box5.noSet5 B9.out (by omega) _ _ _ _ _
        have L0 : StBox L w.heap.size 0 0 0 0 0 := by rw [hL]; exact Box5.noSet5 B0.out (by omega) _ _ _ _ _
        have LB : Below w.heap.size w L := by rw [hL]; exact below_set5 HBEL.out (by omega) _ _ _ _ _
        have HL8 := Lib.hid L8
        have HL9 := Lib.hid L9
        have HL0 := Lib.hid L0
        have HLB := Lib.hid LB
        have HGO := Lib.hid (And.intro hgo1 hgo2)
        have HKN := Lib.hid hkn
        have HM := Lib.hid (And.intro hm1 hm2)
        have hLs : g8 + 1 < L.heap.size := lt_of_block L9
        unfold set5 at hL
        clear hcnt hgo1 hgo2 hgo3 hgo4 hq hr hkn hm1 hm2 L8 L9 L0 LB hR0 hR1 hR2 hR3 hR4 hR5 hR6 hR7 hR8 hR9 HFIN
        go_upto_region 7 with fail
        rw [← hL]
        clear hL hP0 hP1 hP2 hP3 hP4 hP5 hP6 hP7 hP8 hP9 hN0 hN1 hN2 hN3 hN4 hN5 hN6 hN7 hN8 hN9
        obtain ⟨⟨hN0, hN1, hN2, hN3, hN4⟩, hN5, hN6, hN7, hN8, hN9⟩ := Box5.cells HL9.out
        go_cut [] (fun wx => StBox wx g8 kn nA nB nC nD ∧ StBox wx (g8 + 1) (kn + 1) nC nD (nA + q * nC) (nB + q * nD) ∧ StBox wx w.heap.size 0 0 0 0 0 ∧ Below w.heap.size w wx)
        case first =>
          go_region_law (go_simp; go_at_call 230; refine after_any kn nA nB nC nD q _ (Nat.le_trans HKN.out (by omega)) HM.out.1 HM.out.2 _ ?_; intro w4 hb4; have hb5 : Below L.heap.size L w4 := below_unDrew hb4; have M9 := Box5.later HL9.out hb5 hLs; have M8 := Lib.hid (Box5.later HL8.out hb5 (by omega)); have M0 := Lib.hid (Box5.later HL0.out hb5 (by omega)); have MB := Lib.hid (HLB.out.trans (hb5.mono HLB.out.size)); obtain ⟨⟨hM0, hM1, hM2, hM3, hM4⟩, hM5, hM6, hM7, hM8, hM9⟩ := M9.cells; have H9 := Lib.hid M9; clear M9 hb4 hb5; dsimp only)
          all_goals (go_wp2_with fail; go_meet; exact ⟨Box5.noSet5 M8.out (by omega) _ _ _ _ _, Box5.set5 H9.out _ _ _ _ _, Box5.noSet5 M0.out (by omega) _ _ _ _ _, below_set5 MB.out (by omega) _ _ _ _ _⟩)
        case rest =>
          obtain ⟨c8, c9, c0, cb⟩ := hcut
          have C8 := Lib.hid c8
          have C9 := Lib.hid c9
          have C0 := Lib.hid c0
          have CB := Lib.hid cb
          clear c8 c9 c0 cb hN0 hN1 hN2 hN3 hN4 hN5 hN6 hN7 hN8 hN9 hqe hqt
          go_wp2
          go_quiet (fail)
          go_wp2
          go_roundw
          case rel =>
            exact ⟨kn, evn, nA, nB, nC, nD, kn + 1, !evn, nC, nD, nA + q * nC, nB + q * nD, t, r, rfl, rfl, Box5.drewN C8.out _, Box5.drewN C9.out _, Box5.drewN C0.out _, HGO.out.1, HGO.out.2, HEVN.out, by rw [HEVN.out]; exact parity kn, Nat.le_trans HKN.out (by omega), HNN.out.1, HNN.out.2.1, HNN.out.2.2.1, HNN.out.2.2.2, HNN.out.2.2.1, HNN.out.2.2.2, HM.out.1, HM.out.2, by have := HF.out; omega, below_draws CB.out _⟩
          case measure => simp [intOf]; omega
      · have hc2i : ¬ (nB : Int) + (nD : Int) ≤ (f : Int) - (t : Int) := by omega
        clear hN0 hN1 hN3 hN5 hN6 hN7 hN8 hN9
        go_wp2
        refine bodyPost_ret_at (by simp [results, Tryz.results204, go_sem, hR0, hR1, hR2, hR3, hR4, hR5, hR6, hR7, hR8, hR9] <;> rfl) rfl ?_
        exact HFIN.out
    · have hc1i : ¬ (nD : Int) ≤ (t : Int) := by omega
      clear hN0 hN1 hN2 hN3 hN5 hN6 hN7 hN8 hN9
      go_wp2
      refine bodyPost_ret_at (by simp [results, Tryz.results204, go_sem, hR0, hR1, hR2, hR3, hR4, hR5, hR6, hR7, hR8, hR9] <;> rfl) rfl ?_
      exact HFIN.out
end Go.Proofs.YtnfehccicnpbpaaGreatDoor

namespace Go.Proofs.YtnfehccicnpbpaaGreatDoor
open Go Go.RowKit

set_option maxRecDepth 100000 in
set_option maxHeartbeats 1000000 in
theorem gcds_any (a b : Nat) (w : World) (ha : a < W64) (hb : b < W64) (R : Ending → World → Prop)
    (hR : ∀ w', Below w.heap.size w w' → w'.heap.size = w.heap.size → R (.returned (.int .u64 ((Nat.gcd a b : Nat) : Int))) w') :
    Calls Tryz.prog 206 #[.int .u64 ((a : Nat) : Int), .int .u64 ((b : Nat) : Int)] w R := by
  have HR := Lib.hid hR; clear hR
  go_enter Tryz.func206, Tryz.ntmps206
  have HA := Lib.hid ha
  have HB := Lib.hid hb
  clear ha hb
  go_wp2
  go_loopw [0, 1] (fun av bv wr => ∃ x y : Nat, av = .int .u64 ((x : Nat) : Int) ∧ bv = .int .u64 ((y : Nat) : Int) ∧ Nat.gcd x y = Nat.gcd a b ∧ x < W64 ∧ y < W64 ∧ Below w.heap.size w wr ∧ wr.heap.size = w.heap.size) (fun _ bv _ => (intOf bv).toNat)
  case atStart => exact ⟨a, b, rfl, rfl, rfl, HA.out, HB.out, Below.refl _ _, rfl⟩
  case round =>
    clear HA HB
    obtain ⟨x, y, rfl, rfl, hg, hx, hy, hbel, hsz⟩ := hrel
    have HG := Lib.hid hg
    have HX := Lib.hid hx
    have HY := Lib.hid hy
    have HB := Lib.hid hbel
    have HSZ := Lib.hid hsz
    clear hg hx hy hbel hsz
    by_cases hy0 : y = 0
    · subst hy0
      have hfin := HR.out _ HB.out HSZ.out
      rw [← HG.out, Nat.gcd_zero_right] at hfin
      have HF := Lib.hid hfin
      clear hfin
      go_wp2
      first | go_ret | skip
      exact HF.out
    · have hyp : (0 : Int) < (y : Int) := by omega
      have hy1 : (1 : Int) ≤ (y : Int) := by omega
      have hyn : ((y : Int) == 0) = false := by simp; omega
      obtain ⟨r, hr⟩ : ∃ r, r = x % y := ⟨_, rfl⟩
      have hre : (x : Int) % (y : Int) = (r : Int) := by rw [hr]; exact (Int.natCast_emod x y).symm
      have hrt : (x : Int).tmod (y : Int) = (r : Int) := by rw [Int.tmod_eq_emod_of_nonneg (by omega)]; exact hre
      have hrl : r < y := by rw [hr]; exact Nat.mod_lt _ (by omega)
      have hg2 : Nat.gcd y r = Nat.gcd a b := by rw [← HG.out, hr, Nat.gcd_comm y, ← Nat.gcd_rec, Nat.gcd_comm]
      have HG2 := Lib.hid hg2
      clear hr hg2
      go_wp2
      go_quiet (fail)
      go_wp2
      go_roundw
      case rel => exact ⟨y, r, rfl, rfl, HG2.out, HY.out, Nat.lt_trans hrl HY.out, below_draws HB.out _, HSZ.out⟩
      case measure => simp [intOf]; omega

theorem timesp_0 (v : Value) (a f : Nat) (w : World) (h : IsN w v a) (hf : f < W64) (hlen : (dig W64 a).length ≤ 10000000) (R : Ending → World → Prop)
    (hR : ∀ v' w', IsN w' v' (a * f) → Below w.heap.size w w' → R (.returned v') w') :
    Calls Tryz.prog 225 #[v, .int .u64 ((f : Nat) : Int), .int .u64 0] w R :=
  timesp_any v a f 0 w h hf (by rw [W64_eq]; omega) (by omega) R fun v' w' h1 h2 _ => hR v' w' h1 h2

theorem IsN.drew {w : World} {v : Value} {n : Nat} (h : IsN w v n) : IsN w.drew v n := h

/-- two products -/
def ApRel (L : World) (p q : Nat) (v1 v2 : Value) (wx : World) : Prop := IsN wx v1 p ∧ IsN wx v2 q ∧ Below L.heap.size L wx

theorem Nat_le_of_eq_add {a b c : Nat} (h : a = b + c) : b ≤ a ∧ a - b = c := by omega

set_option maxRecDepth 100000 in
set_option maxHeartbeats 2000000 in
/-- the two numbers with which decided steps end -/
theorem apply_any (k : Nat) (ev : Bool) (fA fB sA sB : Nat) (va vb : Value) (a b : Nat) (w : World) (ha : IsN w va a) (hb : IsN w vb b) (hla : (dig W64 a).length ≤ 10000000) (hlb : (dig W64 b).length ≤ 10000000)
    (hev : ev = (k % 2 == 0)) (hk : k ≤ 1000000000000) (hfA : fA < W64) (hfB : fB < W64) (hsA : sA < W64) (hsB : sB < W64) (tf ts : Nat) (ht : LTrue ev a b fA fB sA sB tf ts) (R : Ending → World → Prop)
    (hR : ∀ v1 v2 w', IsN w' v1 tf → IsN w' v2 ts → Below w.heap.size w w' → R (.returned (.tuple #[v1, v2])) w') :
    Calls Tryz.prog 205 #[stepsV k fA fB sA sB, va, vb] w R := by
  have HR := Lib.hid hR; clear hR
  obtain ⟨aa, na, ca, rfl, ha'⟩ := ha.op
  obtain ⟨ab, nb, cb, rfl, hb'⟩ := hb.op
  have HA := Lib.hid ha'
  have HB := Lib.hid hb'
  have HLA := Lib.hid hla
  have HLB := Lib.hid hlb
  have HW := Lib.hid (And.intro hfA (And.intro hfB (And.intro hsA hsB)))
  have B0 := Lib.hid (Box5.made w (.int .i64 ((k : Nat) : Int)) (.int .u64 ((fA : Nat) : Int)) (.int .u64 ((fB : Nat) : Int)) (.int .u64 ((sA : Nat) : Int)) (.int .u64 ((sB : Nat) : Int)) 244)
  have H0 : Hid ((0 : Nat) < W64) := Lib.hid (by rw [W64_eq]; omega)
  have hlen : ∀ c f : Nat, (dig W64 c).length ≤ 10000000 → f < W64 → (dig W64 (c * f + 0)).length ≤ 100000000 := by
    intro c f hc hf
    have : (dig W64 (c * f + 0)).length ≤ (dig W64 c).length + 1 := by
      apply dig_length_le W64_two
      rw [Nat.add_zero, Nat.pow_succ]
      exact Nat.mul_lt_mul'' (lt_pow_dig W64_two c) hf
    omega
  have HLEN := Lib.hid hlen
  have HT := Lib.hid ht
  have HK := Lib.hid hk
  have HEXT : Hid (Below w.heap.size w (w.alloc (.cells #[.int .i64 ((k : Nat) : Int), .int .u64 ((fA : Nat) : Int), .int .u64 ((fB : Nat) : Int), .int .u64 ((sA : Nat) : Int), .int .u64 ((sB : Nat) : Int)] 244))) := Lib.hid ((Below.refl _ _).alloc (Nat.le_refl _) _)
  obtain ⟨L, hL⟩ : ∃ L, L = w.alloc (.cells #[.int .i64 ((k : Nat) : Int), .int .u64 ((fA : Nat) : Int), .int .u64 ((fB : Nat) : Int), .int .u64 ((sA : Nat) : Int), .int .u64 ((sB : Nat) : Int)] 244) := ⟨_, rfl⟩
  have HL := Lib.hid hL
  have c0 : Box5 L w.heap.size (.int .i64 ((k : Nat) : Int)) (.int .u64 ((fA : Nat) : Int)) (.int .u64 ((fB : Nat) : Int)) (.int .u64 ((sA : Nat) : Int)) (.int .u64 ((sB : Nat) : Int)) 244 := by rw [hL]; exact B0.out
  have hbL : Below w.heap.size w L := by rw [hL]; exact HEXT.out
  have C0 := Lib.hid c0
  have HBL := Lib.hid hbL
  have hAL := Lib.hid (HA.out.later hbL (Nat.le_refl _))
  have hBL := Lib.hid (HB.out.later hbL (Nat.le_refl _))
  obtain ⟨⟨hC0, hC1, hC2, hC3, hC4⟩, _, _, _, _, _⟩ := c0.cells
  have hgL := lt_of_block c0
  clear ha hb ha' hb' hla hlb hfA hfB hsA hsB hlen ht hk B0 HEXT hL c0 hbL
  unfold stepsV
  go_enter Tryz.func205, Tryz.ntmps205
  go_upto_region 1 with fail
  rw [← HL.out]
  go_cut [8, 9] (fun v1 v2 wx => ApRel L (a * fA) (b * fB) v1 v2 wx)
  case first =>
    go_region_law (first
      | (have hguard := hb1; go_simp; go_at_call 225; refine timesp_0 _ b fB _ (hBL.out.later hb1 (Nat.le_refl _)) HW.out.2.1 HLB.out _ ?_; intro v2 w2 hv2 hb2; clear hguard; dsimp only)
      | (go_simp; go_at_call 225; refine timesp_0 _ a fA _ hAL.out.drew HW.out.1 HLA.out _ ?_; intro v1 w1 hv1 hb1'; have hb1 : Below L.heap.size L w1 := below_unDrew hb1'; obtain ⟨⟨hE0, hE1, hE2, hE3, hE4⟩, _, _, _, _, _⟩ := (Box5.later C0.out hb1 hgL).cells; dsimp only))
    all_goals (go_wp2_with fail; go_meet; exact ⟨hv1.later hb2 (Nat.le_refl _), hv2, hb1.trans (hb2.mono hb1.size)⟩)
  case rest =>
    obtain ⟨hp1, hp2, hbx⟩ := hcut
    obtain ⟨a1, n1, c1, rfl, hp1'⟩ := hp1.op
    obtain ⟨a2, n2, c2, rfl, hp2'⟩ := hp2.op
    have HP1 := Lib.hid hp1'
    have HP2 := Lib.hid hp2'
    have HBX := Lib.hid hbx
    obtain ⟨wa, hwa⟩ : ∃ wa, wa = wc := ⟨_, rfl⟩
    have HBL2 := Lib.hid (HBL.out.trans (hbx.mono HBL.out.size))
    have HA2 := Lib.hid (hAL.out.later hbx (Nat.le_refl _))
    have HB2 := Lib.hid (hBL.out.later hbx (Nat.le_refl _))
    have C1 := Lib.hid (Box5.later C0.out hbx hgL)
    have hgx : w.heap.size < wc.heap.size := lt_of_block C1.out
    clear hp1 hp2 hp1' hp2' hbx hwa hC0 hC1 hC2 hC3 hC4
    obtain ⟨⟨hC0, hC1, hC2, hC3, hC4⟩, _, _, _, _, _⟩ := (Box5.cells C1.out)
    go_upto_region 2 with fail
    go_cut [10, 11] (fun v1 v2 wx => ApRel wc (a * sA) (b * sB) v1 v2 wx)
    case first =>
      go_region_law (first
        | (have hguard := hb1; go_simp; go_at_call 225; refine timesp_0 _ b sB _ (HB2.out.later hb1 (Nat.le_refl _)) HW.out.2.2.2 HLB.out _ ?_; intro v2 w2 hv2 hb2; clear hguard; dsimp only)
        | (go_simp; go_at_call 225; refine timesp_0 _ a sA _ HA2.out.drew HW.out.2.2.1 HLA.out _ ?_; intro v1 w1 hv1 hb1'; have hb1 : Below wc.heap.size wc w1 := below_unDrew hb1'; obtain ⟨⟨hE0, hE1, hE2, hE3, hE4⟩, _, _, _, _, _⟩ := (Box5.later C1.out hb1 hgx).cells; dsimp only))
      all_goals (go_wp2_with fail; go_meet; exact ⟨hv1.later hb2 (Nat.le_refl _), hv2, hb1.trans (hb2.mono hb1.size)⟩)
    case rest =>
      obtain ⟨hq1, hq2, hby⟩ := hcut
      obtain ⟨a3, n3, c3, rfl, hq1'⟩ := hq1.op
      obtain ⟨a4, n4, c4, rfl, hq2'⟩ := hq2.op
      have HQ1 := Lib.hid hq1'
      have HQ2 := Lib.hid hq2'
      have HP1b := Lib.hid (HP1.out.later hby (Nat.le_refl _))
      have HP2b := Lib.hid (HP2.out.later hby (Nat.le_refl _))
      have HBY := Lib.hid (HBL2.out.trans (hby.mono HBL2.out.size))
      have C2 := Lib.hid (Box5.later C1.out hby hgx)
      clear hq1 hq2 hq1' hq2' hby hC0 hC1 hC2 hC3 hC4
      obtain ⟨⟨hC0, _, _, _, _⟩, _, _, _, _, _⟩ := (Box5.cells C2.out)
      cases ev
      · have hk2 : (k : Int) % 2 = 1 := by
          have : k % 2 = 1 := by
            rcases (by omega : k % 2 = 0 ∨ k % 2 = 1) with h | h
            · rw [h] at hev; cases hev
            · exact h
          omega
        have hk3 : (k : Int).tmod 2 = 1 := by rw [Int.tmod_eq_emod_of_nonneg (by omega)]; exact hk2
        have ht := HT.out
        simp only [LTrue, Bool.false_eq_true, if_false] at ht
        have e1 := Nat_le_of_eq_add (show b * fB = a * fA + tf by rw [Nat.mul_comm b, Nat.mul_comm a]; exact ht.1)
        have e2 := Nat_le_of_eq_add (show a * sA = b * sB + ts by rw [Nat.mul_comm b, Nat.mul_comm a]; exact ht.2)
        have E1 := Lib.hid e1
        have E2 := Lib.hid e2
        clear hev ht e1 e2
        go_wp2_with fail
        refine minus_any _ _ (b * fB) (a * fA) _ HP2b.out HP1b.out E1.out.1 (HLEN.out b fB HLB.out HW.out.2.1) _ ?_
        intro v1 w5 hv1 hb5
        rw [E1.out.2] at hv1
        obtain ⟨a5, n5, c5, rfl, hv1'⟩ := hv1.op
        have HV1 := Lib.hid hv1'
        have HB5 := Lib.hid hb5
        clear hv1 hv1' hb5 hC0
        dsimp only
        go_wp2_with fail
        refine minus_any _ _ (a * sA) (b * sB) _ (HQ1.out.later HB5.out (Nat.le_refl _)) (HQ2.out.later HB5.out (Nat.le_refl _)) E2.out.1 (HLEN.out a sA HLA.out HW.out.2.2.1) _ ?_
        intro v2 w6 hv2 hb6
        rw [E2.out.2] at hv2
        obtain ⟨a6, n6, c6, rfl, hv2'⟩ := hv2.op
        have HV2 := Lib.hid hv2'
        have HB6 := Lib.hid hb6
        clear hv2 hv2' hb6
        dsimp only
        go_wp2
        first | go_ret | skip
        exact HR.out _ _ _ (HV1.out.later HB6.out (Nat.le_refl _)) HV2.out (HBY.out.trans ((HB5.out.trans (HB6.out.mono HB5.out.size)).mono HBY.out.size))
      · have hk2 : (k : Int) % 2 = 0 := by
          have : k % 2 = 0 := by
            rcases (by omega : k % 2 = 0 ∨ k % 2 = 1) with h | h
            · exact h
            · rw [h] at hev; cases hev
          omega
        have hk3 : (k : Int).tmod 2 = 0 := by rw [Int.tmod_eq_emod_of_nonneg (by omega)]; exact hk2
        have ht := HT.out
        simp only [LTrue, if_true] at ht
        have e1 := Nat_le_of_eq_add (show a * fA = b * fB + tf by rw [Nat.mul_comm b, Nat.mul_comm a]; exact ht.1)
        have e2 := Nat_le_of_eq_add (show b * sB = a * sA + ts by rw [Nat.mul_comm b, Nat.mul_comm a]; exact ht.2)
        have E1 := Lib.hid e1
        have E2 := Lib.hid e2
        clear hev ht e1 e2
        go_wp2_with fail
        refine minus_any _ _ (a * fA) (b * fB) _ HP1b.out HP2b.out E1.out.1 (HLEN.out a fA HLA.out HW.out.1) _ ?_
        intro v1 w5 hv1 hb5
        rw [E1.out.2] at hv1
        obtain ⟨a5, n5, c5, rfl, hv1'⟩ := hv1.op
        have HV1 := Lib.hid hv1'
        have HB5 := Lib.hid hb5
        clear hv1 hv1' hb5 hC0
        dsimp only
        go_wp2_with fail
        refine minus_any _ _ (b * sB) (a * sA) _ (HQ2.out.later HB5.out (Nat.le_refl _)) (HQ1.out.later HB5.out (Nat.le_refl _)) E2.out.1 (HLEN.out b sB HLB.out HW.out.2.2.2) _ ?_
        intro v2 w6 hv2 hb6
        rw [E2.out.2] at hv2
        obtain ⟨a6, n6, c6, rfl, hv2'⟩ := hv2.op
        have HV2 := Lib.hid hv2'
        have HB6 := Lib.hid hb6
        clear hv2 hv2' hb6
        dsimp only
        go_wp2
        first | go_ret | skip
        exact HR.out _ _ _ (HV1.out.later HB6.out (Nat.le_refl _)) HV2.out (HBY.out.trans ((HB5.out.trans (HB6.out.mono HB5.out.size)).mono HBY.out.size))
end Go.Proofs.YtnfehccicnpbpaaGreatDoor

namespace Go.Proofs.YtnfehccicnpbpaaGreatDoor
open Go Go.RowKit

/-- the number in a cell -/
def cellU : Option Value → Nat
  | some (.int _ z) => z.toNat
  | _ => 0
/-- the number that a value of the program's type holds -/
def limbNat (w : World) : Value → Nat
  | .slice (some a) n _ => val W64 ((List.range n).map fun i => cellU (w.cell? ⟨a.block, a.off + i, none⟩))
  | _ => 0

theorem IsN.limbNat {w : World} {v : Value} {n : Nat} (h : IsN w v n) : limbNat w v = n := by
  have hv := val_dig W64_two n
  rcases Sl.cases h with ⟨h0, ao, cap, rfl⟩ | ⟨hl, b, off, cap, rfl, _, _, hc⟩
  · rw [h0] at hv
    simp [val] at hv
    subst hv
    cases ao <;> simp [Go.Proofs.YtnfehccicnpbpaaGreatDoor.limbNat, val]
  · unfold Go.Proofs.YtnfehccicnpbpaaGreatDoor.limbNat
    dsimp only
    have : (List.range (dig W64 n).length).map (fun i => cellU (w.cell? ⟨b, off + i, none⟩)) = dig W64 n := by
      apply List.ext_getElem (by simp)
      intro i h1 h2
      rw [List.getElem_map, List.getElem_range, hc i h2]
      simp [cellU, List.getD, List.getElem?_eq_getElem h2]
    rw [this, hv]

theorem IsN.cast {w : World} {v : Value} {n m : Nat} (h : IsN w v n) (e : n = m) : IsN w v m := e ▸ h

def GRel (w : World) (G : Nat) (v0 v1 : Value) (wr : World) : Prop :=
  ∃ x y, IsN wr v0 x ∧ IsN wr v1 y ∧ y ≤ x ∧ Nat.gcd x y = G ∧ (dig W64 x).length ≤ 10000000 ∧ Below w.heap.size w wr

theorem gcd_mod (x y : Nat) : Nat.gcd y (x % y) = Nat.gcd x y := by
  rw [Nat.gcd_comm y, ← Nat.gcd_rec, Nat.gcd_comm]

set_option maxRecDepth 100000 in
set_option maxHeartbeats 4000000 in
theorem gcdn_any (va vb : Value) (a b : Nat) (w : World) (ha : IsN w va a) (hb : IsN w vb b) (hla : (dig W64 a).length ≤ 10000000) (hlb : (dig W64 b).length ≤ 10000000) (R : Ending → World → Prop)
    (hR : ∀ v w', IsN w' v (Nat.gcd a b) → Below w.heap.size w w' → R (.returned v) w') :
    Calls Tryz.prog 167 #[va, vb] w R := by
  have HR := Lib.hid hR; clear hR
  obtain ⟨aa, na, ca, rfl, ha'⟩ := ha.op
  obtain ⟨ab, nb, cb, rfl, hb'⟩ := hb.op
  have HA := Lib.hid ha'
  have HB := Lib.hid hb'
  have HLA := Lib.hid hla
  have HLB := Lib.hid hlb
  obtain ⟨cm, hcmp⟩ : ∃ cm, cm = cmpN a b := ⟨_, rfl⟩
  obtain ⟨G, hG⟩ : ∃ G, G = Nat.gcd a b := ⟨_, rfl⟩
  rw [← hG] at HR
  have HG := Lib.hid hG
  have HCM := Lib.hid hcmp
  clear ha' hb' hla hlb hcmp hG
  go_enter Tryz.func167, Tryz.ntmps167
  go_wp2_with fail
  refine ncmp_any _ _ a b _ ha hb (by have := HLA.out; omega) (by have := HLB.out; omega) _ ?_
  rw [← HCM.out]
  intro w0 hb0 _
  have HB0 := Lib.hid hb0
  clear ha hb hb0
  dsimp only
  by_cases hlt : a < b
  · have hcm : cm < 0 := by rw [HCM.out, cmpN_lt hlt]; omega
    have hst : GRel w G (.slice ab nb cb) (.slice aa na ca) w0 := ⟨b, a, HB.out.later HB0.out (Nat.le_refl _), HA.out.later HB0.out (Nat.le_refl _), by omega, by rw [Nat.gcd_comm]; exact HG.out.symm, HLB.out, HB0.out⟩
    have HST := Lib.hid hst
    clear hst hlt
    go_wp2
    go_loopw [0, 1] (fun v0 v1 wr => GRel w G v0 v1 wr) (fun _ v1 wr => limbNat wr v1)
    case atStart => exact HST.out
    case round =>
      clear HST
      obtain ⟨x, y, hx, hy, hyx, hg, hlx, hbel⟩ := hrel
      obtain ⟨ax, nx, cx, rfl, hx'⟩ := hx.op
      obtain ⟨ay, ny, cy, rfl, hny, hy'⟩ := hy.open
      have HX := Lib.hid hx'
      have HY := Lib.hid hy'
      have HYX := Lib.hid hyx
      have HGG := Lib.hid hg
      have HLX := Lib.hid hlx
      have HBEL := Lib.hid hbel
      have HNY := Lib.hid hny
      have HLY := Lib.hid (Nat.le_trans (dig_length_mono' W64_two hyx) hlx)
      have HM := Lib.hid hy.limbNat
      clear hx hy hx' hy' hyx hg hlx hbel hny
      by_cases hbig : 1 < ny
      · have hbi : (1 : Int) < (ny : Int) := by omega
        go_wp2_with fail
        refine decided_any _ _ x y _ HX.out HY.out HLX.out (by rw [← HNY.out]; exact hbig) HYX.out _ ?_
        intro k ev fA fB sA sB w1 hdec hev hk hfA hfB hsA hsB hb1
        obtain ⟨tf, ts, ht, hgt, hle⟩ := hdec
        have HT := Lib.hid ht
        have HGT := Lib.hid hgt
        have HLE := Lib.hid hle
        have HEV := Lib.hid hev
        have HK := Lib.hid hk
        have HBD := Lib.hid (And.intro hfA (And.intro hfB (And.intro hsA hsB)))
        have HB1 := Lib.hid hb1
        have HB2 := Lib.hid (HBEL.out.trans (hb1.mono HBEL.out.size))
        clear ht hgt hle hev hk hfA hfB hsA hsB hb1
        unfold stepsV
        dsimp only
        by_cases hk0 : k = 0
        · subst hk0
          have hy0 : y ≠ 0 := by intro h; have := HNY.out; rw [h, dig_zero] at this; simp at this; omega
          have HY0 := Lib.hid hy0
          clear hy0
          go_wp2_with fail
          refine divide_any _ _ x y _ ((HX.out.later HB1.out (Nat.le_refl _)).later ((Below.refl _ _).alloc (Nat.le_refl _) _) (Nat.le_refl _)) ((HY.out.later HB1.out (Nat.le_refl _)).later ((Below.refl _ _).alloc (Nat.le_refl _) _) (Nat.le_refl _)) HLX.out HLY.out HY0.out _ ?_
          intro v1 v2 w3 hv1 hv2 hb3
          obtain ⟨a1, n1, c1, rfl, _⟩ := hv1.op
          obtain ⟨a2, n2, c2, rfl, hv2'⟩ := hv2.op
          have HV2 := Lib.hid hv2'
          have HY3 := Lib.hid ((HY.out.later HB1.out (Nat.le_refl _)).later (((Below.refl _ _).alloc (Nat.le_refl _) _).trans (hb3.mono (by simp))) (Nat.le_refl _))
          have HB3 := Lib.hid ((HB2.out.alloc HB2.out.size _).trans (hb3.mono (by have := HB2.out.size; simp; omega)))
          have HM2 := Lib.hid hv2.limbNat
          have HLT := Lib.hid (Nat.mod_lt x (Nat.pos_of_ne_zero HY0.out))
          clear hv1 hv2 hv2' hb3
          dsimp only
          go_wp2
          go_roundw
          case rel => exact ⟨y, x % y, HY3.out, HV2.out, Nat.le_of_lt HLT.out, by rw [gcd_mod]; exact HGG.out, HLY.out, HB3.out⟩
          case measure => rw [HM2.out, HM.out]; exact HLT.out
        · have hkp : (0 : Int) < (k : Int) := by omega
          have hle := HLE.out (by omega)
          have HLE2 := Lib.hid hle
          clear hle hk0
          go_wp2_with fail
          refine apply_any k ev fA fB sA sB _ _ x y _ ((HX.out.later HB1.out (Nat.le_refl _)).later ((Below.refl _ _).alloc (Nat.le_refl _) _) (Nat.le_refl _)) ((HY.out.later HB1.out (Nat.le_refl _)).later ((Below.refl _ _).alloc (Nat.le_refl _) _) (Nat.le_refl _)) HLX.out HLY.out HEV.out HK.out HBD.out.1 HBD.out.2.1 HBD.out.2.2.1 HBD.out.2.2.2 tf ts HT.out _ ?_
          intro v1 v2 w3 hv1 hv2 hb3
          obtain ⟨a1, n1, c1, rfl, hv1'⟩ := hv1.op
          obtain ⟨a2, n2, c2, rfl, hv2'⟩ := hv2.op
          have HV1 := Lib.hid hv1'
          have HV2 := Lib.hid hv2'
          have HB3 := Lib.hid ((HB2.out.alloc HB2.out.size _).trans (hb3.mono (by have := HB2.out.size; simp; omega)))
          have HM2 := Lib.hid hv2.limbNat
          have HLT := Lib.hid (show ts < y by have := HLE2.out; omega)
          clear hv1 hv2 hv1' hv2' hb3
          dsimp only
          go_wp2
          go_roundw
          case rel => exact ⟨tf, ts, HV1.out, HV2.out, by have := HLE2.out; omega, by rw [HGT.out]; exact HGG.out, Nat.le_trans (dig_length_mono' W64_two HLE2.out.2) HLY.out, HB3.out⟩
          case measure => rw [HM2.out, HM.out]; exact HLT.out
      · have hbi : ¬ (1 : Int) < (ny : Int) := by omega
        go_wp2_with fail
        refine nzero_any _ y _ HY.out _ ?_
        by_cases hy0 : y = 0
        · rw [decide_eq_true hy0]
          have hgx : x = G := by rw [← HGG.out, hy0, Nat.gcd_zero_right]
          have hfin := HR.out _ _ (hgx ▸ HX.out) HBEL.out
          have HF := Lib.hid hfin
          clear hfin hgx hy0
          dsimp only
          go_wp2
          first | go_ret | skip
          exact HF.out
        · rw [decide_eq_false hy0]
          have h3 : (dig W64 y).length ≠ 0 := fun e => hy0 ((dig_eq_nil W64_two).1 (List.length_eq_zero_iff.1 e))
          have hn1 : ny = 1 := by have := HNY.out; omega
          subst hn1
          obtain ⟨d, hd⟩ := List.length_eq_one_iff.1 HNY.out.symm
          have hyd := dig_one W64_two y d hd
          subst hyd
          obtain ⟨bk, o, rfl, hbk, hc⟩ := Sl.at HY.out 0 (by omega)
          rw [hd, Nat.add_zero] at hc
          have hc2 : wr.cell? ⟨bk, o, none⟩ = some (.int .u64 (y : Int)) := hc
          have hyw : y < W64 := limb_lt y y (by rw [hd]; simp)
          have HY0 := Lib.hid hy0
          have HYW := Lib.hid hyw
          have HXW := Lib.hid (Nat.lt_trans (Nat.mod_lt x (Nat.pos_of_ne_zero hy0)) hyw)
          obtain ⟨r, hr⟩ : ∃ r, r = x % y := ⟨_, rfl⟩
          have HRR := Lib.hid hr
          obtain ⟨gg, hgg⟩ : ∃ gg, gg = Nat.gcd y r := ⟨_, rfl⟩
          have hgG : gg = G := by rw [hgg, hr, gcd_mod]; exact HGG.out
          have hgw : gg < W64 := by rw [hgg]; exact Nat.lt_of_le_of_lt (Nat.gcd_le_left _ (Nat.pos_of_ne_zero hy0)) hyw
          have HGE := Lib.hid hgg
          have HGG2 := Lib.hid hgG
          have HGW := Lib.hid hgw
          have hvg : val W64 [gg] = gg := by simp [val]
          have HVG := Lib.hid hvg
          clear hc hd h3 hy0 hyw hr hgg hgG hgw hvg
          dsimp only
          go_upto_region 11 with fail
          go_cut [4] (fun v wx => IsN wx v G ∧ Below w.heap.size w wx)
          case first =>
            go_region_law (first
              | (have hguard := hb2; go_simp; go_at_call 186; refine trimmed_any _ [gg] _ (Own.lit1 .u64 61 w2 0 gg _ rfl (Nat.zero_le _)).sl (by intro d hd; simp at hd; rw [hd]; exact HGW.out) (by simp) _ ?_; intro v3 hv3' _; have hv3 := hv3'.cast (HVG.out.trans HGG2.out); clear hguard; dsimp only)
              | (have hguard := hb1; go_simp; go_at_call 206; refine gcds_any y r _ HYW.out (by rw [HRR.out]; exact HXW.out) _ ?_; rw [← HGE.out]; intro w2 hb2 hzz; clear hzz; have HBZ := Lib.hid (HBEL.out.trans ((hb1.trans (hb2.mono hb1.size)).mono HBEL.out.size)); clear hguard; dsimp only)
              | (go_simp; go_at_call 118; refine rems_any _ x y _ HX.out.drew (Nat.pos_of_ne_zero HY0.out) HYW.out (by have := HLX.out; omega) _ ?_; rw [← HRR.out]; intro w1 hb1' hzz; clear hzz; have hb1 : Below wr.heap.size wr w1 := below_unDrew hb1'; have hc3 := hc2; rw [← hb1.cell (p := ⟨bk, o, none⟩) hbk] at hc3; dsimp only))
            all_goals (go_wp2_with fail; go_meet; exact ⟨hv3, HBZ.out.alloc HBZ.out.size _⟩)
          case rest =>
            obtain ⟨hv, hbz⟩ := hcut
            have HV := Lib.hid hv
            have HBZ := Lib.hid hbz
            clear hv hbz hc2
            go_wp2
            first | go_ret | skip
            exact HR.out _ _ HV.out HBZ.out
  · have hcm : ¬ cm < 0 := by rw [HCM.out]; unfold cmpN; rw [if_neg hlt]; split <;> omega
    have hst : GRel w G (.slice aa na ca) (.slice ab nb cb) w0 := ⟨a, b, HA.out.later HB0.out (Nat.le_refl _), HB.out.later HB0.out (Nat.le_refl _), by omega, HG.out.symm, HLA.out, HB0.out⟩
    have HST := Lib.hid hst
    clear hst hlt
    go_wp2
    go_loopw [0, 1] (fun v0 v1 wr => GRel w G v0 v1 wr) (fun _ v1 wr => limbNat wr v1)
    case atStart => exact HST.out
    case round =>
      clear HST
      obtain ⟨x, y, hx, hy, hyx, hg, hlx, hbel⟩ := hrel
      obtain ⟨ax, nx, cx, rfl, hx'⟩ := hx.op
      obtain ⟨ay, ny, cy, rfl, hny, hy'⟩ := hy.open
      have HX := Lib.hid hx'
      have HY := Lib.hid hy'
      have HYX := Lib.hid hyx
      have HGG := Lib.hid hg
      have HLX := Lib.hid hlx
      have HBEL := Lib.hid hbel
      have HNY := Lib.hid hny
      have HLY := Lib.hid (Nat.le_trans (dig_length_mono' W64_two hyx) hlx)
      have HM := Lib.hid hy.limbNat
      clear hx hy hx' hy' hyx hg hlx hbel hny
      by_cases hbig : 1 < ny
      · have hbi : (1 : Int) < (ny : Int) := by omega
        go_wp2_with fail
        refine decided_any _ _ x y _ HX.out HY.out HLX.out (by rw [← HNY.out]; exact hbig) HYX.out _ ?_
        intro k ev fA fB sA sB w1 hdec hev hk hfA hfB hsA hsB hb1
        obtain ⟨tf, ts, ht, hgt, hle⟩ := hdec
        have HT := Lib.hid ht
        have HGT := Lib.hid hgt
        have HLE := Lib.hid hle
        have HEV := Lib.hid hev
        have HK := Lib.hid hk
        have HBD := Lib.hid (And.intro hfA (And.intro hfB (And.intro hsA hsB)))
        have HB1 := Lib.hid hb1
        have HB2 := Lib.hid (HBEL.out.trans (hb1.mono HBEL.out.size))
        clear ht hgt hle hev hk hfA hfB hsA hsB hb1
        unfold stepsV
        dsimp only
        by_cases hk0 : k = 0
        · subst hk0
          have hy0 : y ≠ 0 := by intro h; have := HNY.out; rw [h, dig_zero] at this; simp at this; omega
          have HY0 := Lib.hid hy0
          clear hy0
          go_wp2_with fail
          refine divide_any _ _ x y _ ((HX.out.later HB1.out (Nat.le_refl _)).later ((Below.refl _ _).alloc (Nat.le_refl _) _) (Nat.le_refl _)) ((HY.out.later HB1.out (Nat.le_refl _)).later ((Below.refl _ _).alloc (Nat.le_refl _) _) (Nat.le_refl _)) HLX.out HLY.out HY0.out _ ?_
          intro v1 v2 w3 hv1 hv2 hb3
          obtain ⟨a1, n1, c1, rfl, _⟩ := hv1.op
          obtain ⟨a2, n2, c2, rfl, hv2'⟩ := hv2.op
          have HV2 := Lib.hid hv2'
          have HY3 := Lib.hid ((HY.out.later HB1.out (Nat.le_refl _)).later (((Below.refl _ _).alloc (Nat.le_refl _) _).trans (hb3.mono (by simp))) (Nat.le_refl _))
          have HB3 := Lib.hid ((HB2.out.alloc HB2.out.size _).trans (hb3.mono (by have := HB2.out.size; simp; omega)))
          have HM2 := Lib.hid hv2.limbNat
          have HLT := Lib.hid (Nat.mod_lt x (Nat.pos_of_ne_zero HY0.out))
          clear hv1 hv2 hv2' hb3
          dsimp only
          go_wp2
          go_roundw
          case rel => exact ⟨y, x % y, HY3.out, HV2.out, Nat.le_of_lt HLT.out, by rw [gcd_mod]; exact HGG.out, HLY.out, HB3.out⟩
          case measure => rw [HM2.out, HM.out]; exact HLT.out
        · have hkp : (0 : Int) < (k : Int) := by omega
          have hle := HLE.out (by omega)
          have HLE2 := Lib.hid hle
          clear hle hk0
          go_wp2_with fail
          refine apply_any k ev fA fB sA sB _ _ x y _ ((HX.out.later HB1.out (Nat.le_refl _)).later ((Below.refl _ _).alloc (Nat.le_refl _) _) (Nat.le_refl _)) ((HY.out.later HB1.out (Nat.le_refl _)).later ((Below.refl _ _).alloc (Nat.le_refl _) _) (Nat.le_refl _)) HLX.out HLY.out HEV.out HK.out HBD.out.1 HBD.out.2.1 HBD.out.2.2.1 HBD.out.2.2.2 tf ts HT.out _ ?_
          intro v1 v2 w3 hv1 hv2 hb3
          obtain ⟨a1, n1, c1, rfl, hv1'⟩ := hv1.op
          obtain ⟨a2, n2, c2, rfl, hv2'⟩ := hv2.op
          have HV1 := Lib.hid hv1'
          have HV2 := Lib.hid hv2'
          have HB3 := Lib.hid ((HB2.out.alloc HB2.out.size _).trans (hb3.mono (by have := HB2.out.size; simp; omega)))
          have HM2 := Lib.hid hv2.limbNat
          have HLT := Lib.hid (show ts < y by have := HLE2.out; omega)
          clear hv1 hv2 hv1' hv2' hb3
          dsimp only
          go_wp2
          go_roundw
          case rel => exact ⟨tf, ts, HV1.out, HV2.out, by have := HLE2.out; omega, by rw [HGT.out]; exact HGG.out, Nat.le_trans (dig_length_mono' W64_two HLE2.out.2) HLY.out, HB3.out⟩
          case measure => rw [HM2.out, HM.out]; exact HLT.out
      · have hbi : ¬ (1 : Int) < (ny : Int) := by omega
        go_wp2_with fail
        refine nzero_any _ y _ HY.out _ ?_
        by_cases hy0 : y = 0
        · rw [decide_eq_true hy0]
          have hgx : x = G := by rw [← HGG.out, hy0, Nat.gcd_zero_right]
          have hfin := HR.out _ _ (hgx ▸ HX.out) HBEL.out
          have HF := Lib.hid hfin
          clear hfin hgx hy0
          dsimp only
          go_wp2
          first | go_ret | skip
          exact HF.out
        · rw [decide_eq_false hy0]
          have h3 : (dig W64 y).length ≠ 0 := fun e => hy0 ((dig_eq_nil W64_two).1 (List.length_eq_zero_iff.1 e))
          have hn1 : ny = 1 := by have := HNY.out; omega
          subst hn1
          obtain ⟨d, hd⟩ := List.length_eq_one_iff.1 HNY.out.symm
          have hyd := dig_one W64_two y d hd
          subst hyd
          obtain ⟨bk, o, rfl, hbk, hc⟩ := Sl.at HY.out 0 (by omega)
          rw [hd, Nat.add_zero] at hc
          have hc2 : wr.cell? ⟨bk, o, none⟩ = some (.int .u64 (y : Int)) := hc
          have hyw : y < W64 := limb_lt y y (by rw [hd]; simp)
          have HY0 := Lib.hid hy0
          have HYW := Lib.hid hyw
          have HXW := Lib.hid (Nat.lt_trans (Nat.mod_lt x (Nat.pos_of_ne_zero hy0)) hyw)
          obtain ⟨r, hr⟩ : ∃ r, r = x % y := ⟨_, rfl⟩
          have HRR := Lib.hid hr
          obtain ⟨gg, hgg⟩ : ∃ gg, gg = Nat.gcd y r := ⟨_, rfl⟩
          have hgG : gg = G := by rw [hgg, hr, gcd_mod]; exact HGG.out
          have hgw : gg < W64 := by rw [hgg]; exact Nat.lt_of_le_of_lt (Nat.gcd_le_left _ (Nat.pos_of_ne_zero hy0)) hyw
          have HGE := Lib.hid hgg
          have HGG2 := Lib.hid hgG
          have HGW := Lib.hid hgw
          have hvg : val W64 [gg] = gg := by simp [val]
          have HVG := Lib.hid hvg
          clear hc hd h3 hy0 hyw hr hgg hgG hgw hvg
          dsimp only
          go_upto_region 11 with fail
          go_cut [4] (fun v wx => IsN wx v G ∧ Below w.heap.size w wx)
          case first =>
            go_region_law (first
              | (have hguard := hb2; go_simp; go_at_call 186; refine trimmed_any _ [gg] _ (Own.lit1 .u64 61 w2 0 gg _ rfl (Nat.zero_le _)).sl (by intro d hd; simp at hd; rw [hd]; exact HGW.out) (by simp) _ ?_; intro v3 hv3' _; have hv3 := hv3'.cast (HVG.out.trans HGG2.out); clear hguard; dsimp only)
              | (have hguard := hb1; go_simp; go_at_call 206; refine gcds_any y r _ HYW.out (by rw [HRR.out]; exact HXW.out) _ ?_; rw [← HGE.out]; intro w2 hb2 hzz; clear hzz; have HBZ := Lib.hid (HBEL.out.trans ((hb1.trans (hb2.mono hb1.size)).mono HBEL.out.size)); clear hguard; dsimp only)
              | (go_simp; go_at_call 118; refine rems_any _ x y _ HX.out.drew (Nat.pos_of_ne_zero HY0.out) HYW.out (by have := HLX.out; omega) _ ?_; rw [← HRR.out]; intro w1 hb1' hzz; clear hzz; have hb1 : Below wr.heap.size wr w1 := below_unDrew hb1'; have hc3 := hc2; rw [← hb1.cell (p := ⟨bk, o, none⟩) hbk] at hc3; dsimp only))
            all_goals (go_wp2_with fail; go_meet; exact ⟨hv3, HBZ.out.alloc HBZ.out.size _⟩)
          case rest =>
            obtain ⟨hv, hbz⟩ := hcut
            have HV := Lib.hid hv
            have HBZ := Lib.hid hbz
            clear hv hbz hc2
            go_wp2
            first | go_ret | skip
            exact HR.out _ _ HV.out HBZ.out
end Go.Proofs.YtnfehccicnpbpaaGreatDoor

namespace Go.Proofs.YtnfehccicnpbpaaGreatDoor

def chr (d : Nat) : UInt8 := UInt8.ofNat (48 + d)
/-- a number in decimal -/
def decs (n : Nat) : List UInt8 := if n = 0 then [48] else (dig 10 n).reverse.map chr
/-- four digits of a digit to the base 10000 -/
def four (x : Nat) : List UInt8 := [chr (x / 1000), chr (x / 100 % 10), chr (x / 10 % 10), chr (x % 10)]
/-- the texts of digits to the base 10000, the last one first -/
def cat4 (ds : List Nat) : List UInt8 := ds.reverse.flatMap four
def e4 (x : Nat) : List Nat := [x % 10, x / 10 % 10, x / 100 % 10, x / 1000]
/-- a text without zeros at its beginning -/
def strip0 : List UInt8 → List UInt8
  | [] => []
  | c :: l => if c = 48 then strip0 l else c :: l

theorem cat4_nil : cat4 [] = [] := rfl
theorem cat4_snoc (ds : List Nat) (x : Nat) : cat4 (ds ++ [x]) = four x ++ cat4 ds := by simp [cat4]
theorem cat4_cons (ds : List Nat) (x : Nat) : cat4 (x :: ds) = cat4 ds ++ four x := by simp [cat4]
theorem cat4_length (ds : List Nat) : (cat4 ds).length = 4 * ds.length := by
  induction ds with
  | nil => rfl
  | cons x ds ih => rw [cat4_cons, List.length_append, ih]; simp [four]; omega

theorem chr_zero {d : Nat} (h : d < 10) : chr d = 48 ↔ d = 0 := by
  constructor
  · intro e
    have := congrArg UInt8.toNat e
    simp [chr] at this
    omega
  · intro e; subst e; rfl

theorem val_e4 (ds : List Nat) : val 10 (ds.flatMap e4) = val 10000 ds := by
  induction ds with
  | nil => rfl
  | cons x ds ih =>
    rw [List.flatMap_cons, val_append, ih]
    simp only [e4, val, List.length_cons, List.length_nil]
    omega

theorem e4_lt (ds : List Nat) (h : ∀ d ∈ ds, d < 10000) : ∀ d ∈ ds.flatMap e4, d < 10 := by
  intro d hd
  obtain ⟨x, hx, hd⟩ := List.mem_flatMap.1 hd
  have := h x hx
  simp [e4] at hd
  omega

theorem cat4_e4 (ds : List Nat) : cat4 ds = (ds.flatMap e4).reverse.map chr := by
  induction ds with
  | nil => rfl
  | cons x ds ih => rw [cat4_cons, ih, List.flatMap_cons]; simp [four, e4]

theorem strip0_cut (xs : List Nat) (h : ∀ d ∈ xs, d < 10) (n : Nat) (hn : n ≤ xs.length) : strip0 ((xs.take n).reverse.map chr) = (xs.take (cutLen xs n)).reverse.map chr := by
  induction n with
  | zero => simp [cutLen, strip0]
  | succ n ih =>
    have hlt : n < xs.length := by omega
    rw [List.take_succ_eq_append_getElem hlt]
    simp only [List.reverse_append, List.reverse_cons, List.reverse_nil, List.nil_append, List.singleton_append, List.map_cons, strip0, cutLen]
    have hd : xs.getD n 0 = xs[n] := by simp [List.getD, List.getElem?_eq_getElem hlt]
    have hc := chr_zero (h xs[n] (List.getElem_mem hlt))
    rw [hd]
    by_cases h0 : xs[n] = 0
    · rw [if_pos (hc.2 h0), if_pos h0, ih (by omega)]
    · rw [if_neg (fun e => h0 (hc.1 e)), if_neg h0, List.take_succ_eq_append_getElem hlt, List.reverse_append]
      rfl

theorem strip0_cat4 (ds : List Nat) (h : ∀ d ∈ ds, d < 10000) : strip0 (cat4 ds) = (dig 10 (val 10000 ds)).reverse.map chr := by
  have h1 := strip0_cut (ds.flatMap e4) (e4_lt ds h) _ (Nat.le_refl _)
  rw [List.take_length, take_cut (by omega : 2 ≤ 10) _ (e4_lt ds h), val_e4] at h1
  rw [cat4_e4, h1]

/-- what the model makes of the digits of a number -/
theorem decs_of (ds : List Nat) (h : ∀ d ∈ ds, d < 10000) : decs (val 10000 ds) = if strip0 (cat4 ds) = [] then [48] else strip0 (cat4 ds) := by
  rw [strip0_cat4 ds h, decs]
  by_cases h0 : val 10000 ds = 0
  · rw [if_pos h0, h0, dig_zero]; rfl
  · rw [if_neg h0, if_neg]
    intro e
    have := congrArg List.length e
    simp at this
    exact h0 ((dig_eq_nil (by omega)).1 this)

theorem strip0_length (l : List UInt8) : (strip0 l).length ≤ l.length := by
  induction l with
  | nil => simp [strip0]
  | cons c l ih => simp only [strip0]; split <;> simp <;> omega

theorem dig10_length (n : Nat) : (dig 10 n).length ≤ 4 * (dig 10000 n).length := by
  refine dig_length_le (by omega) _ n ?_
  have := lt_pow_dig (by omega : 2 ≤ 10000) n
  rwa [show (10000 : Nat) = 10 ^ 4 from rfl, ← Nat.pow_mul] at this

theorem decs_length (n : Nat) : (decs n).length ≤ 4 * (dig 10000 n).length + 1 := by
  unfold decs
  split
  · simp
  · have := dig10_length n; simp; omega

/-- the text of a fraction -/
def textQ (q : Rat) : List UInt8 := (if q.num < 0 then [45] else []) ++ (decs q.num.natAbs ++ (if q.den = 1 then [] else 47 :: decs q.den))

end Go.Proofs.YtnfehccicnpbpaaGreatDoor

namespace Go.Proofs.YtnfehccicnpbpaaGreatDoor

/-- the number that digits make -/
def rdec (s : List UInt8) : Nat := s.foldl (fun r c => 10 * r + (c.toNat - 48)) 0

def isDig (c : UInt8) : Bool := decide (48 ≤ c.toNat) && decide (c.toNat ≤ 57)

/-- whether a text has few digits, at least one, and does not begin with 0 unless it is 0 -/
def digB (s : List UInt8) : Bool := s.all isDig && (decide (1 ≤ s.length) && (decide (s.length ≤ 60) && (decide (s.head? ≠ some 48) || decide (s.length = 1))))

theorem rdec_snoc (s : List UInt8) (c : UInt8) : rdec (s ++ [c]) = 10 * rdec s + (c.toNat - 48) := by simp [rdec]
theorem rdec_nil : rdec [] = 0 := rfl

theorem chr_toNat {d : Nat} (h : d < 10) : (chr d).toNat = 48 + d := by
  simp [chr]; omega

theorem chr_of {c : UInt8} (h : isDig c = true) : chr (c.toNat - 48) = c := by
  simp [isDig] at h
  apply UInt8.toNat_inj.1
  rw [chr_toNat (by omega)]; omega

/-- digits from the least one on -/
def lows (s : List UInt8) : List Nat := s.reverse.map fun c => c.toNat - 48

theorem lows_snoc (s : List UInt8) (c : UInt8) : lows (s ++ [c]) = (c.toNat - 48) :: lows s := by simp [lows]

theorem val_lows (s : List UInt8) : val 10 (lows s) = rdec s := by
  suffices h : ∀ r : List UInt8, ∀ s, s = r.reverse → val 10 (lows s) = rdec s from h s.reverse s (by simp)
  intro r
  induction r with
  | nil => intro s hs; subst hs; rfl
  | cons c r ih =>
    intro s hs
    subst hs
    rw [List.reverse_cons, lows_snoc, rdec_snoc, val, ih _ rfl]
    omega

theorem lows_lt (s : List UInt8) (h : s.all isDig = true) : ∀ d ∈ lows s, d < 10 := by
  intro d hd
  obtain ⟨c, hc, rfl⟩ := List.mem_map.1 hd
  have := List.all_eq_true.1 h c (List.mem_reverse.1 hc)
  simp [isDig] at this
  omega

theorem lows_chr (s : List UInt8) (h : s.all isDig = true) : (lows s).reverse.map chr = s := by
  unfold lows
  rw [← List.map_reverse, List.reverse_reverse, List.map_map]
  conv => rhs; rw [← List.map_id s]
  apply List.map_congr_left
  intro c hc
  exact chr_of (List.all_eq_true.1 h c hc)

theorem digB_iff {s : List UInt8} : digB s = true ↔ s.all isDig = true ∧ 1 ≤ s.length ∧ s.length ≤ 60 ∧ (s.head? ≠ some 48 ∨ s.length = 1) := by
  unfold digB
  rw [Bool.and_eq_true, Bool.and_eq_true, Bool.and_eq_true, Bool.or_eq_true, decide_eq_true_iff, decide_eq_true_iff, decide_eq_true_iff, decide_eq_true_iff]

/-- a text of digits is the text of its number -/
theorem decs_rdec {s : List UInt8} (h : digB s = true) : decs (rdec s) = s := by
  obtain ⟨h1, h2, h3, h4⟩ := digB_iff.1 h
  have hv := val_lows s
  have hlt := lows_lt s h1
  have hch := lows_chr s h1
  by_cases hz : s = [48]
  · subst hz; rfl
  · have hl : (lows s).getLast? ≠ some 0 := by
      intro e
      cases s with
      | nil => simp at h2
      | cons c s =>
        simp [lows] at e
        have hc := List.all_eq_true.1 h1 c (by simp)
        simp [isDig] at hc
        have : c = 48 := UInt8.toNat_inj.1 (by show c.toNat = 48; omega)
        subst this
        rcases h4 with h4 | h4
        · simp at h4
        · simp at h4; subst h4; exact hz rfl
    have hd := dig_val (by omega : 2 ≤ 10) _ hlt hl
    rw [hv] at hd
    have hne : rdec s ≠ 0 := by
      intro e
      rw [e, dig_zero] at hd
      have := congrArg List.length hd
      simp [lows] at this
      omega
    rw [decs, if_neg hne, hd, hch]

theorem dig10_lt (n : Nat) : ∀ d ∈ dig 10 n, d < 10 := dig_lt (by omega) n

theorem decs_all (n : Nat) : (decs n).all isDig = true := by
  unfold decs
  split
  · rfl
  · apply List.all_eq_true.2
    intro c hc
    obtain ⟨d, hd, rfl⟩ := List.mem_map.1 hc
    have := dig10_lt n d (List.mem_reverse.1 hd)
    simp [isDig, chr_toNat this]
    omega

theorem decs_pos (n : Nat) : 1 ≤ (decs n).length := by
  unfold decs
  split
  · simp
  · rename_i h
    rw [dig_pos (by omega) h]; simp

theorem getLast_dig (n : Nat) : (dig 10 n).getLast? ≠ some 0 := by
  have := getLast_cut (dig 10 n) _ (Nat.le_refl _)
  rw [take_cut (by omega : 2 ≤ 10) _ (dig10_lt n), val_dig (by omega)] at this
  exact this

theorem decs_head (n : Nat) : (decs n).head? ≠ some 48 ∨ (decs n).length = 1 := by
  unfold decs
  split
  · right; rfl
  · rename_i h
    left
    intro e
    rw [List.head?_map, List.head?_reverse] at e
    cases hg : (dig 10 n).getLast? with
    | none => rw [hg] at e; simp at e
    | some d =>
      rw [hg] at e
      simp at e
      have hd := dig10_lt n d (List.mem_of_getLast? hg)
      rw [chr_zero hd] at e
      exact getLast_dig n (by rw [hg, e])

theorem rdec_decs (n : Nat) : rdec (decs n) = n := by
  rw [← val_lows]
  unfold decs
  split
  · rename_i h; rw [h]; rfl
  · have : lows ((dig 10 n).reverse.map chr) = dig 10 n := by
      unfold lows
      rw [← List.map_reverse, List.reverse_reverse, List.map_map]
      conv => rhs; rw [← List.map_id (dig 10 n)]
      apply List.map_congr_left
      intro d hd
      have := chr_toNat (dig10_lt n d hd)
      simp [this]
    rw [this, val_dig (by omega)]

theorem digB_decs {n : Nat} (h : (decs n).length ≤ 60) : digB (decs n) = true := digB_iff.2 ⟨decs_all n, decs_pos n, h, decs_head n⟩

/-- the parts of a text: whether it begins with '-', what stands before the first '/', and the rest -/
def Parts (s : List UInt8) (neg : Bool) (D r : List UInt8) : Prop :=
  s = (if neg then [45] else []) ++ (D ++ r) ∧ (neg = false → s.head? ≠ some 45) ∧ (∀ c ∈ D, c ≠ 47) ∧ (r = [] ∨ ∃ E, r = 47 :: E)

/-- few digits above and below -/
def few (q : Rat) : Prop := (decs q.num.natAbs).length ≤ 60 ∧ (decs q.den).length ≤ 60

def sgn (neg : Bool) (n : Nat) : Int := if neg then -(n : Int) else n

/-- the number with some parts, if that is one -/
def NumIs (neg : Bool) (D r : List UInt8) (q : Rat) : Prop :=
  digB D = true ∧ ((r = [] ∧ ¬ (neg = true ∧ rdec D = 0) ∧ q = ((sgn neg (rdec D) : Int) : Rat)) ∨
    ∃ E, r = 47 :: E ∧ digB E = true ∧ 2 ≤ rdec E ∧ Nat.gcd (rdec D) (rdec E) = 1 ∧ q.num = sgn neg (rdec D) ∧ q.den = rdec E)

theorem isDig_ne {c : UInt8} (h : isDig c = true) : c ≠ 47 ∧ c ≠ 45 := by
  refine ⟨?_, ?_⟩ <;> rintro rfl <;> simp [isDig] at h

/-- the text of a number with few digits has its parts -/
theorem parts_text (q : Rat) (h : few q) : ∃ neg D r, Parts (textQ q) neg D r ∧ NumIs neg D r q := by
  refine ⟨decide (q.num < 0), decs q.num.natAbs, if q.den = 1 then [] else 47 :: decs q.den, ⟨?_, ?_, ?_, ?_⟩, digB_decs h.1, ?_⟩
  · unfold textQ
    by_cases h : q.num < 0 <;> simp [h]
  · intro hn hh
    have hn' : ¬ q.num < 0 := by simpa using hn
    unfold textQ at hh
    rw [if_neg hn', List.nil_append] at hh
    have h1 := decs_pos q.num.natAbs
    cases hd : decs q.num.natAbs with
    | nil => rw [hd] at h1; simp at h1
    | cons c l =>
      rw [hd] at hh
      have := decs_all q.num.natAbs
      rw [hd] at this
      have := isDig_ne (List.all_eq_true.1 this c (by simp))
      simp at hh
      exact this.2 hh
  · intro c hc
    exact (isDig_ne (List.all_eq_true.1 (decs_all _) c hc)).1
  · split
    · exact .inl rfl
    · exact .inr ⟨_, rfl⟩
  · have hs : sgn (decide (q.num < 0)) (rdec (decs q.num.natAbs)) = q.num := by
      rw [rdec_decs, sgn]
      by_cases h : q.num < 0
      · simp [h]; omega
      · simp [h]; omega
    by_cases hd : q.den = 1
    · left
      rw [if_pos hd]
      refine ⟨rfl, ?_, ?_⟩
      · rw [rdec_decs]
        rintro ⟨h1, h2⟩
        have := of_decide_eq_true h1
        omega
      · rw [hs]
        apply Rat.ext <;> simp [hd]
    · right
      rw [if_neg hd]
      refine ⟨_, rfl, digB_decs h.2, ?_, ?_, hs.symm, (rdec_decs _).symm⟩
      · rw [rdec_decs]; have := q.den_pos; omega
      · rw [rdec_decs, rdec_decs]; exact q.reduced

/-- a text whose parts are those of a number is its text -/
theorem text_parts {s : List UInt8} {neg : Bool} {D r : List UInt8} {q : Rat} (hp : Parts s neg D r) (h : NumIs neg D r q) : s = textQ q ∧ few q := by
  obtain ⟨h1, h2, h3, h4⟩ := hp
  obtain ⟨hD, h⟩ := h
  have hl := (digB_iff.1 hD).2.2.1
  have hdD := decs_rdec hD
  rcases h with ⟨rfl, hz, rfl⟩ | ⟨E, rfl, hE, hge, hg, hn, hd⟩
  · have hn : ((sgn neg (rdec D) : Int) : Rat).num = sgn neg (rdec D) := rfl
    have hdn : ((sgn neg (rdec D) : Int) : Rat).den = 1 := rfl
    have ha : (sgn neg (rdec D)).natAbs = rdec D := by cases neg <;> simp [sgn]
    have hlt : (sgn neg (rdec D) < 0) ↔ neg = true := by cases neg <;> simp [sgn] at hz ⊢ <;> omega
    refine ⟨?_, ?_, ?_⟩
    · rw [h1, textQ, hn, hdn, ha, hdD]
      cases neg <;> simp [hlt]
    · rw [hn, ha, hdD]; exact hl
    · rw [hdn, decs, if_neg (by omega), dig_small (by omega) (by omega)]; simp
  · have hlE := (digB_iff.1 hE).2.2.1
    have hdE := decs_rdec hE
    have ha : (sgn neg (rdec D)).natAbs = rdec D := by cases neg <;> simp [sgn]
    have hnz : rdec D ≠ 0 := by intro e; rw [e, Nat.gcd_zero_left] at hg; omega
    have hlt : (sgn neg (rdec D) < 0) ↔ neg = true := by cases neg <;> simp [sgn] <;> omega
    refine ⟨?_, ?_, ?_⟩
    · have hne : ¬ rdec E = 1 := by omega
      rw [h1, textQ, hn, hd, ha, hdD, hdE, if_neg hne]
      cases neg <;> simp [hlt]
    · rw [hn, ha, hdD]; exact hl
    · rw [hd, hdE]; exact hlE

theorem cut_unique (D1 r1 D2 r2 : List UInt8) (h : D1 ++ r1 = D2 ++ r2) (h1 : ∀ c ∈ D1, c ≠ 47) (h2 : ∀ c ∈ D2, c ≠ 47) (e1 : r1 = [] ∨ ∃ E, r1 = 47 :: E) (e2 : r2 = [] ∨ ∃ E, r2 = 47 :: E) : D1 = D2 ∧ r1 = r2 := by
  induction D1 generalizing D2 with
  | nil =>
    cases D2 with
    | nil => exact ⟨rfl, by simpa using h⟩
    | cons c D2 =>
      rcases e1 with rfl | ⟨E, rfl⟩
      · simp at h
      · simp at h; exact absurd h.1.symm (h2 c (by simp))
  | cons c D1 ih =>
    cases D2 with
    | nil =>
      rcases e2 with rfl | ⟨E, rfl⟩
      · simp at h
      · simp at h; exact absurd h.1 (h1 c (by simp))
    | cons c' D2 =>
      simp at h
      obtain ⟨rfl, h⟩ := h
      obtain ⟨h5, h6⟩ := ih D2 h (fun c hc => h1 c (by simp [hc])) (fun c hc => h2 c (by simp [hc]))
      exact ⟨by rw [h5], h6⟩

theorem parts_unique {s : List UInt8} {n1 n2 : Bool} {D1 D2 r1 r2 : List UInt8} (h1 : Parts s n1 D1 r1) (h2 : Parts s n2 D2 r2) : n1 = n2 ∧ D1 = D2 ∧ r1 = r2 := by
  obtain ⟨a1, b1, c1, d1⟩ := h1
  obtain ⟨a2, b2, c2, d2⟩ := h2
  have hn : n1 = n2 := by
    cases n1 <;> cases n2
    · rfl
    · exact absurd (by rw [a2]; rfl) (b1 rfl)
    · exact absurd (by rw [a1]; rfl) (b2 rfl)
    · rfl
  subst hn
  rw [a1] at a2
  exact ⟨rfl, cut_unique _ _ _ _ (List.append_cancel_left a2) c1 c2 d1 d2⟩

/-- whether some parts are those of a number can be asked of the text -/
theorem num_iff {s : List UInt8} {neg : Bool} {D r : List UInt8} (hp : Parts s neg D r) (q : Rat) : NumIs neg D r q ↔ (s = textQ q ∧ few q) := by
  constructor
  · exact text_parts hp
  · rintro ⟨rfl, h⟩
    obtain ⟨n2, D2, r2, hp2, hn⟩ := parts_text q h
    obtain ⟨rfl, rfl, rfl⟩ := parts_unique hp hp2
    exact hn

theorem rdec_append (s t : List UInt8) : rdec (s ++ t) = rdec s * 10 ^ t.length + rdec t := by
  suffices h : ∀ r : List UInt8, ∀ t, t = r.reverse → rdec (s ++ t) = rdec s * 10 ^ t.length + rdec t from h t.reverse t (by simp)
  intro r
  induction r with
  | nil => intro t ht; subst ht; simp [rdec]
  | cons c r ih =>
    intro t ht
    subst ht
    rw [List.reverse_cons, ← List.append_assoc, rdec_snoc, rdec_snoc, ih _ rfl, List.length_append, List.length_singleton, Nat.pow_succ]
    grind

theorem rdec_lt (s : List UInt8) (h : s.all isDig = true) : rdec s < 10 ^ s.length := by
  suffices hh : ∀ r : List UInt8, ∀ s, s = r.reverse → s.all isDig = true → rdec s < 10 ^ s.length from hh s.reverse s (by simp) h
  intro r
  induction r with
  | nil => intro s hs _; subst hs; simp [rdec]
  | cons c r ih =>
    intro s hs ha
    subst hs
    rw [List.reverse_cons] at ha ⊢
    rw [List.all_append, Bool.and_eq_true] at ha
    have h1 := ih _ rfl ha.1
    have h2 := ha.2
    simp [isDig] at h2
    rw [rdec_snoc, List.length_append, List.length_singleton, Nat.pow_succ]
    omega

/-- a group of four digits in front of those that are read -/
theorem read_step (L : List UInt8) (ds : List Nat) (e x : Nat) (h4 : e ≤ L.length) (hk : L.length - e = 4 * ds.length) (hv : val 10000 ds = rdec (L.drop e)) (hx : x = rdec ((L.take e).drop (e - 4))) :
    val 10000 (ds ++ [x]) = rdec (L.drop (e - 4)) := by
  have e1 : L.drop (e - 4) = (L.take e).drop (e - 4) ++ L.drop e := by
    conv => lhs; rw [← List.take_append_drop e L]
    rw [List.drop_append, List.length_take, Nat.min_eq_left h4, show e - 4 - e = 0 by omega, List.drop_zero]
  rw [e1, rdec_append, val_snoc, hv, hx, List.length_drop, hk, show (10000 : Nat) = 10 ^ 4 from rfl, ← Nat.pow_mul]
  rw [Nat.mul_comm, Nat.add_comm]

/-- a digit behind those of a group that are read -/
theorem read_digit (L : List UInt8) (m i : Nat) (hm : m ≤ i) (hi : i < L.length) : rdec ((L.take (i + 1)).drop m) = 10 * rdec ((L.take i).drop m) + (L[i].toNat - 48) := by
  rw [List.take_succ_eq_append_getElem hi, List.drop_append, List.length_take, Nat.min_eq_left (by omega), show m - i = 0 by omega, List.drop_zero, rdec_snoc]

theorem group_lt (L : List UInt8) (h : L.all isDig = true) (m i : Nat) (hm : i ≤ m + 4) : rdec ((L.take i).drop m) < 10000 := by
  have h1 := rdec_lt ((L.take i).drop m) (by
    apply List.all_eq_true.2
    intro c hc
    exact List.all_eq_true.1 h c (List.mem_of_mem_take (List.mem_of_mem_drop hc)))
  have h2 : 10 ^ ((L.take i).drop m).length ≤ 10 ^ 4 := Nat.pow_le_pow_right (by omega) (by rw [List.length_drop, List.length_take]; omega)
  omega
theorem group_le (L : List UInt8) (h : L.all isDig = true) (m i : Nat) (hm : i ≤ m + 3) : rdec ((L.take i).drop m) ≤ 999 := by
  have h1 := rdec_lt ((L.take i).drop m) (by
    apply List.all_eq_true.2
    intro c hc
    exact List.all_eq_true.1 h c (List.mem_of_mem_take (List.mem_of_mem_drop hc)))
  have h2 : 10 ^ ((L.take i).drop m).length ≤ 10 ^ 3 := Nat.pow_le_pow_right (by omega) (by rw [List.length_drop, List.length_take]; omega)
  omega
theorem group_nil (L : List UInt8) (m i : Nat) (hm : i ≤ m) : rdec ((L.take i).drop m) = 0 := by
  rw [List.drop_eq_nil_of_le (by rw [List.length_take]; omega)]; rfl
theorem dig_at (L : List UInt8) (h : L.all isDig = true) (i : Nat) (hi : i < L.length) : 48 ≤ L[i].toNat ∧ L[i].toNat ≤ 57 := by
  have := List.all_eq_true.1 h L[i] (List.getElem_mem hi)
  simpa [isDig] using this

end Go.Proofs.YtnfehccicnpbpaaGreatDoor

namespace Go.Proofs.YtnfehccicnpbpaaGreatDoor
open Go Go.RowKit

theorem byte_at (s : ByteArray) (j : Nat) (h : j < s.size) (h2 : j < s.data.toList.length) : s[j] = s.data.toList[j] := by
  rw [Array.getElem_toList]; rfl

theorem size_list (s : ByteArray) : s.data.toList.length = s.size := Array.length_toList

set_option maxRecDepth 100000 in
theorem zread_any (s : ByteArray) (w : World) (hd : s.data.toList.all isDig = true) (hs : s.size ≤ 1000000) (R : Ending → World → Prop)
    (hR : ∀ v w', IsZ w' v ((rdec s.data.toList : Nat) : Int) → Below w.heap.size w w' → R (.returned v) w') :
    Calls Tryz.prog 123 #[.string s] w R := by
  have HR := Lib.hid hR; clear hR
  have HD := Lib.hid hd; clear hd
  obtain ⟨n, hn⟩ : ∃ n, n = s.size := ⟨_, rfl⟩
  have HN := Lib.hid hn
  rw [← hn] at hs
  go_enter Tryz.func123, Tryz.ntmps123
  go_wp2
  rw [← HN.out]
  clear hn
  go_loopw [3, 4, 5, 6] (fun d e _ _ wr => ∃ (ds : List Nat) (z : Int), e = .int .i64 z ∧ z = (n : Int) - 4 * (ds.length : Int) ∧ -4 < z ∧ (∀ q ∈ ds, q < 10000) ∧
      val 10000 ds = rdec (s.data.toList.drop z.toNat) ∧ Own .i64 2 wr (w.heap.size + 1) d ds ∧ Below w.heap.size w wr ∧ Box2 wr w.heap.size (.bool false) (.slice none 0 0) 114) (fun _ e _ _ _ => (intOf e).toNat)
  case atStart =>
    refine ⟨[], (n : Int), rfl, by simp, by omega, by simp, ?_, by have := Own.lit .i64 2 (w.alloc (.cells #[.bool false, .slice none 0 0] 114)) (w.heap.size + 1) (by simp); simpa using this,
      ((Below.refl _ _).alloc (Nat.le_refl _) _).alloc (by simp) _, (Box2.made w _ _ _).alloc _⟩
    rw [List.drop_eq_nil_of_le (by rw [size_list, ← HN.out]; omega)]; rfl
  case round =>
    obtain ⟨ds, z, rfl, hz, hz4, hds, hv, hown, hbel, hbox⟩ := hrel
    have hsz := hbel.size
    obtain ⟨hA, hB, hA', hB'⟩ := hbox.cells
    have hdl : ds.length ≤ 1000000 := by omega
    have HZ := Lib.hid hz
    have HV := Lib.hid hv
    have HDS := Lib.hid hds
    clear hz hv hds
    by_cases h0 : 0 < z
    · obtain ⟨k, rfl⟩ : ∃ k : Nat, z = k := ⟨z.toNat, by omega⟩
      have hkn : k ≤ n := by have := HZ.out; omega
      go_wp2
      go_loop [5, 6] (fun x i => ∃ (j : Int) (X : Nat), i = .int .i64 j ∧ (k : Int) - 4 ≤ j ∧ j ≤ k ∧ x = .int .i64 X ∧ X = rdec ((s.data.toList.take j.toNat).drop (k - 4)) ∧ X < 10000) (fun _ i => ((k : Int) - intOf i).toNat)
      case atStart =>
        exact ⟨(k : Int) - 4, 0, rfl, by omega, by omega, rfl, (group_nil _ _ _ (by omega)).symm, by omega⟩
      case round =>
        obtain ⟨j, X, rfl, hj1, hj2, rfl, hX, hX4⟩ := hrel
        have HX := Lib.hid hX
        clear hX
        by_cases hjk : j < k
        · by_cases hj0 : 0 ≤ j
          · obtain ⟨i, rfl⟩ : ∃ i : Nat, j = i := ⟨j.toNat, by omega⟩
            have hin : i < s.size := by rw [← HN.out]; omega
            have hin2 : i < s.data.toList.length := by rw [size_list]; exact hin
            have hb := dig_at _ HD.out i hin2
            rw [← byte_at s i hin hin2] at hb
            obtain ⟨hb1, hb2⟩ := hb
            have hb3 : 48 ≤ (s[i].toNat : Int) := by omega
            have hb4 : (s[i].toNat : Int) ≤ 57 := by omega
            have hX3 : X ≤ 999 := by rw [HX.out]; exact group_le _ HD.out _ _ (by omega)
            have HS : Hid (rdec ((s.data.toList.take (i + 1)).drop (k - 4)) = 10 * X + (s[i].toNat - 48)) := Lib.hid (by
              rw [read_digit _ _ _ (by omega) hin2, ← byte_at s i hin hin2, HX.out]; rfl)
            have hin3 : i < n := by omega
            have HIN := HN.out ▸ hin3
            go_wp2
            go_round
            case rel => exact ⟨(i : Int) + 1, 10 * X + (s[i].toNat - 48), rfl, by omega, by omega, congrArg (Value.int .i64) (by omega), by rw [← HS.out]; rfl, by omega⟩
            case measure => simp [intOf]; omega
          · go_wp2
            go_round
            case rel => exact ⟨j + 1, X, rfl, by omega, by omega, rfl, by rw [HX.out, group_nil _ _ _ (by omega), group_nil _ _ _ (by omega)], hX4⟩
            case measure => simp [intOf]; omega
        · obtain rfl : j = k := by omega
          go_wp2_with (at_builtin; go_must (refine wpList_push rfl (.tmp 31) (.tmp 33) 32 rfl 2 .i64 8 Tryz.underlying32 info_i64 (by omega) (w.heap.size + 1) _ ds X rfl (hown.alloc _) wr.heap.size rfl (World.cell?_alloc_at _ _ _ _ rfl) (by omega) (by simp; omega) ?_))
          intro v' w1 hown1 hb1
          have hbox1 := (hbox.alloc (.cells #[.int .i64 X] 2)).later hb1 (by omega)
          have hb2 : Below w.heap.size w w1 := (hbel.alloc hsz _).trans (hb1.mono (by omega))
          clear hA hB hA' hB' hbox hown hb1
          go_wp2
          go_roundw
          case rel =>
            refine ⟨ds ++ [X], (k : Int) - 4, rfl, by have := HZ.out; simp; omega, by omega, ?_, ?_, hown1, hb2, hbox1⟩
            · intro q hq
              rcases List.mem_append.1 hq with hq | hq
              · exact HDS.out q hq
              · simp at hq; omega
            · have := read_step s.data.toList ds k X (by rw [size_list, ← HN.out]; exact hkn) (by rw [size_list, ← HN.out]; have := HZ.out; omega) HV.out (by rw [HX.out]; rfl)
              rw [this, show ((k : Int) - 4).toNat = k - 4 by omega]
          case measure => simp [intOf]; omega
    · have hall : val 10000 ds = rdec s.data.toList := by rw [HV.out, show z.toNat = 0 by omega, List.drop_zero]
      go_wp2_with fail
      refine cut_z false _ ds wr hown.sl HDS.out (by omega) ((rdec s.data.toList : Nat) : Int) (by rw [hall]; rfl) _ ?_
      intro v' w1 hz hb1
      obtain ⟨ao', n', cap', rfl, hn', hs'⟩ := hz.open
      obtain ⟨hA1, hB1, hA1', hB1'⟩ := (hbox.later hb1 (lt_of_block hbox)).cells
      have Hn' := Lib.hid hn'
      clear hA hB hA' hB' hall hn'
      dsimp only
      go_wp2
      refine bodyPost_ret_at (by simp [results, Tryz.results123, go_sem, hA1, hB1, hA1', hB1'] <;> rfl) rfl ?_
      have hbz : Below w.heap.size w w1 := hbel.trans (hb1.mono hsz)
      have hni := (hbox.later hb1 (lt_of_block hbox)).noInt rfl rfl
      exact HR.out _ _ ⟨_, rfl, (hs'.set hni 0 _).set (hni.set 0 _ rfl) 1 _⟩ ((hbz.setCell (by simp) _).setCell (by simp) _)
end Go.Proofs.YtnfehccicnpbpaaGreatDoor

namespace Go.Proofs.YtnfehccicnpbpaaGreatDoor
open Go Go.RowKit

theorem all_take_succ (L : List UInt8) (k : Nat) (h : k < L.length) : (L.take (k + 1)).all isDig = ((L.take k).all isDig && isDig L[k]) := by
  rw [List.take_succ_eq_append_getElem h, List.all_append]; simp

theorem not_all_at (L : List UInt8) (k : Nat) (h : k < L.length) (hd : isDig L[k] = false) : L.all isDig = false := by
  rw [List.all_eq_false]
  exact ⟨L[k], List.getElem_mem h, by rw [hd]; simp⟩

theorem digB_not {L : List UInt8} (h : L.all isDig = false) : digB L = false := by unfold digB; rw [h]; rfl

theorem digB_all {L : List UInt8} (h : L.all isDig = true) : digB L = (decide (1 ≤ L.length) && (decide (L.length ≤ 60) && (decide (L.head? ≠ some 48) || decide (L.length = 1)))) := by unfold digB; rw [h]; rfl

theorem head_at (L : List UInt8) (h : 0 < L.length) : L.head? = some L[0] := by
  cases L with
  | nil => simp at h
  | cons c l => rfl

set_option maxRecDepth 100000 in
theorem digB_any (s : ByteArray) (w : World) (hs : s.size ≤ 1000000000) (R : Ending → World → Prop) (hR : R (.returned (.bool (digB s.data.toList))) w) :
    Calls Tryz.prog 207 #[.string s] w R := by
  have HR := Lib.hid hR; clear hR
  obtain ⟨n, hn⟩ : ∃ n, n = s.size := ⟨_, rfl⟩
  have HL := Lib.hid (size_list s)
  go_enter Tryz.func207, Tryz.ntmps207
  go_wp2
  go_loop [3] (fun i => ∃ k : Nat, i = .int .i64 k ∧ k ≤ s.size ∧ (s.data.toList.take k).all isDig = true) (fun i => s.size - (intOf i).toNat)
  case atStart => exact ⟨0, rfl, Nat.zero_le _, rfl⟩
  case round =>
    obtain ⟨k, rfl, hk, hall⟩ := hrel
    have HALL := Lib.hid hall
    clear hall
    by_cases hlt : k < s.size
    · have h2 : k < s.data.toList.length := by rw [HL.out]; exact hlt
      have hb := byte_at s k hlt h2
      by_cases hlo : (s[k].toNat : Int) < 48
      · have hd : digB s.data.toList = false := digB_not (not_all_at _ k h2 (by rw [← hb]; simp [isDig]; omega))
        rw [hd] at HR
        clear hb hd
        go_wp2
        first | go_ret | skip
        exact HR.out
      · by_cases hhi : (57 : Int) < (s[k].toNat : Int)
        · have hd : digB s.data.toList = false := digB_not (not_all_at _ k h2 (by rw [← hb]; simp [isDig]; omega))
          rw [hd] at HR
          clear hb hd
          go_wp2
          first | go_ret | skip
          exact HR.out
        · have HB := Lib.hid hb
          clear hb
          go_wp2
          go_round
          case rel => exact ⟨k + 1, by go_num, by omega, by rw [all_take_succ _ _ h2, HALL.out, ← HB.out]; simp [isDig]; omega⟩
          case measure => simp [intOf]; omega
    · obtain rfl : k = s.size := by omega
      have hd : digB s.data.toList = _ := digB_all (by have := HALL.out; rwa [← HL.out, List.take_length] at this)
      rw [HL.out] at hd
      by_cases h1 : 1 ≤ s.size
      · by_cases h60 : s.size ≤ 60
        · have h0 : 0 < s.data.toList.length := by rw [HL.out]; omega
          have hb := byte_at s 0 (by omega) h0
          rw [head_at _ h0, ← hb, decide_eq_true h1, decide_eq_true h60, Bool.true_and, Bool.true_and] at hd
          by_cases h48 : s[0] = 48
          · have e1 : ((s[0].toNat : Int) != 48) = false := by rw [h48]; rfl
            have e2 : decide (some s[0] ≠ some 48) = false := by rw [h48]; rfl
            rw [e2, Bool.false_or] at hd
            by_cases hone : s.size = 1
            · have e3 : ((s.size : Int) == 1) = true := by rw [hone]; rfl
              rw [decide_eq_true hone] at hd
              rw [hd] at HR
              clear hd hb e2 h48 hone
              go_wp2
              first | go_ret | skip
              exact HR.out
            · have e3 : ((s.size : Int) == 1) = false := by simp; omega
              rw [decide_eq_false hone] at hd
              rw [hd] at HR
              clear hd hb e2 h48 hone
              go_wp2
              first | go_ret | skip
              exact HR.out
          · have h48' : s[0].toNat ≠ 48 := fun h => h48 (UInt8.toNat_inj.1 h)
            have e1 : ((s[0].toNat : Int) != 48) = true := by simp; omega
            have e2 : decide (some s[0] ≠ some 48) = true := by simp [h48]
            rw [e2, Bool.true_or] at hd
            rw [hd] at HR
            clear hd hb e2 h48 h48'
            go_wp2
            first | go_ret | skip
            exact HR.out
        · have e3 : decide ((s.size : Int) ≤ 60) = false := by simp; omega
          rw [decide_eq_true h1, decide_eq_false h60, Bool.true_and, Bool.false_and] at hd
          rw [hd] at HR
          clear hd
          go_wp2
          first | go_ret | skip
          exact HR.out
      · rw [decide_eq_false h1, Bool.false_and] at hd
        rw [hd] at HR
        clear hd
        go_wp2
        first | go_ret | skip
        exact HR.out
end Go.Proofs.YtnfehccicnpbpaaGreatDoor

namespace Go.Proofs.YtnfehccicnpbpaaGreatDoor
open Go Go.RowKit

set_option maxRecDepth 100000 in
theorem zneg_any (va : Value) (a : Int) (w : World) (ha : IsZ w va a) (hla : (dig 10000 a.natAbs).length ≤ 1000000000) (R : Ending → World → Prop)
    (hR : ∀ v w', IsZ w' v (-a) → Below w.heap.size w w' → R (.returned v) w') :
    Calls Tryz.prog 211 #[va] w R := by
  have HR := Lib.hid hR; clear hR
  obtain ⟨aa, na, ca, rfl, ena, hsa⟩ := ha.open
  obtain ⟨neg, hneg⟩ : ∃ x, x = decide (a < 0) := ⟨_, rfl⟩
  rw [← hneg]
  have hbox0 := Box2.made (w.alloc (.cells #[.bool neg, .slice aa na ca] 114)) (.bool false) (.slice none 0 0) 114
  simp only [World.size_alloc] at hbox0
  have hb0 : Below w.heap.size w ((w.alloc (.cells #[.bool neg, .slice aa na ca] 114)).alloc (.cells #[.bool false, .slice none 0 0] 114)) := ((Below.refl _ _).alloc (Nat.le_refl _) _).alloc (by simp) _
  have HB0 := Lib.hid hb0
  have Hneg := Lib.hid hneg
  clear ena hneg hb0 ha
  go_enter Tryz.func211, Tryz.ntmps211
  go_wp2_with fail
  refine cut_z (!neg) _ (dig 10000 a.natAbs) _ (hsa.later HB0.out (Nat.le_refl _)) (dig_lt (by omega) _) hla (-a) (by rw [Hneg.out, val_dig (by omega)]; by_cases h : a < 0 <;> simp [h] <;> omega) _ ?_
  intro v' w1 hz hb1
  obtain ⟨ao', n', cap', rfl, hn', hs'⟩ := hz.open
  have hbox1 := hbox0.later hb1 (by simp)
  obtain ⟨hA1, hB1, hA1', hB1'⟩ := hbox1.cells
  have hni := hbox1.noInt rfl rfl
  have hbz : Below w.heap.size w w1 := HB0.out.trans (hb1.mono (by simp; omega))
  have HZ := Lib.hid hbz
  have HS := Lib.hid hs'
  clear hn' hbox0 hsa hbz hs' hz hb1
  dsimp only
  go_wp2
  refine bodyPost_ret_at (by simp [results, Tryz.results211, go_sem, hA1, hB1, hA1', hB1'] <;> rfl) rfl ?_
  exact HR.out _ _ ⟨.slice ao' n' cap', by simp, (HS.out.set hni 0 _).set (hni.set 0 _ rfl) 1 _⟩ ((HZ.out.setCell (by simp <;> omega) _).setCell (by simp <;> omega) _)

/-- what holds at the head of the first loop of the sum -/
def AddInv (w : World) (xs ys : List Nat) (na nb : Nat) (u0 v0 u1 v1 u2 v2 : Value) (d c i : Value) (wr : World) : Prop :=
  ∃ (ds : List Nat) (cy k : Nat), i = .int .i64 k ∧ c = .int .i64 cy ∧ cy ≤ 1 ∧ k ≤ max na nb + 1 ∧ (cy = 1 → k ≤ max na nb) ∧ ds.length = k ∧ (∀ x ∈ ds, x < 10000) ∧
    val 10000 ds + 10000 ^ k * (cy + val 10000 (xs.drop k) + val 10000 (ys.drop k)) = val 10000 xs + val 10000 ys ∧
    Own .i64 2 wr (w.heap.size + 3) d ds ∧ Below w.heap.size w wr ∧
    Box2 wr w.heap.size u0 v0 114 ∧ Box2 wr (w.heap.size + 1) u1 v1 114 ∧ Box2 wr (w.heap.size + 2) u2 v2 114

theorem add_step (B : Nat) (ds xs ys : List Nat) (cy k x y T : Nat) (hl : ds.length = k) (hx : val B (xs.drop k) = x + B * val B (xs.drop (k + 1))) (hy : val B (ys.drop k) = y + B * val B (ys.drop (k + 1)))
    (h : val B ds + B ^ k * (cy + val B (xs.drop k) + val B (ys.drop k)) = T) :
    val B (ds ++ [(cy + x + y) % B]) + B ^ (k + 1) * ((cy + x + y) / B + val B (xs.drop (k + 1)) + val B (ys.drop (k + 1))) = T := by
  rw [val_snoc, hl, ← h, hx, hy, Nat.pow_succ, Nat.mul_assoc, Nat.add_assoc, ← Nat.mul_add]
  congr 2
  have := Nat.div_add_mod (cy + x + y) B
  rw [Nat.mul_add, Nat.mul_add]
  generalize B * val B (xs.drop (k + 1)) = p at *
  generalize B * val B (ys.drop (k + 1)) = q at *
  omega

theorem add_rel (w wr w1 : World) (xs ys ds : List Nat) (na nb cy k x y : Nat) (u0 v0 u1 v1 u2 v2 : Value) (v' : Value) (o : Obj) (zc zk : Int)
    (hcy : cy ≤ 1) (hxl : x < 10000) (hyl : y < 10000) (hk : k ≤ max na nb) (hkk : k < max na nb ∨ (x = 0 ∧ y = 0)) (hdl : ds.length = k) (hd : ∀ x ∈ ds, x < 10000)
    (hdx : val 10000 (xs.drop k) = x + 10000 * val 10000 (xs.drop (k + 1))) (hdy : val 10000 (ys.drop k) = y + 10000 * val 10000 (ys.drop (k + 1)))
    (hval : val 10000 ds + 10000 ^ k * (cy + val 10000 (xs.drop k) + val 10000 (ys.drop k)) = val 10000 xs + val 10000 ys)
    (hzc : zc = (((cy + x + y) / 10000 : Nat) : Int)) (hzk : zk = ((k + 1 : Nat) : Int))
    (hown : Own .i64 2 w1 (w.heap.size + 3) v' (ds ++ [(cy + x + y) % 10000])) (hb : Below (w.heap.size + 3) (wr.alloc o) w1) (hbel : Below w.heap.size w wr)
    (h0 : Box2 wr w.heap.size u0 v0 114) (h1 : Box2 wr (w.heap.size + 1) u1 v1 114) (h2 : Box2 wr (w.heap.size + 2) u2 v2 114) :
    AddInv w xs ys na nb u0 v0 u1 v1 u2 v2 v' (.int .i64 zc) (.int .i64 zk) w1 := by
  subst hzc hzk
  refine ⟨_, (cy + x + y) / 10000, k + 1, rfl, rfl, by omega, by omega, fun h => by omega, by simp [hdl], ?_, add_step 10000 ds xs ys cy k x y _ hdl hdx hdy hval, hown, (hbel.alloc hbel.size o).trans (hb.mono (by omega)), (h0.alloc o).later hb (by omega), (h1.alloc o).later hb (by omega), (h2.alloc o).later hb (by omega)⟩
  intro z hz
  rcases List.mem_append.1 hz with hz | hz
  · exact hd z hz
  · simp at hz; omega

set_option maxRecDepth 100000 in
set_option maxHeartbeats 2000000 in
theorem zadd_same (va vb : Value) (a b : Int) (w : World) (ha : IsZ w va a) (hb : IsZ w vb b) (hla : (dig 10000 a.natAbs).length ≤ 10000000) (hlb : (dig 10000 b.natAbs).length ≤ 10000000) (hsame : decide (a < 0) = decide (b < 0)) (R : Ending → World → Prop)
    (hR : ∀ v w', IsZ w' v (a + b) → Below w.heap.size w w' → R (.returned v) w') :
    Calls Tryz.prog 210 #[va, vb] w R := by
  have HR := Lib.hid hR; clear hR
  obtain ⟨aa, na, ca, rfl, ena, hsa⟩ := ha.open
  obtain ⟨ab, nb, cb, rfl, enb, hsb⟩ := hb.open
  obtain ⟨xs, hxs⟩ : ∃ xs, xs = dig 10000 a.natAbs := ⟨_, rfl⟩
  obtain ⟨ys, hys⟩ : ∃ ys, ys = dig 10000 b.natAbs := ⟨_, rfl⟩
  have hx : ∀ d ∈ xs, d < 10000 := by rw [hxs]; exact dig_lt (by omega) _
  have hy : ∀ d ∈ ys, d < 10000 := by rw [hys]; exact dig_lt (by omega) _
  have hvx : val 10000 xs = a.natAbs := by rw [hxs]; exact val_dig (by omega) _
  have hvy : val 10000 ys = b.natAbs := by rw [hys]; exact val_dig (by omega) _
  rw [← ena] at hla
  rw [← enb] at hlb
  rw [← hxs] at hsa ena
  rw [← hys] at hsb enb
  rw [← hsame]
  obtain ⟨neg, hneg⟩ : ∃ x, x = decide (a < 0) := ⟨_, rfl⟩
  have hz : a + b = if neg = true then -((a.natAbs + b.natAbs : Nat) : Int) else ((a.natAbs + b.natAbs : Nat) : Int) := by
    by_cases h : a < 0
    · have h2 : b < 0 := by simpa [h] using hsame
      rw [hneg]; simp [h]; omega
    · have h2 : ¬ b < 0 := by simpa [h] using hsame
      rw [hneg]; simp [h]; omega
  rw [← hneg]
  have Ena := Lib.hid ena
  have Enb := Lib.hid enb
  have Hvx := Lib.hid hvx
  have Hvy := Lib.hid hvy
  have Hx := Lib.hid hx
  have Hy := Lib.hid hy
  have Hz := Lib.hid hz
  clear hsame hneg hxs hys ena enb hvx hvy ha hb hx hy hz
  go_enter Tryz.func210, Tryz.ntmps210
  go_wp2
  go_loopw [5, 6, 7] (fun d c i wr => AddInv w xs ys na nb (.bool neg) (.slice aa na ca) (.bool neg) (.slice ab nb cb) (.bool false) (.slice none 0 0) d c i wr) (fun _ _ i _ => max na nb + 2 - (intOf i).toNat)
  case atStart =>
    have hB0 := (((Box2.made w (.bool neg) (.slice aa na ca) 114).alloc (.cells #[.bool neg, .slice ab nb cb] 114)).alloc (.cells #[.bool false, .slice none 0 0] 114)).alloc (.cells #[] 2)
    have hB1 := ((Box2.made (w.alloc (.cells #[.bool neg, .slice aa na ca] 114)) (.bool neg) (.slice ab nb cb) 114).alloc (.cells #[.bool false, .slice none 0 0] 114)).alloc (.cells #[] 2)
    have hB2 := (Box2.made ((w.alloc (.cells #[.bool neg, .slice aa na ca] 114)).alloc (.cells #[.bool neg, .slice ab nb cb] 114)) (.bool false) (.slice none 0 0) 114).alloc (.cells #[] 2)
    have hOw := Own.lit .i64 2 (((w.alloc (.cells #[.bool neg, .slice aa na ca] 114)).alloc (.cells #[.bool neg, .slice ab nb cb] 114)).alloc (.cells #[.bool false, .slice none 0 0] 114)) (w.heap.size + 3) (by simp)
    simp only [World.size_alloc] at hB0 hB1 hB2 hOw
    exact ⟨[], 0, 0, rfl, rfl, by omega, by omega, by omega, rfl, by simp, by simp [val], hOw, ((((Below.refl _ _).alloc (Nat.le_refl _) _).alloc (by simp) _).alloc (by simp; omega) _).alloc (by simp; omega) _, hB0, hB1, hB2⟩
  case round =>
    obtain ⟨ds, cy, k, rfl, rfl, hcy, hk, hkc, hdl, hd, hval, hown, hbel, hb0, hb1, hb2⟩ := hrel
    have hsz := hbel.size
    have hlt2 := lt_of_block hb2
    obtain ⟨hA0, hA1, _, _⟩ := hb0.cells
    obtain ⟨hB0, hB1, _, _⟩ := hb1.cells
    have Hval := Lib.hid hval
    have Hd := Lib.hid hd
    have Hdl := Lib.hid hdl
    have HBEL := Lib.hid hbel
    have hkb : k ≤ 20000000 := by omega
    have hdlb : ds.length ≤ 20000000 := by omega
    clear hval hd hdl
    by_cases hka : k < na
    · obtain ⟨p1, o1, rfl, hp1, hc1⟩ := hsa.at k hka
      rw [← hbel.cell (p := ⟨p1, o1 + k, none⟩) hp1] at hc1
      obtain ⟨x, hxe⟩ : ∃ x, x = xs.getD k 0 := ⟨_, rfl⟩
      rw [← hxe] at hc1
      have hxl : x < 10000 := by rw [hxe]; exact getD_lt (by omega) _ Hx.out _
      have hdx : val 10000 (xs.drop k) = x + 10000 * val 10000 (xs.drop (k + 1)) := by rw [hxe]; exact val_drop _ _ _ (by rw [← Ena.out]; exact hka)
      have Hdx := Lib.hid hdx
      clear hxe hdx
      by_cases hkb2 : k < nb
      · obtain ⟨p2, o2, rfl, hp2, hc2⟩ := hsb.at k hkb2
        rw [← hbel.cell (p := ⟨p2, o2 + k, none⟩) hp2] at hc2
        obtain ⟨y, hye⟩ : ∃ y, y = ys.getD k 0 := ⟨_, rfl⟩
        rw [← hye] at hc2
        have hyl : y < 10000 := by rw [hye]; exact getD_lt (by omega) _ Hy.out _
        have hdy : val 10000 (ys.drop k) = y + 10000 * val 10000 (ys.drop (k + 1)) := by rw [hye]; exact val_drop _ _ _ (by rw [← Enb.out]; exact hkb2)
        have Hdy := Lib.hid hdy
        clear hye hdy hbel
        go_wp2_with (at_builtin; go_must (refine wpList_pushz rfl (.tmp 60) (.tmp 63) 32 rfl 2 .i64 8 Tryz.underlying32 info_i64 (by omega) (w.heap.size + 3) _ ds ((cy + x + y) % 10000) ((↑cy + ↑x + ↑y) % 10000) (by omega) rfl (hown.alloc _) wr.heap.size rfl (World.cell?_alloc_at _ _ _ _ rfl) (by omega) (by simp; omega) ?_))
        intro v' w1 hown1 hbw
        have HR1 := Lib.hid (add_rel w wr w1 xs ys ds na nb cy k x y _ _ _ _ _ _ v' _ ((↑cy + ↑x + ↑y) / 10000) (↑k + 1) hcy hxl hyl (by omega) (.inl (by omega)) Hdl.out Hd.out Hdx.out Hdy.out Hval.out (by omega) (by omega) hown1 hbw HBEL.out hb0 hb1 hb2)
        clear hown hown1 hbw hb0 hb1 hb2
        go_wp2
        go_roundw
        case rel => exact HR1.out
        case measure => simp [intOf]; omega
      · have Hdy := Lib.hid (show val 10000 (ys.drop k) = 0 + 10000 * val 10000 (ys.drop (k + 1)) by rw [val_drop_all _ _ _ (by rw [← Enb.out]; omega), val_drop_all _ _ _ (by rw [← Enb.out]; omega)])
        clear hbel
        go_wp2_with (at_builtin; go_must (refine wpList_pushz rfl (.tmp 60) (.tmp 63) 32 rfl 2 .i64 8 Tryz.underlying32 info_i64 (by omega) (w.heap.size + 3) _ ds ((cy + x + 0) % 10000) ((↑cy + ↑x) % 10000) (by omega) rfl (hown.alloc _) wr.heap.size rfl (World.cell?_alloc_at _ _ _ _ rfl) (by omega) (by simp; omega) ?_))
        intro v' w1 hown1 hbw
        have HR1 := Lib.hid (add_rel w wr w1 xs ys ds na nb cy k x 0 _ _ _ _ _ _ v' _ ((↑cy + ↑x) / 10000) (↑k + 1) hcy hxl (by omega) (by omega) (.inl (by omega)) Hdl.out Hd.out Hdx.out Hdy.out Hval.out (by omega) (by omega) hown1 hbw HBEL.out hb0 hb1 hb2)
        clear hown hown1 hbw hb0 hb1 hb2
        go_wp2
        go_roundw
        case rel => exact HR1.out
        case measure => simp [intOf]; omega
    · have Hdx := Lib.hid (show val 10000 (xs.drop k) = 0 + 10000 * val 10000 (xs.drop (k + 1)) by rw [val_drop_all _ _ _ (by rw [← Ena.out]; omega), val_drop_all _ _ _ (by rw [← Ena.out]; omega)])
      by_cases hkb2 : k < nb
      · obtain ⟨p2, o2, rfl, hp2, hc2⟩ := hsb.at k hkb2
        rw [← hbel.cell (p := ⟨p2, o2 + k, none⟩) hp2] at hc2
        obtain ⟨y, hye⟩ : ∃ y, y = ys.getD k 0 := ⟨_, rfl⟩
        rw [← hye] at hc2
        have hyl : y < 10000 := by rw [hye]; exact getD_lt (by omega) _ Hy.out _
        have hdy : val 10000 (ys.drop k) = y + 10000 * val 10000 (ys.drop (k + 1)) := by rw [hye]; exact val_drop _ _ _ (by rw [← Enb.out]; exact hkb2)
        have Hdy := Lib.hid hdy
        clear hye hdy hbel
        go_wp2_with (at_builtin; go_must (refine wpList_pushz rfl (.tmp 60) (.tmp 63) 32 rfl 2 .i64 8 Tryz.underlying32 info_i64 (by omega) (w.heap.size + 3) _ ds ((cy + 0 + y) % 10000) ((↑cy + ↑y) % 10000) (by omega) rfl (hown.alloc _) wr.heap.size rfl (World.cell?_alloc_at _ _ _ _ rfl) (by omega) (by simp; omega) ?_))
        intro v' w1 hown1 hbw
        have HR1 := Lib.hid (add_rel w wr w1 xs ys ds na nb cy k 0 y _ _ _ _ _ _ v' _ ((↑cy + ↑y) / 10000) (↑k + 1) hcy (by omega) hyl (by omega) (.inl (by omega)) Hdl.out Hd.out Hdx.out Hdy.out Hval.out (by omega) (by omega) hown1 hbw HBEL.out hb0 hb1 hb2)
        clear hown hown1 hbw hb0 hb1 hb2
        go_wp2
        go_roundw
        case rel => exact HR1.out
        case measure => simp [intOf]; omega
      · have Hdy := Lib.hid (show val 10000 (ys.drop k) = 0 + 10000 * val 10000 (ys.drop (k + 1)) by rw [val_drop_all _ _ _ (by rw [← Enb.out]; omega), val_drop_all _ _ _ (by rw [← Enb.out]; omega)])
        clear hbel
        by_cases hc1 : cy = 1
        · subst hc1
          have hkm := hkc rfl
          go_wp2_with (at_builtin; go_must (refine wpList_pushz rfl (.tmp 60) (.tmp 63) 32 rfl 2 .i64 8 Tryz.underlying32 info_i64 (by omega) (w.heap.size + 3) _ ds ((1 + 0 + 0) % 10000) (1) (by omega) rfl (hown.alloc _) wr.heap.size rfl (World.cell?_alloc_at _ _ _ _ rfl) (by omega) (by simp; omega) ?_))
          intro v' w1 hown1 hbw
          have HR1 := Lib.hid (add_rel w wr w1 xs ys ds na nb 1 k 0 0 _ _ _ _ _ _ v' _ (0) (↑k + 1) hcy (by omega) (by omega) (by omega) (.inr ⟨rfl, rfl⟩) Hdl.out Hd.out Hdx.out Hdy.out Hval.out (by omega) (by omega) hown1 hbw HBEL.out hb0 hb1 hb2)
          clear hown hown1 hbw hb0 hb1 hb2
          go_wp2
          go_roundw
          case rel => exact HR1.out
          case measure => simp [intOf]; omega
        · obtain rfl : cy = 0 := by omega
          have hval2 : val 10000 ds = a.natAbs + b.natAbs := by
            have := Hval.out
            rw [val_drop_all _ _ _ (by rw [← Ena.out]; omega), val_drop_all _ _ _ (by rw [← Enb.out]; omega), Hvx.out, Hvy.out] at this
            simpa using this
          have Hv2 := Lib.hid hval2
          clear hval2
          go_wp2_with fail
          refine cut_z neg _ ds _ hown.sl Hd.out (by omega) (a + b) (by rw [Hv2.out]; exact Hz.out) _ ?_
          intro v' w1 hz hbw
          obtain ⟨ao', n', cap', rfl, hn', hs'⟩ := hz.open
          have hbox1 := hb2.later hbw (by omega)
          obtain ⟨hA2, hB2, hA2', hB2'⟩ := hbox1.cells
          have hni := hbox1.noInt rfl rfl
          have HZ := Lib.hid (HBEL.out.trans (hbw.mono hsz))
          have HS := Lib.hid hs'
          clear hn' hb0 hb1 hb2 hbox1 hs' hz hbw hown hA0 hA1 hB0 hB1
          dsimp only
          go_wp2
          refine bodyPost_ret_at (by simp [results, Tryz.results210, go_sem, hA2, hB2, hA2', hB2'] <;> rfl) rfl ?_
          exact HR.out _ _ ⟨.slice ao' n' cap', by simp, (HS.out.set hni 0 _).set (hni.set 0 _ rfl) 1 _⟩ ((HZ.out.setCell (by simp <;> omega) _).setCell (by simp <;> omega) _)
end Go.Proofs.YtnfehccicnpbpaaGreatDoor

namespace Go.Proofs.YtnfehccicnpbpaaGreatDoor
open Go Go.RowKit

/-- what holds at the head of the second loop of the sum -/
def SubInv (w : World) (xs ys : List Nat) (na : Nat) (u0 v0 u1 v1 u2 v2 : Value) (d c i : Value) (wr : World) : Prop :=
  ∃ (ds : List Nat) (cy k : Nat), i = .int .i64 k ∧ c = .int .i64 cy ∧ cy ≤ 1 ∧ k ≤ na ∧ ds.length = k ∧ (∀ x ∈ ds, x < 10000) ∧
    val 10000 ds + 10000 ^ k * val 10000 (xs.drop k) + val 10000 ys = val 10000 xs + 10000 ^ k * (cy + val 10000 (ys.drop k)) ∧
    Own .i64 2 wr (w.heap.size + 3) d ds ∧ Below w.heap.size w wr ∧
    Box2 wr w.heap.size u0 v0 114 ∧ Box2 wr (w.heap.size + 1) u1 v1 114 ∧ Box2 wr (w.heap.size + 2) u2 v2 114

theorem sub_step (B : Nat) (ds xs ys : List Nat) (cy k x y z cy2 S T : Nat) (hl : ds.length = k) (hx : val B (xs.drop k) = x + B * val B (xs.drop (k + 1))) (hy : val B (ys.drop k) = y + B * val B (ys.drop (k + 1)))
    (hz : z + cy + y = x + B * cy2) (h : val B ds + B ^ k * val B (xs.drop k) + S = T + B ^ k * (cy + val B (ys.drop k))) :
    val B (ds ++ [z]) + B ^ (k + 1) * val B (xs.drop (k + 1)) + S = T + B ^ (k + 1) * (cy2 + val B (ys.drop (k + 1))) := by
  rw [hx, hy] at h
  rw [val_snoc, hl, Nat.pow_succ, Nat.mul_assoc, Nat.mul_assoc]
  have h1 : B ^ k * (z + cy + y) = B ^ k * (x + B * cy2) := by rw [hz]
  simp only [Nat.mul_add] at h h1 ⊢
  generalize B ^ k * (B * val B (xs.drop (k + 1))) = p at *
  generalize B ^ k * (B * val B (ys.drop (k + 1))) = q at *
  generalize B ^ k * (B * cy2) = r at *
  omega

theorem sub_rel (w wr w1 : World) (xs ys ds : List Nat) (na cy k x y z cy2 : Nat) (u0 v0 u1 v1 u2 v2 v' : Value) (o : Obj) (zc zk : Int)
    (hcy : cy2 ≤ 1) (hzl : z < 10000) (hk : k < na) (hdl : ds.length = k) (hd : ∀ x ∈ ds, x < 10000)
    (hdx : val 10000 (xs.drop k) = x + 10000 * val 10000 (xs.drop (k + 1))) (hdy : val 10000 (ys.drop k) = y + 10000 * val 10000 (ys.drop (k + 1)))
    (hz : z + cy + y = x + 10000 * cy2)
    (hval : val 10000 ds + 10000 ^ k * val 10000 (xs.drop k) + val 10000 ys = val 10000 xs + 10000 ^ k * (cy + val 10000 (ys.drop k)))
    (hzc : zc = (cy2 : Int)) (hzk : zk = ((k + 1 : Nat) : Int))
    (hown : Own .i64 2 w1 (w.heap.size + 3) v' (ds ++ [z])) (hb : Below (w.heap.size + 3) (wr.alloc o) w1) (hbel : Below w.heap.size w wr)
    (h0 : Box2 wr w.heap.size u0 v0 114) (h1 : Box2 wr (w.heap.size + 1) u1 v1 114) (h2 : Box2 wr (w.heap.size + 2) u2 v2 114) :
    SubInv w xs ys na u0 v0 u1 v1 u2 v2 v' (.int .i64 zc) (.int .i64 zk) w1 := by
  subst hzc hzk
  refine ⟨_, cy2, k + 1, rfl, rfl, hcy, by omega, by simp [hdl], ?_, sub_step 10000 ds xs ys cy k x y z cy2 _ _ hdl hdx hdy hz hval, hown, (hbel.alloc hbel.size o).trans (hb.mono (by omega)), (h0.alloc o).later hb (by omega), (h1.alloc o).later hb (by omega), (h2.alloc o).later hb (by omega)⟩
  intro q hq
  rcases List.mem_append.1 hq with hq | hq
  · exact hd q hq
  · simp at hq; omega

theorem sub_end (A Y D P cy : Nat) (h : D + Y = A + P * cy) (hD : D < P) (hle : Y ≤ A) (hcy : cy ≤ 1) : D = A - Y := by
  by_cases h1 : cy = 1
  · subst h1; omega
  · obtain rfl : cy = 0 := by omega
    omega

set_option maxRecDepth 100000 in
set_option maxHeartbeats 2000000 in
theorem zadd_diff (va vb : Value) (a b : Int) (w : World) (ha : IsZ w va a) (hb : IsZ w vb b) (hla : (dig 10000 a.natAbs).length ≤ 10000000) (hlb : (dig 10000 b.natAbs).length ≤ 10000000) (hdiff : decide (a < 0) ≠ decide (b < 0)) (hle : b.natAbs ≤ a.natAbs) (R : Ending → World → Prop)
    (hR : ∀ v w', IsZ w' v (a + b) → Below w.heap.size w w' → R (.returned v) w') :
    Calls Tryz.prog 210 #[va, vb] w R := by
  have HR := Lib.hid hR; clear hR
  have HA := Lib.hid ha
  have HB := Lib.hid hb
  obtain ⟨aa, na, ca, rfl, ena, hsa⟩ := ha.open
  obtain ⟨ab, nb, cb, rfl, enb, hsb⟩ := hb.open
  have hnn : nb ≤ na := by
    rcases Nat.lt_or_ge na nb with h | h
    · have := lt_of_dig_length (B := 10000) (by omega) a.natAbs b.natAbs (by omega); omega
    · exact h
  obtain ⟨xs, hxs⟩ : ∃ xs, xs = dig 10000 a.natAbs := ⟨_, rfl⟩
  obtain ⟨ys, hys⟩ : ∃ ys, ys = dig 10000 b.natAbs := ⟨_, rfl⟩
  have hx : ∀ d ∈ xs, d < 10000 := by rw [hxs]; exact dig_lt (by omega) _
  have hy : ∀ d ∈ ys, d < 10000 := by rw [hys]; exact dig_lt (by omega) _
  have hvx : val 10000 xs = a.natAbs := by rw [hxs]; exact val_dig (by omega) _
  have hvy : val 10000 ys = b.natAbs := by rw [hys]; exact val_dig (by omega) _
  have hla9 := Lib.hid (Nat.le_trans hla (by omega : 10000000 ≤ 1000000000))
  have hlb9 := Lib.hid (Nat.le_trans hlb (by omega : 10000000 ≤ 1000000000))
  rw [← ena] at hla
  rw [← enb] at hlb
  rw [← hxs] at hsa ena
  rw [← hys] at hsb enb
  obtain ⟨nega, hnega⟩ : ∃ x, x = decide (a < 0) := ⟨_, rfl⟩
  obtain ⟨negb, hnegb⟩ : ∃ x, x = decide (b < 0) := ⟨_, rfl⟩
  have hz : a + b = if nega = true then -((a.natAbs - b.natAbs : Nat) : Int) else ((a.natAbs - b.natAbs : Nat) : Int) := by
    by_cases h : a < 0
    · have h2 : ¬ b < 0 := by intro h2; exact hdiff (by simp [h, h2])
      rw [hnega]; simp [h]; omega
    · have h2 : b < 0 := by rcases Int.lt_or_le b 0 with h2 | h2
                            · exact h2
                            · exact absurd (by simp [h]; omega) hdiff
      rw [hnega]; simp [h]; omega
  have hcmp : ¬ (cmpN a.natAbs b.natAbs < 0) := by unfold cmpN; rw [if_neg (by omega)]; split <;> omega
  rw [← hnega] at HA hdiff ⊢
  rw [← hnegb] at HB hdiff ⊢
  have hne : (nega == negb) = false := by cases nega <;> cases negb <;> simp_all
  obtain ⟨cm, hcm⟩ : ∃ cm, cm = cmpN a.natAbs b.natAbs := ⟨_, rfl⟩
  rw [← hcm] at hcmp
  have Hcm := Lib.hid hcm
  have Ena := Lib.hid ena
  have Enb := Lib.hid enb
  have Hvx := Lib.hid hvx
  have Hvy := Lib.hid hvy
  have Hx := Lib.hid hx
  have Hy := Lib.hid hy
  have Hz := Lib.hid hz
  have Hle := Lib.hid hle
  have B0 := ((Box2.made w (.bool nega) (.slice aa na ca) 114).alloc (.cells #[.bool negb, .slice ab nb cb] 114)).alloc (.cells #[.bool false, .slice none 0 0] 114)
  have B1 := (Box2.made (w.alloc (.cells #[.bool nega, .slice aa na ca] 114)) (.bool negb) (.slice ab nb cb) 114).alloc (.cells #[.bool false, .slice none 0 0] 114)
  have B2 := Box2.made ((w.alloc (.cells #[.bool nega, .slice aa na ca] 114)).alloc (.cells #[.bool negb, .slice ab nb cb] 114)) (.bool false) (.slice none 0 0) 114
  simp only [World.size_alloc] at B0 B1 B2
  have HEXT := Lib.hid ((((Below.refl w.heap.size w).alloc (Nat.le_refl _) (.cells #[.bool nega, .slice aa na ca] 114)).alloc (by simp) (.cells #[.bool negb, .slice ab nb cb] 114)).alloc (by simp; omega) (.cells #[.bool false, .slice none 0 0] 114))
  clear hdiff hnega hnegb hxs hys ena enb hvx hvy ha hb hx hy hz hle hcm
  go_enter Tryz.func210, Tryz.ntmps210
  go_wp2_with fail
  refine far_any _ _ a b _ (HA.out.later HEXT.out (Nat.le_refl _)) (HB.out.later HEXT.out (Nat.le_refl _)) hla9.out hlb9.out _ ?_
  intro w0 hbw0
  have b0 := B0.later hbw0 (by simp <;> omega)
  have b1 := B1.later hbw0 (by simp <;> omega)
  have b2 := B2.later hbw0 (by simp <;> omega)
  have hbel0 : Below w.heap.size w w0 := HEXT.out.trans (hbw0.mono (by simp; omega))
  rw [← Hcm.out]
  obtain ⟨hA0, hA1, _, _⟩ := b0.cells
  obtain ⟨hB0, hB1, _, _⟩ := b1.cells
  have hlt0 := lt_of_block b2
  clear B0 B1 B2 hbw0
  dsimp only
  go_wp2
  go_loopw [8, 9, 10] (fun d c i wr => SubInv w xs ys na (.bool nega) (.slice aa na ca) (.bool negb) (.slice ab nb cb) (.bool false) (.slice none 0 0) d c i wr) (fun _ _ i _ => na - (intOf i).toNat)
  case atStart =>
    exact ⟨[], 0, 0, rfl, rfl, by omega, by omega, rfl, by simp, by simp [val], Own.lit .i64 2 w0 (w.heap.size + 3) (by omega), hbel0.alloc hbel0.size _, b0.alloc _, b1.alloc _, b2.alloc _⟩
  case round =>
    clear hA0 hA1 hB0 hB1
    obtain ⟨ds, cy, k, rfl, rfl, hcy, hk, hdl, hd, hval, hown, hbel, hb0, hb1, hb2⟩ := hrel
    have hsz := hbel.size
    have hlt2 := lt_of_block hb2
    obtain ⟨hA0, hA1, _, _⟩ := hb0.cells
    obtain ⟨hB0, hB1, _, _⟩ := hb1.cells
    have Hval := Lib.hid hval
    have Hd := Lib.hid hd
    have Hdl := Lib.hid hdl
    have HBEL := Lib.hid hbel
    have hdlb : ds.length ≤ 20000000 := by omega
    clear hval hd hdl b0 b1 b2 hbel0 hlt0
    by_cases hka : k < na
    · obtain ⟨p1, o1, rfl, hp1, hc1⟩ := hsa.at k hka
      rw [← hbel.cell (p := ⟨p1, o1 + k, none⟩) hp1] at hc1
      obtain ⟨x, hxe⟩ : ∃ x, x = xs.getD k 0 := ⟨_, rfl⟩
      rw [← hxe] at hc1
      have hxl : x < 10000 := by rw [hxe]; exact getD_lt (by omega) _ Hx.out _
      have hdx : val 10000 (xs.drop k) = x + 10000 * val 10000 (xs.drop (k + 1)) := by rw [hxe]; exact val_drop _ _ _ (by rw [← Ena.out]; exact hka)
      have Hdx := Lib.hid hdx
      clear hxe hdx
      by_cases hkb2 : k < nb
      · obtain ⟨p2, o2, rfl, hp2, hc2⟩ := hsb.at k hkb2
        rw [← hbel.cell (p := ⟨p2, o2 + k, none⟩) hp2] at hc2
        obtain ⟨y, hye⟩ : ∃ y, y = ys.getD k 0 := ⟨_, rfl⟩
        rw [← hye] at hc2
        have hyl : y < 10000 := by rw [hye]; exact getD_lt (by omega) _ Hy.out _
        have hdy : val 10000 (ys.drop k) = y + 10000 * val 10000 (ys.drop (k + 1)) := by rw [hye]; exact val_drop _ _ _ (by rw [← Enb.out]; exact hkb2)
        have Hdy := Lib.hid hdy
        clear hye hdy hbel
        by_cases hneg : x < cy + y
        · have hneg2 : (x : Int) - (cy : Int) - (y : Int) < 0 := by omega
          go_wp2_with (at_builtin; go_must (refine wpList_pushz rfl (.tmp 109) (.tmp 111) 32 rfl 2 .i64 8 Tryz.underlying32 info_i64 (by omega) (w.heap.size + 3) _ ds (x + 10000 - cy - y) (↑x - ↑cy - ↑y + 10000) (by omega) rfl (hown.alloc _) wr.heap.size rfl (World.cell?_alloc_at _ _ _ _ rfl) (by omega) (by simp; omega) ?_))
          intro v' w1 hown1 hbw
          have HR1 := Lib.hid (sub_rel w wr w1 xs ys ds na cy k x y (x + 10000 - cy - y) 1 _ _ _ _ _ _ v' _ 1 (↑k + 1) (by omega) (by omega) hka Hdl.out Hd.out Hdx.out Hdy.out (by omega) Hval.out (by omega) (by omega) hown1 hbw HBEL.out hb0 hb1 hb2)
          clear hown hown1 hbw hb0 hb1 hb2
          go_wp2
          go_roundw
          case rel => exact HR1.out
          case measure => simp [intOf]; omega
        · have hneg2 : ¬ (x : Int) - (cy : Int) - (y : Int) < 0 := by omega
          go_wp2_with (at_builtin; go_must (refine wpList_pushz rfl (.tmp 109) (.tmp 111) 32 rfl 2 .i64 8 Tryz.underlying32 info_i64 (by omega) (w.heap.size + 3) _ ds (x - cy - y) (↑x - ↑cy - ↑y) (by omega) rfl (hown.alloc _) wr.heap.size rfl (World.cell?_alloc_at _ _ _ _ rfl) (by omega) (by simp; omega) ?_))
          intro v' w1 hown1 hbw
          have HR1 := Lib.hid (sub_rel w wr w1 xs ys ds na cy k x y (x - cy - y) 0 _ _ _ _ _ _ v' _ 0 (↑k + 1) (by omega) (by omega) hka Hdl.out Hd.out Hdx.out Hdy.out (by omega) Hval.out (by omega) (by omega) hown1 hbw HBEL.out hb0 hb1 hb2)
          clear hown hown1 hbw hb0 hb1 hb2
          go_wp2
          go_roundw
          case rel => exact HR1.out
          case measure => simp [intOf]; omega
      · have Hdy := Lib.hid (show val 10000 (ys.drop k) = 0 + 10000 * val 10000 (ys.drop (k + 1)) by rw [val_drop_all _ _ _ (by rw [← Enb.out]; omega), val_drop_all _ _ _ (by rw [← Enb.out]; omega)])
        clear hbel
        by_cases hneg : x < cy
        · have hneg2 : (x : Int) - (cy : Int) < 0 := by omega
          go_wp2_with (at_builtin; go_must (refine wpList_pushz rfl (.tmp 109) (.tmp 111) 32 rfl 2 .i64 8 Tryz.underlying32 info_i64 (by omega) (w.heap.size + 3) _ ds (x + 10000 - cy) (↑x - ↑cy + 10000) (by omega) rfl (hown.alloc _) wr.heap.size rfl (World.cell?_alloc_at _ _ _ _ rfl) (by omega) (by simp; omega) ?_))
          intro v' w1 hown1 hbw
          have HR1 := Lib.hid (sub_rel w wr w1 xs ys ds na cy k x 0 (x + 10000 - cy) 1 _ _ _ _ _ _ v' _ 1 (↑k + 1) (by omega) (by omega) hka Hdl.out Hd.out Hdx.out Hdy.out (by omega) Hval.out (by omega) (by omega) hown1 hbw HBEL.out hb0 hb1 hb2)
          clear hown hown1 hbw hb0 hb1 hb2
          go_wp2
          go_roundw
          case rel => exact HR1.out
          case measure => simp [intOf]; omega
        · have hneg2 : ¬ (x : Int) - (cy : Int) < 0 := by omega
          go_wp2_with (at_builtin; go_must (refine wpList_pushz rfl (.tmp 109) (.tmp 111) 32 rfl 2 .i64 8 Tryz.underlying32 info_i64 (by omega) (w.heap.size + 3) _ ds (x - cy) (↑x - ↑cy) (by omega) rfl (hown.alloc _) wr.heap.size rfl (World.cell?_alloc_at _ _ _ _ rfl) (by omega) (by simp; omega) ?_))
          intro v' w1 hown1 hbw
          have HR1 := Lib.hid (sub_rel w wr w1 xs ys ds na cy k x 0 (x - cy) 0 _ _ _ _ _ _ v' _ 0 (↑k + 1) (by omega) (by omega) hka Hdl.out Hd.out Hdx.out Hdy.out (by omega) Hval.out (by omega) (by omega) hown1 hbw HBEL.out hb0 hb1 hb2)
          clear hown hown1 hbw hb0 hb1 hb2
          go_wp2
          go_roundw
          case rel => exact HR1.out
          case measure => simp [intOf]; omega
    · obtain rfl : k = na := by omega
      have hval2 : val 10000 ds = a.natAbs - b.natAbs := by
        have h := Hval.out
        rw [val_drop_all _ xs _ (by rw [← Ena.out]; omega), val_drop_all _ ys _ (by rw [← Enb.out]; omega), Hvx.out, Hvy.out, Nat.mul_zero, Nat.add_zero, Nat.add_zero] at h
        have h2 := val_lt ds Hd.out
        rw [Hdl.out] at h2
        exact sub_end _ _ _ _ _ h h2 Hle.out hcy
      have Hv2 := Lib.hid hval2
      clear hval2 hbel
      go_wp2_with fail
      refine cut_z nega _ ds _ hown.sl Hd.out (by omega) (a + b) (by rw [Hv2.out]; exact Hz.out) _ ?_
      intro v' w1 hz hbw
      obtain ⟨ao', n', cap', rfl, hn', hs'⟩ := hz.open
      have hbox1 := hb2.later hbw (by omega)
      obtain ⟨hA2, hB2, hA2', hB2'⟩ := hbox1.cells
      have hni := hbox1.noInt rfl rfl
      have HZ := Lib.hid (HBEL.out.trans (hbw.mono hsz))
      have HS := Lib.hid hs'
      clear hn' hb0 hb1 hb2 hbox1 hs' hz hbw hown hA0 hA1 hB0 hB1
      dsimp only
      go_wp2
      refine bodyPost_ret_at (by simp [results, Tryz.results210, go_sem, hA2, hB2, hA2', hB2'] <;> rfl) rfl ?_
      exact HR.out _ _ ⟨.slice ao' n' cap', by simp, (HS.out.set hni 0 _).set (hni.set 0 _ rfl) 1 _⟩ ((HZ.out.setCell (by simp <;> omega) _).setCell (by simp <;> omega) _)

set_option maxRecDepth 100000 in
set_option maxHeartbeats 1000000 in
/-- the sum of two integers of any size -/
theorem zadd_any (va vb : Value) (a b : Int) (w : World) (ha : IsZ w va a) (hb : IsZ w vb b) (hla : (dig 10000 a.natAbs).length ≤ 10000000) (hlb : (dig 10000 b.natAbs).length ≤ 10000000) (R : Ending → World → Prop)
    (hR : ∀ v w', IsZ w' v (a + b) → Below w.heap.size w w' → R (.returned v) w') :
    Calls Tryz.prog 210 #[va, vb] w R := by
  by_cases hsame : decide (a < 0) = decide (b < 0)
  · exact zadd_same va vb a b w ha hb hla hlb hsame R hR
  · by_cases hle : b.natAbs ≤ a.natAbs
    · exact zadd_diff va vb a b w ha hb hla hlb hsame hle R hR
    · have HR := Lib.hid hR; clear hR
      have HA := Lib.hid ha
      have HB := Lib.hid hb
      obtain ⟨aa, na, ca, rfl, ena, hsa⟩ := ha.open
      obtain ⟨ab, nb, cb, rfl, enb, hsb⟩ := hb.open
      obtain ⟨nega, hnega⟩ : ∃ x, x = decide (a < 0) := ⟨_, rfl⟩
      obtain ⟨negb, hnegb⟩ : ∃ x, x = decide (b < 0) := ⟨_, rfl⟩
      have Hdiff := Lib.hid (show decide (b < 0) ≠ decide (a < 0) from fun h => hsame h.symm)
      have Hle := Lib.hid (show a.natAbs ≤ b.natAbs by omega)
      have hcm : cmpN a.natAbs b.natAbs = -1 := cmpN_lt (by omega)
      have Hcm := Lib.hid hcm
      have hla9 := Lib.hid (Nat.le_trans hla (by omega : 10000000 ≤ 1000000000))
      have hlb9 := Lib.hid (Nat.le_trans hlb (by omega : 10000000 ≤ 1000000000))
      have Hla := Lib.hid hla
      have Hlb := Lib.hid hlb
      rw [← hnega] at HA hsame ⊢
      rw [← hnegb] at HB hsame ⊢
      have hne : (nega == negb) = false := by cases nega <;> cases negb <;> simp_all
      have B0 := ((Box2.made w (.bool nega) (.slice aa na ca) 114).alloc (.cells #[.bool negb, .slice ab nb cb] 114)).alloc (.cells #[.bool false, .slice none 0 0] 114)
      have B1 := (Box2.made (w.alloc (.cells #[.bool nega, .slice aa na ca] 114)) (.bool negb) (.slice ab nb cb) 114).alloc (.cells #[.bool false, .slice none 0 0] 114)
      have B2 := Box2.made ((w.alloc (.cells #[.bool nega, .slice aa na ca] 114)).alloc (.cells #[.bool negb, .slice ab nb cb] 114)) (.bool false) (.slice none 0 0) 114
      simp only [World.size_alloc] at B0 B1 B2
      have HEXT := Lib.hid ((((Below.refl w.heap.size w).alloc (Nat.le_refl _) (.cells #[.bool nega, .slice aa na ca] 114)).alloc (by simp) (.cells #[.bool negb, .slice ab nb cb] 114)).alloc (by simp; omega) (.cells #[.bool false, .slice none 0 0] 114))
      clear hnega hnegb ena enb ha hb hle hcm hla hlb hsa hsb hsame
      go_enter Tryz.func210, Tryz.ntmps210
      go_wp2_with fail
      refine far_any _ _ a b _ (HA.out.later HEXT.out (Nat.le_refl _)) (HB.out.later HEXT.out (Nat.le_refl _)) hla9.out hlb9.out _ ?_
      intro w0 hbw0
      have b0 := B0.later hbw0 (by simp <;> omega)
      have b1 := B1.later hbw0 (by simp <;> omega)
      have b2 := B2.later hbw0 (by simp <;> omega)
      have hbel0 := Lib.hid (HEXT.out.trans (hbw0.mono (by simp; omega)))
      rw [Hcm.out]
      obtain ⟨hA0, hA1, _, _⟩ := b0.cells
      obtain ⟨hB0, hB1, _, _⟩ := b1.cells
      clear B0 B1 B2 hbw0
      dsimp only
      go_wp2_with fail
      refine zadd_diff _ _ b a _ (HB.out.later hbel0.out (Nat.le_refl _)) (HA.out.later hbel0.out (Nat.le_refl _)) Hlb.out Hla.out Hdiff.out Hle.out _ ?_
      intro v' w1 hz hbw
      rw [Int.add_comm b a] at hz
      obtain ⟨ao', n', cap', rfl, hn', hs'⟩ := hz.open
      have hbox1 := b2.later hbw (lt_of_block b2)
      obtain ⟨hA2, hB2, hA2', hB2'⟩ := hbox1.cells
      have hni := hbox1.noInt rfl rfl
      have HZ := Lib.hid (hbel0.out.trans (hbw.mono hbel0.out.size))
      have HS := Lib.hid hs'
      clear hn' b0 b1 b2 hbox1 hs' hz hbw hA0 hA1 hB0 hB1
      dsimp only
      go_wp2
      refine bodyPost_ret_at (by simp [results, Tryz.results210, go_sem, hA2, hB2, hA2', hB2'] <;> rfl) rfl ?_
      exact HR.out _ _ ⟨.slice ao' n' cap', by simp, (HS.out.set hni 0 _).set (hni.set 0 _ rfl) 1 _⟩ ((HZ.out.setCell (by simp <;> omega) _).setCell (by simp <;> omega) _)

end Go.Proofs.YtnfehccicnpbpaaGreatDoor

namespace Go.Proofs.YtnfehccicnpbpaaGreatDoor
open Go Go.RowKit

theorem val_set (B : Nat) (D : List Nat) (j z : Nat) (h : j < D.length) : val B (D.set j z) + B ^ j * D.getD j 0 = val B D + B ^ j * z := by
  have h1 : D.set j z = D.take j ++ z :: D.drop (j + 1) := List.set_eq_take_append_cons_drop (l := D) (i := j) (a := z) ▸ by simp [h]
  have h2 : D = D.take j ++ D[j] :: D.drop (j + 1) := by rw [← List.drop_eq_getElem_cons h, List.take_append_drop]
  have e1 : val B (D.set j z) = val B (D.take j) + B ^ j * (z + B * val B (D.drop (j + 1))) := by
    rw [h1, val_append, List.length_take, Nat.min_eq_left (by omega)]; rfl
  have e2 : val B D = val B (D.take j) + B ^ j * (D[j] + B * val B (D.drop (j + 1))) := by
    conv => lhs; rw [h2]
    rw [val_append, List.length_take, Nat.min_eq_left (by omega)]; rfl
  rw [e1, e2, getD_eq h, Nat.mul_add, Nat.mul_add]
  omega

theorem mul_step (B : Nat) (D ys : List Nat) (cy x y k i T : Nat) (hl : i + k < D.length) (hy : val B (ys.drop k) = y + B * val B (ys.drop (k + 1)))
    (h : val B D + B ^ (i + k) * (cy + x * val B (ys.drop k)) = T) :
    val B (D.set (i + k) ((cy + D.getD (i + k) 0 + x * y) % B)) + B ^ (i + (k + 1)) * ((cy + D.getD (i + k) 0 + x * y) / B + x * val B (ys.drop (k + 1))) = T := by
  have hs := val_set B D (i + k) ((cy + D.getD (i + k) 0 + x * y) % B) hl
  have hd := Nat.div_add_mod (cy + D.getD (i + k) 0 + x * y) B
  obtain ⟨q, hq⟩ : ∃ q, q = (cy + D.getD (i + k) 0 + x * y) / B := ⟨_, rfl⟩
  obtain ⟨r, hr⟩ : ∃ r, r = (cy + D.getD (i + k) 0 + x * y) % B := ⟨_, rfl⟩
  rw [← hq, ← hr] at hd
  rw [← hr] at hs
  rw [← hq, ← hr]
  have hd2 : B ^ (i + k) * (B * q + r) = B ^ (i + k) * (cy + D.getD (i + k) 0 + x * y) := by rw [hd]
  rw [hy] at h
  have e : B ^ (i + (k + 1)) = B ^ (i + k) * B := by rw [← Nat.add_assoc, Nat.pow_succ]
  have e2 : x * (B * val B (ys.drop (k + 1))) = B * (x * val B (ys.drop (k + 1))) := by rw [← Nat.mul_assoc, Nat.mul_comm x B, Nat.mul_assoc]
  rw [e, Nat.mul_assoc]
  simp only [Nat.mul_add, e2] at h hd2 ⊢
  generalize B ^ (i + k) * (B * (x * val B (ys.drop (k + 1)))) = p1 at *
  generalize B ^ (i + k) * (B * q) = p2 at *
  generalize B ^ (i + k) * (x * y) = p3 at *
  generalize B ^ (i + k) * cy = p4 at *
  generalize B ^ (i + k) * r = p5 at *
  generalize B ^ (i + k) * D.getD (i + k) 0 = p6 at *
  omega

theorem mul_sign (a b : Int) : a * b = if (decide (a < 0) != decide (b < 0)) = true then -((a.natAbs * b.natAbs : Nat) : Int) else ((a.natAbs * b.natAbs : Nat) : Int) := by
  have e1 : a = if a < 0 then -(a.natAbs : Int) else (a.natAbs : Int) := by split <;> omega
  have e2 : b = if b < 0 then -(b.natAbs : Int) else (b.natAbs : Int) := by split <;> omega
  by_cases h1 : a < 0 <;> by_cases h2 : b < 0
  · rw [if_pos h1] at e1; rw [if_pos h2] at e2; simp [h1, h2]; conv => lhs; rw [e1, e2, Int.neg_mul_neg]
  · rw [if_pos h1] at e1; rw [if_neg h2] at e2; simp [h1, h2]; conv => lhs; rw [e1, e2, Int.neg_mul]
  · rw [if_neg h1] at e1; rw [if_pos h2] at e2; simp [h1, h2]; conv => lhs; rw [e1, e2, Int.mul_neg]
  · rw [if_neg h1] at e1; rw [if_neg h2] at e2; simp [h1, h2]; conv => lhs; rw [e1, e2]

theorem set_lt {B : Nat} (D : List Nat) (j z : Nat) (h : ∀ d ∈ D, d < B) (hz : z < B) : ∀ d ∈ D.set j z, d < B := by
  intro d hd
  rcases List.mem_or_eq_of_mem_set hd with h1 | h1
  · exact h d h1
  · rw [h1]; exact hz

/-- what holds at the head of the outer loop of the product -/
def MulOut (w : World) (xs ys : List Nat) (na nb : Nat) (u0 v0 u1 v1 u2 v2 : Value) (i : Value) (wr : World) : Prop :=
  ∃ (D : List Nat) (k : Nat), i = .int .i64 k ∧ k ≤ na ∧ D.length = na + nb + 1 ∧ (∀ x ∈ D, x < 10000) ∧ val 10000 D = val 10000 (xs.take k) * val 10000 ys ∧
    Arr .i64 2 wr (w.heap.size + 3) D ∧ Below w.heap.size w wr ∧
    Box2 wr w.heap.size u0 v0 114 ∧ Box2 wr (w.heap.size + 1) u1 v1 114 ∧ Box2 wr (w.heap.size + 2) u2 v2 114

/-- what holds at the head of the inner loop -/
def MulIn (w : World) (ys : List Nat) (na nb i x T : Nat) (u0 v0 u1 v1 u2 v2 : Value) (c q : Value) (wr : World) : Prop :=
  ∃ (D : List Nat) (cy k : Nat), c = .int .i64 cy ∧ q = .int .i64 k ∧ cy < 10000 ∧ k ≤ nb + 1 ∧ (k = nb + 1 → cy = 0) ∧ D.length = na + nb + 1 ∧ (∀ x ∈ D, x < 10000) ∧
    val 10000 D + 10000 ^ (i + k) * (cy + x * val 10000 (ys.drop k)) = T ∧
    Arr .i64 2 wr (w.heap.size + 3) D ∧ Below w.heap.size w wr ∧
    Box2 wr w.heap.size u0 v0 114 ∧ Box2 wr (w.heap.size + 1) u1 v1 114 ∧ Box2 wr (w.heap.size + 2) u2 v2 114

theorem Box2.setOther {w : World} {b : Nat} {u v : Value} {t : TypeId} (h : Box2 w b u v t) {g : Nat} (hg : b ≠ g) (i : Nat) (x : Value) : Box2 (w.setCell ⟨g, i, none⟩ x) b u v t := by
  unfold Box2 at *; rw [Below.heap_setCell _ _ _ _ hg]; exact h

theorem mul_rel (w wr : World) (ys D : List Nat) (na nb i x T cy k y dv n : Nat) (u0 v0 u1 v1 u2 v2 : Value) (zc zk z : Int)
    (hxl : x < 10000) (hyl : y < 10000) (hcy : cy < 10000) (hk : k ≤ nb) (hi : i < na) (hdl : D.length = na + nb + 1) (hd : ∀ x ∈ D, x < 10000) (hdv : dv = D.getD (i + k) 0)
    (hys : ys.length = nb) (hdy : val 10000 (ys.drop k) = y + 10000 * val 10000 (ys.drop (k + 1)))
    (hval : val 10000 D + 10000 ^ (i + k) * (cy + x * val 10000 (ys.drop k)) = T) (hT : T < 10000 ^ (i + 1 + nb))
    (hzc : zc = (((cy + dv + x * y) / 10000 : Nat) : Int)) (hzk : zk = ((k + 1 : Nat) : Int)) (hz : z = (((cy + dv + x * y) % 10000 : Nat) : Int))
    (harr : Arr .i64 2 wr (w.heap.size + 3) D) (hbel : Below w.heap.size w wr)
    (h0 : Box2 wr w.heap.size u0 v0 114) (h1 : Box2 wr (w.heap.size + 1) u1 v1 114) (h2 : Box2 wr (w.heap.size + 2) u2 v2 114) :
    MulIn w ys na nb i x T u0 v0 u1 v1 u2 v2 (.int .i64 zc) (.int .i64 zk) ((wr.drewN n).setCell ⟨w.heap.size + 3, i + k, none⟩ (.int .i64 z)) := by
  subst hzc hzk hdv
  have hst := mul_step 10000 D ys cy x y k i T (by omega) hdy hval
  have hdvl : D.getD (i + k) 0 < 10000 := getD_lt (by omega) D hd _
  have hxy : x * y ≤ 9999 * 9999 := Nat.mul_le_mul (by omega) (by omega)
  refine ⟨D.set (i + k) ((cy + D.getD (i + k) 0 + x * y) % 10000), (cy + D.getD (i + k) 0 + x * y) / 10000, k + 1, rfl, rfl, by omega, by omega, fun h => ?_, by simp [hdl], set_lt D _ _ hd (by omega), hst, (harr.drewN n).setz _ _ z hz, (below_draws hbel n).setCell (by simp) _, (h0.drewN n).setOther (by omega) _ _, (h1.drewN n).setOther (by omega) _ _, (h2.drewN n).setOther (by omega) _ _⟩
  obtain rfl : k = nb := by omega
  rcases Nat.eq_zero_or_pos ((cy + D.getD (i + k) 0 + x * y) / 10000) with h0 | h0
  · exact h0
  · exfalso
    have e : i + (k + 1) = i + 1 + k := by omega
    rw [e] at hst
    have : 10000 ^ (i + 1 + k) * 1 ≤ 10000 ^ (i + 1 + k) * ((cy + D.getD (i + k) 0 + x * y) / 10000 + x * val 10000 (ys.drop (k + 1))) := Nat.mul_le_mul_left _ (by omega)
    omega

end Go.Proofs.YtnfehccicnpbpaaGreatDoor
