/- Plain mathematics of digit lists: digits to a base, values, canonical lists. Nothing of a program is named here. -/
namespace Go.Proofs.YtjpbmagpieonoaaDoor

/-- the digits of a number to a base, from the least one on -/
def dig (B : Nat) (n : Nat) : List Nat := if _h : n = 0 ∨ B < 2 then [] else n % B :: dig B (n / B)
termination_by n
decreasing_by exact Nat.div_lt_self (by omega) (by omega)

/-- the value of a list of digits, from the least one on -/
def val (B : Nat) : List Nat → Nat
  | [] => 0
  | d :: ds => d + B * val B ds

/-- how many digits are left when the zeros at the end are dropped -/
def cutLen (xs : List Nat) : Nat → Nat
  | 0 => 0
  | n + 1 => if xs.getD n 0 = 0 then cutLen xs n else n + 1

theorem dig_zero (B : Nat) : dig B 0 = [] := by rw [dig]; simp
theorem dig_pos {B n : Nat} (hB : 2 ≤ B) (hn : n ≠ 0) : dig B n = n % B :: dig B (n / B) := by rw [dig, dif_neg (by omega)]
theorem dig_small {B n : Nat} (hn : n ≠ 0) (h : n < B) : dig B n = [n] := by
  rw [dig_pos (by omega) hn, Nat.mod_eq_of_lt h, Nat.div_eq_of_lt h, dig_zero]

theorem val_dig {B : Nat} (hB : 2 ≤ B) (n : Nat) : val B (dig B n) = n := by
  induction n using Nat.strongRecOn with
  | _ n ih =>
    by_cases hn : n = 0
    · subst hn; rw [dig_zero]; rfl
    · rw [dig_pos hB hn, val, ih (n / B) (Nat.div_lt_self (by omega) (by omega))]
      exact Nat.mod_add_div n B

theorem dig_lt {B : Nat} (hB : 2 ≤ B) (n : Nat) : ∀ d ∈ dig B n, d < B := by
  induction n using Nat.strongRecOn with
  | _ n ih =>
    by_cases hn : n = 0
    · subst hn; rw [dig_zero]; intro d h; cases h
    · rw [dig_pos hB hn]
      intro d h
      rcases List.mem_cons.1 h with h | h
      · rw [h]; exact Nat.mod_lt _ (by omega)
      · exact ih (n / B) (Nat.div_lt_self (by omega) (by omega)) d h

theorem dig_eq_nil {B n : Nat} (hB : 2 ≤ B) : dig B n = [] ↔ n = 0 := by
  constructor
  · intro h
    by_cases hn : n = 0
    · exact hn
    · rw [dig_pos hB hn] at h; cases h
  · intro h; rw [h, dig_zero]

theorem val_append (B : Nat) (xs ys : List Nat) : val B (xs ++ ys) = val B xs + B ^ xs.length * val B ys := by
  induction xs with
  | nil => simp [val]
  | cons x xs ih => simp only [List.cons_append, val, ih, List.length_cons, Nat.pow_succ, Nat.mul_add]; rw [Nat.mul_comm (B ^ xs.length) B, Nat.mul_assoc, Nat.add_assoc]

theorem val_lt {B : Nat} (xs : List Nat) (h : ∀ d ∈ xs, d < B) : val B xs < B ^ xs.length := by
  induction xs with
  | nil => simp [val]
  | cons x xs ih =>
    have hx : x < B := h x (by simp)
    have := ih (fun d hd => h d (by simp [hd]))
    have hm : B * (val B xs + 1) ≤ B * B ^ xs.length := Nat.mul_le_mul_left B this
    simp only [val, List.length_cons, Nat.pow_succ]
    rw [Nat.mul_comm (B ^ xs.length) B]
    rw [Nat.mul_add] at hm
    omega

theorem val_cons_pos {B : Nat} (x : Nat) (xs : List Nat) : val B (x :: xs) = x + B * val B xs := rfl

/-- a list of digits without a zero at its end is the list of the digits of its value -/
theorem dig_val {B : Nat} (hB : 2 ≤ B) (xs : List Nat) (h : ∀ d ∈ xs, d < B) (hl : xs.getLast? ≠ some 0) : dig B (val B xs) = xs := by
  induction xs with
  | nil => simp [val, dig_zero]
  | cons x xs ih =>
    have hx : x < B := h x (by simp)
    have hxs : ∀ d ∈ xs, d < B := fun d hd => h d (by simp [hd])
    cases xs with
    | nil =>
      have : x ≠ 0 := by intro e; subst e; simp at hl
      simp only [val, Nat.mul_zero, Nat.add_zero]
      exact dig_small this hx
    | cons y ys =>
      have ih' := ih hxs (by simpa [List.getLast?_cons_cons] using hl)
      have hne : val B (y :: ys) ≠ 0 := by
        intro e; rw [e, dig_zero] at ih'; cases ih'
      have hmul : B * 1 ≤ B * val B (y :: ys) := Nat.mul_le_mul_left B (by omega)
      rw [val_cons_pos, dig_pos hB (by omega), Nat.add_mul_mod_self_left, Nat.mod_eq_of_lt hx, Nat.add_mul_div_left _ _ (by omega), Nat.div_eq_of_lt hx, Nat.zero_add, ih']

theorem cutLen_le (xs : List Nat) (n : Nat) : cutLen xs n ≤ n := by
  induction n with
  | zero => simp [cutLen]
  | succ n ih => simp only [cutLen]; split <;> omega

theorem val_take_cut {B : Nat} (xs : List Nat) (n : Nat) : n ≤ xs.length → val B (xs.take (cutLen xs n)) = val B (xs.take n) := by
  induction n with
  | zero => intro _; simp [cutLen]
  | succ n ih =>
    intro hn
    simp only [cutLen]
    split
    · rename_i hz
      rw [ih (by omega), List.take_succ_eq_append_getElem (by omega : n < xs.length), val_append]
      have : xs[n] = 0 := by simpa [List.getD, List.getElem?_eq_getElem (by omega : n < xs.length)] using hz
      rw [this]; simp [val]
    · rfl

theorem getLast_cut (xs : List Nat) (n : Nat) : n ≤ xs.length → (xs.take (cutLen xs n)).getLast? ≠ some 0 := by
  induction n with
  | zero => intro _; simp [cutLen]
  | succ n ih =>
    intro hn
    simp only [cutLen]
    split
    · exact ih (by omega)
    · rename_i hz
      rw [List.take_succ_eq_append_getElem (by omega : n < xs.length)]
      simp only [List.getLast?_append, List.getLast?_singleton, Option.some_or]
      intro e
      apply hz
      simp [List.getD, List.getElem?_eq_getElem (by omega : n < xs.length)]
      simpa using e

/-- dropping the zeros at the end gives the digits of the value -/
theorem take_cut {B : Nat} (hB : 2 ≤ B) (xs : List Nat) (h : ∀ d ∈ xs, d < B) : xs.take (cutLen xs xs.length) = dig B (val B xs) := by
  have h1 := val_take_cut (B := B) xs xs.length (Nat.le_refl _)
  rw [List.take_length] at h1
  rw [← h1, dig_val hB _ (fun d hd => h d (List.mem_of_mem_take hd)) (getLast_cut xs _ (Nat.le_refl _))]

theorem cutLen_eq {B : Nat} (hB : 2 ≤ B) (xs : List Nat) (h : ∀ d ∈ xs, d < B) : cutLen xs xs.length = (dig B (val B xs)).length := by
  rw [← take_cut hB xs h, List.length_take]; have := cutLen_le xs xs.length; omega

theorem dig_length_le {B : Nat} (hB : 2 ≤ B) (k : Nat) : ∀ n, n < B ^ k → (dig B n).length ≤ k := by
  induction k with
  | zero => intro n hn; simp at hn; subst hn; simp [dig_zero]
  | succ k ih =>
    intro n hn
    by_cases h0 : n = 0
    · subst h0; simp [dig_zero]
    · rw [dig_pos hB h0, List.length_cons]
      have : n / B < B ^ k := by
        rw [Nat.div_lt_iff_lt_mul (by omega)]; rw [Nat.pow_succ] at hn; exact hn
      have := ih _ this
      omega

theorem lt_pow_dig {B : Nat} (hB : 2 ≤ B) (n : Nat) : n < B ^ (dig B n).length := by
  have h := val_lt (dig B n) (dig_lt hB n)
  rwa [val_dig hB] at h

/-- with a base of at least 10, a number less than a power of 10 has at most so many digits -/
theorem dig_length_ten {B : Nat} (hB : 10 ≤ B) {n e : Nat} (h : n < 10 ^ e) : (dig B n).length ≤ e :=
  dig_length_le (by omega) e n (Nat.lt_of_lt_of_le h (Nat.pow_le_pow_left hB e))

theorem dig_getD_lt {B : Nat} (hB : 2 ≤ B) (n i : Nat) : (dig B n).getD i 0 < B := by
  by_cases h : i < (dig B n).length
  · simp only [List.getD, List.getElem?_eq_getElem h, Option.getD_some]
    exact dig_lt hB n _ (List.getElem_mem h)
  · simp only [List.getD, List.getElem?_eq_none (by omega : (dig B n).length ≤ i), Option.getD_none]; omega

theorem tmod_neg_nat (a : Nat) : (-(a : Int)).tmod 10000 = -((a % 10000 : Nat) : Int) := by rw [Int.neg_tmod]; rfl
theorem tdiv_neg_nat (a : Nat) : (-(a : Int)).tdiv 10000 = -((a / 10000 : Nat) : Int) := by rw [Int.neg_tdiv]; rfl

theorem val_take_drop (B : Nat) (xs : List Nat) (k : Nat) (h : k ≤ xs.length) : val B xs = val B (xs.take k) + B ^ k * val B (xs.drop k) := by
  have := val_append B (xs.take k) (xs.drop k)
  rw [List.take_append_drop, List.length_take, Nat.min_eq_left h] at this
  exact this

theorem getD_eq {xs : List Nat} {k : Nat} (h : k < xs.length) : xs.getD k 0 = xs[k] := by simp [List.getD, List.getElem?_eq_getElem h]

theorem val_drop (B : Nat) (xs : List Nat) (k : Nat) (h : k < xs.length) : val B (xs.drop k) = xs.getD k 0 + B * val B (xs.drop (k + 1)) := by
  rw [getD_eq h, List.drop_eq_getElem_cons h]; rfl

theorem val_drop_all (B : Nat) (xs : List Nat) (k : Nat) (h : xs.length ≤ k) : val B (xs.drop k) = 0 := by
  rw [List.drop_eq_nil_of_le h]; rfl

theorem val_snoc (B : Nat) (xs : List Nat) (x : Nat) : val B (xs ++ [x]) = val B xs + B ^ xs.length * x := by
  rw [val_append]; simp [val]

theorem getD_lt {B : Nat} (hB : 0 < B) (xs : List Nat) (h : ∀ d ∈ xs, d < B) (k : Nat) : xs.getD k 0 < B := by
  by_cases hk : k < xs.length
  · rw [getD_eq hk]; exact h _ (List.getElem_mem hk)
  · simp only [List.getD, List.getElem?_eq_none (by omega : xs.length ≤ k), Option.getD_none]; exact hB

/-- the first digit from above at which two numbers of as many digits differ decides -/
theorem val_lt_at {B : Nat} (xs ys : List Nat) (hx : ∀ d ∈ xs, d < B) (i : Nat) (hi : i < xs.length) (hj : i < ys.length)
    (hd : xs.drop (i + 1) = ys.drop (i + 1)) (h : xs.getD i 0 < ys.getD i 0) : val B xs < val B ys := by
  rw [val_take_drop B xs i (by omega), val_take_drop B ys i (by omega), val_drop B xs i hi, val_drop B ys i hj, hd]
  have h1 := val_lt (B := B) (xs.take i) (fun d hd => hx d (List.mem_of_mem_take hd))
  rw [List.length_take, Nat.min_eq_left (by omega)] at h1
  have h2 : B ^ i * (xs.getD i 0 + B * val B (ys.drop (i + 1)) + 1) ≤ B ^ i * (ys.getD i 0 + B * val B (ys.drop (i + 1))) := Nat.mul_le_mul_left _ (by omega)
  rw [Nat.mul_add, Nat.mul_one] at h2
  omega

/-- a number with fewer digits is less -/
theorem lt_of_dig_length {B : Nat} (hB : 2 ≤ B) (a b : Nat) (h : (dig B a).length < (dig B b).length) : a < b := by
  rcases Nat.lt_or_ge a b with h1 | h1
  · exact h1
  · exfalso
    have := lt_pow_dig hB a
    have := dig_length_le hB _ b (Nat.lt_of_le_of_lt h1 this)
    omega

/-- -1, 0 or 1 -/
def cmpN (a b : Nat) : Int := if a < b then -1 else if b < a then 1 else 0

end Go.Proofs.YtjpbmagpieonoaaDoor
