/- Contracts of functions of the program and of the model: FarM, Num, Kit, Arr, Limb, Shelf, W64, Half, Div64, ModT, Cut, Zof. -/
import Derived.WalkKit
import Derived.WalkSpells
import Derived.Lib.Hide
import Derived.WalkSmall
import Derived.Deep.QuietTactic
import Derived.BigQuiet
import Derived.Shelf.Strings.Builder1
import Derived.Shelf.Strings.Builder2
import Derived.Shelf.Small.Bits
import Derived.Shelf.Small.Wraps
import Derived.Shelf.Strings.BuilderF
import Derived.Shelf.Strings.BuilderK
import Derived.Shelf.Strings.Builder2Cap
import Derived.Shelf.Strconv.Itoa0
import Derived.Shelf.Strconv.Itoa1
import Derived.Shelf.LaysM
import Derived.Shelf.Strconv.Itoa2
import Derived.Shelf.Strings.Prefix
import Derived.Shelf.Bits.Mul64
import Derived.Shelf.Strings.Repeat
import Derived.Shelf.Strings.BuilderCap
import Derived.Ground.Names2Prog
import Derived.Shelf.Slices.SearchI
import Derived.Ground.SlgnProg
import Derived.Shelf.SlicesE.Clone
import Derived.Test.YtnfehccicnpbpaaGreatDoorProg
import Derived.Laws.Externs
import Derived.Shelf.Spec.BitsCarry
import Derived.Deep.CutBlock
import Derived.Deep.DeepCutAuto
set_option linter.all false
set_option linter.unusedVariables false
set_option linter.unusedSimpArgs false
set_option linter.unnecessarySimpa false
set_option linter.deprecated false
namespace Go.Proofs.YtnfehccicnpbpaaGreatDoor

/-- the first j coefficients, each times a term, from the last one of a state on -/
def fsum (cs st : List Nat) : Nat → Nat
  | 0 => 0
  | j + 1 => fsum cs st j + cs.getD j 0 * st.getD (st.length - 1 - j) 0

/-- the state behind a state -/
def nxt (m : Nat) (cs st : List Nat) : List Nat := if cs.length = 0 then [] else st.tail ++ [fsum cs st cs.length % m]

/-- the state at an index -/
def sta (m : Nat) (cs ss : List Nat) : Nat → List Nat
  | 0 => ss
  | n + 1 => nxt m cs (sta m cs ss n)

/-- the residue of a term -/
def trm (m : Nat) (cs ss : List Nat) (n : Nat) : Nat := (sta m cs ss n).getD 0 0

theorem sta_len {m : Nat} {cs ss : List Nat} (h : ss.length = cs.length) : ∀ n, (sta m cs ss n).length = cs.length
  | 0 => h
  | n + 1 => by
    have ih := sta_len (m := m) h n
    rw [sta, nxt]
    split
    · rename_i h0; rw [h0]; rfl
    · rw [List.length_append, List.length_tail, ih]; simp; omega

theorem sta_lt {m : Nat} {cs ss : List Nat} (hm : 0 < m) (h : ∀ x ∈ ss, x < m) : ∀ n, ∀ x ∈ sta m cs ss n, x < m
  | 0 => h
  | n + 1 => by
    have ih := sta_lt (cs := cs) hm h n
    intro x hx
    rw [sta, nxt] at hx
    split at hx
    · cases hx
    · rcases List.mem_append.1 hx with hx | hx
      · exact ih x (List.mem_of_mem_tail hx)
      · rw [List.mem_singleton.1 hx]; exact Nat.mod_lt _ hm

theorem getD_lt_of {m : Nat} (hm : 0 < m) {xs : List Nat} (h : ∀ x ∈ xs, x < m) (i : Nat) : xs.getD i 0 < m := by
  rcases Nat.lt_or_ge i xs.length with hi | hi
  · simp only [List.getD, List.getElem?_eq_getElem hi, Option.getD_some]; exact h _ (List.getElem_mem hi)
  · simp only [List.getD, List.getElem?_eq_none hi, Option.getD_none]; exact hm

theorem trm_lt {m : Nat} {cs ss : List Nat} (hm : 0 < m) (h : ∀ x ∈ ss, x < m) (n : Nat) : trm m cs ss n < m :=
  getD_lt_of hm (sta_lt hm h n) 0

theorem tail_getD (xs : List Nat) (i : Nat) : xs.tail.getD i 0 = xs.getD (i + 1) 0 := by cases xs <;> simp [List.getD]

/-- a state is made of the terms from its index on -/
theorem sta_at {m : Nat} {cs ss : List Nat} (h : ss.length = cs.length) : ∀ i n, i < cs.length → (sta m cs ss n).getD i 0 = trm m cs ss (n + i)
  | 0, n, _ => rfl
  | i + 1, n, hi => by
    have ih := sta_at (m := m) h i (n + 1) (by omega)
    rw [show n + (i + 1) = n + 1 + i by omega, ← ih, sta, nxt, if_neg (by omega)]
    have hl := sta_len (m := m) h n
    rw [List.getD_eq_getElem?_getD, List.getD_eq_getElem?_getD, List.getElem?_append_left (by rw [List.length_tail, hl]; omega)]
    rw [← List.getD_eq_getElem?_getD, ← List.getD_eq_getElem?_getD, tail_getD]

/-- the first j coefficients, each times a term before an index -/
def csum (cs : List Nat) (u : Nat → Nat) (t : Nat) : Nat → Nat
  | 0 => 0
  | j + 1 => csum cs u t j + cs.getD j 0 * u (t - 1 - j)

theorem fsum_csum {m : Nat} {cs ss : List Nat} (h : ss.length = cs.length) (n : Nat) : ∀ j, j ≤ cs.length → fsum cs (sta m cs ss n) j = csum cs (trm m cs ss) (n + cs.length) j
  | 0, _ => rfl
  | j + 1, hj => by
    rw [fsum, csum, fsum_csum h n j (by omega), sta_len h, sta_at h _ _ (by omega)]
    congr 3
    omega

/-- the recurrence -/
theorem trm_rec {m : Nat} {cs ss : List Nat} (h : ss.length = cs.length) (h0 : 0 < cs.length) (n : Nat) : trm m cs ss (n + cs.length) = csum cs (trm m cs ss) (n + cs.length) cs.length % m := by
  have h1 := sta_at (m := m) h (cs.length - 1) (n + 1) (by omega)
  rw [show n + 1 + (cs.length - 1) = n + cs.length by omega] at h1
  rw [← h1, sta, nxt, if_neg (by omega), ← fsum_csum h n _ (Nat.le_refl _)]
  have hl := sta_len (m := m) h n
  rw [List.getD_eq_getElem?_getD, List.getElem?_append_right (by rw [List.length_tail, hl]; omega), List.length_tail, hl, Nat.sub_self]
  rfl

theorem trm_nil (m n : Nat) : trm m [] [] n = 0 := by
  cases n with
  | zero => rfl
  | succ n => unfold trm; rw [sta, nxt]; rfl

/-- what a list of factors makes of the terms from an index on: the first n of them -/
def lin (P : List Nat) (u : Nat → Nat) (s : Nat) : Nat → Nat
  | 0 => 0
  | n + 1 => lin P u s n + P.getD n 0 * u (s + n)

theorem getD_setN (P : List Nat) {i j : Nat} (z : Nat) (h : i ≠ j) : (P.set i z).getD j 0 = P.getD j 0 := by
  rw [List.getD_eq_getElem?_getD, List.getD_eq_getElem?_getD, List.getElem?_set_ne h]
theorem getD_setE (P : List Nat) {i : Nat} (z : Nat) (h : i < P.length) : (P.set i z).getD i 0 = z := by
  rw [List.getD_eq_getElem?_getD, List.getElem?_set_self h]; rfl

theorem lin_set_out (P : List Nat) (u : Nat → Nat) (s j z : Nat) : ∀ n, n ≤ j → lin (P.set j z) u s n = lin P u s n
  | 0, _ => rfl
  | n + 1, h => by rw [lin, lin, lin_set_out P u s j z n (by omega), getD_setN P z (by omega)]

theorem lin_set (P : List Nat) (u : Nat → Nat) (s j z : Nat) (hj : j < P.length) : ∀ n, j < n → lin (P.set j z) u s n + P.getD j 0 * u (s + j) = lin P u s n + z * u (s + j)
  | 0, h => by omega
  | n + 1, h => by
    rw [lin, lin]
    by_cases he : j = n
    · subst he
      rw [lin_set_out P u s j z j (Nat.le_refl _), getD_setE P z hj]
      omega
    · have ih := lin_set P u s j z hj n (by omega)
      rw [getD_setN P z he]
      omega

/-- a coefficient is replaced by the remainder of itself and more -/
theorem lin_add (m : Nat) (P : List Nat) (u : Nat → Nat) (s j a : Nat) (hj : j < P.length) (n : Nat) (h : j < n) : lin (P.set j ((P.getD j 0 + a) % m)) u s n % m = (lin P u s n + a * u (s + j)) % m := by
  have h1 := lin_set P u s j ((P.getD j 0 + a) % m) hj n h
  obtain ⟨q, hq⟩ : ∃ q, P.getD j 0 + a = m * q + (P.getD j 0 + a) % m := ⟨_, (Nat.div_add_mod _ _).symm⟩
  have h2 : (P.getD j 0 + a) * u (s + j) = (m * q + (P.getD j 0 + a) % m) * u (s + j) := by rw [← hq]
  rw [Nat.add_mul, Nat.add_mul] at h2
  obtain ⟨X, hX⟩ : ∃ X, X = lin (P.set j ((P.getD j 0 + a) % m)) u s n := ⟨_, rfl⟩
  obtain ⟨Y, hY⟩ : ∃ Y, Y = lin P u s n := ⟨_, rfl⟩
  obtain ⟨c, hc⟩ : ∃ c, c = P.getD j 0 * u (s + j) := ⟨_, rfl⟩
  obtain ⟨d, hd⟩ : ∃ d, d = a * u (s + j) := ⟨_, rfl⟩
  obtain ⟨e, he⟩ : ∃ e, e = (P.getD j 0 + a) % m * u (s + j) := ⟨_, rfl⟩
  rw [← hX, ← hY, ← hc, ← he] at h1
  rw [← hc, ← hd, ← he, Nat.mul_assoc] at h2
  rw [← hX, ← hY, ← hd]
  have h3 : Y + d = X + m * (q * u (s + j)) := by omega
  rw [h3, Nat.add_mul_mod_self_left]

theorem lin_zero (u : Nat → Nat) (s k : Nat) : ∀ n, lin (List.replicate k 0) u s n = 0
  | 0 => rfl
  | n + 1 => by
    rw [lin, lin_zero u s k n]
    rcases Nat.lt_or_ge n k with h | h
    · simp [List.getD_eq_getElem?_getD, h]
    · simp [List.getD_eq_getElem?_getD, Nat.not_lt.2 h]

theorem lin_take (P : List Nat) (u : Nat → Nat) (s k : Nat) : ∀ n, n ≤ k → lin (P.take k) u s n = lin P u s n
  | 0, _ => rfl
  | n + 1, h => by
    rw [lin, lin, lin_take P u s k n (by omega)]
    congr 2
    rw [List.getD_eq_getElem?_getD, List.getD_eq_getElem?_getD, List.getElem?_take_of_lt (by omega)]

/-- modulo m, a list of factors makes the term that lies so far behind -/
def Rp (m : Nat) (u : Nat → Nat) (k : Nat) (P : List Nat) (n : Nat) : Prop := ∀ s, lin P u s k % m = u (s + n) % m

theorem lin_one (u : Nat → Nat) (s k : Nat) (P : List Nat) (j : Nat) (h1 : P.getD j 0 = 1) (h2 : ∀ i, i ≠ j → P.getD i 0 = 0) : ∀ n, lin P u s n = if j < n then u (s + j) else 0
  | 0 => by rw [if_neg (by omega)]; rfl
  | n + 1 => by
    rw [lin, lin_one u s k P j h1 h2 n]
    by_cases he : n = j
    · subst he
      rw [if_neg (by omega), if_pos (by omega), h1]; omega
    · rw [h2 n he]
      by_cases hj : j < n
      · rw [if_pos hj, if_pos (by omega)]; omega
      · rw [if_neg hj, if_neg (by omega), Nat.zero_mul]

/-- the list 0 .. 0 1 0 .. stands for the term at the place of the 1 -/
theorem rp_one (m : Nat) (u : Nat → Nat) (k : Nat) (P : List Nat) (j : Nat) (hj : j < k) (h1 : P.getD j 0 = 1) (h2 : ∀ i, i ≠ j → P.getD i 0 = 0) : Rp m u k P j := by
  intro s
  rw [lin_one u s k P j h1 h2 k, if_pos hj]

theorem unit_getD (k j : Nat) (hj : j < k) : ((List.replicate k 0).set j 1).getD j 0 = 1 ∧ ∀ i, i ≠ j → ((List.replicate k 0).set j 1).getD i 0 = 0 := by
  constructor
  · exact getD_setE _ _ (by simp; exact hj)
  · intro i hi
    rw [getD_setN _ _ (fun e => hi e.symm)]
    rcases Nat.lt_or_ge i k with h | h
    · simp [List.getD_eq_getElem?_getD, h]
    · simp [List.getD_eq_getElem?_getD, Nat.not_lt.2 h]

/-- one term of the product of two lists of factors -/
def pr2 (A B : List Nat) (u : Nat → Nat) (k s : Nat) : Nat → Nat
  | 0 => 0
  | i + 1 => pr2 A B u k s i + A.getD i 0 * lin B u (s + i) k

theorem rp_mul {m : Nat} {u : Nat → Nat} {k b : Nat} {A B : List Nat} (hB : Rp m u k B b) (s : Nat) : ∀ n, pr2 A B u k s n % m = lin A u (s + b) n % m
  | 0 => rfl
  | n + 1 => by
    rw [pr2, lin, Nat.add_mod, rp_mul hB s n, Nat.mul_mod, hB (s + n), ← Nat.mul_mod, ← Nat.add_mod]
    congr 4
    omega

/-- the product of two lists of factors, with a shift -/
theorem rp_prod {m : Nat} {u : Nat → Nat} {k a b : Nat} {A B : List Nat} (hA : Rp m u k A a) (hB : Rp m u k B b) (s r : Nat) : pr2 A B u k (s + r) k % m = u (s + (a + b + r)) % m := by
  rw [rp_mul hB (s + r) k, hA (s + r + b)]
  congr 2
  omega

/-- the recurrence at the top of a list of factors -/
theorem rp_top {m : Nat} {cs ss : List Nat} (h : ss.length = cs.length) (h0 : 0 < cs.length) (s top : Nat) (ht : cs.length ≤ top) : csum cs (trm m cs ss) (s + top) cs.length % m = trm m cs ss (s + top) % m := by
  have := trm_rec (m := m) h h0 (s + top - cs.length)
  rw [show s + top - cs.length + cs.length = s + top by omega] at this
  rw [this, Nat.mod_mod]

/-- one factor at the top is replaced by those below, as far as i coefficients -/
theorem red_step {m : Nat} {cs P Q : List Nat} {u : Nat → Nat} {top x i at' : Nat} (hi : i < top) (ha : at' = top - 1 - i) (hl : top < Q.length)
    (h : ∀ s, lin Q u s top % m = (lin P u s top + x * csum cs u (s + top) i) % m) :
    ∀ s, lin (Q.set at' ((Q.getD at' 0 + x * cs.getD i 0 % m) % m)) u s top % m = (lin P u s top + x * csum cs u (s + top) (i + 1)) % m := by
  intro s
  have e : (Q.getD at' 0 + x * cs.getD i 0 % m) % m = (Q.getD at' 0 + x * cs.getD i 0) % m := by rw [Nat.add_mod, Nat.mod_mod, ← Nat.add_mod]
  rw [e, lin_add m Q u s at' _ (by omega) top (by omega), Nat.add_mod, h s, ← Nat.add_mod, csum, Nat.mul_add]
  congr 1
  rw [Nat.add_assoc]
  congr 2
  rw [show s + at' = s + top - 1 - i by omega, Nat.mul_assoc]

theorem red_end {m : Nat} {cs P Q : List Nat} {u : Nat → Nat} {top : Nat} (hrec : ∀ s, csum cs u (s + top) cs.length % m = u (s + top) % m)
    (h : ∀ s, lin Q u s top % m = (lin P u s top + P.getD top 0 * csum cs u (s + top) cs.length) % m) : ∀ s, lin Q u s top % m = lin P u s (top + 1) % m := by
  intro s
  rw [h s, lin, Nat.add_mod, Nat.mul_mod, hrec s, ← Nat.mul_mod, ← Nat.add_mod]

theorem mod_of_add (m a b c : Nat) (h : a % m = b % m) : (a + c) % m = (b + c) % m := by rw [Nat.add_mod, h, ← Nat.add_mod]

end Go.Proofs.YtnfehccicnpbpaaGreatDoor

namespace Go.Proofs.YtnfehccicnpbpaaGreatDoor

/-- the digits of a number to a base, from the least one on -/
def dig (B : Nat) (n : Nat) : List Nat := if _h : n = 0 ∨ B < 2 then [] else n % B :: dig B (n / B)
termination_by n
decreasing_by exact Nat.div_lt_self (by omega) (by omega)

/-- the value of a list of digits, from the least one on -/
def val (B : Nat) : List Nat → Nat
  | [] => 0
  | d :: ds => d + B * val B ds

/-- how many digits are left when the zeros at the end are dropped -/
def cutLen (xs : List Nat) : Nat → Nat
  | 0 => 0
  | n + 1 => if xs.getD n 0 = 0 then cutLen xs n else n + 1

theorem dig_zero (B : Nat) : dig B 0 = [] := by rw [dig]; simp
theorem dig_pos {B n : Nat} (hB : 2 ≤ B) (hn : n ≠ 0) : dig B n = n % B :: dig B (n / B) := by rw [dig, dif_neg (by omega)]
theorem dig_small {B n : Nat} (hn : n ≠ 0) (h : n < B) : dig B n = [n] := by
  rw [dig_pos (by omega) hn, Nat.mod_eq_of_lt h, Nat.div_eq_of_lt h, dig_zero]

theorem val_dig {B : Nat} (hB : 2 ≤ B) (n : Nat) : val B (dig B n) = n := by
  induction n using Nat.strongRecOn with
  | _ n ih =>
    by_cases hn : n = 0
    · subst hn; rw [dig_zero]; rfl
    · rw [dig_pos hB hn, val, ih (n / B) (Nat.div_lt_self (by omega) (by omega))]
      exact Nat.mod_add_div n B

theorem dig_lt {B : Nat} (hB : 2 ≤ B) (n : Nat) : ∀ d ∈ dig B n, d < B := by
  induction n using Nat.strongRecOn with
  | _ n ih =>
    by_cases hn : n = 0
    · subst hn; rw [dig_zero]; intro d h; cases h
    · rw [dig_pos hB hn]
      intro d h
      rcases List.mem_cons.1 h with h | h
      · rw [h]; exact Nat.mod_lt _ (by omega)
      · exact ih (n / B) (Nat.div_lt_self (by omega) (by omega)) d h

theorem dig_eq_nil {B n : Nat} (hB : 2 ≤ B) : dig B n = [] ↔ n = 0 := by
  constructor
  · intro h
    by_cases hn : n = 0
    · exact hn
    · rw [dig_pos hB hn] at h; cases h
  · intro h; rw [h, dig_zero]

theorem val_append (B : Nat) (xs ys : List Nat) : val B (xs ++ ys) = val B xs + B ^ xs.length * val B ys := by
  induction xs with
  | nil => simp [val]
  | cons x xs ih => simp only [List.cons_append, val, ih, List.length_cons, Nat.pow_succ, Nat.mul_add]; rw [Nat.mul_comm (B ^ xs.length) B, Nat.mul_assoc, Nat.add_assoc]

theorem val_lt {B : Nat} (xs : List Nat) (h : ∀ d ∈ xs, d < B) : val B xs < B ^ xs.length := by
  induction xs with
  | nil => simp [val]
  | cons x xs ih =>
    have hx : x < B := h x (by simp)
    have := ih (fun d hd => h d (by simp [hd]))
    have hm : B * (val B xs + 1) ≤ B * B ^ xs.length := Nat.mul_le_mul_left B this
    simp only [val, List.length_cons, Nat.pow_succ]
    rw [Nat.mul_comm (B ^ xs.length) B]
    rw [Nat.mul_add] at hm
    omega

theorem val_cons_pos {B : Nat} (x : Nat) (xs : List Nat) : val B (x :: xs) = x + B * val B xs := rfl

/-- a list of digits without a zero at its end is the list of the digits of its value -/
theorem dig_val {B : Nat} (hB : 2 ≤ B) (xs : List Nat) (h : ∀ d ∈ xs, d < B) (hl : xs.getLast? ≠ some 0) : dig B (val B xs) = xs := by
  induction xs with
  | nil => simp [val, dig_zero]
  | cons x xs ih =>
    have hx : x < B := h x (by simp)
    have hxs : ∀ d ∈ xs, d < B := fun d hd => h d (by simp [hd])
    cases xs with
    | nil =>
      have : x ≠ 0 := by intro e; subst e; simp at hl
      simp only [val, Nat.mul_zero, Nat.add_zero]
      exact dig_small this hx
    | cons y ys =>
      have ih' := ih hxs (by simpa [List.getLast?_cons_cons] using hl)
      have hne : val B (y :: ys) ≠ 0 := by
        intro e; rw [e, dig_zero] at ih'; cases ih'
      have hmul : B * 1 ≤ B * val B (y :: ys) := Nat.mul_le_mul_left B (by omega)
      rw [val_cons_pos, dig_pos hB (by omega), Nat.add_mul_mod_self_left, Nat.mod_eq_of_lt hx, Nat.add_mul_div_left _ _ (by omega), Nat.div_eq_of_lt hx, Nat.zero_add, ih']

theorem cutLen_le (xs : List Nat) (n : Nat) : cutLen xs n ≤ n := by
  induction n with
  | zero => simp [cutLen]
  | succ n ih => simp only [cutLen]; split <;> omega

theorem val_take_cut {B : Nat} (xs : List Nat) (n : Nat) : n ≤ xs.length → val B (xs.take (cutLen xs n)) = val B (xs.take n) := by
  induction n with
  | zero => intro _; simp [cutLen]
  | succ n ih =>
    intro hn
    simp only [cutLen]
    split
    · rename_i hz
      rw [ih (by omega), List.take_succ_eq_append_getElem (by omega : n < xs.length), val_append]
      have : xs[n] = 0 := by simpa [List.getD, List.getElem?_eq_getElem (by omega : n < xs.length)] using hz
      rw [this]; simp [val]
    · rfl

theorem getLast_cut (xs : List Nat) (n : Nat) : n ≤ xs.length → (xs.take (cutLen xs n)).getLast? ≠ some 0 := by
  induction n with
  | zero => intro _; simp [cutLen]
  | succ n ih =>
    intro hn
    simp only [cutLen]
    split
    · exact ih (by omega)
    · rename_i hz
      rw [List.take_succ_eq_append_getElem (by omega : n < xs.length)]
      simp only [List.getLast?_append, List.getLast?_singleton, Option.some_or]
      intro e
      apply hz
      simp [List.getD, List.getElem?_eq_getElem (by omega : n < xs.length)]
      simpa using e

/-- dropping the zeros at the end gives the digits of the value -/
theorem take_cut {B : Nat} (hB : 2 ≤ B) (xs : List Nat) (h : ∀ d ∈ xs, d < B) : xs.take (cutLen xs xs.length) = dig B (val B xs) := by
  have h1 := val_take_cut (B := B) xs xs.length (Nat.le_refl _)
  rw [List.take_length] at h1
  rw [← h1, dig_val hB _ (fun d hd => h d (List.mem_of_mem_take hd)) (getLast_cut xs _ (Nat.le_refl _))]

theorem cutLen_eq {B : Nat} (hB : 2 ≤ B) (xs : List Nat) (h : ∀ d ∈ xs, d < B) : cutLen xs xs.length = (dig B (val B xs)).length := by
  rw [← take_cut hB xs h, List.length_take]; have := cutLen_le xs xs.length; omega

theorem dig_length_le {B : Nat} (hB : 2 ≤ B) (k : Nat) : ∀ n, n < B ^ k → (dig B n).length ≤ k := by
  induction k with
  | zero => intro n hn; simp at hn; subst hn; simp [dig_zero]
  | succ k ih =>
    intro n hn
    by_cases h0 : n = 0
    · subst h0; simp [dig_zero]
    · rw [dig_pos hB h0, List.length_cons]
      have : n / B < B ^ k := by
        rw [Nat.div_lt_iff_lt_mul (by omega)]; rw [Nat.pow_succ] at hn; exact hn
      have := ih _ this
      omega

theorem lt_pow_dig {B : Nat} (hB : 2 ≤ B) (n : Nat) : n < B ^ (dig B n).length := by
  have h := val_lt (dig B n) (dig_lt hB n)
  rwa [val_dig hB] at h

/-- with a base of at least 10, a number less than a power of 10 has at most so many digits -/
theorem dig_length_ten {B : Nat} (hB : 10 ≤ B) {n e : Nat} (h : n < 10 ^ e) : (dig B n).length ≤ e :=
  dig_length_le (by omega) e n (Nat.lt_of_lt_of_le h (Nat.pow_le_pow_left hB e))

theorem dig_getD_lt {B : Nat} (hB : 2 ≤ B) (n i : Nat) : (dig B n).getD i 0 < B := by
  by_cases h : i < (dig B n).length
  · simp only [List.getD, List.getElem?_eq_getElem h, Option.getD_some]
    exact dig_lt hB n _ (List.getElem_mem h)
  · simp only [List.getD, List.getElem?_eq_none (by omega : (dig B n).length ≤ i), Option.getD_none]; omega

theorem tmod_neg_nat (a : Nat) : (-(a : Int)).tmod 10000 = -((a % 10000 : Nat) : Int) := by rw [Int.neg_tmod]; rfl
theorem tdiv_neg_nat (a : Nat) : (-(a : Int)).tdiv 10000 = -((a / 10000 : Nat) : Int) := by rw [Int.neg_tdiv]; rfl

theorem val_take_drop (B : Nat) (xs : List Nat) (k : Nat) (h : k ≤ xs.length) : val B xs = val B (xs.take k) + B ^ k * val B (xs.drop k) := by
  have := val_append B (xs.take k) (xs.drop k)
  rw [List.take_append_drop, List.length_take, Nat.min_eq_left h] at this
  exact this

theorem getD_eq {xs : List Nat} {k : Nat} (h : k < xs.length) : xs.getD k 0 = xs[k] := by simp [List.getD, List.getElem?_eq_getElem h]

theorem val_drop (B : Nat) (xs : List Nat) (k : Nat) (h : k < xs.length) : val B (xs.drop k) = xs.getD k 0 + B * val B (xs.drop (k + 1)) := by
  rw [getD_eq h, List.drop_eq_getElem_cons h]; rfl

theorem val_drop_all (B : Nat) (xs : List Nat) (k : Nat) (h : xs.length ≤ k) : val B (xs.drop k) = 0 := by
  rw [List.drop_eq_nil_of_le h]; rfl

theorem val_snoc (B : Nat) (xs : List Nat) (x : Nat) : val B (xs ++ [x]) = val B xs + B ^ xs.length * x := by
  rw [val_append]; simp [val]

theorem getD_lt {B : Nat} (hB : 0 < B) (xs : List Nat) (h : ∀ d ∈ xs, d < B) (k : Nat) : xs.getD k 0 < B := by
  by_cases hk : k < xs.length
  · rw [getD_eq hk]; exact h _ (List.getElem_mem hk)
  · simp only [List.getD, List.getElem?_eq_none (by omega : xs.length ≤ k), Option.getD_none]; exact hB

/-- the first digit from above at which two numbers of as many digits differ decides -/
theorem val_lt_at {B : Nat} (xs ys : List Nat) (hx : ∀ d ∈ xs, d < B) (i : Nat) (hi : i < xs.length) (hj : i < ys.length)
    (hd : xs.drop (i + 1) = ys.drop (i + 1)) (h : xs.getD i 0 < ys.getD i 0) : val B xs < val B ys := by
  rw [val_take_drop B xs i (by omega), val_take_drop B ys i (by omega), val_drop B xs i hi, val_drop B ys i hj, hd]
  have h1 := val_lt (B := B) (xs.take i) (fun d hd => hx d (List.mem_of_mem_take hd))
  rw [List.length_take, Nat.min_eq_left (by omega)] at h1
  have h2 : B ^ i * (xs.getD i 0 + B * val B (ys.drop (i + 1)) + 1) ≤ B ^ i * (ys.getD i 0 + B * val B (ys.drop (i + 1))) := Nat.mul_le_mul_left _ (by omega)
  rw [Nat.mul_add, Nat.mul_one] at h2
  omega

/-- a number with fewer digits is less -/
theorem lt_of_dig_length {B : Nat} (hB : 2 ≤ B) (a b : Nat) (h : (dig B a).length < (dig B b).length) : a < b := by
  rcases Nat.lt_or_ge a b with h1 | h1
  · exact h1
  · exfalso
    have := lt_pow_dig hB a
    have := dig_length_le hB _ b (Nat.lt_of_le_of_lt h1 this)
    omega

/-- -1, 0 or 1 -/
def cmpN (a b : Nat) : Int := if a < b then -1 else if b < a then 1 else 0

end Go.Proofs.YtnfehccicnpbpaaGreatDoor

namespace Go.Proofs.YtnfehccicnpbpaaGreatDoor
open Go Go.RowKit

/-- numbers as values of a kind -/
def nums (k : IntKind) (xs : List Nat) : List Value := xs.map fun x => .int k ((x : Nat) : Int)

theorem nums_length (k : IntKind) (xs : List Nat) : (nums k xs).length = xs.length := by simp [nums]
theorem nums_get (k : IntKind) (xs : List Nat) (i : Nat) (h : i < xs.length) : (nums k xs)[i]? = some (.int k ((xs.getD i 0 : Nat) : Int)) := by
  simp [nums, List.getD, List.getElem?_eq_getElem h]
theorem nums_append (k : IntKind) (xs ys : List Nat) : nums k (xs ++ ys) = nums k xs ++ nums k ys := by simp [nums]

theorem bcell {B : Nat} {W w1 : World} (hb : Below B W w1) : (∀ b o, b < B → w1.cell? ⟨b, o, none⟩ = W.cell? ⟨b, o, none⟩) ∧ (∀ b o, b < B → w1.frozen? ⟨b, o, none⟩ = W.frozen? ⟨b, o, none⟩) :=
  ⟨fun b o h => hb.cell (p := ⟨b, o, none⟩) h, fun b o h => hb.frozen (p := ⟨b, o, none⟩) h⟩

/-- behind a callee that changes nothing that there was, what was so below B is so -/
theorem belowThen {B : Nat} {w W w1 : World} (h : Below B w W) (hB : B ≤ W.heap.size) (hb : Below W.heap.size W w1) : Below B w w1 := h.trans (hb.mono hB)

theorem below_draws {B : Nat} {w w' : World} (h : Below B w w') (n : Nat) : Below B w (w'.drewN n) := below_drewN h n

/-- a slice value reads as a list of numbers -/
def Sl (k : IntKind) (w : World) (v : Value) (xs : List Nat) : Prop :=
  ∃ ao cap, v = .slice ao xs.length cap ∧ xs.length ≤ cap ∧ ∀ i, i < xs.length → ∃ b off, ao = some ⟨b, off, none⟩ ∧ b < w.heap.size ∧ w.cell? ⟨b, off + i, none⟩ = some (.int k ((xs.getD i 0 : Nat) : Int))

theorem Sl.later {k : IntKind} {w w' : World} {v : Value} {xs : List Nat} {B : Nat} (h : Sl k w v xs) (hb : Below B w w') (hB : w.heap.size ≤ B) : Sl k w' v xs := by
  obtain ⟨ao, cap, hv, hc, hx⟩ := h
  refine ⟨ao, cap, hv, hc, fun i hi => ?_⟩
  obtain ⟨b, off, h1, h2, h3⟩ := hx i hi
  exact ⟨b, off, h1, Nat.lt_of_lt_of_le h2 hb.size, by rw [hb.cell (p := ⟨b, off + i, none⟩) (by exact Nat.lt_of_lt_of_le h2 hB)]; exact h3⟩

theorem Sl.alloc {k : IntKind} {w : World} {v : Value} {xs : List Nat} (h : Sl k w v xs) (o : Obj) : Sl k (w.alloc o) v xs :=
  h.later ((Below.refl w.heap.size w).alloc (Nat.le_refl _) o) (Nat.le_refl _)

theorem Sl.nil (k : IntKind) (w : World) (ao : Option Addr) (cap : Nat) : Sl k w (.slice ao 0 cap) [] := ⟨ao, cap, rfl, Nat.zero_le _, fun i hi => absurd hi (by simp)⟩

/-- either there is nothing, or the cells lie one behind the other in a block that is there -/
theorem Sl.cases {k : IntKind} {w : World} {v : Value} {xs : List Nat} (h : Sl k w v xs) :
    (xs = [] ∧ ∃ ao cap, v = .slice ao 0 cap) ∨
    (0 < xs.length ∧ ∃ b off cap, v = .slice (some ⟨b, off, none⟩) xs.length cap ∧ xs.length ≤ cap ∧ b < w.heap.size ∧ ∀ i, i < xs.length → w.cell? ⟨b, off + i, none⟩ = some (.int k ((xs.getD i 0 : Nat) : Int))) := by
  obtain ⟨ao, cap, hv, hc, hx⟩ := h
  by_cases h0 : xs.length = 0
  · have : xs = [] := List.length_eq_zero_iff.1 h0
    subst this
    exact .inl ⟨rfl, ao, cap, hv⟩
  · obtain ⟨b, off, h1, h2, _⟩ := hx 0 (by omega)
    subst h1
    refine .inr ⟨by omega, b, off, cap, hv, hc, h2, fun i hi => ?_⟩
    obtain ⟨b', off', h1', _, h3'⟩ := hx i hi
    cases h1'
    exact h3'

theorem Sl.len {k : IntKind} {w : World} {ao : Option Addr} {n cap : Nat} {xs : List Nat} (h : Sl k w (.slice ao n cap) xs) : n = xs.length := by
  obtain ⟨_, _, hv, _, _⟩ := h
  simp only [Value.slice.injEq] at hv
  exact hv.2.1

theorem Sl.cap {k : IntKind} {w : World} {ao : Option Addr} {n cap : Nat} {xs : List Nat} (h : Sl k w (.slice ao n cap) xs) : n ≤ cap := by
  obtain ⟨_, _, hv, hc, _⟩ := h
  simp only [Value.slice.injEq] at hv
  rw [hv.2.1, hv.2.2]; exact hc

/-- where an element lies -/
theorem Sl.at {k : IntKind} {w : World} {ao : Option Addr} {n cap : Nat} {xs : List Nat} (h : Sl k w (.slice ao n cap) xs) (i : Nat) (hi : i < n) :
    ∃ b off, ao = some ⟨b, off, none⟩ ∧ b < w.heap.size ∧ w.cell? ⟨b, off + i, none⟩ = some (.int k ((xs.getD i 0 : Nat) : Int)) := by
  have hl := h.len
  obtain ⟨_, _, hv, _, hx⟩ := h
  simp only [Value.slice.injEq] at hv
  rw [hv.1]
  exact hx i (by omega)

theorem Sl.mk {k : IntKind} {w : World} {b off cap n : Nat} {xs : List Nat} (hn : n = xs.length) (hc : n ≤ cap) (hb : b < w.heap.size)
    (hx : ∀ i, i < xs.length → w.cell? ⟨b, off + i, none⟩ = some (.int k ((xs.getD i 0 : Nat) : Int))) : Sl k w (.slice (some ⟨b, off, none⟩) n cap) xs := by
  subst hn
  exact ⟨_, cap, rfl, hc, fun i hi => ⟨b, off, rfl, hb, hx i hi⟩⟩

/-- the first of them -/
theorem Sl.take {k : IntKind} {w : World} {b off cap : Nat} {xs : List Nat} (n : Nat) (hn : n ≤ xs.length) (hc : xs.length ≤ cap) (hb : b < w.heap.size)
    (hx : ∀ i, i < xs.length → w.cell? ⟨b, off + i, none⟩ = some (.int k ((xs.getD i 0 : Nat) : Int))) : Sl k w (.slice (some ⟨b, off, none⟩) n cap) (xs.take n) := by
  refine Sl.mk (by simp; omega) (by omega) hb (fun i hi => ?_)
  have hi' : i < n := by simp at hi; omega
  rw [hx i (by omega)]
  simp [List.getD, hi']

/-- a slice that the call has made itself, from block B on -/
def Own (k : IntKind) (e : TypeId) (w : World) (B : Nat) (v : Value) (xs : List Nat) : Prop := w.ownsRow B e 1 v xs.length (nums k xs)

theorem Own.nil (k : IntKind) (e : TypeId) (w : World) (B : Nat) : Own k e w B (.slice none 0 0) [] := World.ownsRow_nil _ _ _ _

theorem Own.lit (k : IntKind) (e : TypeId) (w : World) (B : Nat) (hB : B ≤ w.heap.size) : Own k e (w.alloc (.cells #[] e)) B (.slice (some ⟨w.heap.size, 0, none⟩) 0 0) [] := by
  have := World.ownsRow_made (base := B) (e := e) (size := 1) w #[] 0 hB (by simp) (by simp)
  simpa [Own, nums] using this

theorem Own.lit1 (k : IntKind) (e : TypeId) (w : World) (B x : Nat) (z : Int) (hz : z = (x : Int)) (hB : B ≤ w.heap.size) : Own k e (w.alloc (.cells #[.int k z] e)) B (.slice (some ⟨w.heap.size, 0, none⟩) 1 1) [x] := by
  subst hz
  refine ⟨by simp [nums], .inr ⟨w.heap.size, 1, #[.int k (x : Int)], rfl, hB, ?_, by simp, by simp only [maxLen]; omega, by simp, by simp [nums]⟩⟩
  show (w.heap.push _)[_]? = _
  simp

theorem Own.sl {k : IntKind} {e : TypeId} {w : World} {B : Nat} {v : Value} {xs : List Nat} (h : Own k e w B v xs) : Sl k w v xs := by
  obtain ⟨h1, h2⟩ := h
  rcases h2 with ⟨rfl, h2⟩ | ⟨g, cap, cur, rfl, hg, hh, hn, hm, hs, ht⟩
  · have : xs = [] := List.length_eq_zero_iff.1 h2
    subst this; exact Sl.nil _ _ _ _
  · refine Sl.mk rfl hn (by obtain ⟨h, _⟩ := Array.getElem?_eq_some_iff.1 hh; exact h) (fun i hi => ?_)
    have hi2 : (nums k xs)[i]? = some (.int k ((xs.getD i 0 : Nat) : Int)) := nums_get k xs i hi
    rw [← ht] at hi2
    simp only [World.cell?, hh]
    rw [List.getElem?_take] at hi2
    split at hi2
    · simp only [Option.isSome_none, Bool.false_eq_true, if_false, Nat.zero_add]
      rw [← Array.getElem?_toList]; exact hi2
    · cases hi2

theorem Own.alloc {k : IntKind} {e : TypeId} {w : World} {B : Nat} {v : Value} {xs : List Nat} (h : Own k e w B v xs) (o : Obj) : Own k e (w.alloc o) B v xs := World.ownsRow.alloc h o

theorem Own.ownBlock {k : IntKind} {e : TypeId} {w : World} {B : Nat} {v : Value} {xs : List Nat} (h : Own k e w B v xs) : ∀ g, v.ownBlock = some g → B ≤ g ∧ g < w.heap.size := World.ownsRow.lt h

/-- an owned slice behind changes of other blocks from some block on -/
theorem Own.later {k : IntKind} {e : TypeId} {w w' : World} {B B' : Nat} {v : Value} {xs : List Nat} (h : Own k e w B v xs) (hb : Below B' w w') (hB : w.heap.size ≤ B') : Own k e w' B v xs :=
  World.ownsRow.kept (row := none) h ⟨hb.os, hb.tape, hb.output, hb.size, fun k hk _ => hb.block k (Nat.lt_of_lt_of_le hk hB)⟩ (by
    by_cases h0 : v.ownBlock = none
    · exact .inl h0
    · exact .inr h0)

/-- one element is appended to a slice that the call has made -/
theorem wpList_push {P : Program} {w : World} {ops : Array Oper} {rest : List Oper} {o : Oper} {a : Act} {Q : Exit → Act → World → Prop} (hgd : o.guard = none) (s x : Operand) (t : TypeId)
    (ho : o.op = .call { callee := .builtin .append, args := #[s, x], argTypes := #[t, t] })
    (e : TypeId) (k : IntKind) (bytes : Nat) (ht : P.underlying t = some (.slice e)) (hi : (P.info? e).map (fun i => (i.zero, i.size, i.bytes)) = some (some (.int k 0), 1, bytes)) (hby : bytes ≤ 16)
    (B : Nat) (v : Value) (xs : List Nat) (n : Nat) (hs : a.eval s = v) (hown : Own k e w B v xs)
    (g : Nat) (hx : a.eval x = .slice (some ⟨g, 0, none⟩) 1 1) (hg : w.cell? ⟨g, 0, none⟩ = some (.int k ((n : Nat) : Int)))
    (hlen : xs.length ≤ 100000000) (hB : B ≤ w.heap.size)
    (h : ∀ v' w', Own k e w' B v' (xs ++ [n]) → Below B w w' → wpList P ops Q rest (a.put o.dst v') w') : wpList P ops Q (o :: rest) a w := by
  obtain ⟨i0, hi0, hz0, hz1, hz2⟩ := info_parts hi
  refine wpList_append_own w hgd s x t ho B e i0 (.int k 0) 1 bytes ht hi0 hz0 hz1 hz2 rfl (by decide) v xs.length (nums k xs) hs hown ⟨g, 0, none⟩ 1 1 [.int k ((n : Nat) : Int)] hx rfl ?_ ?_ ?_ ?_ hB ?_
  · intro j u hj
    match j, hj with
    | 0, hj => simp at hj; subst hj; simpa [Addr.add] using hg
  · intro u hu; simp at hu; subst hu; rfl
  · simp only [maxLen]; omega
  · have : (xs.length + 1) * bytes ≤ (xs.length + 1) * 16 := Nat.mul_le_mul_left _ hby
    omega
  · intro v' w' hown' hgrow _
    refine h v' w' ?_ ?_
    · simpa [Own, nums] using hown'
    · refine (Below.refl B w).grown hgrow hB (fun g' hg' => ?_)
      exact (Own.ownBlock hown g' hg').1

/-- the end of a function whose result lies in memory; the value is what the run says -/
theorem bodyPost_ret_at {P : Program} {fn : Func} {R : Ending → World → Prop} {a : Act} {w : World} {v : Value}
    (hr : (results fn a.tmps).run P w = .ok v w) (hd : a.defers = []) (hR : R (.returned v) w) : bodyPost P fn R .ret a w := ⟨hd, v, hr, hR⟩

/-- the same where the number is reckoned as an integer -/
theorem wpList_pushz {P : Program} {w : World} {ops : Array Oper} {rest : List Oper} {o : Oper} {a : Act} {Q : Exit → Act → World → Prop} (hgd : o.guard = none) (s x : Operand) (t : TypeId)
    (ho : o.op = .call { callee := .builtin .append, args := #[s, x], argTypes := #[t, t] })
    (e : TypeId) (k : IntKind) (bytes : Nat) (ht : P.underlying t = some (.slice e)) (hi : (P.info? e).map (fun i => (i.zero, i.size, i.bytes)) = some (some (.int k 0), 1, bytes)) (hby : bytes ≤ 16)
    (B : Nat) (v : Value) (xs : List Nat) (n : Nat) (z : Int) (hz : z = (n : Int)) (hs : a.eval s = v) (hown : Own k e w B v xs)
    (g : Nat) (hx : a.eval x = .slice (some ⟨g, 0, none⟩) 1 1) (hg : w.cell? ⟨g, 0, none⟩ = some (.int k z))
    (hlen : xs.length ≤ 100000000) (hB : B ≤ w.heap.size)
    (h : ∀ v' w', Own k e w' B v' (xs ++ [n]) → Below B w w' → wpList P ops Q rest (a.put o.dst v') w') : wpList P ops Q (o :: rest) a w := by
  subst hz
  exact wpList_push hgd s x t ho e k bytes ht hi hby B v xs n hs hown g hx hg hlen hB h

/-- a value that is no number -/
def notInt : Value → Bool
  | .int _ _ => false
  | _ => true

/-- no cell of a block holds a number: so a list of numbers does not lie there -/
def NoInt (w : World) (b : Nat) : Prop := ∀ o u, w.cell? ⟨b, o, none⟩ = some u → notInt u = true

theorem cell?_set (w : World) (b o c q : Nat) (u : Value) : (w.setCell ⟨b, o, none⟩ u).cell? ⟨c, q, none⟩ = if c = b ∧ q = o then (w.cell? ⟨c, q, none⟩).map (fun _ => u) else w.cell? ⟨c, q, none⟩ := by
  simp only [World.cell?, World.setCell, Array.getElem?_modify]
  by_cases hc : c = b
  · subst hc
    simp only [true_and, if_true]
    cases hh : w.heap[c]? with
    | none => simp
    | some ob =>
      cases ob <;> simp
      rename_i cs t f
      by_cases hq : q = o
      · subst hq
        simp only [if_true]
        rw [Array.getElem?_setIfInBounds]
        simp only [if_true]
        split
        · rename_i hlt; rw [Array.getElem?_eq_getElem hlt]; rfl
        · rename_i hlt; rw [Array.getElem?_eq_none (by omega)]; rfl
      · rw [Array.getElem?_setIfInBounds_ne (fun e => hq e.symm), if_neg hq]
  · simp only [hc, false_and, if_false]
    rw [if_neg (fun e => hc e.symm)]

theorem NoInt.set {w : World} {b : Nat} (h : NoInt w b) (o c : Nat) {u : Value} (hu : notInt u = true) : NoInt (w.setCell ⟨c, o, none⟩ u) b := by
  intro q x hx
  rw [cell?_set] at hx
  split at hx
  · cases hw : w.cell? ⟨b, q, none⟩ with
    | none => rw [hw] at hx; cases hx
    | some y => rw [hw] at hx; simp at hx; subst hx; exact hu
  · exact h q x hx

theorem heap_size_set (w : World) (a : Addr) (u : Value) : (w.setCell a u).heap.size = w.heap.size := by simp [World.setCell]

/-- a store into a block without numbers leaves a list of numbers as it is -/
theorem Sl.set {k : IntKind} {w : World} {v : Value} {xs : List Nat} (h : Sl k w v xs) {b : Nat} (hb : NoInt w b) (o : Nat) (u : Value) : Sl k (w.setCell ⟨b, o, none⟩ u) v xs := by
  obtain ⟨ao, cap, hv, hc, hx⟩ := h
  refine ⟨ao, cap, hv, hc, fun i hi => ?_⟩
  obtain ⟨c, off, h1, h2, h3⟩ := hx i hi
  refine ⟨c, off, h1, by rw [heap_size_set]; exact h2, ?_⟩
  rw [cell?_set, if_neg]
  · exact h3
  · rintro ⟨rfl, _⟩
    have := hb _ _ h3
    cases this

/-- a block of two cells -/
def Box2 (w : World) (b : Nat) (u v : Value) (t : TypeId) : Prop := w.heap[b]? = some (.cells #[u, v] t (0, 0))
theorem Box2.cells {w : World} {b : Nat} {u v : Value} {t : TypeId} (h : Box2 w b u v t) :
    w.cell? ⟨b, 0, none⟩ = some u ∧ w.cell? ⟨b, 1, none⟩ = some v ∧ w.frozen? ⟨b, 0, none⟩ = false ∧ w.frozen? ⟨b, 1, none⟩ = false := by
  unfold Box2 at h
  simp [World.cell?, World.frozen?, h]
theorem Box2.noInt {w : World} {b : Nat} {u v : Value} {t : TypeId} (h : Box2 w b u v t) (hu : notInt u = true) (hv : notInt v = true) : NoInt w b := by
  intro o x hx
  unfold Box2 at h
  simp only [World.cell?, h, Option.isSome_none, Bool.false_eq_true, if_false] at hx
  match o, hx with
  | 0, hx => simp at hx; subst hx; exact hu
  | 1, hx => simp at hx; subst hx; exact hv
  | (n + 2), hx => simp at hx
theorem Box2.later {w w' : World} {b : Nat} {u v : Value} {t : TypeId} {B : Nat} (h : Box2 w b u v t) (hb : Below B w w') (hB : b < B) : Box2 w' b u v t := by
  unfold Box2 at *; rw [hb.block b hB]; exact h
theorem Box2.alloc {w : World} {b : Nat} {u v : Value} {t : TypeId} (h : Box2 w b u v t) (o : Obj) : Box2 (w.alloc o) b u v t :=
  h.later ((Below.refl w.heap.size w).alloc (Nat.le_refl _) o) (lt_of_block h)
theorem Box2.drewN {w : World} {b : Nat} {u v : Value} {t : TypeId} (h : Box2 w b u v t) (n : Nat) : Box2 (w.drewN n) b u v t := h
theorem Box2.made (w : World) (u v : Value) (t : TypeId) : Box2 (w.alloc (.cells #[u, v] t)) w.heap.size u v t := by
  show (w.heap.push _)[_]? = _
  simp

end Go.Proofs.YtnfehccicnpbpaaGreatDoor

namespace Go.Proofs.YtnfehccicnpbpaaGreatDoor
open Go Go.RowKit

/-- a block holds these numbers and nothing else -/
def Arr (k : IntKind) (e : TypeId) (w : World) (g : Nat) (xs : List Nat) : Prop := w.heap[g]? = some (.cells (nums k xs).toArray e (0, 0))

theorem Arr.lt {k : IntKind} {e : TypeId} {w : World} {g : Nat} {xs : List Nat} (h : Arr k e w g xs) : g < w.heap.size := lt_of_block h

theorem Arr.cell {k : IntKind} {e : TypeId} {w : World} {g : Nat} {xs : List Nat} (h : Arr k e w g xs) (i : Nat) (hi : i < xs.length) : w.cell? ⟨g, i, none⟩ = some (.int k ((xs.getD i 0 : Nat) : Int)) := by
  unfold Arr at h
  simp only [World.cell?, h, Option.isSome_none, Bool.false_eq_true, if_false, List.getElem?_toArray]
  exact nums_get k xs i hi

theorem Arr.frozen {k : IntKind} {e : TypeId} {w : World} {g : Nat} {xs : List Nat} (h : Arr k e w g xs) (i : Nat) : w.frozen? ⟨g, i, none⟩ = false := by
  unfold Arr at h
  simp [World.frozen?, h]

theorem Arr.set {k : IntKind} {e : TypeId} {w : World} {g : Nat} {xs : List Nat} (h : Arr k e w g xs) (i x : Nat) : Arr k e (w.setCell ⟨g, i, none⟩ (.int k (x : Int))) g (xs.set i x) := by
  unfold Arr at *
  simp only [World.setCell, Array.getElem?_modify, h, if_true, Option.map_some]
  congr 2
  simp [nums, List.map_set]

theorem Arr.setz {k : IntKind} {e : TypeId} {w : World} {g : Nat} {xs : List Nat} (h : Arr k e w g xs) (i x : Nat) (z : Int) (hz : z = (x : Int)) : Arr k e (w.setCell ⟨g, i, none⟩ (.int k z)) g (xs.set i x) := by
  subst hz; exact h.set i x

theorem Arr.other {k : IntKind} {e : TypeId} {w : World} {g : Nat} {xs : List Nat} (h : Arr k e w g xs) {g' : Nat} (hg : g ≠ g') (i : Nat) (u : Value) : Arr k e (w.setCell ⟨g', i, none⟩ u) g xs := by
  unfold Arr at *
  rw [Below.heap_setCell _ _ _ _ hg]; exact h

theorem Arr.later {k : IntKind} {e : TypeId} {w w' : World} {g : Nat} {xs : List Nat} (h : Arr k e w g xs) {B : Nat} (hb : Below B w w') (hB : g < B) : Arr k e w' g xs := by
  unfold Arr at *; rw [hb.block g hB]; exact h

theorem Arr.drewN {k : IntKind} {e : TypeId} {w : World} {g : Nat} {xs : List Nat} (h : Arr k e w g xs) (n : Nat) : Arr k e (w.drewN n) g xs := h

theorem Arr.alloc {k : IntKind} {e : TypeId} {w : World} {g : Nat} {xs : List Nat} (h : Arr k e w g xs) (o : Obj) : Arr k e (w.alloc o) g xs :=
  h.later ((Below.refl w.heap.size w).alloc (Nat.le_refl _) o) h.lt

/-- a slice of it -/
theorem Arr.sub {k : IntKind} {e : TypeId} {w : World} {g : Nat} {xs : List Nat} (h : Arr k e w g xs) (off n cap : Nat) (hn : off + n ≤ xs.length) (hc : n ≤ cap) : Sl k w (.slice (some ⟨g, off, none⟩) n cap) ((xs.drop off).take n) := by
  refine Sl.mk (by simp; omega) hc h.lt (fun i hi => ?_)
  have hi' : i < n := by simp at hi; omega
  rw [h.cell (off + i) (by omega)]
  simp [List.getD, List.getElem?_take, List.getElem?_drop, hi']

theorem Arr.sl {k : IntKind} {e : TypeId} {w : World} {g : Nat} {xs : List Nat} (h : Arr k e w g xs) (n cap : Nat) (hn : n = xs.length) (hc : n ≤ cap) : Sl k w (.slice (some ⟨g, 0, none⟩) n cap) xs := by
  have := h.sub 0 n cap (by omega) hc
  rw [List.drop_zero, List.take_of_length_le (by omega)] at this
  exact this

/-- another list of numbers stays as it is where a block that is known whole is written, if that lies elsewhere -/
theorem Sl.setOther {k : IntKind} {w : World} {v : Value} {xs : List Nat} {B : Nat} {w0 : World} (h : Sl k w0 v xs) (hb : Below B w0 w) (hB : w0.heap.size ≤ B) : Sl k w v xs := h.later hb hB

/-- make with a length that is a number of the walk's -/
theorem wpList_makez {P : Program} (w : World) {ops : Array Oper} {rest : List Oper} {o : Oper} {a : Act} {Q : Exit → Act → World → Prop}
    (hg : o.guard = none) (l : Operand) (t : TypeId) (hop : o.op = Op.makeSlice t l l)
    (e : TypeId) (k : IntKind) (bytes : Nat) (h1 : P.underlying t = some (.slice e)) (hi : (P.info? e).map (fun i => (i.zero, i.size, i.bytes)) = some (some (.int k 0), 1, bytes)) (hby : bytes ≤ 16)
    (kl : IntKind) (L : Int) (n : Nat) (hl : a.eval l = .int kl L) (hL : L = (n : Int)) (hn : n ≤ 1000000000000)
    (hK : ∀ w', Arr k e w' w.heap.size (List.replicate n 0) → Below w.heap.size w w' → w'.heap.size = w.heap.size + 1 → wpList P ops Q rest (a.put o.dst (.slice (some ⟨w.heap.size, 0, none⟩) n n)) w') :
    wpList P ops Q (o :: rest) a w := by
  obtain ⟨i0, hi0, hz0, hz1, hz2⟩ := info_parts hi
  refine wpList_plain hg fun K hK' => ?_
  subst hL
  have hb : (i0.bytes : Int) * (n : Int) ≤ 281474976710656 := by
    rw [hz2]
    have : bytes * n ≤ 16 * n := Nat.mul_le_mul_right n hby
    have h2 : ((bytes * n : Nat) : Int) ≤ 281474976710656 := by omega
    rwa [Int.natCast_mul] at h2
  have hr := run_make (P := P) w t e i0 (.int k 0) h1 hi0 hz0 kl kl n n (by omega) (Int.le_refl _) hb (by omega)
  simp only [Int.toNat_natCast, hz1, Nat.mul_one] at hr
  unfold Oper.wp
  simp [execOp, hop, hl, hr, Result.andThen]
  refine hK' _ _ (hK _ ?_ ?_ ?_)
  · show (w.heap.push _)[_]? = _
    rw [Array.getElem?_push, if_pos rfl]
    congr 2
    apply Array.toList_inj.1
    have h3 := toList_madeCells_one (.int k 0) n
    simp only [Value.cells] at h3 ⊢
    rw [h3]
    simp [nums]
  · exact (Below.refl _ _).alloc (Nat.le_refl _) _
  · simp

end Go.Proofs.YtnfehccicnpbpaaGreatDoor

namespace Go.Proofs.YtnfehccicnpbpaaGreatDoor

theorem val_setN (B : Nat) (xs : List Nat) (i z : Nat) (h : i < xs.length) : val B (xs.set i z) + B ^ i * xs.getD i 0 = val B xs + B ^ i * z := by
  induction xs generalizing i with
  | nil => simp at h
  | cons x xs ih =>
    cases i with
    | zero => simp [val]; omega
    | succ i =>
      have := ih i (by simpa using h)
      simp only [List.set_cons_succ, val, List.getD_cons_succ, Nat.pow_succ]
      have h2 : B * (val B (xs.set i z) + B ^ i * xs.getD i 0) = B * (val B xs + B ^ i * z) := by rw [this]
      rw [Nat.mul_add, Nat.mul_add] at h2
      rw [Nat.mul_comm (B ^ i) B, Nat.mul_assoc, Nat.mul_assoc]
      omega

theorem val_take_succ (B : Nat) (xs : List Nat) (k : Nat) (h : k < xs.length) : val B (xs.take (k + 1)) = val B (xs.take k) + B ^ k * xs.getD k 0 := by
  rw [List.take_succ_eq_append_getElem h, val_snoc, List.length_take, Nat.min_eq_left (by omega), getD_eq h]

/-- a round of adding a multiple -/
theorem addp_step (B : Nat) (cur rs ys : List Nat) (off k f c z c' : Nat) (hk : k < ys.length) (hi : off + k < cur.length)
    (hz : z + B * c' = cur.getD (off + k) 0 + ys.getD k 0 * f + c) (h : val B cur + B ^ (off + k) * c = val B rs + B ^ off * (f * val B (ys.take k))) :
    val B (cur.set (off + k) z) + B ^ (off + (k + 1)) * c' = val B rs + B ^ off * (f * val B (ys.take (k + 1))) := by
  have h1 := val_setN B cur (off + k) z hi
  rw [val_take_succ B ys k hk]
  have h2 : B ^ (off + k) * (z + B * c') = B ^ (off + k) * (cur.getD (off + k) 0 + ys.getD k 0 * f + c) := by rw [hz]
  have e1 : B ^ (off + (k + 1)) = B ^ (off + k) * B := by rw [← Nat.add_assoc, Nat.pow_succ]
  have e2 : B ^ (off + k) = B ^ off * B ^ k := Nat.pow_add ..
  generalize cur.getD (off + k) 0 = x at *
  generalize ys.getD k 0 = y at *
  grind

/-- a round of taking a multiple away -/
theorem takep_step (B : Nat) (cur rs ys : List Nat) (off k f c z c' : Nat) (hk : k < ys.length) (hi : off + k < cur.length)
    (hz : z + ys.getD k 0 * f + c = cur.getD (off + k) 0 + B * c') (h : val B cur + B ^ off * (f * val B (ys.take k)) = val B rs + B ^ (off + k) * c) :
    val B (cur.set (off + k) z) + B ^ off * (f * val B (ys.take (k + 1))) = val B rs + B ^ (off + (k + 1)) * c' := by
  have h1 := val_setN B cur (off + k) z hi
  rw [val_take_succ B ys k hk]
  have h2 : B ^ (off + k) * (z + ys.getD k 0 * f + c) = B ^ (off + k) * (cur.getD (off + k) 0 + B * c') := by rw [hz]
  have e1 : B ^ (off + (k + 1)) = B ^ (off + k) * B := by rw [← Nat.add_assoc, Nat.pow_succ]
  have e2 : B ^ (off + k) = B ^ off * B ^ k := Nat.pow_add ..
  generalize cur.getD (off + k) 0 = x at *
  generalize ys.getD k 0 = y at *
  grind

/-- high and low words of a product with something that is carried -/
theorem mul_carry {B x y c : Nat} (hx : x < B) (hy : y < B) (hc : c < B) : (x * y) / B + ((x * y) % B + c) / B < B ∧ ((x * y) % B + c) % B + B * ((x * y) / B + ((x * y) % B + c) / B) = x * y + c := by
  have hB : 0 < B := by omega
  have h1 := Nat.div_add_mod (x * y) B
  have h2 := Nat.div_add_mod ((x * y) % B + c) B
  have h3 : x * y + c < B * B := by
    have : x * y ≤ (B - 1) * (B - 1) := Nat.mul_le_mul (by omega) (by omega)
    have e : (B - 1) * (B - 1) + (B - 1) + (B - 1) + 1 = B * B := by
      obtain ⟨b, rfl⟩ : ∃ b, B = b + 1 := ⟨B - 1, by omega⟩
      simp only [Nat.add_sub_cancel]; grind
    omega
  have e : ((x * y) % B + c) % B + B * ((x * y) / B + ((x * y) % B + c) / B) = x * y + c := by rw [Nat.mul_add]; omega
  refine ⟨?_, e⟩
  apply Nat.lt_of_mul_lt_mul_left (a := B)
  omega

theorem mul_carry2 {B x y c d : Nat} (hx : x < B) (hy : y < B) (hc : c < B) (hd : d < B) :
    (x * y) / B + ((x * y) % B + c) / B + (d + ((x * y) % B + c) % B) / B < B ∧ (d + ((x * y) % B + c) % B) % B + B * ((x * y) / B + ((x * y) % B + c) / B + (d + ((x * y) % B + c) % B) / B) = d + x * y + c := by
  have hB : 0 < B := by omega
  obtain ⟨h1, h2⟩ := mul_carry hx hy hc
  generalize (x * y) / B + ((x * y) % B + c) / B = h at *
  generalize ((x * y) % B + c) % B = l at *
  have h3 := Nat.div_add_mod (d + l) B
  have h4 : d + (x * y + c) < B * B := by
    have : x * y ≤ (B - 1) * (B - 1) := Nat.mul_le_mul (by omega) (by omega)
    have e : (B - 1) * (B - 1) + (B - 1) + (B - 1) + 1 = B * B := by
      obtain ⟨b, rfl⟩ : ∃ b, B = b + 1 := ⟨B - 1, by omega⟩
      simp only [Nat.add_sub_cancel]; grind
    omega
  have e : (d + l) % B + B * (h + (d + l) / B) = d + x * y + c := by rw [Nat.mul_add]; omega
  refine ⟨?_, e⟩
  apply Nat.lt_of_mul_lt_mul_left (a := B)
  omega

theorem take_borrow {B x y c d : Nat} (hx : x < B) (hy : y < B) (hc : c < B) (hd : d < B) :
    (if d < ((x * y) % B + c) % B then
      (x * y) / B + ((x * y) % B + c) / B + 1 < B ∧ (d + B - ((x * y) % B + c) % B) + x * y + c = d + B * ((x * y) / B + ((x * y) % B + c) / B + 1)
     else (d - ((x * y) % B + c) % B) + x * y + c = d + B * ((x * y) / B + ((x * y) % B + c) / B)) := by
  have hB : 0 < B := by omega
  obtain ⟨h1, h2⟩ := mul_carry hx hy hc
  have hm := Nat.mod_lt ((x * y) % B + c) hB
  generalize hh : (x * y) / B + ((x * y) % B + c) / B = h at *
  generalize ((x * y) % B + c) % B = l at *
  split
  · refine ⟨?_, by rw [Nat.mul_add]; omega⟩
    have h3 : x * y + c < B * (B - 1) + 1 := by
      have : x * y ≤ (B - 1) * (B - 1) := Nat.mul_le_mul (by omega) (by omega)
      have e : (B - 1) * (B - 1) + (B - 1) = B * (B - 1) := by
        obtain ⟨b, rfl⟩ : ∃ b, B = b + 1 := ⟨B - 1, by omega⟩
        simp only [Nat.add_sub_cancel]; grind
      omega
    have h4 : B * h < B * (B - 1) := by omega
    have := Nat.lt_of_mul_lt_mul_left h4
    omega
  · omega

/-- Knuth: the guess is not too small -/
theorem knuth_ge (B P R r1 r0 D d : Nat) (hR : R < (r1 * B + r0 + 1) * P) (hD : d * P ≤ D) (hd : 0 < d) : R / D ≤ (r1 * B + r0) / d := by
  by_cases hP : P = 0
  · subst hP; simp at hR
  have hPp : 0 < P := Nat.pos_of_ne_zero hP
  have hdp : 0 < d * P := Nat.mul_pos hd hPp
  have h1 : R / D ≤ R / (d * P) := Nat.div_le_div_left hD hdp
  have h2 : R / (d * P) = R / P / d := by rw [Nat.mul_comm, Nat.div_div_eq_div_mul]
  have h3 : R / P < r1 * B + r0 + 1 := (Nat.div_lt_iff_lt_mul hPp).2 hR
  have h4 : R / P / d ≤ (r1 * B + r0) / d := Nat.div_le_div_right (by omega)
  omega

/-- bits that do not meet -/
theorem or_add (a b s : Nat) (ha : a < 2 ^ s) : a ||| (b * 2 ^ s) = a + b * 2 ^ s := by
  rw [Nat.or_comm, Nat.mul_comm, ← Nat.two_pow_add_eq_or_of_lt ha, Nat.add_comm]

/-- a limb that is shifted, and what goes over -/
theorem shl_parts (B p q l : Nat) (hB : B = p * q) (hp : 0 < p) : l * p % B = (l % q) * p ∧ l * p / B = l / q := by
  subst hB
  constructor
  · rw [Nat.mul_comm p q, Nat.mul_mod_mul_right]
  · rw [Nat.mul_comm p q, Nat.mul_div_mul_right _ _ hp]

/-- a round of shifting up: lo is what went over from the limb before -/
theorem up_step (B p q : Nat) (cur ys : List Nat) (k : Nat) (hB : B = p * q) (hp : 0 < p) (hk : k < ys.length) (hi : k + 1 < cur.length) (hz : cur.getD (k + 1) 0 = 0)
    (h : val B cur = p * val B (ys.take k)) :
    val B ((cur.set k (cur.getD k 0 + (ys.getD k 0 % q) * p)).set (k + 1) (ys.getD k 0 / q)) = p * val B (ys.take (k + 1)) := by
  obtain ⟨h1, h2⟩ := shl_parts B p q (ys.getD k 0) hB hp
  have e := Nat.div_add_mod (ys.getD k 0 * p) B
  rw [h1, h2] at e
  have s1 := val_setN B cur k (cur.getD k 0 + (ys.getD k 0 % q) * p) (by omega)
  have s2 := val_setN B (cur.set k (cur.getD k 0 + (ys.getD k 0 % q) * p)) (k + 1) (ys.getD k 0 / q) (by simp; omega)
  have hz2 : (cur.set k (cur.getD k 0 + (ys.getD k 0 % q) * p)).getD (k + 1) 0 = cur.getD (k + 1) 0 := by
    simp [List.getD]
  rw [hz2, hz, Nat.mul_zero, Nat.add_zero] at s2
  rw [s2, val_take_succ B ys k hk, Nat.pow_succ]
  generalize (cur.set k (cur.getD k 0 + (ys.getD k 0 % q) * p)) = c1 at *
  generalize cur.getD k 0 = x at *
  generalize ys.getD k 0 % q * p = m at *
  generalize ys.getD k 0 / q = d at *
  generalize ys.getD k 0 = y at *
  grind

/-- a round of shifting down, behind the first -/
theorem down_step (B p q : Nat) (cur ys : List Nat) (k r : Nat) (hB : B = p * q) (hk : k + 1 < ys.length) (hi : k + 1 < cur.length) (hz : cur.getD (k + 1) 0 = 0)
    (h : p * val B cur + r = val B (ys.take (k + 1))) :
    p * val B ((cur.set (k + 1) (ys.getD (k + 1) 0 / p)).set k (cur.getD k 0 + (ys.getD (k + 1) 0 % p) * q)) + r = val B (ys.take (k + 1 + 1)) := by
  have e := Nat.div_add_mod (ys.getD (k + 1) 0) p
  have s1 := val_setN B cur (k + 1) (ys.getD (k + 1) 0 / p) hi
  rw [hz, Nat.mul_zero, Nat.add_zero] at s1
  have s2 := val_setN B (cur.set (k + 1) (ys.getD (k + 1) 0 / p)) k (cur.getD k 0 + (ys.getD (k + 1) 0 % p) * q) (by simp; omega)
  have hz2 : (cur.set (k + 1) (ys.getD (k + 1) 0 / p)).getD k 0 = cur.getD k 0 := by
    simp [List.getD]
  rw [hz2] at s2
  rw [val_take_succ B ys (k + 1) hk, Nat.pow_succ]
  rw [Nat.pow_succ] at s1
  generalize ((cur.set (k + 1) (ys.getD (k + 1) 0 / p)).set k (cur.getD k 0 + (ys.getD (k + 1) 0 % p) * q)) = c2 at *
  generalize (cur.set (k + 1) (ys.getD (k + 1) 0 / p)) = c1 at *
  generalize cur.getD k 0 = x at *
  generalize ys.getD (k + 1) 0 % p = m at *
  generalize ys.getD (k + 1) 0 / p = d at *
  generalize ys.getD (k + 1) 0 = y at *
  grind

end Go.Proofs.YtnfehccicnpbpaaGreatDoor

namespace Go.Proofs
open Go.Shelf
def Tryz.lays170_ren : Go.Shelf.Ren := ⟨fun | 170 => 158 | n => n, fun | 70 => 145 | 3 => 3 | 0 => 0 | 72 => 147 | 37 => 44 | 5 => 5 | n => n, fun | n => n⟩
theorem Tryz.lays170 : Go.Proofs.Lays.n170 Tryz.prog Tryz.lays170_ren := {
  mixed := by kernel_rfl
  f170 := Tryz.func158.trans (congrArg some (by kernel_rfl))
  t0 := Tryz.underlying0
  a0 := Tryz.isAgg0
  z0 := Tryz.sizeOf0
  v0 := Tryz.zeroValue0
  t3 := Tryz.underlying3
  a3 := Tryz.isAgg3
  z3 := Tryz.sizeOf3
  v3 := Tryz.zeroValue3
  t37 := Tryz.underlying44
  a37 := Tryz.isAgg44
  z37 := Tryz.sizeOf44
  v37 := Tryz.zeroValue44
  t70 := Tryz.underlying145
  a70 := Tryz.isAgg145
  z70 := Tryz.sizeOf145
  v70 := Tryz.zeroValue145
  t72 := Tryz.underlying147
  a72 := Tryz.isAgg147
  z72 := Tryz.sizeOf147
  v72 := Tryz.zeroValue147 }
open Go.RowKit in
/-- (*strings.Builder).Len: "Len returns the number of accumulated bytes; b.Len() == len(b.String()).": the world is as it was. (LAID: no walk: one application.) -/
theorem Tryz.Builder_Len (B b : Nat) (bs : List Value) (w : World) (h : Lib.IsBuilder 147 5 B b bs w) :
    Calls Tryz.prog 158 #[.pointer (some ⟨b, 0, none⟩)] w fun e w' => e = .returned (.int .i64 bs.length) ∧ w' = w := Any.Builder_Len Tryz.lays170 B b bs w h
def Tryz.lays169_ren : Go.Shelf.Ren := ⟨fun | 169 => 116 | n => n, fun | 70 => 145 | 9 => 9 | 0 => 0 | 72 => 147 | 37 => 44 | 127 => 193 | 3 => 3 | 5 => 5 | n => n, fun | n => n⟩
theorem Tryz.lays169 : Go.Proofs.Lays.n169 Tryz.prog Tryz.lays169_ren := {
  mixed := by kernel_rfl
  f169 := Tryz.func116.trans (congrArg some (by kernel_rfl))
  t0 := Tryz.underlying0
  a0 := Tryz.isAgg0
  z0 := Tryz.sizeOf0
  v0 := Tryz.zeroValue0
  t3 := Tryz.underlying3
  a3 := Tryz.isAgg3
  z3 := Tryz.sizeOf3
  v3 := Tryz.zeroValue3
  t9 := Tryz.underlying9
  a9 := Tryz.isAgg9
  z9 := Tryz.sizeOf9
  v9 := Tryz.zeroValue9
  t37 := Tryz.underlying44
  a37 := Tryz.isAgg44
  z37 := Tryz.sizeOf44
  v37 := Tryz.zeroValue44
  t70 := Tryz.underlying145
  a70 := Tryz.isAgg145
  z70 := Tryz.sizeOf145
  v70 := Tryz.zeroValue145
  t72 := Tryz.underlying147
  a72 := Tryz.isAgg147
  z72 := Tryz.sizeOf147
  v72 := Tryz.zeroValue147
  t127 := Tryz.underlying193
  a127 := Tryz.isAgg193
  z127 := Tryz.sizeOf193
  v127 := Tryz.zeroValue193 }
theorem Tryz.Builder_Extra_169 : Builder.Extra Tryz.prog Tryz.lays169_ren := {
  sizeBuilder := by kernel_rfl
  liesBuilder := by kernel_rfl
  t5 := Tryz.underlying5
  a5 := Tryz.isAgg5
  z5 := Tryz.sizeOf5
  v5 := Tryz.zeroValue5
  infoByte := by kernel_rfl
  cellsByte := by kernel_rfl
  sizeByte := by kernel_rfl
  neB5 := by decide }
open Go.RowKit in
/-- (*strings.Builder).String: "String returns the accumulated string.": OF A BUILDER THAT HOLDS AT LEAST ONE BYTE. ✋ THE MODEL FREEZES THOSE BYTES IN THE BUFFER (unsafe.String): a later write INTO them ends the model's run without an answer; a later append BEHIND them goes on. The statement's order of evaluation is drawn: one draw. (LAID: no walk: one application.) -/
theorem Tryz.Builder_String (B b : Nat) (l : List UInt8) (w : World) (h : Lib.IsBuilder 147 5 B b (Lib.byteCells l) w) (h0 : l ≠ []) :
    Calls Tryz.prog 116 #[.pointer (some ⟨b, 0, none⟩)] w fun e w' => e = .returned (.string ⟨l.toArray⟩) ∧ Below B w w' := Any.Builder_String Tryz.lays169 Tryz.Builder_Extra_169 B b l w h h0
open Go.RowKit in
/-- (*strings.Builder).String OF A BUILDER THAT HOLDS NO BYTE: the empty string. (Its buffer is nil, or a row of which it has taken nothing yet; where that row has NO capacity the model lays one new block for unsafe.SliceData's 'some address'.) One draw. (LAID: no walk: one application.) -/
theorem Tryz.Builder_String_empty (B b : Nat) (w : World) (h : Lib.IsBuilder 147 5 B b [] w) (hBw : B ≤ w.heap.size) :
    Calls Tryz.prog 116 #[.pointer (some ⟨b, 0, none⟩)] w fun e w' => e = .returned (.string ⟨#[]⟩) ∧ Below B w w' := Any.Builder_String_empty Tryz.lays169 Tryz.Builder_Extra_169 B b w h hBw
open Go.RowKit in
/-- (*strings.Builder).String: "String returns the accumulated string.": WHATEVER THE BUILDER HOLDS. (LAID: no walk: one application.) -/
theorem Tryz.Builder_String_any (B b : Nat) (l : List UInt8) (w : World) (h : Lib.IsBuilder 147 5 B b (Lib.byteCells l) w) (hBw : B ≤ w.heap.size) :
    Calls Tryz.prog 116 #[.pointer (some ⟨b, 0, none⟩)] w fun e w' => e = .returned (.string ⟨l.toArray⟩) ∧ Below B w w' := Any.Builder_String_any Tryz.lays169 Tryz.Builder_Extra_169 B b l w h hBw
def Tryz.lays241_ren : Go.Shelf.Ren := ⟨fun | 241 => 224 | 277 => 237 | n => n, fun | 70 => 145 | 3 => 3 | 0 => 0 | 72 => 147 | 37 => 44 | 5 => 5 | n => n, fun | n => n⟩
theorem Tryz.lays241 : Go.Proofs.Lays.n241 Tryz.prog Tryz.lays241_ren := {
  mixed := by kernel_rfl
  f241 := Tryz.func224.trans (congrArg some (by kernel_rfl))
  f277 := Tryz.func237.trans (congrArg some (by kernel_rfl))
  t0 := Tryz.underlying0
  a0 := Tryz.isAgg0
  z0 := Tryz.sizeOf0
  v0 := Tryz.zeroValue0
  t3 := Tryz.underlying3
  a3 := Tryz.isAgg3
  z3 := Tryz.sizeOf3
  v3 := Tryz.zeroValue3
  t37 := Tryz.underlying44
  a37 := Tryz.isAgg44
  z37 := Tryz.sizeOf44
  v37 := Tryz.zeroValue44
  t70 := Tryz.underlying145
  a70 := Tryz.isAgg145
  z70 := Tryz.sizeOf145
  v70 := Tryz.zeroValue145
  t72 := Tryz.underlying147
  a72 := Tryz.isAgg147
  z72 := Tryz.sizeOf147
  v72 := Tryz.zeroValue147 }
theorem Tryz.Builder_Extra_241 : Builder.Extra Tryz.prog Tryz.lays241_ren := {
  sizeBuilder := by kernel_rfl
  liesBuilder := by kernel_rfl
  t5 := Tryz.underlying5
  a5 := Tryz.isAgg5
  z5 := Tryz.sizeOf5
  v5 := Tryz.zeroValue5
  infoByte := by kernel_rfl
  cellsByte := by kernel_rfl
  sizeByte := by kernel_rfl
  neB5 := by decide }
open Go.RowKit in
/-- (*strings.Builder).grow (no doc but "grow copies the buffer to a new, larger buffer so that there are at least n bytes of capacity beyond len(b.buf)."): AT A BUILDER WITHOUT A BUFFER: a new row of whatever bytes for its buffer, none of them its own yet. Three draws. (LAID: no walk: one application.) -/
theorem Tryz.Builder_grow_fresh (B b n : Nat) (w : World) (hB : B ≤ b) (hbk : w.heap[b]? = some (.cells #[.pointer (some ⟨b, 0, none⟩), .slice none 0 0] 147 (0, 0))) (hBw : B ≤ w.heap.size) (hn : n ≤ 281474976710656) :
    Calls Tryz.prog 224 #[.pointer (some ⟨b, 0, none⟩), .int .i64 n] w fun e w' => e = .returned (.tuple #[]) ∧ (Lib.BuilderAt 147 5 B b (.pointer (some ⟨b, 0, none⟩)) [] w' ∧ Below B w w') := Any.Builder_grow_fresh Tryz.lays241 Tryz.Builder_Extra_241 B b n w hB hbk hBw hn
def Tryz.lays165_ren : Go.Shelf.Ren := ⟨fun | 165 => 196 | 240 => 159 | 241 => 224 | 276 => 197 | 277 => 237 | n => n, fun | 70 => 145 | 3 => 3 | 0 => 0 | 4 => 4 | 9 => 9 | 20 => 20 | 72 => 147 | 37 => 44 | 164 => 229 | 5 => 5 | n => n, fun | n => n⟩
theorem Tryz.lays165 : Go.Proofs.Lays.n165 Tryz.prog Tryz.lays165_ren := {
  mixed := by kernel_rfl
  f165 := Tryz.func196.trans (congrArg some (by kernel_rfl))
  f240 := Tryz.func159.trans (congrArg some (by kernel_rfl))
  f241 := Tryz.func224.trans (congrArg some (by kernel_rfl))
  f276 := Tryz.func197.trans (congrArg some (by kernel_rfl))
  f277 := Tryz.func237.trans (congrArg some (by kernel_rfl))
  t0 := Tryz.underlying0
  a0 := Tryz.isAgg0
  z0 := Tryz.sizeOf0
  v0 := Tryz.zeroValue0
  t3 := Tryz.underlying3
  a3 := Tryz.isAgg3
  z3 := Tryz.sizeOf3
  v3 := Tryz.zeroValue3
  t4 := Tryz.underlying4
  a4 := Tryz.isAgg4
  z4 := Tryz.sizeOf4
  v4 := Tryz.zeroValue4
  t9 := Tryz.underlying9
  a9 := Tryz.isAgg9
  z9 := Tryz.sizeOf9
  v9 := Tryz.zeroValue9
  t20 := Tryz.underlying20
  a20 := Tryz.isAgg20
  z20 := Tryz.sizeOf20
  v20 := Tryz.zeroValue20
  t37 := Tryz.underlying44
  a37 := Tryz.isAgg44
  z37 := Tryz.sizeOf44
  v37 := Tryz.zeroValue44
  t70 := Tryz.underlying145
  a70 := Tryz.isAgg145
  z70 := Tryz.sizeOf145
  v70 := Tryz.zeroValue145
  t72 := Tryz.underlying147
  a72 := Tryz.isAgg147
  z72 := Tryz.sizeOf147
  v72 := Tryz.zeroValue147
  t164 := Tryz.underlying229
  a164 := Tryz.isAgg229
  z164 := Tryz.sizeOf229
  v164 := Tryz.zeroValue229 }
theorem Tryz.Builder_Extra_165 : Builder.Extra Tryz.prog Tryz.lays165_ren := {
  sizeBuilder := by kernel_rfl
  liesBuilder := by kernel_rfl
  t5 := Tryz.underlying5
  a5 := Tryz.isAgg5
  z5 := Tryz.sizeOf5
  v5 := Tryz.zeroValue5
  infoByte := by kernel_rfl
  cellsByte := by kernel_rfl
  sizeByte := by kernel_rfl
  neB5 := by decide }
open Go.RowKit in
/-- (*strings.Builder).Grow AT A BUILDER THAT HAS NOT BEEN WRITTEN ('var b strings.Builder; b.Grow(n)'): "Grow grows b's capacity, if necessary, to guarantee space for another n bytes.": it holds no byte behind it as before it. (LAID: no walk: one application.) -/
theorem Tryz.Builder_Grow_fresh (B b n : Nat) (w : World) (hB : B ≤ b) (hbk : w.heap[b]? = some (.cells #[.pointer none, .slice none 0 0] 147 (0, 0))) (hBw : B ≤ w.heap.size) (hn : n ≤ 281474976710656) :
    Calls Tryz.prog 196 #[.pointer (some ⟨b, 0, none⟩), .int .i64 n] w fun e w' => e = .returned (.tuple #[]) ∧ (Lib.BuilderAt 147 5 B b (.pointer (some ⟨b, 0, none⟩)) [] w' ∧ Below B w w') := Any.Builder_Grow_fresh Tryz.lays165 Tryz.Builder_Extra_165 B b n w hB hbk hBw hn
def Tryz.lays128_ren : Go.Shelf.Ren := ⟨fun | 128 => 142 | n => n, fun | 51 => 175 | 3 => 3 | 4 => 4 | 46 => 131 | 5 => 5 | 9 => 9 | n => n, fun | n => n⟩
theorem Tryz.lays128 : Go.Proofs.Lays.n128 Tryz.prog Tryz.lays128_ren := {
  mixed := by kernel_rfl
  f128 := Tryz.func142.trans (congrArg some (by kernel_rfl))
  t3 := Tryz.underlying3
  a3 := Tryz.isAgg3
  z3 := Tryz.sizeOf3
  v3 := Tryz.zeroValue3
  t4 := Tryz.underlying4
  a4 := Tryz.isAgg4
  z4 := Tryz.sizeOf4
  v4 := Tryz.zeroValue4
  t5 := Tryz.underlying5
  a5 := Tryz.isAgg5
  z5 := Tryz.sizeOf5
  v5 := Tryz.zeroValue5
  t9 := Tryz.underlying9
  a9 := Tryz.isAgg9
  z9 := Tryz.sizeOf9
  v9 := Tryz.zeroValue9
  t46 := Tryz.underlying131
  a46 := Tryz.isAgg131
  z46 := Tryz.sizeOf131
  v46 := Tryz.zeroValue131
  t51 := Tryz.underlying175
  a51 := Tryz.isAgg175
  z51 := Tryz.sizeOf175
  v51 := Tryz.zeroValue175 }
/-- bits.Len32: "Len32 returns the minimum number of bits required to represent x; the result is 0 for x == 0.": IT RETURNS 'Lib.bitLen x'; the world is as it was. ('h0', 'h1': x is a uint32.) (LAID: no walk: one application.) -/
theorem Tryz.bits_Len32 (x : Int) (w : World) (h0 : 0 ≤ x) (h1 : x ≤ 4294967295) :
    Calls Tryz.prog 142 #[.int .u32 x] w fun e w' => e = .returned (.int .i64 (Lib.bitLen x.toNat)) ∧ w' = w := Any.bits_Len32 Tryz.lays128 x w h0 h1
def Tryz.lays125_ren : Go.Shelf.Ren := ⟨fun | 125 => 103 | 128 => 142 | 129 => 128 | n => n, fun | 46 => 131 | 3 => 3 | 51 => 175 | 53 => 61 | 4 => 4 | 5 => 5 | 9 => 9 | n => n, fun | n => n⟩
theorem Tryz.lays125 : Go.Proofs.Lays.n125 Tryz.prog Tryz.lays125_ren := {
  mixed := by kernel_rfl
  f125 := Tryz.func103.trans (congrArg some (by kernel_rfl))
  f128 := Tryz.func142.trans (congrArg some (by kernel_rfl))
  f129 := Tryz.func128.trans (congrArg some (by kernel_rfl))
  t3 := Tryz.underlying3
  a3 := Tryz.isAgg3
  z3 := Tryz.sizeOf3
  v3 := Tryz.zeroValue3
  t4 := Tryz.underlying4
  a4 := Tryz.isAgg4
  z4 := Tryz.sizeOf4
  v4 := Tryz.zeroValue4
  t5 := Tryz.underlying5
  a5 := Tryz.isAgg5
  z5 := Tryz.sizeOf5
  v5 := Tryz.zeroValue5
  t9 := Tryz.underlying9
  a9 := Tryz.isAgg9
  z9 := Tryz.sizeOf9
  v9 := Tryz.zeroValue9
  t46 := Tryz.underlying131
  a46 := Tryz.isAgg131
  z46 := Tryz.sizeOf131
  v46 := Tryz.zeroValue131
  t51 := Tryz.underlying175
  a51 := Tryz.isAgg175
  z51 := Tryz.sizeOf175
  v51 := Tryz.zeroValue175
  t53 := Tryz.underlying61
  a53 := Tryz.isAgg61
  z53 := Tryz.sizeOf61
  v53 := Tryz.zeroValue61 }
/-- bits.Len: "Len returns the minimum number of bits required to represent x; the result is 0 for x == 0.": IT RETURNS 'Lib.bitLen x'; the world is as it was. (A uint has 64 bits in the model.) ITS CALLEE bits.Len64 IS MET BY ITS OWN CONTRACT OFF THE SHELF (lay that first). (LAID: no walk: one application.) -/
theorem Tryz.bits_Len (x : Int) (w : World) (h0 : 0 ≤ x) (h1 : x ≤ 18446744073709551615) :
    Calls Tryz.prog 103 #[.int .u64 x] w fun e w' => e = .returned (.int .i64 (Lib.bitLen x.toNat)) ∧ w' = w := Any.bits_Len Tryz.lays125 x w h0 h1
def Tryz.lays134_ren : Go.Shelf.Ren := ⟨fun | 134 => 187 | 129 => 128 | n => n, fun | 53 => 61 | 3 => 3 | 4 => 4 | 46 => 131 | 5 => 5 | 9 => 9 | n => n, fun | n => n⟩
theorem Tryz.lays134 : Go.Proofs.Lays.n134 Tryz.prog Tryz.lays134_ren := {
  mixed := by kernel_rfl
  f129 := Tryz.func128.trans (congrArg some (by kernel_rfl))
  f134 := Tryz.func187.trans (congrArg some (by kernel_rfl))
  t3 := Tryz.underlying3
  a3 := Tryz.isAgg3
  z3 := Tryz.sizeOf3
  v3 := Tryz.zeroValue3
  t4 := Tryz.underlying4
  a4 := Tryz.isAgg4
  z4 := Tryz.sizeOf4
  v4 := Tryz.zeroValue4
  t5 := Tryz.underlying5
  a5 := Tryz.isAgg5
  z5 := Tryz.sizeOf5
  v5 := Tryz.zeroValue5
  t9 := Tryz.underlying9
  a9 := Tryz.isAgg9
  z9 := Tryz.sizeOf9
  v9 := Tryz.zeroValue9
  t46 := Tryz.underlying131
  a46 := Tryz.isAgg131
  z46 := Tryz.sizeOf131
  v46 := Tryz.zeroValue131
  t53 := Tryz.underlying61
  a53 := Tryz.isAgg61
  z53 := Tryz.sizeOf61
  v53 := Tryz.zeroValue61 }
/-- bits.LeadingZeros64: "LeadingZeros64 returns the number of leading zero bits in x; the result is 64 for x == 0.": IT RETURNS '64 - Lib.bitLen x'; the world is as it was. ITS CALLEE bits.Len64 IS MET BY ITS OWN CONTRACT OFF THE SHELF (lay that first): entered in place it sends the kernel out of memory. (LAID: no walk: one application.) -/
theorem Tryz.bits_LeadingZeros64 (x : Int) (w : World) (h0 : 0 ≤ x) (h1 : x ≤ 18446744073709551615) :
    Calls Tryz.prog 187 #[.int .u64 x] w fun e w' => e = .returned (.int .i64 (64 - (Lib.bitLen x.toNat : Int))) ∧ w' = w := Any.bits_LeadingZeros64 Tryz.lays134 x w h0 h1
def Tryz.lays210_ren : Go.Shelf.Ren := ⟨fun | 210 => 198 | 206 => 223 | n => n, fun | 9 => 9 | 4 => 4 | 3 => 3 | n => n, fun | n => n⟩
theorem Tryz.lays210 : Go.Proofs.Lays.n210 Tryz.prog Tryz.lays210_ren := {
  mixed := by kernel_rfl
  f206 := Tryz.func223.trans (congrArg some (by kernel_rfl))
  f210 := Tryz.func198.trans (congrArg some (by kernel_rfl))
  t3 := Tryz.underlying3
  a3 := Tryz.isAgg3
  z3 := Tryz.sizeOf3
  v3 := Tryz.zeroValue3
  t4 := Tryz.underlying4
  a4 := Tryz.isAgg4
  z4 := Tryz.sizeOf4
  v4 := Tryz.zeroValue4
  t9 := Tryz.underlying9
  a9 := Tryz.isAgg9
  z9 := Tryz.sizeOf9
  v9 := Tryz.zeroValue9 }
open Go.RowKit in
/-- internal/stringslite.CutPrefix (what strings.CutPrefix calls). (LAID: no walk: one application.) -/
theorem Tryz.stringslite_CutPrefix (s p : ByteArray) (w : World) :
    Calls Tryz.prog 198 #[.string s, .string p] w fun e w' => e = .returned (.tuple #[.string ⟨(Lib.trimPrefix s.data.toList p.data.toList).toArray⟩, .bool (Lib.hasPrefix s.data.toList p.data.toList)]) ∧ w' = w := Any.stringslite_CutPrefix Tryz.lays210 s p w
def Tryz.lays103_ren : Go.Shelf.Ren := ⟨fun | 103 => 160 | 210 => 198 | 206 => 223 | n => n, fun | 9 => 9 | 4 => 4 | 24 => 48 | 3 => 3 | n => n, fun | n => n⟩
theorem Tryz.lays103 : Go.Proofs.Lays.n103 Tryz.prog Tryz.lays103_ren := {
  mixed := by kernel_rfl
  f103 := Tryz.func160.trans (congrArg some (by kernel_rfl))
  f206 := Tryz.func223.trans (congrArg some (by kernel_rfl))
  f210 := Tryz.func198.trans (congrArg some (by kernel_rfl))
  t3 := Tryz.underlying3
  a3 := Tryz.isAgg3
  z3 := Tryz.sizeOf3
  v3 := Tryz.zeroValue3
  t4 := Tryz.underlying4
  a4 := Tryz.isAgg4
  z4 := Tryz.sizeOf4
  v4 := Tryz.zeroValue4
  t9 := Tryz.underlying9
  a9 := Tryz.isAgg9
  z9 := Tryz.sizeOf9
  v9 := Tryz.zeroValue9
  t24 := Tryz.underlying48
  a24 := Tryz.isAgg48
  z24 := Tryz.sizeOf48
  v24 := Tryz.zeroValue48 }
open Go.RowKit in
/-- strings.CutPrefix: "CutPrefix returns s without the provided leading prefix string and reports whether it found the prefix. If s doesn't start with prefix, CutPrefix returns s, false. If prefix is the empty string, CutPrefix returns s, true.": IT RETURNS '(Lib.trimPrefix s p, Lib.hasPrefix s p)'; the world is as it was. (LAID: no walk: one application.) -/
theorem Tryz.strings_CutPrefix (s p : ByteArray) (w : World) :
    Calls Tryz.prog 160 #[.string s, .string p] w fun e w' => e = .returned (.tuple #[.string ⟨(Lib.trimPrefix s.data.toList p.data.toList).toArray⟩, .bool (Lib.hasPrefix s.data.toList p.data.toList)]) ∧ w' = w := Any.strings_CutPrefix Tryz.lays103 s p w
def Tryz.lays215_ren : Go.Shelf.Ren := ⟨fun | 215 => 231 | n => n, fun | 3 => 3 | 4 => 4 | n => n, fun | n => n⟩
theorem Tryz.lays215 : Go.Proofs.Lays.n215 Tryz.prog Tryz.lays215_ren := {
  mixed := by kernel_rfl
  f215 := Tryz.func231.trans (congrArg some (by kernel_rfl))
  t3 := Tryz.underlying3
  a3 := Tryz.isAgg3
  z3 := Tryz.sizeOf3
  v3 := Tryz.zeroValue3
  t4 := Tryz.underlying4
  a4 := Tryz.isAgg4
  z4 := Tryz.sizeOf4
  v4 := Tryz.zeroValue4 }
open Go.RowKit in
/-- cmp.isNaN at int: 'x != x': false. (LAID: no walk: one application.) -/
theorem Tryz.cmp_isNaN_int (x : Int) (w : World) :
    Calls Tryz.prog 231 #[.int .i64 x] w fun e w' => e = .returned (.bool false) ∧ w' = w := Any.cmp_isNaN_int Tryz.lays215 x w
def Tryz.lays122_ren : Go.Shelf.Ren := ⟨fun | 122 => 214 | 215 => 231 | n => n, fun | 3 => 3 | 4 => 4 | n => n, fun | n => n⟩
theorem Tryz.lays122 : Go.Proofs.Lays.n122 Tryz.prog Tryz.lays122_ren := {
  mixed := by kernel_rfl
  f122 := Tryz.func214.trans (congrArg some (by kernel_rfl))
  f215 := Tryz.func231.trans (congrArg some (by kernel_rfl))
  t3 := Tryz.underlying3
  a3 := Tryz.isAgg3
  z3 := Tryz.sizeOf3
  v3 := Tryz.zeroValue3
  t4 := Tryz.underlying4
  a4 := Tryz.isAgg4
  z4 := Tryz.sizeOf4
  v4 := Tryz.zeroValue4 }
open Go.RowKit in
/-- cmp.Compare at int: "Compare returns -1 if x is less than y, 0 if x equals y, +1 if x is greater than y.": IT RETURNS 'Lib.compareInt x y'; the world is as it was. (LAID: no walk: one application.) -/
theorem Tryz.cmp_Compare_int (x y : Int) (w : World) :
    Calls Tryz.prog 214 #[.int .i64 x, .int .i64 y] w fun e w' => e = .returned (.int .i64 (Lib.compareInt x y)) ∧ w' = w := Any.cmp_Compare_int Tryz.lays122 x y w
open Go.RowKit in
/-- (*strings.Builder).Len: "Len returns the number of accumulated bytes; b.Len() == len(b.String()).": the world is as it was. (THE FORM '_f': 'Lib.IsBuilderF'.) (LAID: no walk: one application.) -/
theorem Tryz.Builder_Len_f (B b : Nat) (bs : List Value) (w : World) (h : Lib.IsBuilderF 147 5 B b bs w) :
    Calls Tryz.prog 158 #[.pointer (some ⟨b, 0, none⟩)] w fun e w' => e = .returned (.int .i64 bs.length) ∧ w' = w := Any.Builder_Len_f Tryz.lays170 B b bs w h
open Go.RowKit in
/-- (*strings.Builder).String: "String returns the accumulated string.": OF A BUILDER THAT HOLDS AT LEAST ONE BYTE. ✋ THE MODEL FREEZES THOSE BYTES IN THE BUFFER (unsafe.String): a later write INTO them ends the model's run without an answer; a later append BEHIND them goes on. The statement's order of evaluation is drawn: one draw. THE FORM '_f': IT SAYS BESIDES THAT THE BUILDER IS A BUILDER STILL ('Lib.IsBuilderF', the same bytes): SO IT CAN BE WRITTEN ON: 'b.WriteString(b.String()[:k])'. (LAID: no walk: one application.) -/
theorem Tryz.Builder_String_f (B b : Nat) (l : List UInt8) (w : World) (h : Lib.IsBuilderF 147 5 B b (Lib.byteCells l) w) (h0 : l ≠ []) :
    Calls Tryz.prog 116 #[.pointer (some ⟨b, 0, none⟩)] w fun e w' => e = .returned (.string ⟨l.toArray⟩) ∧ (Lib.IsBuilderF 147 5 B b (Lib.byteCells l) w' ∧ Below B w w') := Any.Builder_String_f Tryz.lays169 Tryz.Builder_Extra_169 B b l w h h0
open Go.RowKit in
/-- (*strings.Builder).String OF A BUILDER THAT HOLDS NO BYTE: the empty string; THE FORM '_f': a builder still. (LAID: no walk: one application.) -/
theorem Tryz.Builder_String_empty_f (B b : Nat) (w : World) (h : Lib.IsBuilderF 147 5 B b [] w) (hBw : B ≤ w.heap.size) :
    Calls Tryz.prog 116 #[.pointer (some ⟨b, 0, none⟩)] w fun e w' => e = .returned (.string ⟨#[]⟩) ∧ (Lib.IsBuilderF 147 5 B b [] w' ∧ Below B w w') := Any.Builder_String_empty_f Tryz.lays169 Tryz.Builder_Extra_169 B b w h hBw
open Go.RowKit in
/-- (*strings.Builder).String: "String returns the accumulated string.": WHATEVER THE BUILDER HOLDS; THE FORM '_f': OF A BUILDER THAT MAY HAVE BEEN READ BEFORE; AND IT IS A BUILDER STILL, holding the same bytes: it can be written on. (LAID: no walk: one application.) -/
theorem Tryz.Builder_String_any_f (B b : Nat) (l : List UInt8) (w : World) (h : Lib.IsBuilderF 147 5 B b (Lib.byteCells l) w) (hBw : B ≤ w.heap.size) :
    Calls Tryz.prog 116 #[.pointer (some ⟨b, 0, none⟩)] w fun e w' => e = .returned (.string ⟨l.toArray⟩) ∧ (Lib.IsBuilderF 147 5 B b (Lib.byteCells l) w' ∧ Below B w w') := Any.Builder_String_any_f Tryz.lays169 Tryz.Builder_Extra_169 B b l w h hBw
open Go.RowKit in
/-- (*strings.Builder).String: "String returns the accumulated string.": OF A BUILDER THAT HOLDS AT LEAST ONE BYTE. ✋ THE MODEL FREEZES THOSE BYTES IN THE BUFFER (unsafe.String): a later write INTO them ends the model's run without an answer; a later append BEHIND them goes on. The statement's order of evaluation is drawn: one draw. THE FORM '_k': OVER 'Lib.IsBuilderF' (a builder that 'String()' may have read), AND WITH THE FRAME THAT REACHES ABOVE THE BUILDER: 'Lib.OthersKept': every block that is not b and is no row of uint8's stands as it stood: the iterator of a range among them. (LAID: no walk: one application.) -/
theorem Tryz.Builder_String_k (B b : Nat) (l : List UInt8) (w : World) (h : Lib.IsBuilderF 147 5 B b (Lib.byteCells l) w) (h0 : l ≠ []) :
    Calls Tryz.prog 116 #[.pointer (some ⟨b, 0, none⟩)] w fun e w' => e = .returned (.string ⟨l.toArray⟩) ∧ (Lib.IsBuilderF 147 5 B b (Lib.byteCells l) w' ∧ Below B w w' ∧ Lib.OthersKept 5 (some b) w w') := Any.Builder_String_k Tryz.lays169 Tryz.Builder_Extra_169 B b l w h h0
open Go.RowKit in
/-- (*strings.Builder).String OF A BUILDER THAT HOLDS NO BYTE: the empty string; THE FORM '_k': OVER 'Lib.IsBuilderF' (a builder that 'String()' may have read), AND WITH THE FRAME THAT REACHES ABOVE THE BUILDER: 'Lib.OthersKept': every block that is not b and is no row of uint8's stands as it stood: the iterator of a range among them. (LAID: no walk: one application.) -/
theorem Tryz.Builder_String_empty_k (B b : Nat) (w : World) (h : Lib.IsBuilderF 147 5 B b [] w) (hBw : B ≤ w.heap.size) :
    Calls Tryz.prog 116 #[.pointer (some ⟨b, 0, none⟩)] w fun e w' => e = .returned (.string ⟨#[]⟩) ∧ (Lib.IsBuilderF 147 5 B b [] w' ∧ Below B w w' ∧ Lib.OthersKept 5 (some b) w w') := Any.Builder_String_empty_k Tryz.lays169 Tryz.Builder_Extra_169 B b w h hBw
open Go.RowKit in
/-- (*strings.Builder).String: "String returns the accumulated string.": WHATEVER THE BUILDER HOLDS; THE FORM '_k': OVER 'Lib.IsBuilderF' (a builder that 'String()' may have read), AND WITH THE FRAME THAT REACHES ABOVE THE BUILDER: 'Lib.OthersKept': every block that is not b and is no row of uint8's stands as it stood: the iterator of a range among them. (LAID: no walk: one application.) -/
theorem Tryz.Builder_String_any_k (B b : Nat) (l : List UInt8) (w : World) (h : Lib.IsBuilderF 147 5 B b (Lib.byteCells l) w) (hBw : B ≤ w.heap.size) :
    Calls Tryz.prog 116 #[.pointer (some ⟨b, 0, none⟩)] w fun e w' => e = .returned (.string ⟨l.toArray⟩) ∧ (Lib.IsBuilderF 147 5 B b (Lib.byteCells l) w' ∧ Below B w w' ∧ Lib.OthersKept 5 (some b) w w') := Any.Builder_String_any_k Tryz.lays169 Tryz.Builder_Extra_169 B b l w h hBw
open Go.RowKit in
/-- (*strings.Builder).grow (no doc but "grow copies the buffer to a new, larger buffer so that there are at least n bytes of capacity beyond len(b.buf)."): AT A BUILDER WITHOUT A BUFFER: a new row of whatever bytes for its buffer, none of them its own yet. Three draws. (LAID: no walk: one application.) -/
theorem Tryz.Builder_grow_fresh_cap (B b n : Nat) (w : World) (hB : B ≤ b) (hbk : w.heap[b]? = some (.cells #[.pointer (some ⟨b, 0, none⟩), .slice none 0 0] 147 (0, 0))) (hBw : B ≤ w.heap.size) (hn : n ≤ 281474976710656) :
    Calls Tryz.prog 224 #[.pointer (some ⟨b, 0, none⟩), .int .i64 n] w fun e w' => e = .returned (.tuple #[]) ∧ (Lib.BuilderAt 147 5 B b (.pointer (some ⟨b, 0, none⟩)) [] w' ∧ Below B w w') ∧ ∃ p cap, w'.cell? ⟨b, 1, none⟩ = some (.slice p 0 cap) ∧ n ≤ cap := Any.Builder_grow_fresh_cap Tryz.lays241 Tryz.Builder_Extra_241 B b n w hB hbk hBw hn
open Go.RowKit in
/-- (*strings.Builder).Grow AT A BUILDER THAT HAS NOT BEEN WRITTEN ('var b strings.Builder; b.Grow(n)'): "Grow grows b's capacity, if necessary, to guarantee space for another n bytes.": it holds no byte behind it as before it. (LAID: no walk: one application.) -/
theorem Tryz.Builder_Grow_fresh_cap (B b n : Nat) (w : World) (hB : B ≤ b) (hbk : w.heap[b]? = some (.cells #[.pointer none, .slice none 0 0] 147 (0, 0))) (hBw : B ≤ w.heap.size) (hn : n ≤ 281474976710656) :
    Calls Tryz.prog 196 #[.pointer (some ⟨b, 0, none⟩), .int .i64 n] w fun e w' => e = .returned (.tuple #[]) ∧ (Lib.BuilderAt 147 5 B b (.pointer (some ⟨b, 0, none⟩)) [] w' ∧ Below B w w') ∧ ∃ p cap, w'.cell? ⟨b, 1, none⟩ = some (.slice p 0 cap) ∧ n ≤ cap := Any.Builder_Grow_fresh_cap Tryz.lays165 Tryz.Builder_Extra_165 B b n w hB hbk hBw hn
def Tryz.lays129_ren : Go.Shelf.Ren := ⟨fun | 129 => 128 | n => n, fun | 53 => 61 | 3 => 3 | 4 => 4 | 46 => 131 | 5 => 5 | 9 => 9 | n => n, fun | n => n⟩
theorem Tryz.lays129 : Go.Proofs.Lays.n129 Tryz.prog Tryz.lays129_ren := {
  mixed := by kernel_rfl
  f129 := Tryz.func128.trans (congrArg some (by kernel_rfl))
  t3 := Tryz.underlying3
  a3 := Tryz.isAgg3
  z3 := Tryz.sizeOf3
  v3 := Tryz.zeroValue3
  t4 := Tryz.underlying4
  a4 := Tryz.isAgg4
  z4 := Tryz.sizeOf4
  v4 := Tryz.zeroValue4
  t5 := Tryz.underlying5
  a5 := Tryz.isAgg5
  z5 := Tryz.sizeOf5
  v5 := Tryz.zeroValue5
  t9 := Tryz.underlying9
  a9 := Tryz.isAgg9
  z9 := Tryz.sizeOf9
  v9 := Tryz.zeroValue9
  t46 := Tryz.underlying131
  a46 := Tryz.isAgg131
  z46 := Tryz.sizeOf131
  v46 := Tryz.zeroValue131
  t53 := Tryz.underlying61
  a53 := Tryz.isAgg61
  z53 := Tryz.sizeOf61
  v53 := Tryz.zeroValue61 }
/-- bits.Len64: "Len64 returns the minimum number of bits required to represent x; the result is 0 for x == 0.": IT RETURNS 'Lib.bitLen x'; the world is as it was. ('h0', 'h1': x is a uint64.) (LAID: no walk: one application.) -/
theorem Tryz.bits_Len64 (x : Int) (w : World) (h0 : 0 ≤ x) (h1 : x ≤ 18446744073709551615) :
    Calls Tryz.prog 128 #[.int .u64 x] w fun e w' => e = .returned (.int .i64 (Lib.bitLen x.toNat)) ∧ w' = w := Any.bits_Len64 Tryz.lays129 x w h0 h1
def Tryz.lays317_ren : Go.Shelf.Ren := ⟨fun | 317 => 233 | n => n, fun | 3 => 3 | 46 => 131 | n => n, fun | n => n⟩
theorem Tryz.lays317 : Go.Proofs.Lays.n317 Tryz.prog Tryz.lays317_ren := {
  mixed := by kernel_rfl
  f317 := Tryz.func233.trans (congrArg some (by kernel_rfl))
  t3 := Tryz.underlying3
  a3 := Tryz.isAgg3
  z3 := Tryz.sizeOf3
  v3 := Tryz.zeroValue3
  t46 := Tryz.underlying131
  a46 := Tryz.isAgg131
  z46 := Tryz.sizeOf131
  v46 := Tryz.zeroValue131 }
open Go.Lib in
/-- internal/strconv.log10Pow2: "log10Pow2(x) returns ⌊log₁₀ 2**x⌋ = ⌊x * log₁₀ 2⌋.": '(x * 78913) >> 18', at an x up to 64 (a length in bits). The world is as it was. (LAID: no walk: one application.) -/
theorem Tryz.internal_strconv_log10Pow2 (x : Nat) (h : x ≤ 64) (w : World) :
    Calls Tryz.prog 233 #[.int .i64 x] w fun e w' => e = .returned (.int .i64 (Lib.l10 x)) ∧ w' = w := Any.internal_strconv_log10Pow2 Tryz.lays317 x h w
def Tryz.lays318_ren : Go.Shelf.Ren := ⟨fun | 318 => 234 | n => n, fun | 3 => 3 | 4 => 4 | n => n, fun | n => n⟩
theorem Tryz.lays318 : Go.Proofs.Lays.n318 Tryz.prog Tryz.lays318_ren := {
  mixed := by kernel_rfl
  f318 := Tryz.func234.trans (congrArg some (by kernel_rfl))
  t3 := Tryz.underlying3
  a3 := Tryz.isAgg3
  z3 := Tryz.sizeOf3
  v3 := Tryz.zeroValue3
  t4 := Tryz.underlying4
  a4 := Tryz.isAgg4
  z4 := Tryz.sizeOf4
  v4 := Tryz.zeroValue4 }
open Go.Lib in
/-- internal/strconv.bool2: "bool2 converts b to an integer: 1 for true, 0 for false." The world is as it was. (LAID: no walk: one application.) -/
theorem Tryz.internal_strconv_bool2_int (b : Bool) (w : World) :
    Calls Tryz.prog 234 #[.bool b] w fun e w' => e = .returned (.int .i64 (if b then 1 else 0)) ∧ w' = w := Any.internal_strconv_bool2_int Tryz.lays318 b w
def Tryz.lays283_ren : Go.Shelf.Ren := ⟨fun | 283 => 218 | n => n, fun | 3 => 3 | 9 => 9 | 4 => 4 | n => n, fun | n => n⟩
theorem Tryz.lays283 : Go.Proofs.Lays.n283 Tryz.prog Tryz.lays283_ren := {
  mixed := by kernel_rfl
  f283 := Tryz.func218.trans (congrArg some (by kernel_rfl))
  t3 := Tryz.underlying3
  a3 := Tryz.isAgg3
  z3 := Tryz.sizeOf3
  v3 := Tryz.zeroValue3
  t4 := Tryz.underlying4
  a4 := Tryz.isAgg4
  z4 := Tryz.sizeOf4
  v4 := Tryz.zeroValue4
  t9 := Tryz.underlying9
  a9 := Tryz.isAgg9
  z9 := Tryz.sizeOf9
  v9 := Tryz.zeroValue9 }
open Go.Lib in
/-- internal/strconv.small: "small returns the string for an i with 0 <= i < nSmalls.": i's decimal numeral. The world is as it was. (LAID: no walk: one application.) -/
theorem Tryz.internal_strconv_small (i : Nat) (h : i < 100) (w : World) :
    Calls Tryz.prog 218 #[.int .i64 i] w fun e w' => e = .returned (.string ⟨(Lib.decDigits i).toArray⟩) ∧ w' = w := Any.internal_strconv_small Tryz.lays283 i h w
def Tryz.laysM284_ren : Go.Shelf.Ren := ⟨fun | 284 => 219 | 129 => 128 | 317 => 233 | 318 => 234 | n => n, fun | 53 => 61 | 3 => 3 | 212 => 281 | 0 => 0 | 4 => 4 | 46 => 131 | 5 => 5 | 9 => 9 | n => n, fun | 17 => 5 | n => n⟩
theorem Tryz.laysM284 : Go.Proofs.LaysM.n284 Tryz.prog Tryz.laysM284_ren := {
  mixed := by kernel_rfl
  f129 := Tryz.func128.trans (congrArg some (by kernel_rfl))
  f284 := Tryz.func219.trans (congrArg some (by kernel_rfl))
  f317 := Tryz.func233.trans (congrArg some (by kernel_rfl))
  f318 := Tryz.func234.trans (congrArg some (by kernel_rfl))
  t0 := Tryz.underlying0
  a0 := Tryz.isAgg0
  z0 := Tryz.sizeOf0
  v0 := Tryz.zeroValue0
  t3 := Tryz.underlying3
  a3 := Tryz.isAgg3
  z3 := Tryz.sizeOf3
  v3 := Tryz.zeroValue3
  t4 := Tryz.underlying4
  a4 := Tryz.isAgg4
  z4 := Tryz.sizeOf4
  v4 := Tryz.zeroValue4
  t5 := Tryz.underlying5
  a5 := Tryz.isAgg5
  z5 := Tryz.sizeOf5
  v5 := Tryz.zeroValue5
  t9 := Tryz.underlying9
  a9 := Tryz.isAgg9
  z9 := Tryz.sizeOf9
  v9 := Tryz.zeroValue9
  t46 := Tryz.underlying131
  a46 := Tryz.isAgg131
  z46 := Tryz.sizeOf131
  v46 := Tryz.zeroValue131
  t53 := Tryz.underlying61
  a53 := Tryz.isAgg61
  z53 := Tryz.sizeOf61
  v53 := Tryz.zeroValue61
  t212 := Tryz.underlying281
  a212 := Tryz.isAgg281
  z212 := Tryz.sizeOf281
  v212 := Tryz.zeroValue281
  g17 := by kernel_rfl
  i0 := by kernel_rfl
  i3 := by kernel_rfl
  i4 := by kernel_rfl
  i5 := by kernel_rfl
  i9 := by kernel_rfl
  i46 := by kernel_rfl
  i53 := by kernel_rfl
  i212 := by kernel_rfl
  m17 := by kernel_rfl }
open Go.Lib in
/-- internal/strconv.numDigits, at a d that is not 0: THE NUMBER OF d's DECIMAL DIGITS. The world is as it was. (LAID: no walk: one application.) -/
theorem Tryz.internal_strconv_numDigits (u : Nat) (h1 : 1 ≤ u) (h2 : u < 18446744073709551616) (w : World) (htab : Lib.TabIs Tryz.prog w "internal/strconv.uint64pow10" .u64 Lib.pow10Tab) :
    Calls Tryz.prog 219 #[.int .u64 u] w fun e w' => e = .returned (.int .i64 (Lib.nDigits u)) ∧ w' = w := Any.internal_strconv_numDigits Tryz.laysM284 u h1 h2 w htab
def Tryz.lays285_ren : Go.Shelf.Ren := ⟨fun | 285 => 220 | n => n, fun | 37 => 44 | 53 => 61 | 3 => 3 | 4 => 4 | 51 => 175 | 9 => 9 | 5 => 5 | 0 => 0 | n => n, fun | n => n⟩
theorem Tryz.lays285 : Go.Proofs.Lays.n285 Tryz.prog Tryz.lays285_ren := {
  mixed := by kernel_rfl
  f285 := Tryz.func220.trans (congrArg some (by kernel_rfl))
  t0 := Tryz.underlying0
  a0 := Tryz.isAgg0
  z0 := Tryz.sizeOf0
  v0 := Tryz.zeroValue0
  t3 := Tryz.underlying3
  a3 := Tryz.isAgg3
  z3 := Tryz.sizeOf3
  v3 := Tryz.zeroValue3
  t4 := Tryz.underlying4
  a4 := Tryz.isAgg4
  z4 := Tryz.sizeOf4
  v4 := Tryz.zeroValue4
  t5 := Tryz.underlying5
  a5 := Tryz.isAgg5
  z5 := Tryz.sizeOf5
  v5 := Tryz.zeroValue5
  t9 := Tryz.underlying9
  a9 := Tryz.isAgg9
  z9 := Tryz.sizeOf9
  v9 := Tryz.zeroValue9
  t37 := Tryz.underlying44
  a37 := Tryz.isAgg44
  z37 := Tryz.sizeOf44
  v37 := Tryz.zeroValue44
  t51 := Tryz.underlying175
  a51 := Tryz.isAgg175
  z51 := Tryz.sizeOf175
  v51 := Tryz.zeroValue175
  t53 := Tryz.underlying61
  a53 := Tryz.isAgg61
  z53 := Tryz.sizeOf61
  v53 := Tryz.zeroValue61 }
open Go.RowKit Go.Sort Go.Lib in
/-- internal/strconv.formatBase10: "formatBase10 formats the decimal representation of u into a. The caller is responsible for ensuring that a is big enough to hold u. If a is too big, leading zeros will be filled in as needed.": THE ROW HOLDS u's DIGITS ('FmtInv .. 0 ..': every place t holds 'dg u (len - 1 - t)'); all else is as it was but for the count of draws. (LAID: no walk: one application.) -/
theorem Tryz.internal_strconv_formatBase10 (blk off cap : Nat) (u : Nat) (d : Array UInt8) (w : World) (hH : Holds (fun (b : UInt8) => Value.int .u8 (b.toNat : Int)) w blk off d) (hu : u < 10 ^ d.size) (hu64 : u < 18446744073709551616) (hsz : d.size < 4611686018427387904) :
    Calls Tryz.prog 220 #[.slice (some ⟨blk, off, none⟩) d.size cap, .int .u64 u] w fun e w' =>
      e = .returned (.tuple #[]) ∧ ∃ (n v' : Nat) (dk : Array UInt8), w' = (putRow (fun (b : UInt8) => Value.int .u8 (b.toNat : Int)) w blk off dk).drewN n ∧ FmtInv d.size u 0 v' dk := Any.internal_strconv_formatBase10 Tryz.lays285 blk off cap u d w hH hu hu64 hsz
def Tryz.lays206_ren : Go.Shelf.Ren := ⟨fun | 206 => 223 | n => n, fun | 9 => 9 | 4 => 4 | 3 => 3 | n => n, fun | n => n⟩
theorem Tryz.lays206 : Go.Proofs.Lays.n206 Tryz.prog Tryz.lays206_ren := {
  mixed := by kernel_rfl
  f206 := Tryz.func223.trans (congrArg some (by kernel_rfl))
  t3 := Tryz.underlying3
  a3 := Tryz.isAgg3
  z3 := Tryz.sizeOf3
  v3 := Tryz.zeroValue3
  t4 := Tryz.underlying4
  a4 := Tryz.isAgg4
  z4 := Tryz.sizeOf4
  v4 := Tryz.zeroValue4
  t9 := Tryz.underlying9
  a9 := Tryz.isAgg9
  z9 := Tryz.sizeOf9
  v9 := Tryz.zeroValue9 }
open Go.RowKit Go.Lib in
/-- internal/stringslite.HasPrefix (what strings.HasPrefix calls). (LAID: no walk: one application.) -/
theorem Tryz.stringslite_HasPrefix (s p : ByteArray) (w : World) :
    Calls Tryz.prog 223 #[.string s, .string p] w fun e w' => e = .returned (.bool (Lib.hasPrefix s.data.toList p.data.toList)) ∧ w' = w := Any.stringslite_HasPrefix Tryz.lays206 s p w
def Tryz.lays99_ren : Go.Shelf.Ren := ⟨fun | 99 => 195 | 206 => 223 | n => n, fun | 9 => 9 | 4 => 4 | 3 => 3 | n => n, fun | n => n⟩
theorem Tryz.lays99 : Go.Proofs.Lays.n99 Tryz.prog Tryz.lays99_ren := {
  mixed := by kernel_rfl
  f99 := Tryz.func195.trans (congrArg some (by kernel_rfl))
  f206 := Tryz.func223.trans (congrArg some (by kernel_rfl))
  t3 := Tryz.underlying3
  a3 := Tryz.isAgg3
  z3 := Tryz.sizeOf3
  v3 := Tryz.zeroValue3
  t4 := Tryz.underlying4
  a4 := Tryz.isAgg4
  z4 := Tryz.sizeOf4
  v4 := Tryz.zeroValue4
  t9 := Tryz.underlying9
  a9 := Tryz.isAgg9
  z9 := Tryz.sizeOf9
  v9 := Tryz.zeroValue9 }
open Go.RowKit Go.Lib in
/-- strings.HasPrefix: "HasPrefix reports whether the string s begins with prefix.": IT RETURNS 'Lib.hasPrefix s prefix'; the world is as it was. (LAID: no walk: one application.) -/
theorem Tryz.strings_HasPrefix (s p : ByteArray) (w : World) :
    Calls Tryz.prog 195 #[.string s, .string p] w fun e w' => e = .returned (.bool (Lib.hasPrefix s.data.toList p.data.toList)) ∧ w' = w := Any.strings_HasPrefix Tryz.lays99 s p w
def Tryz.lays264_ren : Go.Shelf.Ren := ⟨fun | 264 => 130 | n => n, fun | 53 => 61 | 46 => 131 | n => n, fun | n => n⟩
theorem Tryz.lays264 : Go.Proofs.Lays.n264 Tryz.prog Tryz.lays264_ren := {
  mixed := by kernel_rfl
  f264 := Tryz.func130.trans (congrArg some (by kernel_rfl))
  t46 := Tryz.underlying131
  a46 := Tryz.isAgg131
  z46 := Tryz.sizeOf131
  v46 := Tryz.zeroValue131
  t53 := Tryz.underlying61
  a53 := Tryz.isAgg61
  z53 := Tryz.sizeOf61
  v53 := Tryz.zeroValue61 }
open Go.RowKit Go.Lib in
theorem Tryz.bits_Mul64 (x y : Nat) (hx : x < 18446744073709551616) (hy : y < 18446744073709551616) (w : World) :
    Calls Tryz.prog 130 #[.int .u64 x, .int .u64 y] w fun e w' => e = .returned (.tuple #[.int .u64 ((x * y / 18446744073709551616 : Nat) : Int), .int .u64 ((x * y % 18446744073709551616 : Nat) : Int)]) ∧ w' = w := Any.bits_Mul64 Tryz.lays264 x y hx hy w
def Tryz.lays212_ren : Go.Shelf.Ren := ⟨fun | 212 => 194 | 263 => 222 | 264 => 130 | n => n, fun | 46 => 131 | 51 => 175 | 146 => 258 | 53 => 61 | 148 => 164 | n => n, fun | n => n⟩
theorem Tryz.lays212 : Go.Proofs.Lays.n212 Tryz.prog Tryz.lays212_ren := {
  mixed := by kernel_rfl
  f212 := Tryz.func194.trans (congrArg some (by kernel_rfl))
  f263 := Tryz.func222.trans (congrArg some (by kernel_rfl))
  f264 := Tryz.func130.trans (congrArg some (by kernel_rfl))
  t46 := Tryz.underlying131
  a46 := Tryz.isAgg131
  z46 := Tryz.sizeOf131
  v46 := Tryz.zeroValue131
  t51 := Tryz.underlying175
  a51 := Tryz.isAgg175
  z51 := Tryz.sizeOf175
  v51 := Tryz.zeroValue175
  t53 := Tryz.underlying61
  a53 := Tryz.isAgg61
  z53 := Tryz.sizeOf61
  v53 := Tryz.zeroValue61
  t146 := Tryz.underlying258
  a146 := Tryz.isAgg258
  z146 := Tryz.sizeOf258
  v146 := Tryz.zeroValue258
  t148 := Tryz.underlying164
  a148 := Tryz.isAgg164
  z148 := Tryz.sizeOf164
  v148 := Tryz.zeroValue164 }
open Go.RowKit Go.Lib in
/-- math/bits.Mul: "Mul returns the full-width product of x and y": on a machine of 64 bits: Mul64's. (LAID: no walk: one application.) -/
theorem Tryz.bits_Mul (x y : Nat) (hx : x < 18446744073709551616) (hy : y < 18446744073709551616) (w : World) :
    Calls Tryz.prog 194 #[.int .u64 x, .int .u64 y] w fun e w' => e = .returned (.tuple #[.int .u64 ((x * y / 18446744073709551616 : Nat) : Int), .int .u64 ((x * y % 18446744073709551616 : Nat) : Int)]) ∧ w' = w := Any.bits_Mul Tryz.lays212 x y hx hy w
def Tryz.lays105_ren : Go.Shelf.Ren := ⟨fun | 105 => 157 | 212 => 194 | 99 => 195 | 165 => 196 | 166 => 114 | 170 => 158 | 169 => 116 | 263 => 222 | 264 => 130 | 206 => 223 | 240 => 159 | 241 => 224 | 276 => 197 | 277 => 237 | n => n, fun | 9 => 9 | 3 => 3 | 4 => 4 | 20 => 20 | 0 => 0 | 46 => 131 | 109 => 225 | 5 => 5 | 72 => 147 | 76 => 149 | 51 => 175 | 146 => 258 | 53 => 61 | 148 => 164 | 70 => 145 | 37 => 44 | 75 => 67 | 127 => 193 | 164 => 229 | 80 => 151 | n => n, fun | n => n⟩
theorem Tryz.lays105 : Go.Proofs.Lays.n105 Tryz.prog Tryz.lays105_ren := {
  mixed := by kernel_rfl
  f99 := Tryz.func195.trans (congrArg some (by kernel_rfl))
  f105 := Tryz.func157.trans (congrArg some (by kernel_rfl))
  f165 := Tryz.func196.trans (congrArg some (by kernel_rfl))
  f166 := Tryz.func114.trans (congrArg some (by kernel_rfl))
  f169 := Tryz.func116.trans (congrArg some (by kernel_rfl))
  f170 := Tryz.func158.trans (congrArg some (by kernel_rfl))
  f206 := Tryz.func223.trans (congrArg some (by kernel_rfl))
  f212 := Tryz.func194.trans (congrArg some (by kernel_rfl))
  f240 := Tryz.func159.trans (congrArg some (by kernel_rfl))
  f241 := Tryz.func224.trans (congrArg some (by kernel_rfl))
  f263 := Tryz.func222.trans (congrArg some (by kernel_rfl))
  f264 := Tryz.func130.trans (congrArg some (by kernel_rfl))
  f276 := Tryz.func197.trans (congrArg some (by kernel_rfl))
  f277 := Tryz.func237.trans (congrArg some (by kernel_rfl))
  t0 := Tryz.underlying0
  a0 := Tryz.isAgg0
  z0 := Tryz.sizeOf0
  v0 := Tryz.zeroValue0
  t3 := Tryz.underlying3
  a3 := Tryz.isAgg3
  z3 := Tryz.sizeOf3
  v3 := Tryz.zeroValue3
  t4 := Tryz.underlying4
  a4 := Tryz.isAgg4
  z4 := Tryz.sizeOf4
  v4 := Tryz.zeroValue4
  t5 := Tryz.underlying5
  a5 := Tryz.isAgg5
  z5 := Tryz.sizeOf5
  v5 := Tryz.zeroValue5
  t9 := Tryz.underlying9
  a9 := Tryz.isAgg9
  z9 := Tryz.sizeOf9
  v9 := Tryz.zeroValue9
  t20 := Tryz.underlying20
  a20 := Tryz.isAgg20
  z20 := Tryz.sizeOf20
  v20 := Tryz.zeroValue20
  t37 := Tryz.underlying44
  a37 := Tryz.isAgg44
  z37 := Tryz.sizeOf44
  v37 := Tryz.zeroValue44
  t46 := Tryz.underlying131
  a46 := Tryz.isAgg131
  z46 := Tryz.sizeOf131
  v46 := Tryz.zeroValue131
  t51 := Tryz.underlying175
  a51 := Tryz.isAgg175
  z51 := Tryz.sizeOf175
  v51 := Tryz.zeroValue175
  t53 := Tryz.underlying61
  a53 := Tryz.isAgg61
  z53 := Tryz.sizeOf61
  v53 := Tryz.zeroValue61
  t70 := Tryz.underlying145
  a70 := Tryz.isAgg145
  z70 := Tryz.sizeOf145
  v70 := Tryz.zeroValue145
  t72 := Tryz.underlying147
  a72 := Tryz.isAgg147
  z72 := Tryz.sizeOf147
  v72 := Tryz.zeroValue147
  t75 := Tryz.underlying67
  a75 := Tryz.isAgg67
  z75 := Tryz.sizeOf67
  v75 := Tryz.zeroValue67
  t76 := Tryz.underlying149
  a76 := Tryz.isAgg149
  z76 := Tryz.sizeOf149
  v76 := Tryz.zeroValue149
  t109 := Tryz.underlying225
  a109 := Tryz.isAgg225
  z109 := Tryz.sizeOf225
  v109 := Tryz.zeroValue225
  t127 := Tryz.underlying193
  a127 := Tryz.isAgg193
  z127 := Tryz.sizeOf193
  v127 := Tryz.zeroValue193
  t146 := Tryz.underlying258
  a146 := Tryz.isAgg258
  z146 := Tryz.sizeOf258
  v146 := Tryz.zeroValue258
  t148 := Tryz.underlying164
  a148 := Tryz.isAgg164
  z148 := Tryz.sizeOf164
  v148 := Tryz.zeroValue164
  t164 := Tryz.underlying229
  a164 := Tryz.isAgg229
  z164 := Tryz.sizeOf229
  v164 := Tryz.zeroValue229 }
theorem Tryz.Builder_Extra_105 : Builder.Extra Tryz.prog Tryz.lays105_ren := {
  sizeBuilder := by kernel_rfl
  liesBuilder := by kernel_rfl
  t5 := Tryz.underlying5
  a5 := Tryz.isAgg5
  z5 := Tryz.sizeOf5
  v5 := Tryz.zeroValue5
  infoByte := by kernel_rfl
  cellsByte := by kernel_rfl
  sizeByte := by kernel_rfl
  neB5 := by decide }
open Go.RowKit Go.Lib in
/-- THE MAIN CASE: at least two copies of a string that is not empty. (LAID: no walk: one application.) -/
theorem Tryz.strings_Repeat_main (s : ByteArray) (c : Nat) (w : World) (hc2 : 2 ≤ c) (hc : c ≤ 9223372036854775807) (hlen : s.size * c ≤ 140737488355328) (h0 : 0 < s.size) :
    Calls Tryz.prog 157 #[.string s, .int .i64 c] w fun e w' => e = .returned (.string ⟨(Lib.repeatL s.data.toList c).toArray⟩) ∧ Below w.heap.size w w' := Any.strings_Repeat_main Tryz.lays105 Tryz.Builder_Extra_105 s c w hc2 hc hlen h0
open Go.RowKit Go.Lib in
theorem Tryz.strings_Repeat_zero (s : ByteArray) (w : World) :
    Calls Tryz.prog 157 #[.string s, .int .i64 0] w fun e w' => e = .returned (.string ⟨#[]⟩) ∧ w' = w := Any.strings_Repeat_zero Tryz.lays105 s w
open Go.RowKit Go.Lib in
theorem Tryz.strings_Repeat_one (s : ByteArray) (w : World) :
    Calls Tryz.prog 157 #[.string s, .int .i64 1] w fun e w' => e = .returned (.string s) ∧ w' = w := Any.strings_Repeat_one Tryz.lays105 s w
open Go.RowKit Go.Lib in
/-- Copies of the empty string. (LAID: no walk: one application.) -/
theorem Tryz.strings_Repeat_empty (s : ByteArray) (c : Nat) (w : World) (hc2 : 2 ≤ c) (hc : c ≤ 9223372036854775807) (h0 : s.size = 0) :
    Calls Tryz.prog 157 #[.string s, .int .i64 c] w fun e w' => e = .returned (.string ⟨#[]⟩) ∧ w' = w := Any.strings_Repeat_empty Tryz.lays105 s c w hc2 hc h0
open Go.RowKit Go.Lib in
/-- count < 0: "It panics if count is negative". (LAID: no walk: one application.) -/
theorem Tryz.strings_Repeat_negative (s : ByteArray) (c : Int) (w : World) (hc : c < 0) :
    Calls Tryz.prog 157 #[.string s, .int .i64 c] w fun e w' => e = .panicked [{ v := repeatPanic Tryz.lays105_ren "strings: negative Repeat count", recovered := false }] ∧ w' = w := Any.strings_Repeat_negative Tryz.lays105 s c w hc
open Go.RowKit Go.Lib in
/-- len(s) * count is no int: ".. or if the result of (len(s) * count) overflows". (LAID: no walk: one application.) -/
theorem Tryz.strings_Repeat_overflow (s : ByteArray) (c : Nat) (w : World) (hc : c ≤ 9223372036854775807) (hs : s.size ≤ 9223372036854775807) (hbig : 9223372036854775807 < s.size * c) :
    Calls Tryz.prog 157 #[.string s, .int .i64 c] w fun e w' => e = .panicked [{ v := repeatPanic Tryz.lays105_ren "strings: Repeat output length overflow", recovered := false }] ∧ w' = w := Any.strings_Repeat_overflow Tryz.lays105 s c w hc hs hbig
open Go.RowKit Go.Lib in
/-- **strings.Repeat: count ≥ 0, the result within one allocation: count copies of s.** (LAID: no walk: one application.) -/
theorem Tryz.strings_Repeat (s : ByteArray) (c : Nat) (w : World) (hc : c ≤ 9223372036854775807) (hlen : s.size * c ≤ 140737488355328) :
    Calls Tryz.prog 157 #[.string s, .int .i64 c] w fun e w' => e = .returned (.string ⟨(Lib.repeatL s.data.toList c).toArray⟩) ∧ Below w.heap.size w w' := Any.strings_Repeat Tryz.lays105 Tryz.Builder_Extra_105 s c w hc hlen
def Tryz.laysNm237_ren : Go.Shelf.Ren := ⟨fun | 37 => 231 | n => n, fun | 3 => 3 | 4 => 4 | n => n, fun | n => n⟩
theorem Tryz.laysNm237 : Go.Proofs.Lays2.n37 Tryz.prog Tryz.laysNm237_ren := {
  mixed := by kernel_rfl
  f37 := Tryz.func231.trans (congrArg some (by kernel_rfl))
  t3 := Tryz.underlying3
  a3 := Tryz.isAgg3
  z3 := Tryz.sizeOf3
  v3 := Tryz.zeroValue3
  t4 := Tryz.underlying4
  a4 := Tryz.isAgg4
  z4 := Tryz.sizeOf4
  v4 := Tryz.zeroValue4 }
open Go.RowKit Go.Lib in
/-- cmp.isNaN[int]: 'x != x': false. (LAID: no walk: one application.) -/
theorem Tryz.cmp_isNaN_int2 (x : Int) (w : World) :
    Calls Tryz.prog 231 #[.int .i64 x] w fun e w' => e = .returned (.bool false) ∧ w' = w := Any.cmp_isNaN_int2 Tryz.laysNm237 x w
def Tryz.laysSlE041_f95_ren : Go.Shelf.Ren := ⟨fun | 41 => 95 | n => n, fun | 22 => 63 | 23 => 61 | 4 => 4 | n => n, fun | n => n⟩
theorem Tryz.laysSlE041_f95 : Go.Proofs.SlLaysE0.n41 Tryz.prog Tryz.laysSlE041_f95_ren := {
  mixed := by kernel_rfl
  f41 := ⟨Tryz.f95.name, by decide, Tryz.func95.trans (congrArg some (by kernel_rfl))⟩
  t4 := Tryz.underlying4
  a4 := Tryz.isAgg4
  z4 := Tryz.sizeOf4
  v4 := Tryz.zeroValue4
  t22 := Tryz.underlying63
  a22 := Tryz.isAgg63
  z22 := Tryz.sizeOf63
  v22 := Tryz.zeroValue63 }
open Go.RowKit Go.Lib in
/-- slices.Clone: "Clone returns a copy of the slice. The elements are copied using assignment, so this is a shallow clone. The result may have additional unused capacity. The result preserves the nilness of s.": OF A SLICE THAT IS NOT nil IT RETURNS A SLICE THAT IS NOT nil, OF THE SAME CELLS, IN MEMORY OF THE CALL's OWN ('ownsRow': the how-to's 6f); below the heap's size at the call all is as it was. (LAID AT THE INSTANCE 'slices.Clone[[]uint64,uint64]': no walk: one application.) -/
theorem Tryz.slices_Clone (i0 : TypeInfo) (z : Value) (size bytes : Nat) (hi : Tryz.prog.info? 61 = some i0) (hz0 : i0.zero = some z) (hz1 : i0.size = size) (hz2 : i0.bytes = bytes) (hzs : z.cells.size = size) (hsz : 0 < size) (z23 : ∀ w, (Go.sizeOf 61).run Tryz.prog w = .ok size w) (b off n c : Nat) (news : List Value) (w : World) (hl : news.length = n * size) (hn : n ≤ maxLen) (hbig : n * bytes ≤ 140737488355328) (hc : ∀ j u, news[j]? = some u → w.cell? ⟨b, off + j, none⟩ = some u) (h1 : ∀ u ∈ news, u.oneCell' = true) :
    Calls Tryz.prog 95 #[.slice (some ⟨b, off, none⟩) n c] w fun e w' => ∃ v', e = .returned v' ∧ w'.ownsRow w.heap.size 61 size v' n news ∧ v' ≠ .slice none 0 0 ∧ Below w.heap.size w w' := AnyE.slices_Clone Tryz.laysSlE041_f95 i0 z size bytes hi hz0 hz1 hz2 hzs hsz z23 b off n c news w hl hn hbig hc h1
open Go.RowKit Go.Lib in
/-- The same at nil: nil comes back; the world is as it was; nothing is asked of the element's type. (LAID AT THE INSTANCE 'slices.Clone[[]uint64,uint64]': no walk: one application.) -/
theorem Tryz.slices_Clone_nil (n c : Nat) (w : World) :
    Calls Tryz.prog 95 #[.slice none n c] w fun e w' => e = .returned (.slice none 0 0) ∧ w' = w := AnyE.slices_Clone_nil Tryz.laysSlE041_f95 n c w
end Go.Proofs

namespace Go.Proofs.YtnfehccicnpbpaaGreatDoor
open Go Go.RowKit

/-- how many values a limb has -/
def W64 : Nat := 18446744073709551616
theorem W64_eq : W64 = 18446744073709551616 := rfl
theorem W64_two : 2 ≤ W64 := by rw [W64_eq]; omega
theorem wrapu (z : Int) (h0 : 0 ≤ z) (h1 : z ≤ 18446744073709551615) : IntKind.u64.wrap z = z := by rw [IntKind.wrap_u64]; omega

end Go.Proofs.YtnfehccicnpbpaaGreatDoor

namespace Go.Proofs.YtnfehccicnpbpaaGreatDoor
/-- a half step of a long division: the quotient is at most the guess -/
theorem half_start (b D y1 y0 u n q r : Nat) (hD : D = y1 * b + y0) (hy0 : y0 < b) (hb : b ≤ 2 * y1) (hu : u < D) (hn : n < b) (h : u = q * y1 + r) (hr : r < y1) : (u * b + n) / D ≤ q ∧ q ≤ b + 1 ∧ (u * b + n) / D < b := by
  have hb0 : 0 < b := by omega
  have hy1 : 0 < y1 := by omega
  have hD0 : 0 < D := by omega
  refine ⟨?_, ?_, ?_⟩
  · have h1 : u * b + n < (q + 1) * (y1 * b) := by
      have : u + 1 ≤ (q + 1) * y1 := by rw [h, Nat.add_mul, Nat.one_mul]; omega
      have h2 : (u + 1) * b ≤ (q + 1) * y1 * b := Nat.mul_le_mul_right _ this
      rw [Nat.add_mul, Nat.one_mul, Nat.mul_assoc] at h2
      omega
    have h2 : (q + 1) * (y1 * b) ≤ (q + 1) * D := Nat.mul_le_mul_left _ (by omega)
    have := (Nat.div_lt_iff_lt_mul hD0).2 (show u * b + n < (q + 1) * D by omega)
    omega
  · rcases Nat.lt_or_ge q (b + 2) with hq | hq
    · omega
    · exfalso
      have h1 : (b + 2) * y1 ≤ q * y1 := Nat.mul_le_mul_right _ hq
      have e : (b + 2) * y1 = y1 * b + 2 * y1 := by rw [Nat.add_mul, Nat.mul_comm b]
      omega
  · rw [Nat.div_lt_iff_lt_mul hD0]
    have : (u + 1) * b ≤ D * b := Nat.mul_le_mul_right _ hu
    rw [Nat.add_mul, Nat.mul_comm D] at this
    omega

theorem half_val (b D y1 y0 u q r : Nat) (hD : D = y1 * b + y0) (h : u = q * y1 + r) : q * D + r * b = u * b + q * y0 := by
  rw [hD, h]; grind

/-- the guess is too great -/
theorem half_dec (b D y1 y0 u n q r : Nat) (hD : D = y1 * b + y0) (hD0 : 0 < D) (h : u = q * y1 + r) (hQb : (u * b + n) / D < b) (hq : (u * b + n) / D ≤ q) (hc : b ≤ q ∨ b * r + n < q * y0) :
    1 ≤ q ∧ (u * b + n) / D ≤ q - 1 ∧ u = (q - 1) * y1 + (r + y1) := by
  have hlt : (u * b + n) / D < q := by
    rcases hc with hc | hc
    · omega
    · rw [Nat.div_lt_iff_lt_mul hD0]
      have := half_val b D y1 y0 u q r hD h
      rw [Nat.mul_comm r] at this
      omega
  generalize (u * b + n) / D = Q at *
  refine ⟨by omega, by omega, ?_⟩
  obtain ⟨p, rfl⟩ : ∃ p, q = p + 1 := ⟨q - 1, by omega⟩
  rw [h, Nat.add_sub_cancel, Nat.add_mul, Nat.one_mul]; omega

/-- the guess is right -/
theorem half_stop (b D y1 y0 u n q r : Nat) (hD : D = y1 * b + y0) (hD0 : 0 < D) (h : u = q * y1 + r) (hq : (u * b + n) / D ≤ q) (hc : q * y0 ≤ b * r + n) : q = (u * b + n) / D := by
  have := half_val b D y1 y0 u q r hD h
  rw [Nat.mul_comm r] at this
  have h2 := (Nat.le_div_iff_mul_le hD0).2 (show q * D ≤ u * b + n by omega)
  omega

theorem half_break (b D y1 y0 u n q r : Nat) (hD : D = y1 * b + y0) (hD0 : 0 < D) (hy0 : y0 < b) (h : u = q * y1 + r) (hq : (u * b + n) / D ≤ q) (hqb : q ≤ b) (hr : b ≤ r) : q = (u * b + n) / D := by
  refine half_stop b D y1 y0 u n q r hD hD0 h hq ?_
  have h1 : q * y0 ≤ b * y0 := Nat.mul_le_mul_right _ hqb
  have h2 : b * y0 ≤ b * r := Nat.mul_le_mul_left _ (by omega)
  omega

/-- two half steps make a step -/
theorem two_halves (b D u n1 n0 : Nat) (hD : 0 < D) : (u * (b * b) + (n1 * b + n0)) / D = (u * b + n1) / D * b + ((u * b + n1) % D * b + n0) / D ∧ (u * (b * b) + (n1 * b + n0)) % D = ((u * b + n1) % D * b + n0) % D := by
  have e : u * (b * b) + (n1 * b + n0) = ((u * b + n1) % D * b + n0) + D * ((u * b + n1) / D * b) := by
    have := Nat.div_add_mod (u * b + n1) D
    generalize (u * b + n1) / D = q at *
    generalize (u * b + n1) % D = r at *
    grind
  rw [e]
  refine ⟨?_, ?_⟩
  · rw [Nat.add_mul_div_left _ _ hD]; omega
  · rw [Nat.add_mul_mod_self_left]

/-- what is left of a subtraction that wraps -/
theorem sub_wrap (A P : Int) (N D : Nat) (M : Int) (q : Nat) (hA : A % M = (N : Int) % M) (hP : P % M = ((q * D : Nat) : Int) % M) (hq : q = N / D) (hD : ((D : Nat) : Int) ≤ M) (hD0 : 0 < D) : (A - P) % M = ((N % D : Nat) : Int) := by
  have h1 : (A - P) % M = (((N : Int)) - ((q * D : Nat) : Int)) % M := by rw [Int.sub_emod, hA, hP, ← Int.sub_emod]
  have h2 := Nat.div_add_mod N D
  have h3 := Nat.mod_lt N hD0
  rw [h1, hq]
  have e : (N : Int) - ((N / D * D : Nat) : Int) = ((N % D : Nat) : Int) := by
    rw [Nat.mul_comm (N / D) D]
    omega
  rw [e, Int.emod_eq_of_lt (by omega) (by omega)]

/-- shifting a number and a divisor alike -/
theorem shift_div (N D p : Nat) (hp : 0 < p) : N * p / (D * p) = N / D ∧ N * p % (D * p) / p = N % D := by
  refine ⟨Nat.mul_div_mul_right _ _ hp, ?_⟩
  rw [Nat.mul_mod_mul_right, Nat.mul_div_cancel _ hp]
end Go.Proofs.YtnfehccicnpbpaaGreatDoor

namespace Go.Proofs.YtnfehccicnpbpaaGreatDoor
open Go Go.RowKit

set_option maxRecDepth 100000 in
set_option maxHeartbeats 1000000 in
theorem div64_small (lo y : Nat) (w : World) (hlo : lo < W64) (hlt : 0 < y) (R : Ending → World → Prop)
    (hR : ∀ n, R (.returned (.tuple #[.int .u64 ((lo / y : Nat) : Int), .int .u64 ((lo % y : Nat) : Int)])) (w.drewN n)) :
    Calls Tryz.prog 165 #[.int .u64 0, .int .u64 ((lo : Nat) : Int), .int .u64 ((y : Nat) : Int)] w R := by
  have HR := Lib.hid hR; clear hR
  have e1 : ((y : Int) == 0) = false := by simp; omega
  have e2 : ¬ ((y : Int) ≤ 0) := by omega
  have hq1 : (0 : Int) ≤ (lo : Int) := by omega
  have hq2 : (1 : Int) ≤ (y : Int) := by omega
  have HLO := Lib.hid hlo
  clear hlo
  go_enter Tryz.func165, Tryz.ntmps165
  go_wp2
  go_quiet (fail)
  go_wp2
  first | go_ret | skip
  have hb : (lo : Int) / (y : Int) ≤ 18446744073709551615 := by
    have := Nat.div_le_self lo y
    have hlo := HLO.out
    rw [W64_eq] at hlo
    rw [← Int.natCast_ediv]
    generalize lo / y = z at *
    omega
  have := HR.out nq
  rw [wrapu _ (by rw [← Int.natCast_ediv]; exact Int.natCast_nonneg _) hb]
  simpa using this

theorem bitLenAux_spec : ∀ (f x : Nat), x < 2 ^ f → 0 < x → 1 ≤ Lib.bitLenAux f x ∧ Lib.bitLenAux f x ≤ f ∧ 2 ^ (Lib.bitLenAux f x - 1) ≤ x ∧ x < 2 ^ Lib.bitLenAux f x := by
  intro f
  induction f with
  | zero => intro x hx h0; simp at hx; omega
  | succ f ih =>
    intro x hx h0
    rw [Lib.bitLenAux, if_neg (by omega)]
    by_cases h1 : x / 2 = 0
    · have : x = 1 := by omega
      subst this
      have e : Lib.bitLenAux f (1 / 2) = 0 := by
        show Lib.bitLenAux f 0 = 0
        cases f <;> simp [Lib.bitLenAux]
      rw [e]; simp
    · obtain ⟨a1, a2, a3, a4⟩ := ih (x / 2) (by rw [Nat.pow_succ] at hx; omega) (by omega)
      generalize Lib.bitLenAux f (x / 2) = n at *
      refine ⟨by omega, by omega, ?_, ?_⟩
      · rw [show 1 + n - 1 = (n - 1) + 1 by omega, Nat.pow_succ]; omega
      · rw [Nat.add_comm, Nat.pow_succ]; omega

/-- how far a limb is shifted until its highest bit is 1 -/
theorem lead_spec (y : Nat) (h0 : 0 < y) (hy : y < W64) : ∃ s : Nat, s < 64 ∧ (64 - (Lib.bitLen (y : Int).toNat : Int)) = (s : Int) ∧ 9223372036854775808 ≤ y * 2 ^ s ∧ y * 2 ^ s < W64 := by
  have h64 : (2 : Nat) ^ 64 = W64 := rfl
  obtain ⟨a1, a2, a3, a4⟩ := bitLenAux_spec 64 y (by rw [h64]; exact hy) h0
  rw [Int.toNat_natCast]
  unfold Lib.bitLen
  generalize Lib.bitLenAux 64 y = n at *
  refine ⟨64 - n, by omega, by omega, ?_, ?_⟩
  · have : 2 ^ (n - 1) * 2 ^ (64 - n) ≤ y * 2 ^ (64 - n) := Nat.mul_le_mul_right _ a3
    rw [← Nat.pow_add, show n - 1 + (64 - n) = 63 by omega] at this
    exact this
  · have : y * 2 ^ (64 - n) < 2 ^ n * 2 ^ (64 - n) := Nat.mul_lt_mul_of_pos_right a4 (Nat.pow_pos (by omega))
    rw [← Nat.pow_add, show n + (64 - n) = 64 by omega, h64] at this
    exact this

/-- the parts of a division by a divisor that is shifted -/
theorem wrap_rest (u n D Q v : Nat) (hQ : Q = (u * 4294967296 + n) / D) (hv : v = (u * 4294967296 + n) % D) (hD : D < 18446744073709551616) (hD0 : 0 < D) :
    IntKind.u64.wrap (IntKind.u64.wrap (IntKind.u64.wrap ((u : Int) * 4294967296) + (n : Int)) - IntKind.u64.wrap ((Q : Int) * (D : Int))) = (v : Int) := by
  rw [IntKind.wrap_u64, IntKind.wrap_u64, IntKind.wrap_u64, IntKind.wrap_u64, hv]
  refine sub_wrap _ _ (u * 4294967296 + n) D 18446744073709551616 Q ?_ ?_ hQ (by omega) hD0
  · omega
  · rw [Int.natCast_mul]; exact Int.emod_emod_of_dvd _ (Int.dvd_refl _)

theorem div_norm (hi lo y s : Nat) (hlo : lo < W64) (hlt : hi < y) (hs : s < 64) (h1 : 9223372036854775808 ≤ y * 2 ^ s) (h2 : y * 2 ^ s < W64) :
    ∃ D u n1 n0 y1 y0 : Nat, IntKind.u64.wrap ((y : Int) * 2 ^ s) = (D : Int) ∧ D = y * 2 ^ s ∧ (D : Int) / 4294967296 = (y1 : Int) ∧ bits .and .u64 (D : Int) 4294967295 = (y0 : Int) ∧
      (∃ H : Nat, IntKind.u64.wrap ((hi : Int) * 2 ^ s) = (H : Int) ∧ bits .or .u64 (H : Int) ((lo : Int) / 2 ^ (64 - s)) = (u : Int)) ∧ True ∧
      (∃ L : Nat, IntKind.u64.wrap ((lo : Int) * 2 ^ s) = (L : Int) ∧ (L : Int) / 4294967296 = (n1 : Int) ∧ bits .and .u64 (L : Int) 4294967295 = (n0 : Int)) ∧ True ∧ True ∧
      D = y1 * 4294967296 + y0 ∧ D < 18446744073709551616 ∧ y0 < 4294967296 ∧ 4294967296 ≤ 2 * y1 ∧ u < D ∧ n1 < 4294967296 ∧ n0 < 4294967296 ∧
      (hi * W64 + lo) * 2 ^ s = u * (4294967296 * 4294967296) + (n1 * 4294967296 + n0) := by
  have hp : 0 < 2 ^ s := Nat.pow_pos (by omega)
  have hq : 0 < 2 ^ (64 - s) := Nat.pow_pos (by omega)
  have hpq : 2 ^ s * 2 ^ (64 - s) = W64 := by rw [← Nat.pow_add, show s + (64 - s) = 64 by omega]; rfl
  have hsh : hi * 2 ^ s < W64 := Nat.lt_of_le_of_lt (Nat.mul_le_mul_right _ (Nat.le_of_lt hlt)) h2
  have hlq : lo / 2 ^ (64 - s) < 2 ^ s := by rw [Nat.div_lt_iff_lt_mul hq, hpq]; exact hlo
  have hand : ∀ a : Nat, a < W64 → bits .and .u64 (a : Int) 4294967295 = ((a % 4294967296 : Nat) : Int) := fun a ha => Mul64.maskN a ha
  have hc : ∀ a : Nat, ((a : Int) * 2 ^ s) = ((a * 2 ^ s : Nat) : Int) := fun a => by rw [Int.natCast_mul, Int.natCast_pow]; rfl
  have hdv : (lo : Int) / 2 ^ (64 - s) = ((lo / 2 ^ (64 - s) : Nat) : Int) := by rw [Int.natCast_ediv, Int.natCast_pow]; rfl
  have hor : hi * 2 ^ s ||| lo / 2 ^ (64 - s) = hi * 2 ^ s + lo / 2 ^ (64 - s) := by
    rw [Nat.or_comm, or_add _ _ _ hlq, Nat.add_comm]
  have hpt := shl_parts W64 (2 ^ s) (2 ^ (64 - s)) lo hpq.symm hp
  have hL : lo * 2 ^ s % W64 < W64 := Nat.mod_lt _ (by rw [W64_eq]; omega)
  have hdm := Nat.div_add_mod (lo * 2 ^ s) W64
  rw [hpt.2] at hdm
  have hle : (hi + 1) * 2 ^ s ≤ y * 2 ^ s := Nat.mul_le_mul_right _ hlt
  rw [Nat.add_mul, Nat.one_mul] at hle
  have hlw : lo / 2 ^ (64 - s) < W64 := by omega
  have hmulN : (hi * W64 + lo) * 2 ^ s = hi * 2 ^ s * W64 + lo * 2 ^ s := by rw [Nat.add_mul, Nat.mul_right_comm]
  refine ⟨y * 2 ^ s, hi * 2 ^ s + lo / 2 ^ (64 - s), lo * 2 ^ s % W64 / 4294967296, lo * 2 ^ s % W64 % 4294967296, y * 2 ^ s / 4294967296, y * 2 ^ s % 4294967296, ?_, rfl, ?_, hand _ h2, ⟨hi * 2 ^ s, ?_, ?_⟩, trivial, ⟨lo * 2 ^ s % W64, ?_, ?_, hand _ hL⟩, trivial, trivial, ?_⟩
  · rw [hc]; exact Mul64.wrapN _ h2
  · rw [Mul64.divN]
  · rw [hc]; exact Mul64.wrapN _ hsh
  · rw [hdv]
    have := bits_or_u64_nat (hi * 2 ^ s) (lo / 2 ^ (64 - s)) hsh hlw
    rw [this, hor]
  · rw [hc]; exact Mul64.wrapM _
  · rw [Mul64.divN]
  · rw [hmulN]
    generalize hi * 2 ^ s = H at *
    generalize y * 2 ^ s = D at *
    generalize lo * 2 ^ s = L at *
    generalize lo / 2 ^ (64 - s) = c at *
    generalize 2 ^ s = P at *
    rw [W64_eq] at *
    refine ⟨by omega, by omega, by omega, by omega, by omega, by omega, by omega, by omega⟩

set_option maxRecDepth 100000 in
set_option maxHeartbeats 1000000 in
theorem div64_main (hi lo y : Nat) (w : World) (hh : 0 < hi) (hlo : lo < W64) (hy : y < W64) (hlt : hi < y) (R : Ending → World → Prop)
    (hR : R (.returned (.tuple #[.int .u64 (((hi * W64 + lo) / y : Nat) : Int), .int .u64 (((hi * W64 + lo) % y : Nat) : Int)])) w) :
    Calls Tryz.prog 165 #[.int .u64 ((hi : Nat) : Int), .int .u64 ((lo : Nat) : Int), .int .u64 ((y : Nat) : Int)] w R := by
  have HR := Lib.hid hR; clear hR
  have e1 : ((y : Int) == 0) = false := by simp; omega
  have e2 : ¬ ((y : Int) ≤ (hi : Int)) := by omega
  have e3 : ((hi : Int) == 0) = false := by simp; omega
  obtain ⟨s, hs64, hs, hn1, hn2⟩ := lead_spec y (by omega) hy
  have HS := Lib.hid hs
  have hy2 : (y : Int) ≤ 18446744073709551615 := by rw [W64_eq] at hy; omega
  have hlo2 : (lo : Int) ≤ 18446744073709551615 := by rw [W64_eq] at hlo; omega
  have hhi2 : (hi : Int) ≤ 18446744073709551615 := by omega
  obtain ⟨D, u, n1, n0, y1, y0, hD1, hD2, hy1, hy0, hU1, hU2, hL1, hL2, hL3, hDe, hDle, hy0l, hbn, hul, hn1l, hn0l, hfin⟩ := div_norm hi lo y s hlo hlt hs64 hn1 hn2
  obtain ⟨H, hH1, hH2⟩ := hU1
  obtain ⟨L, hL4, hL5, hL6⟩ := hL1
  have HFIN := Lib.hid hfin
  have HD2 := Lib.hid hD2
  clear hD2 hU2 hL2 hL3
  have HDE := Lib.hid hDe
  have HBN := Lib.hid hbn
  have HUL := Lib.hid hul
  have hy1p : 1 ≤ y1 := by omega
  have hDpos : 0 < D := by omega
  have hub : (u : Int) ≤ 18446744073709551615 := by omega
  have hDb : (D : Int) ≤ 18446744073709551615 := by omega
  obtain ⟨q, hq⟩ : ∃ q, q = u / y1 := ⟨_, rfl⟩
  obtain ⟨r, hr⟩ : ∃ r, r = u % y1 := ⟨_, rfl⟩
  have hqr : u = q * y1 + r := by rw [hq, hr, Nat.mul_comm]; exact (Nat.div_add_mod u y1).symm
  have hrl : r < y1 := by rw [hr]; exact Nat.mod_lt _ hy1p
  have hst := half_start 4294967296 D y1 y0 u n1 q r hDe hy0l hbn hul hn1l hqr hrl
  have hqe : (u : Int) / (y1 : Int) = (q : Int) := by rw [hq]; exact (Int.natCast_ediv u y1).symm
  obtain ⟨p, hp⟩ : ∃ p, p = q * y1 := ⟨_, rfl⟩
  have hpe : (q : Int) * (y1 : Int) = (p : Int) := by rw [hp]; exact (Int.natCast_mul q y1).symm
  have hpu : (p : Int) + (r : Int) = (u : Int) := by omega
  have hre : (u : Int) - (p : Int) = (r : Int) := by omega
  have hqb : (q : Int) ≤ 4294967297 := by omega
  have HQR := Lib.hid hqr
  have HST := Lib.hid hst
  have HRL := Lib.hid hrl
  have hy1b : (y1 : Int) ≤ 4294967295 := by omega
  have hy0b : (y0 : Int) ≤ 4294967295 := by omega
  have hn1b : (n1 : Int) ≤ 4294967295 := by omega
  have hn0b : (n0 : Int) ≤ 4294967295 := by omega
  have hy1i : (1 : Int) ≤ (y1 : Int) := by omega
  have hrb : (r : Int) ≤ 4294967295 := by omega
  have hpb : (p : Int) ≤ (u : Int) := by omega
  clear hlo hy hs hn1 hn2 hDe hDle hy0l hbn hul hn1l hn0l hfin hq hr hqr hst hp hpu hrl hy1p
  go_enter Tryz.func165, Tryz.ntmps165
  go_wp2_with fail
  refine (Tryz.bits_LeadingZeros64 (y : Int) _ (by omega) hy2).mono ?_
  rintro e w1 ⟨rfl, rfl⟩
  rw [HS.out]
  dsimp only
  have hs0 : (0 : Int) ≤ (s : Int) := by omega
  have hs65 : (s : Int) < 64 := by omega
  go_upto_block 0 with fail
  clear e1 e3 hH1 hH2 hL4 hL5 hL6 hD1 hy1 hy0 hqe hpe hre hpb
  obtain ⟨Q, hQ⟩ : ∃ Q, Q = (u * 4294967296 + n1) / D := ⟨_, rfl⟩
  have HQ := Lib.hid hQ
  have hst2 := HST.out
  rw [← hQ] at hst2
  obtain ⟨hq1, hq2, hq3⟩ := hst2
  have hy0n : y0 < 4294967296 := by omega
  clear hQ
  go_cut [15] (fun a wx => a = .int .u64 ((Q : Nat) : Int) ∧ wx = w1)
  case first =>
    go_wp2_with fail
    go_loop [15, 16] (fun a b => ∃ q r : Nat, a = .int .u64 ((q : Nat) : Int) ∧ b = .int .u64 ((r : Nat) : Int) ∧ u = q * y1 + r ∧ Q ≤ q ∧ q ≤ 4294967297 ∧ r < 4294967296) (fun a _ => (intOf a).toNat)
    case atStart => exact ⟨q, r, rfl, rfl, HQR.out, hq1, hq2, by have := HRL.out; omega⟩
    case round =>
      clear hq1 hq2 hqb hrb
      clear HQR HST HRL
      obtain ⟨q, r, rfl, rfl, hqr, hq1, hq2, hr⟩ := hrel
      have HQR := Lib.hid hqr
      clear hqr
      by_cases hbig : 4294967296 ≤ q
      · obtain ⟨hp1, hp2, hp3⟩ := half_dec 4294967296 D y1 y0 u n1 q r HDE.out hDpos HQR.out (by rw [← HQ.out]; exact hq3) (by rw [← HQ.out]; exact hq1) (.inl hbig)
        rw [← HQ.out] at hp2
        have HP3 := Lib.hid hp3
        clear hp3
        have hq5 : (1 : Int) ≤ (q : Int) := by omega
        have hq6 : (q : Int) ≤ 4294967297 := by omega
        have hbigi : (4294967296 : Int) ≤ (q : Int) := by omega
        have HBIG := Lib.hid hbig
        clear hbig
        by_cases hr2 : 4294967296 ≤ r + y1
        · have hr3 : (4294967296 : Int) ≤ (r : Int) + (y1 : Int) := by omega
          have HR2 := Lib.hid hr2
          clear hr2
          go_wp2_with fail
          go_meet
          have hr2 := HR2.out
          have := half_break 4294967296 D y1 y0 u n1 (q - 1) (r + y1) HDE.out hDpos hy0n HP3.out (by rw [← HQ.out]; exact hp2) (by omega) hr2
          rw [← HQ.out] at this
          exact ⟨congrArg (Value.int .u64) (by omega), rfl⟩
        · have hr3 : ¬ (4294967296 : Int) ≤ (r : Int) + (y1 : Int) := by omega
          go_wp2
          go_round
          case rel => exact ⟨q - 1, r + y1, congrArg (Value.int .u64) (by omega), congrArg (Value.int .u64) (by omega), HP3.out, hp2, by omega, by omega⟩
          case measure => simp [intOf]; omega
      · obtain ⟨a, ha⟩ : ∃ a, a = q * y0 := ⟨_, rfl⟩
        have hae : (q : Int) * (y0 : Int) = (a : Int) := by rw [ha]; exact (Int.natCast_mul q y0).symm
        have hal : a ≤ 18446744065119617025 := by rw [ha]; exact Nat.mul_le_mul (by omega : q ≤ 4294967295) (by omega : y0 ≤ 4294967295)
        have hali : (a : Int) ≤ 18446744065119617025 := by omega
        have hqs : ¬ (4294967296 : Int) ≤ (q : Int) := by omega
        have hrs : (r : Int) ≤ 4294967295 := by omega
        have HA := Lib.hid ha
        clear ha
        by_cases hc : 4294967296 * r + n1 < a
        · obtain ⟨hp1, hp2, hp3⟩ := half_dec 4294967296 D y1 y0 u n1 q r HDE.out hDpos HQR.out (by rw [← HQ.out]; exact hq3) (by rw [← HQ.out]; exact hq1) (.inr (by rw [← HA.out]; exact hc))
          rw [← HQ.out] at hp2
          have HP3 := Lib.hid hp3
          clear hp3
          have hci : 4294967296 * (r : Int) + (n1 : Int) < (a : Int) := by omega
          have hq5 : (1 : Int) ≤ (q : Int) := by omega
          by_cases hr2 : 4294967296 ≤ r + y1
          · have hr3 : (4294967296 : Int) ≤ (r : Int) + (y1 : Int) := by omega
            go_wp2_with fail
            go_meet
            have := half_break 4294967296 D y1 y0 u n1 (q - 1) (r + y1) HDE.out hDpos hy0n HP3.out (by rw [← HQ.out]; exact hp2) (by omega) hr2
            rw [← HQ.out] at this
            exact ⟨congrArg (Value.int .u64) (by omega), rfl⟩
          · have hr3 : ¬ (4294967296 : Int) ≤ (r : Int) + (y1 : Int) := by omega
            go_wp2
            go_round
            case rel => exact ⟨q - 1, r + y1, congrArg (Value.int .u64) (by omega), congrArg (Value.int .u64) (by omega), HP3.out, hp2, by omega, by omega⟩
            case measure => simp [intOf]; omega
        · have hci : ¬ 4294967296 * (r : Int) + (n1 : Int) < (a : Int) := by omega
          have := half_stop 4294967296 D y1 y0 u n1 q r HDE.out hDpos HQR.out (by rw [← HQ.out]; exact hq1) (by rw [← HA.out]; omega)
          rw [← HQ.out] at this
          subst this
          go_wp2_with fail
          go_meet
          exact ⟨rfl, rfl⟩
  case rest =>
    obtain ⟨rfl, rfl⟩ := hcut
    clear HQR HST HRL hq1 hq2 hqb hrb
    obtain ⟨v, hv⟩ : ∃ v, v = (u * 4294967296 + n1) % D := ⟨_, rfl⟩
    have hve := wrap_rest u n1 D Q v HQ.out hv (by omega) hDpos
    have hvl : v < D := by rw [hv]; exact Nat.mod_lt _ hDpos
    have HV := Lib.hid hv
    obtain ⟨q', hq⟩ : ∃ q, q = v / y1 := ⟨_, rfl⟩
    obtain ⟨r', hr⟩ : ∃ r, r = v % y1 := ⟨_, rfl⟩
    have hy1p : 1 ≤ y1 := by omega
    have hqr : v = q' * y1 + r' := by rw [hq, hr, Nat.mul_comm]; exact (Nat.div_add_mod v y1).symm
    have hrl : r' < y1 := by rw [hr]; exact Nat.mod_lt _ hy1p
    have hst := half_start 4294967296 D y1 y0 v n0 q' r' HDE.out hy0n HBN.out hvl (by omega) hqr hrl
    have hqe : (v : Int) / (y1 : Int) = (q' : Int) := by rw [hq]; exact (Int.natCast_ediv v y1).symm
    obtain ⟨p', hp⟩ : ∃ p, p = q' * y1 := ⟨_, rfl⟩
    have hpe : (q' : Int) * (y1 : Int) = (p' : Int) := by rw [hp]; exact (Int.natCast_mul q' y1).symm
    have hpu : (p' : Int) + (r' : Int) = (v : Int) := by omega
    have hre : (v : Int) - (p' : Int) = (r' : Int) := by omega
    have hqb' : (q' : Int) ≤ 4294967297 := by omega
    have hrb' : (r' : Int) ≤ 4294967295 := by omega
    have hpb : (p' : Int) ≤ (v : Int) := by omega
    have hvb : (v : Int) ≤ 18446744073709551615 := by omega
    have HQR2 := Lib.hid hqr
    have HRL2 := Lib.hid hrl
    obtain ⟨Q0, hQ⟩ : ∃ Q, Q = (v * 4294967296 + n0) / D := ⟨_, rfl⟩
    have HQ0 := Lib.hid hQ
    rw [← hQ] at hst
    obtain ⟨hq1', hq2', hq3'⟩ := hst
    clear hv hq hr hqr hrl hp hpu hQ hy1p hvl
    go_upto_block 2 with fail
    clear hve hqe hpe hre hpb
    go_cut [18] (fun a wx => a = .int .u64 ((Q0 : Nat) : Int) ∧ wx = wc)
    case first =>
      go_wp2_with fail
      go_loop [18, 16] (fun a b => ∃ q r : Nat, a = .int .u64 ((q : Nat) : Int) ∧ b = .int .u64 ((r : Nat) : Int) ∧ v = q * y1 + r ∧ Q0 ≤ q ∧ q ≤ 4294967297 ∧ r < 4294967296) (fun a _ => (intOf a).toNat)
      case atStart => exact ⟨q', r', rfl, rfl, HQR2.out, hq1', hq2', by have := HRL2.out; omega⟩
      case round =>
        clear hq1' hq2' hqb' hrb'
        clear HQR2 HRL2
        obtain ⟨q, r, rfl, rfl, hqr, hq1, hq2, hr⟩ := hrel
        have HQR := Lib.hid hqr
        clear hqr
        by_cases hbig : 4294967296 ≤ q
        · obtain ⟨hp1, hp2, hp3⟩ := half_dec 4294967296 D y1 y0 v n0 q r HDE.out hDpos HQR.out (by rw [← HQ0.out]; exact hq3') (by rw [← HQ0.out]; exact hq1) (.inl hbig)
          rw [← HQ0.out] at hp2
          have HP3 := Lib.hid hp3
          clear hp3
          have hq5 : (1 : Int) ≤ (q : Int) := by omega
          have hq6 : (q : Int) ≤ 4294967297 := by omega
          have hbigi : (4294967296 : Int) ≤ (q : Int) := by omega
          have HBIG := Lib.hid hbig
          clear hbig
          by_cases hr2 : 4294967296 ≤ r + y1
          · have hr3 : (4294967296 : Int) ≤ (r : Int) + (y1 : Int) := by omega
            have HR2 := Lib.hid hr2
            clear hr2
            go_wp2_with fail
            go_meet
            have hr2 := HR2.out
            have := half_break 4294967296 D y1 y0 v n0 (q - 1) (r + y1) HDE.out hDpos hy0n HP3.out (by rw [← HQ0.out]; exact hp2) (by omega) hr2
            rw [← HQ0.out] at this
            exact ⟨congrArg (Value.int .u64) (by omega), rfl⟩
          · have hr3 : ¬ (4294967296 : Int) ≤ (r : Int) + (y1 : Int) := by omega
            go_wp2
            go_round
            case rel => exact ⟨q - 1, r + y1, congrArg (Value.int .u64) (by omega), congrArg (Value.int .u64) (by omega), HP3.out, hp2, by omega, by omega⟩
            case measure => simp [intOf]; omega
        · obtain ⟨a, ha⟩ : ∃ a, a = q * y0 := ⟨_, rfl⟩
          have hae : (q : Int) * (y0 : Int) = (a : Int) := by rw [ha]; exact (Int.natCast_mul q y0).symm
          have hal : a ≤ 18446744065119617025 := by rw [ha]; exact Nat.mul_le_mul (by omega : q ≤ 4294967295) (by omega : y0 ≤ 4294967295)
          have hali : (a : Int) ≤ 18446744065119617025 := by omega
          have hqs : ¬ (4294967296 : Int) ≤ (q : Int) := by omega
          have hrs : (r : Int) ≤ 4294967295 := by omega
          have HA := Lib.hid ha
          clear ha
          by_cases hc : 4294967296 * r + n0 < a
          · obtain ⟨hp1, hp2, hp3⟩ := half_dec 4294967296 D y1 y0 v n0 q r HDE.out hDpos HQR.out (by rw [← HQ0.out]; exact hq3') (by rw [← HQ0.out]; exact hq1) (.inr (by rw [← HA.out]; exact hc))
            rw [← HQ0.out] at hp2
            have HP3 := Lib.hid hp3
            clear hp3
            have hci : 4294967296 * (r : Int) + (n0 : Int) < (a : Int) := by omega
            have hq5 : (1 : Int) ≤ (q : Int) := by omega
            by_cases hr2 : 4294967296 ≤ r + y1
            · have hr3 : (4294967296 : Int) ≤ (r : Int) + (y1 : Int) := by omega
              go_wp2_with fail
              go_meet
              have := half_break 4294967296 D y1 y0 v n0 (q - 1) (r + y1) HDE.out hDpos hy0n HP3.out (by rw [← HQ0.out]; exact hp2) (by omega) hr2
              rw [← HQ0.out] at this
              exact ⟨congrArg (Value.int .u64) (by omega), rfl⟩
            · have hr3 : ¬ (4294967296 : Int) ≤ (r : Int) + (y1 : Int) := by omega
              go_wp2
              go_round
              case rel => exact ⟨q - 1, r + y1, congrArg (Value.int .u64) (by omega), congrArg (Value.int .u64) (by omega), HP3.out, hp2, by omega, by omega⟩
              case measure => simp [intOf]; omega
          · have hci : ¬ 4294967296 * (r : Int) + (n0 : Int) < (a : Int) := by omega
            have := half_stop 4294967296 D y1 y0 v n0 q r HDE.out hDpos HQR.out (by rw [← HQ0.out]; exact hq1) (by rw [← HA.out]; omega)
            rw [← HQ0.out] at this
            subst this
            go_wp2_with fail
            go_meet
            exact ⟨rfl, rfl⟩
    case rest =>
      obtain ⟨rfl, rfl⟩ := hcut
      clear HQR2 HRL2 hq1' hq2' hqb' hrb'
      obtain ⟨v2, hv2⟩ : ∃ v2, v2 = (v * 4294967296 + n0) % D := ⟨_, rfl⟩
      have hve := wrap_rest v n0 D Q0 v2 HQ0.out hv2 (by omega) hDpos
      have hq4 : (Q : Int) ≤ 4294967295 := by omega
      have hq5 : (Q0 : Int) ≤ 4294967295 := by omega
      have HV2 := Lib.hid hv2
      have hvb2 : (v2 : Int) ≤ 18446744073709551615 := by
        have := Nat.mod_lt (v * 4294967296 + n0) hDpos
        rw [← hv2] at this; omega
      clear hv2 hq3 hq3'
      go_wp2
      first | go_ret | skip
      have hA : Q * 4294967296 + Q0 = (hi * W64 + lo) / y ∧ v2 / 2 ^ s = (hi * W64 + lo) % y := by
        have h1 := two_halves 4294967296 D u n1 n0 hDpos
        rw [← HV.out, ← HQ.out, ← HQ0.out, ← HV2.out, ← HFIN.out, HD2.out] at h1
        have h2 := shift_div (hi * W64 + lo) y (2 ^ s) (Nat.pow_pos (by omega))
        exact ⟨by rw [← h1.1, h2.1], by rw [← h1.2, h2.2]⟩
      have hB : (v2 : Int) / 2 ^ s = ((v2 / 2 ^ s : Nat) : Int) := by rw [Int.natCast_ediv, Int.natCast_pow]; rfl
      show R (.returned (.tuple #[.int .u64 ((Q : Int) * 4294967296 + (Q0 : Int)), .int .u64 ((v2 : Int) / 2 ^ s)])) _
      rw [hB, hA.2, show (Q : Int) * 4294967296 + (Q0 : Int) = ((Q * 4294967296 + Q0 : Nat) : Int) by omega, hA.1]
      exact HR.out
theorem div64_any (hi lo y : Nat) (w : World) (hlo : lo < W64) (hy : y < W64) (hlt : hi < y) (q r : Nat) (hq : q = (hi * W64 + lo) / y) (hr : r = (hi * W64 + lo) % y) (R : Ending → World → Prop)
    (hR : ∀ n, R (.returned (.tuple #[.int .u64 ((q : Nat) : Int), .int .u64 ((r : Nat) : Int)])) (w.drewN n)) :
    Calls Tryz.prog 165 #[.int .u64 ((hi : Nat) : Int), .int .u64 ((lo : Nat) : Int), .int .u64 ((y : Nat) : Int)] w R := by
  by_cases h0 : hi = 0
  · subst h0
    refine div64_small lo y w hlo hlt R fun n => ?_
    have := hR n
    rw [hq, hr, Nat.zero_mul, Nat.zero_add] at this
    exact this
  · refine div64_main hi lo y w (by omega) hlo hy hlt R ?_
    have := hR 0
    rw [hq, hr] at this
    exact this

end Go.Proofs.YtnfehccicnpbpaaGreatDoor

namespace Go.Proofs.YtnfehccicnpbpaaGreatDoor
open Go Go.RowKit

theorem rem64_eq (hi lo y : Nat) : (hi % y * W64 + lo) % y = (hi * W64 + lo) % y := by
  rw [Nat.add_mod, Nat.mod_mul_mod, ← Nat.add_mod]

theorem tmodN (y m : Nat) : Int.tmod (y : Int) (m : Int) = ((y % m : Nat) : Int) := by
  rw [Int.tmod_eq_emod_of_nonneg (by omega)]; omega

set_option maxRecDepth 100000 in
set_option maxHeartbeats 1000000 in
theorem rem64_any (hi lo y : Nat) (w : World) (hh : hi < W64) (hlo : lo < W64) (hy : y < W64) (h0 : 0 < y) (R : Ending → World → Prop)
    (hR : ∀ n, R (.returned (.int .u64 (((hi * W64 + lo) % y : Nat) : Int))) (w.drewN n)) :
    Calls Tryz.prog 131 #[.int .u64 ((hi : Nat) : Int), .int .u64 ((lo : Nat) : Int), .int .u64 ((y : Nat) : Int)] w R := by
  have HR := Lib.hid hR; clear hR
  obtain ⟨z, hz⟩ : ∃ z, z = hi % y := ⟨_, rfl⟩
  have hzy : z < y := by rw [hz]; exact Nat.mod_lt _ h0
  have e1 : Int.tmod (hi : Int) (y : Int) = (z : Int) := by rw [tmodN, hz]
  have e2 : (hi : Int) % (y : Int) = (z : Int) := by rw [hz]; omega
  have e3 : IntKind.u64.wrap (z : Int) = (z : Int) := wrapu _ (by omega) (by rw [W64_eq] at hy; omega)
  have HZ := Lib.hid hz
  have HH := Lib.hid (And.intro hlo hy)
  have e4 : ((y : Int) == 0) = false := by simp; omega
  have hy0 : ¬ ((y : Int) = 0) := by omega
  clear hz hh hlo hy
  go_enter Tryz.func131, Tryz.ntmps131
  go_wp2_with fail
  refine div64_any z lo y _ HH.out.1 HH.out.2 hzy _ _ rfl rfl _ ?_
  intro n
  have HF := Lib.hid (HR.out n)
  rw [show (hi * W64 + lo) % y = (z * W64 + lo) % y by rw [HZ.out, rem64_eq]] at HF
  dsimp only
  go_wp2
  first | go_ret | skip
  exact HF.out

set_option maxRecDepth 100000 in
set_option maxHeartbeats 1000000 in
theorem mtimes_any (m a b : Nat) (w : World) (ha : a < W64) (hb : b < W64) (hm : m < W64) (h0 : 0 < m) (R : Ending → World → Prop)
    (hR : ∀ n, R (.returned (.int .u64 ((a * b % m : Nat) : Int))) (w.drewN n)) :
    Calls Tryz.prog 93 #[.int .u64 ((m : Nat) : Int), .int .u64 ((a : Nat) : Int), .int .u64 ((b : Nat) : Int)] w R := by
  have HR := Lib.hid hR; clear hR
  obtain ⟨hi, hhi⟩ : ∃ hi, hi = a * b / W64 := ⟨_, rfl⟩
  obtain ⟨lo, hlo⟩ : ∃ lo, lo = a * b % W64 := ⟨_, rfl⟩
  have hW : 0 < W64 := by rw [W64_eq]; omega
  have hl1 : lo < W64 := by rw [hlo]; exact Nat.mod_lt _ hW
  have hl2 : hi < W64 := by
    rw [hhi]
    refine Nat.div_lt_of_lt_mul ?_
    exact Nat.mul_lt_mul'' ha hb
  have HAB : Hid (hi * W64 + lo = a * b) := Lib.hid (by rw [hhi, hlo, Nat.mul_comm]; exact Nat.div_add_mod _ _)
  have em := Lib.hid (Tryz.bits_Mul64 a b (by rw [← W64_eq]; exact ha) (by rw [← W64_eq]; exact hb))
  have HH := Lib.hid (And.intro hl1 (And.intro hl2 (And.intro hm h0)))
  have HHI := Lib.hid hhi
  have HLO := Lib.hid hlo
  clear hhi hlo ha hb hm h0 hl1 hl2
  go_enter Tryz.func93, Tryz.ntmps93
  go_wp2_with fail
  refine (em.out _).mono ?_
  rintro e w' ⟨rfl, rfl⟩
  rw [← W64_eq, ← HHI.out, ← HLO.out]
  dsimp only
  go_wp2_with fail
  refine rem64_any hi lo m _ HH.out.2.1 HH.out.1 HH.out.2.2.1 HH.out.2.2.2 _ ?_
  intro n
  rw [HAB.out]
  dsimp only
  go_wp2
  first | go_ret | skip
  exact HR.out n

set_option maxRecDepth 100000 in
set_option maxHeartbeats 1000000 in
theorem mminus_any (m a b : Nat) (w : World) (ha : a < m) (hb : b < m) (hm : m ≤ 9223372036854775807) (R : Ending → World → Prop)
    (hR : R (.returned (.int .u64 (((a + m - b) % m : Nat) : Int))) w) :
    Calls Tryz.prog 96 #[.int .u64 ((m : Nat) : Int), .int .u64 ((a : Nat) : Int), .int .u64 ((b : Nat) : Int)] w R := by
  have HR := Lib.hid hR; clear hR
  by_cases hlt : a < b
  · obtain ⟨s, hs⟩ : ∃ s, s = a + m - b := ⟨_, rfl⟩
    have e1 : IntKind.u64.wrap ((a : Int) + (m : Int)) = (a : Int) + (m : Int) := wrapu _ (by omega) (by omega)
    have e2 : IntKind.u64.wrap ((a : Int) + (m : Int) - (b : Int)) = (s : Int) := by rw [wrapu _ (by omega) (by omega)]; omega
    have e3 : (a : Int) < (b : Int) := by omega
    have HF := Lib.hid (show R (.returned (.int .u64 (s : Int))) w by have := HR.out; rw [← hs, Nat.mod_eq_of_lt (by omega)] at this; exact this)
    clear hs hlt
    go_enter Tryz.func96, Tryz.ntmps96
    go_wp2
    first | go_ret | skip
    exact HF.out
  · obtain ⟨s, hs⟩ : ∃ s, s = a - b := ⟨_, rfl⟩
    have e2 : IntKind.u64.wrap ((a : Int) - (b : Int)) = (s : Int) := by rw [wrapu _ (by omega) (by omega)]; omega
    have e3 : ¬ (a : Int) < (b : Int) := by omega
    have HF := Lib.hid (show R (.returned (.int .u64 (s : Int))) w by
      have := HR.out
      rw [show a + m - b = s + m by omega, Nat.add_mod_right, Nat.mod_eq_of_lt (by omega)] at this
      exact this)
    clear hs hlt
    go_enter Tryz.func96, Tryz.ntmps96
    go_wp2
    first | go_ret | skip
    exact HF.out
end Go.Proofs.YtnfehccicnpbpaaGreatDoor

namespace Go.Proofs.YtnfehccicnpbpaaGreatDoor
open Go Go.RowKit

/-- the value of the model's type of an integer of any size -/
def IsZ (w : World) (v : Value) (z : Int) : Prop := ∃ s, v = .agg #[.bool (decide (z < 0)), s] ∧ Sl .i64 w s (dig 10000 z.natAbs)

theorem IsZ.open {w : World} {v : Value} {z : Int} (h : IsZ w v z) : ∃ ao n cap, v = .agg #[.bool (decide (z < 0)), .slice ao n cap] ∧ n = (dig 10000 z.natAbs).length ∧ Sl .i64 w (.slice ao n cap) (dig 10000 z.natAbs) := by
  obtain ⟨s, h1, h2⟩ := h
  obtain ⟨ao, cap, h3, h4⟩ := h2
  exact ⟨ao, _, cap, by rw [h1, h3], rfl, ao, cap, rfl, h4⟩

theorem IsZ.later {w w' : World} {v : Value} {z : Int} {B : Nat} (h : IsZ w v z) (hb : Below B w w') (hB : w.heap.size ≤ B) : IsZ w' v z := by
  obtain ⟨s, h1, h2⟩ := h; exact ⟨s, h1, h2.later hb hB⟩

set_option maxRecDepth 100000 in
theorem cut_core (neg : Bool) (ao : Option Addr) (n cap : Nat) (xs : List Nat) (w : World) (hs : Sl .i64 w (.slice ao n cap) xs) (hlen : xs.length ≤ 1000000000) (R : Ending → World → Prop)
    (hR : ∀ n' w', Sl .i64 w' (.slice ao n' cap) (xs.take (cutLen xs xs.length)) → Below w.heap.size w w' → R (.returned (.agg #[.bool (neg && decide (0 < cutLen xs xs.length)), .slice ao n' cap])) w') :
    Calls Tryz.prog 126 #[.bool neg, .slice ao n cap] w R := by
  have HR := Lib.hid hR; clear hR
  rcases hs.cases with ⟨rfl, ao2, cap2, he⟩ | ⟨h0, b, off, cap2, he, hcap, hb, hc⟩ <;> (simp only [Value.slice.injEq] at he; obtain ⟨rfl, rfl, rfl⟩ := he)
  · go_enter Tryz.func126, Tryz.ntmps126
    go_wp2
    go_loop [5] (fun n => n = .int .i64 0) (fun _ => 0)
    case atStart => rfl
    case round =>
      subst hrel
      cases neg
      · go_wp2
        refine bodyPost_ret (v := .agg #[.bool false, .slice ao 0 cap]) (by simp [results, Tryz.results126, go_sem]) rfl ?_
        exact HR.out _ _ (Sl.nil _ _ _ _) ((Below.refl _ _).alloc (Nat.le_refl _) _)
      · go_wp2
        refine bodyPost_ret (v := .agg #[.bool false, .slice ao 0 cap]) (by simp [results, Tryz.results126, go_sem]) rfl ?_
        exact HR.out _ _ (Sl.nil _ _ _ _) ((Below.refl _ _).alloc (Nat.le_refl _) _)
  · obtain ⟨len, hlen'⟩ : ∃ len, len = xs.length := ⟨_, rfl⟩
    rw [← hlen'] at h0 hc hlen hcap HR ⊢
    have Hl := Lib.hid hlen'; clear hlen'
    go_enter Tryz.func126, Tryz.ntmps126
    go_wp2
    go_loop [5] (fun n => ∃ k : Nat, k ≤ len ∧ n = .int .i64 k ∧ cutLen xs k = cutLen xs len) (fun n => (intOf n).toNat)
    case atStart => exact ⟨len, Nat.le_refl _, rfl, rfl⟩
    case round =>
      obtain ⟨k, hk, rfl, hcut⟩ := hrel
      have Hcut := Lib.hid hcut; clear hcut
      by_cases hk0 : 0 < k
      · obtain ⟨j, rfl⟩ : ∃ j, k = j + 1 := ⟨k - 1, by omega⟩
        have hcell := hc j (by omega)
        obtain ⟨x, hx⟩ : ∃ x, x = xs.getD j 0 := ⟨_, rfl⟩
        rw [← hx] at hcell
        have Hx := Lib.hid hx; clear hx
        by_cases hz : x = 0
        · subst hz
          go_wp2
          go_round
          case rel => exact ⟨j, by omega, by go_num, by have := Hcut.out; rw [← this, cutLen, if_pos Hx.out.symm]⟩
          case measure => simp [intOf]
        · have e : (((x : Nat) : Int) == 0) = false := by simp; omega
          have hce : cutLen xs len = j + 1 := by have := Hcut.out; rw [← this, cutLen, if_neg (by rw [← Hx.out]; exact hz)]
          have HC := Lib.hid hce; clear hce
          have HS := fun w' (hb' : Below w.heap.size w w') => (Sl.take (j + 1) (by rw [← Hl.out]; exact hk) (by rw [← Hl.out]; exact hcap) (Nat.lt_of_lt_of_le hb hb'.size) (fun i hi => by rw [hb'.cell (by exact hb)]; exact hc i (by rw [Hl.out]; exact hi)) : Sl .i64 w' (.slice (some ⟨b, off, none⟩) (j + 1) cap) (xs.take (j + 1)))
          rw [HC.out] at HR
          have HS := Lib.hid HS
          clear hc
          cases neg
          all_goals
            go_wp2
            refine bodyPost_ret_at (by simp [results, Tryz.results126, go_sem] <;> rfl) rfl ?_
            exact HR.out _ _ (HS.out _ ((Below.refl _ _).alloc (Nat.le_refl _) _)) ((Below.refl _ _).alloc (Nat.le_refl _) _)
      · obtain rfl : k = 0 := by omega
        have hce : cutLen xs len = 0 := by have := Hcut.out; rw [← this]; rfl
        rw [hce] at HR
        clear hce
        cases neg
        all_goals
          go_wp2
          refine bodyPost_ret_at (by simp [results, Tryz.results126, go_sem] <;> rfl) rfl ?_
          exact HR.out _ _ (Sl.nil _ _ _ _) ((Below.refl _ _).alloc (Nat.le_refl _) _)
/-- the digits at the beginning, without zeros at the end -/
theorem cut_at (neg : Bool) (ao : Option Addr) (n cap : Nat) (xs : List Nat) (w : World) (hs : Sl .i64 w (.slice ao n cap) xs) (hd : ∀ d ∈ xs, d < 10000) (hlen : xs.length ≤ 1000000000) (R : Ending → World → Prop)
    (hR : ∀ n' w', Sl .i64 w' (.slice ao n' cap) (dig 10000 (val 10000 xs)) → Below w.heap.size w w' → R (.returned (.agg #[.bool (neg && decide (0 < val 10000 xs)), .slice ao n' cap])) w') :
    Calls Tryz.prog 126 #[.bool neg, .slice ao n cap] w R := by
  refine cut_core neg ao n cap xs w hs hlen R fun n' w' h1 h2 => ?_
  have hpos : decide (0 < cutLen xs xs.length) = decide (0 < val 10000 xs) := by
    rw [cutLen_eq (by omega : 2 ≤ 10000) xs hd]
    by_cases h0 : val 10000 xs = 0
    · rw [h0, dig_zero]; rfl
    · have : (dig 10000 (val 10000 xs)).length ≠ 0 := fun e => h0 ((dig_eq_nil (by omega)).1 (List.length_eq_zero_iff.1 e))
      rw [decide_eq_true (by omega), decide_eq_true (by omega)]
  rw [take_cut (by omega : 2 ≤ 10000) xs hd] at h1
  rw [hpos]
  exact hR n' w' h1 h2

theorem cut_any (neg : Bool) (s : Value) (xs : List Nat) (w : World) (hs : Sl .i64 w s xs) (hd : ∀ d ∈ xs, d < 10000) (hlen : xs.length ≤ 1000000000) (R : Ending → World → Prop)
    (hR : ∀ s' w', Sl .i64 w' s' (dig 10000 (val 10000 xs)) → Below w.heap.size w w' → R (.returned (.agg #[.bool (neg && decide (0 < val 10000 xs)), s'])) w') :
    Calls Tryz.prog 126 #[.bool neg, s] w R := by
  obtain ⟨ao, cap, rfl, hc⟩ := hs
  exact cut_at neg ao _ cap xs w ⟨ao, cap, rfl, hc⟩ hd hlen R fun n' w' h1 h2 => hR _ w' h1 h2

/-- an integer from its sign and digits that may end in zeros -/
theorem cut_z (neg : Bool) (s : Value) (xs : List Nat) (w : World) (hs : Sl .i64 w s xs) (hd : ∀ d ∈ xs, d < 10000) (hlen : xs.length ≤ 1000000000) (z : Int) (hz : z = if neg then -(val 10000 xs : Int) else val 10000 xs) (R : Ending → World → Prop)
    (hR : ∀ v' w', IsZ w' v' z → Below w.heap.size w w' → R (.returned v') w') :
    Calls Tryz.prog 126 #[.bool neg, s] w R := by
  refine cut_any neg s xs w hs hd hlen R fun s' w' h1 h2 => hR _ w' ⟨s', ?_, ?_⟩ h2
  · have : (neg && decide (0 < val 10000 xs)) = decide (z < 0) := by
      cases neg
      · rw [hz]; simp
      · rw [hz]; simp
    rw [this]
  · have : z.natAbs = val 10000 xs := by rw [hz]; split <;> omega
    rw [this]; exact h1
end Go.Proofs.YtnfehccicnpbpaaGreatDoor

namespace Go.Proofs.YtnfehccicnpbpaaGreatDoor
open Go Go.RowKit

theorem info_i64 : (Tryz.prog.info? 2).map (fun i => (i.zero, i.size, i.bytes)) = some (some (.int .i64 0), 1, 8) := by kernel_rfl

theorem zof_step (m : Int) (hm : m ≠ 0) : dig 10000 m.natAbs = (m.tmod 10000).natAbs :: dig 10000 (m.tdiv 10000).natAbs := by
  rw [dig_pos (by omega) (by omega), Int.natAbs_tdiv, Int.natAbs_tmod]; rfl

set_option maxRecDepth 100000 in
theorem zof_any (n : Int) (w : World) (h1 : -9223372036854775807 - 1 ≤ n) (h2 : n ≤ 9223372036854775807) (R : Ending → World → Prop)
    (hR : ∀ v w', IsZ w' v n → Below w.heap.size w w' → R (.returned v) w') :
    Calls Tryz.prog 124 #[.int .i64 n] w R := by
  have HR := Lib.hid hR; clear hR
  have hlenn : (dig 10000 n.natAbs).length ≤ 20 := dig_length_ten (by omega) (by omega)
  have Hlenn := Lib.hid hlenn; clear hlenn
  go_enter Tryz.func124, Tryz.ntmps124
  go_wp2
  go_loopw [3, 4, 5] (fun d r x wr => ∃ (ds : List Nat) (m : Int), r = .int .i64 m ∧ -9223372036854775807 - 1 ≤ m ∧ m ≤ 9223372036854775807 ∧ ds ++ dig 10000 m.natAbs = dig 10000 n.natAbs ∧
      Own .i64 2 wr (w.heap.size + 1) d ds ∧ Below w.heap.size w wr ∧ Box2 wr w.heap.size (.bool false) (.slice none 0 0) 114) (fun _ r _ _ => (intOf r).natAbs)
  case atStart =>
    exact ⟨[], n, rfl, h1, h2, rfl, by have := Own.lit .i64 2 (w.alloc (.cells #[.bool false, .slice none 0 0] 114)) (w.heap.size + 1) (by simp); simpa using this,
      ((Below.refl _ _).alloc (Nat.le_refl _) _).alloc (by simp) _, (Box2.made w _ _ _).alloc _⟩
  case round =>
    obtain ⟨ds, m, rfl, hm1, hm2, hds, hown, hbel, hbox⟩ := hrel
    have hsz := hbel.size
    obtain ⟨hA, hB, hA', hB'⟩ := hbox.cells
    have hdl : ds.length ≤ 20 := by have := Hlenn.out; rw [← hds, List.length_append] at this; omega
    have Hds := Lib.hid hds; clear hds
    by_cases hm : m = 0
    · subst hm
      have hds := Hds.out
      rw [show Int.natAbs 0 = 0 from rfl, dig_zero, List.append_nil] at hds
      go_wp2_with fail
      refine cut_z (decide (n < 0)) u3 ds wr hown.sl (by rw [hds]; exact dig_lt (by omega) _) (by omega) n (by rw [hds, val_dig (by omega)]; split <;> simp_all <;> omega) _ ?_
      intro v' w1 hz hb1
      obtain ⟨ao', n', cap', rfl, hn', hs'⟩ := hz.open
      obtain ⟨hA1, hB1, hA1', hB1'⟩ := (hbox.later hb1 (lt_of_block hbox)).cells
      have Hn' := Lib.hid hn'
      clear hA hB hA' hB' hds hn'
      dsimp only
      go_wp2
      refine bodyPost_ret_at (by simp [results, Tryz.results124, go_sem, hA1, hB1, hA1', hB1'] <;> rfl) rfl ?_
      have hbz : Below w.heap.size w w1 := hbel.trans (hb1.mono hsz)
      have hni := (hbox.later hb1 (lt_of_block hbox)).noInt rfl rfl
      exact HR.out _ _ ⟨_, rfl, (hs'.set hni 0 _).set (hni.set 0 _ rfl) 1 _⟩ ((hbz.setCell (by simp) _).setCell (by simp) _)
    · have e0 : (m != 0) = true := by simp [hm]
      have Hst := Lib.hid (zof_step m hm)
      by_cases hneg : m < 0
      · obtain ⟨a, rfl⟩ : ∃ a : Nat, m = -(a : Int) := ⟨m.natAbs, by omega⟩
        have hst := Hst.out
        rw [tmod_neg_nat, tdiv_neg_nat] at hst
        obtain ⟨x, hxx⟩ : ∃ x : Nat, x = a % 10000 := ⟨_, rfl⟩
        obtain ⟨q, hqq⟩ : ∃ q : Nat, q = a / 10000 := ⟨_, rfl⟩
        have ht1 := tmod_neg_nat a
        have ht2 := tdiv_neg_nat a
        rw [← hxx] at ht1 hst
        rw [← hqq] at ht2 hst
        have hx1 : x < 10000 := by omega
        have hq1 : q < a := by omega
        have Hst2 := Lib.hid hst
        clear hst Hst hxx hqq
        by_cases hx0 : x = 0
        · subst hx0
          have ht3 : (-(a : Int)).tmod 10000 = ((0 : Nat) : Int) := by rw [ht1]; rfl
          clear ht1
          go_wp2_with (at_builtin; go_must (refine wpList_push rfl (.tmp 18) (.tmp 20) 32 rfl 2 .i64 8 Tryz.underlying32 info_i64 (by omega) (w.heap.size + 1) _ ds 0 rfl (hown.alloc _) wr.heap.size rfl (World.cell?_alloc_at _ _ _ _ rfl) (by omega) (by simp; omega) ?_))
          intro v' w1 hown1 hb1
          have hbox1 := (hbox.alloc (.cells #[.int .i64 0] 2)).later hb1 (by simp)
          have hb2 : Below w.heap.size w w1 := (hbel.alloc hsz _).trans (hb1.mono (by omega))
          clear hA hB hA' hB' hbox hown hb1
          go_wp2
          go_roundw
          case rel =>
            have := Hst2.out; have h4 := Hds.out
            exact ⟨ds ++ [0], -(q : Int), by go_num, by omega, by omega, by rw [← h4, this]; simp, hown1, hb2, hbox1⟩
          case measure => simp [intOf]; omega
        · have hneg2 : -(x : Int) < 0 := by omega
          go_wp2_with (at_builtin; go_must (refine wpList_push rfl (.tmp 18) (.tmp 20) 32 rfl 2 .i64 8 Tryz.underlying32 info_i64 (by omega) (w.heap.size + 1) _ ds x rfl (hown.alloc _) wr.heap.size rfl (World.cell?_alloc_at _ _ _ _ rfl) (by omega) (by simp; omega) ?_))
          intro v' w1 hown1 hb1
          have hbox1 := (hbox.alloc (.cells #[.int .i64 x] 2)).later hb1 (by simp)
          have hb2 : Below w.heap.size w w1 := (hbel.alloc hsz _).trans (hb1.mono (by omega))
          clear hA hB hA' hB' hbox hown hb1
          go_wp2
          go_roundw
          case rel =>
            have := Hst2.out; have h4 := Hds.out
            exact ⟨ds ++ [x], -(q : Int), by go_num, by omega, by omega, by rw [← h4, this]; simp, hown1, hb2, hbox1⟩
          case measure => simp [intOf]; omega
      · have hx : 0 ≤ m.tmod 10000 := Int.tmod_nonneg _ (by omega)
        have hx2 : m.tmod 10000 < 10000 := Int.tmod_lt_of_pos _ (by omega)
        have hq : m.tdiv 10000 = m / 10000 := Int.tdiv_eq_ediv_of_nonneg (by omega)
        obtain ⟨x, hxx⟩ : ∃ x : Nat, m.tmod 10000 = x := ⟨(m.tmod 10000).toNat, by omega⟩
        rw [hxx] at hx hx2
        have hm' : 0 ≤ m := by omega
        have hmm : m % 10000 = x := by rw [← hxx, Int.tmod_eq_emod_of_nonneg hm']
        go_wp2_with (at_builtin; go_must (refine wpList_push rfl (.tmp 18) (.tmp 20) 32 rfl 2 .i64 8 Tryz.underlying32 info_i64 (by omega) (w.heap.size + 1) _ ds x rfl (hown.alloc _) wr.heap.size rfl (World.cell?_alloc_at _ _ _ _ rfl) (by omega) (by simp; omega) ?_))
        intro v' w1 hown1 hb1
        have hbox1 := (hbox.alloc (.cells #[.int .i64 x] 2)).later hb1 (by omega)
        have hb2 : Below w.heap.size w w1 := (hbel.alloc hsz _).trans (hb1.mono (by omega))
        clear hA hB hA' hB' hbox hown hb1
        go_wp2
        go_roundw
        case rel =>
          have := Hst.out; have h4 := Hds.out
          exact ⟨ds ++ [x], m.tdiv 10000, by go_num, by omega, by omega, by rw [← h4, this, hxx]; simp, hown1, hb2, hbox1⟩
        case measure => simp [intOf]; omega
end Go.Proofs.YtnfehccicnpbpaaGreatDoor
