/- Contracts of functions of the program and of the model: Num, Kit, Cut, Zof, Far, Add, Sub, Arr, Mul, MulWalk, Div, DivWalk. -/
import Derived.WalkKit
import Derived.WalkSpells
import Derived.Lib.Hide
import Derived.WalkSmall
import Derived.Deep.QuietTactic
import Derived.BigQuiet
import Derived.Test.YtdkjcdfkoahfkaaGreatDoorProg
import Derived.Deep.RegionHeld3
import Derived.Deep.RegionLaw
set_option linter.all false
set_option linter.unusedVariables false
set_option linter.unusedSimpArgs false
set_option linter.unnecessarySimpa false
set_option linter.deprecated false
namespace Go.Proofs.YtdkjcdfkoahfkaaGreatDoor

/-- the digits of a number to a base, from the least one on -/
def dig (B : Nat) (n : Nat) : List Nat := if _h : n = 0 ∨ B < 2 then [] else n % B :: dig B (n / B)
termination_by n
decreasing_by exact Nat.div_lt_self (by omega) (by omega)

/-- the value of a list of digits, from the least one on -/
def val (B : Nat) : List Nat → Nat
  | [] => 0
  | d :: ds => d + B * val B ds

/-- how many digits are left when the zeros at the end are dropped -/
def cutLen (xs : List Nat) : Nat → Nat
  | 0 => 0
  | n + 1 => if xs.getD n 0 = 0 then cutLen xs n else n + 1

theorem dig_zero (B : Nat) : dig B 0 = [] := by rw [dig]; simp
theorem dig_pos {B n : Nat} (hB : 2 ≤ B) (hn : n ≠ 0) : dig B n = n % B :: dig B (n / B) := by rw [dig, dif_neg (by omega)]
theorem dig_small {B n : Nat} (hn : n ≠ 0) (h : n < B) : dig B n = [n] := by
  rw [dig_pos (by omega) hn, Nat.mod_eq_of_lt h, Nat.div_eq_of_lt h, dig_zero]

theorem val_dig {B : Nat} (hB : 2 ≤ B) (n : Nat) : val B (dig B n) = n := by
  induction n using Nat.strongRecOn with
  | _ n ih =>
    by_cases hn : n = 0
    · subst hn; rw [dig_zero]; rfl
    · rw [dig_pos hB hn, val, ih (n / B) (Nat.div_lt_self (by omega) (by omega))]
      exact Nat.mod_add_div n B

theorem dig_lt {B : Nat} (hB : 2 ≤ B) (n : Nat) : ∀ d ∈ dig B n, d < B := by
  induction n using Nat.strongRecOn with
  | _ n ih =>
    by_cases hn : n = 0
    · subst hn; rw [dig_zero]; intro d h; cases h
    · rw [dig_pos hB hn]
      intro d h
      rcases List.mem_cons.1 h with h | h
      · rw [h]; exact Nat.mod_lt _ (by omega)
      · exact ih (n / B) (Nat.div_lt_self (by omega) (by omega)) d h

theorem dig_eq_nil {B n : Nat} (hB : 2 ≤ B) : dig B n = [] ↔ n = 0 := by
  constructor
  · intro h
    by_cases hn : n = 0
    · exact hn
    · rw [dig_pos hB hn] at h; cases h
  · intro h; rw [h, dig_zero]

theorem val_append (B : Nat) (xs ys : List Nat) : val B (xs ++ ys) = val B xs + B ^ xs.length * val B ys := by
  induction xs with
  | nil => simp [val]
  | cons x xs ih => simp only [List.cons_append, val, ih, List.length_cons, Nat.pow_succ, Nat.mul_add]; rw [Nat.mul_comm (B ^ xs.length) B, Nat.mul_assoc, Nat.add_assoc]

theorem val_lt {B : Nat} (xs : List Nat) (h : ∀ d ∈ xs, d < B) : val B xs < B ^ xs.length := by
  induction xs with
  | nil => simp [val]
  | cons x xs ih =>
    have hx : x < B := h x (by simp)
    have := ih (fun d hd => h d (by simp [hd]))
    have hm : B * (val B xs + 1) ≤ B * B ^ xs.length := Nat.mul_le_mul_left B this
    simp only [val, List.length_cons, Nat.pow_succ]
    rw [Nat.mul_comm (B ^ xs.length) B]
    rw [Nat.mul_add] at hm
    omega

theorem val_cons_pos {B : Nat} (x : Nat) (xs : List Nat) : val B (x :: xs) = x + B * val B xs := rfl

/-- a list of digits without a zero at its end is the list of the digits of its value -/
theorem dig_val {B : Nat} (hB : 2 ≤ B) (xs : List Nat) (h : ∀ d ∈ xs, d < B) (hl : xs.getLast? ≠ some 0) : dig B (val B xs) = xs := by
  induction xs with
  | nil => simp [val, dig_zero]
  | cons x xs ih =>
    have hx : x < B := h x (by simp)
    have hxs : ∀ d ∈ xs, d < B := fun d hd => h d (by simp [hd])
    cases xs with
    | nil =>
      have : x ≠ 0 := by intro e; subst e; simp at hl
      simp only [val, Nat.mul_zero, Nat.add_zero]
      exact dig_small this hx
    | cons y ys =>
      have ih' := ih hxs (by simpa [List.getLast?_cons_cons] using hl)
      have hne : val B (y :: ys) ≠ 0 := by
        intro e; rw [e, dig_zero] at ih'; cases ih'
      have hmul : B * 1 ≤ B * val B (y :: ys) := Nat.mul_le_mul_left B (by omega)
      rw [val_cons_pos, dig_pos hB (by omega), Nat.add_mul_mod_self_left, Nat.mod_eq_of_lt hx, Nat.add_mul_div_left _ _ (by omega), Nat.div_eq_of_lt hx, Nat.zero_add, ih']

theorem cutLen_le (xs : List Nat) (n : Nat) : cutLen xs n ≤ n := by
  induction n with
  | zero => simp [cutLen]
  | succ n ih => simp only [cutLen]; split <;> omega

theorem val_take_cut {B : Nat} (xs : List Nat) (n : Nat) : n ≤ xs.length → val B (xs.take (cutLen xs n)) = val B (xs.take n) := by
  induction n with
  | zero => intro _; simp [cutLen]
  | succ n ih =>
    intro hn
    simp only [cutLen]
    split
    · rename_i hz
      rw [ih (by omega), List.take_succ_eq_append_getElem (by omega : n < xs.length), val_append]
      have : xs[n] = 0 := by simpa [List.getD, List.getElem?_eq_getElem (by omega : n < xs.length)] using hz
      rw [this]; simp [val]
    · rfl

theorem getLast_cut (xs : List Nat) (n : Nat) : n ≤ xs.length → (xs.take (cutLen xs n)).getLast? ≠ some 0 := by
  induction n with
  | zero => intro _; simp [cutLen]
  | succ n ih =>
    intro hn
    simp only [cutLen]
    split
    · exact ih (by omega)
    · rename_i hz
      rw [List.take_succ_eq_append_getElem (by omega : n < xs.length)]
      simp only [List.getLast?_append, List.getLast?_singleton, Option.some_or]
      intro e
      apply hz
      simp [List.getD, List.getElem?_eq_getElem (by omega : n < xs.length)]
      simpa using e

/-- dropping the zeros at the end gives the digits of the value -/
theorem take_cut {B : Nat} (hB : 2 ≤ B) (xs : List Nat) (h : ∀ d ∈ xs, d < B) : xs.take (cutLen xs xs.length) = dig B (val B xs) := by
  have h1 := val_take_cut (B := B) xs xs.length (Nat.le_refl _)
  rw [List.take_length] at h1
  rw [← h1, dig_val hB _ (fun d hd => h d (List.mem_of_mem_take hd)) (getLast_cut xs _ (Nat.le_refl _))]

theorem cutLen_eq {B : Nat} (hB : 2 ≤ B) (xs : List Nat) (h : ∀ d ∈ xs, d < B) : cutLen xs xs.length = (dig B (val B xs)).length := by
  rw [← take_cut hB xs h, List.length_take]; have := cutLen_le xs xs.length; omega

theorem dig_length_le {B : Nat} (hB : 2 ≤ B) (k : Nat) : ∀ n, n < B ^ k → (dig B n).length ≤ k := by
  induction k with
  | zero => intro n hn; simp at hn; subst hn; simp [dig_zero]
  | succ k ih =>
    intro n hn
    by_cases h0 : n = 0
    · subst h0; simp [dig_zero]
    · rw [dig_pos hB h0, List.length_cons]
      have : n / B < B ^ k := by
        rw [Nat.div_lt_iff_lt_mul (by omega)]; rw [Nat.pow_succ] at hn; exact hn
      have := ih _ this
      omega

theorem lt_pow_dig {B : Nat} (hB : 2 ≤ B) (n : Nat) : n < B ^ (dig B n).length := by
  have h := val_lt (dig B n) (dig_lt hB n)
  rwa [val_dig hB] at h

/-- with a base of at least 10, a number less than a power of 10 has at most so many digits -/
theorem dig_length_ten {B : Nat} (hB : 10 ≤ B) {n e : Nat} (h : n < 10 ^ e) : (dig B n).length ≤ e :=
  dig_length_le (by omega) e n (Nat.lt_of_lt_of_le h (Nat.pow_le_pow_left hB e))

theorem dig_getD_lt {B : Nat} (hB : 2 ≤ B) (n i : Nat) : (dig B n).getD i 0 < B := by
  by_cases h : i < (dig B n).length
  · simp only [List.getD, List.getElem?_eq_getElem h, Option.getD_some]
    exact dig_lt hB n _ (List.getElem_mem h)
  · simp only [List.getD, List.getElem?_eq_none (by omega : (dig B n).length ≤ i), Option.getD_none]; omega

theorem tmod_neg_nat (a : Nat) : (-(a : Int)).tmod 10000 = -((a % 10000 : Nat) : Int) := by rw [Int.neg_tmod]; rfl
theorem tdiv_neg_nat (a : Nat) : (-(a : Int)).tdiv 10000 = -((a / 10000 : Nat) : Int) := by rw [Int.neg_tdiv]; rfl

theorem val_take_drop (B : Nat) (xs : List Nat) (k : Nat) (h : k ≤ xs.length) : val B xs = val B (xs.take k) + B ^ k * val B (xs.drop k) := by
  have := val_append B (xs.take k) (xs.drop k)
  rw [List.take_append_drop, List.length_take, Nat.min_eq_left h] at this
  exact this

theorem getD_eq {xs : List Nat} {k : Nat} (h : k < xs.length) : xs.getD k 0 = xs[k] := by simp [List.getD, List.getElem?_eq_getElem h]

theorem val_drop (B : Nat) (xs : List Nat) (k : Nat) (h : k < xs.length) : val B (xs.drop k) = xs.getD k 0 + B * val B (xs.drop (k + 1)) := by
  rw [getD_eq h, List.drop_eq_getElem_cons h]; rfl

theorem val_drop_all (B : Nat) (xs : List Nat) (k : Nat) (h : xs.length ≤ k) : val B (xs.drop k) = 0 := by
  rw [List.drop_eq_nil_of_le h]; rfl

theorem val_snoc (B : Nat) (xs : List Nat) (x : Nat) : val B (xs ++ [x]) = val B xs + B ^ xs.length * x := by
  rw [val_append]; simp [val]

theorem getD_lt {B : Nat} (hB : 0 < B) (xs : List Nat) (h : ∀ d ∈ xs, d < B) (k : Nat) : xs.getD k 0 < B := by
  by_cases hk : k < xs.length
  · rw [getD_eq hk]; exact h _ (List.getElem_mem hk)
  · simp only [List.getD, List.getElem?_eq_none (by omega : xs.length ≤ k), Option.getD_none]; exact hB

/-- the first digit from above at which two numbers of as many digits differ decides -/
theorem val_lt_at {B : Nat} (xs ys : List Nat) (hx : ∀ d ∈ xs, d < B) (i : Nat) (hi : i < xs.length) (hj : i < ys.length)
    (hd : xs.drop (i + 1) = ys.drop (i + 1)) (h : xs.getD i 0 < ys.getD i 0) : val B xs < val B ys := by
  rw [val_take_drop B xs i (by omega), val_take_drop B ys i (by omega), val_drop B xs i hi, val_drop B ys i hj, hd]
  have h1 := val_lt (B := B) (xs.take i) (fun d hd => hx d (List.mem_of_mem_take hd))
  rw [List.length_take, Nat.min_eq_left (by omega)] at h1
  have h2 : B ^ i * (xs.getD i 0 + B * val B (ys.drop (i + 1)) + 1) ≤ B ^ i * (ys.getD i 0 + B * val B (ys.drop (i + 1))) := Nat.mul_le_mul_left _ (by omega)
  rw [Nat.mul_add, Nat.mul_one] at h2
  omega

/-- a number with fewer digits is less -/
theorem lt_of_dig_length {B : Nat} (hB : 2 ≤ B) (a b : Nat) (h : (dig B a).length < (dig B b).length) : a < b := by
  rcases Nat.lt_or_ge a b with h1 | h1
  · exact h1
  · exfalso
    have := lt_pow_dig hB a
    have := dig_length_le hB _ b (Nat.lt_of_le_of_lt h1 this)
    omega

/-- -1, 0 or 1 -/
def cmpN (a b : Nat) : Int := if a < b then -1 else if b < a then 1 else 0

end Go.Proofs.YtdkjcdfkoahfkaaGreatDoor

namespace Go.Proofs.YtdkjcdfkoahfkaaGreatDoor
open Go Go.RowKit

/-- numbers as values of a kind -/
def nums (k : IntKind) (xs : List Nat) : List Value := xs.map fun x => .int k ((x : Nat) : Int)

theorem nums_length (k : IntKind) (xs : List Nat) : (nums k xs).length = xs.length := by simp [nums]
theorem nums_get (k : IntKind) (xs : List Nat) (i : Nat) (h : i < xs.length) : (nums k xs)[i]? = some (.int k ((xs.getD i 0 : Nat) : Int)) := by
  simp [nums, List.getD, List.getElem?_eq_getElem h]
theorem nums_append (k : IntKind) (xs ys : List Nat) : nums k (xs ++ ys) = nums k xs ++ nums k ys := by simp [nums]

theorem bcell {B : Nat} {W w1 : World} (hb : Below B W w1) : (∀ b o, b < B → w1.cell? ⟨b, o, none⟩ = W.cell? ⟨b, o, none⟩) ∧ (∀ b o, b < B → w1.frozen? ⟨b, o, none⟩ = W.frozen? ⟨b, o, none⟩) :=
  ⟨fun b o h => hb.cell (p := ⟨b, o, none⟩) h, fun b o h => hb.frozen (p := ⟨b, o, none⟩) h⟩

/-- behind a callee that changes nothing that there was, what was so below B is so -/
theorem belowThen {B : Nat} {w W w1 : World} (h : Below B w W) (hB : B ≤ W.heap.size) (hb : Below W.heap.size W w1) : Below B w w1 := h.trans (hb.mono hB)

theorem below_draws {B : Nat} {w w' : World} (h : Below B w w') (n : Nat) : Below B w (w'.drewN n) := below_drewN h n

/-- a slice value reads as a list of numbers -/
def Sl (k : IntKind) (w : World) (v : Value) (xs : List Nat) : Prop :=
  ∃ ao cap, v = .slice ao xs.length cap ∧ xs.length ≤ cap ∧ ∀ i, i < xs.length → ∃ b off, ao = some ⟨b, off, none⟩ ∧ b < w.heap.size ∧ w.cell? ⟨b, off + i, none⟩ = some (.int k ((xs.getD i 0 : Nat) : Int))

theorem Sl.later {k : IntKind} {w w' : World} {v : Value} {xs : List Nat} {B : Nat} (h : Sl k w v xs) (hb : Below B w w') (hB : w.heap.size ≤ B) : Sl k w' v xs := by
  obtain ⟨ao, cap, hv, hc, hx⟩ := h
  refine ⟨ao, cap, hv, hc, fun i hi => ?_⟩
  obtain ⟨b, off, h1, h2, h3⟩ := hx i hi
  exact ⟨b, off, h1, Nat.lt_of_lt_of_le h2 hb.size, by rw [hb.cell (p := ⟨b, off + i, none⟩) (by exact Nat.lt_of_lt_of_le h2 hB)]; exact h3⟩

theorem Sl.alloc {k : IntKind} {w : World} {v : Value} {xs : List Nat} (h : Sl k w v xs) (o : Obj) : Sl k (w.alloc o) v xs :=
  h.later ((Below.refl w.heap.size w).alloc (Nat.le_refl _) o) (Nat.le_refl _)

theorem Sl.nil (k : IntKind) (w : World) (ao : Option Addr) (cap : Nat) : Sl k w (.slice ao 0 cap) [] := ⟨ao, cap, rfl, Nat.zero_le _, fun i hi => absurd hi (by simp)⟩

/-- either there is nothing, or the cells lie one behind the other in a block that is there -/
theorem Sl.cases {k : IntKind} {w : World} {v : Value} {xs : List Nat} (h : Sl k w v xs) :
    (xs = [] ∧ ∃ ao cap, v = .slice ao 0 cap) ∨
    (0 < xs.length ∧ ∃ b off cap, v = .slice (some ⟨b, off, none⟩) xs.length cap ∧ xs.length ≤ cap ∧ b < w.heap.size ∧ ∀ i, i < xs.length → w.cell? ⟨b, off + i, none⟩ = some (.int k ((xs.getD i 0 : Nat) : Int))) := by
  obtain ⟨ao, cap, hv, hc, hx⟩ := h
  by_cases h0 : xs.length = 0
  · have : xs = [] := List.length_eq_zero_iff.1 h0
    subst this
    exact .inl ⟨rfl, ao, cap, hv⟩
  · obtain ⟨b, off, h1, h2, _⟩ := hx 0 (by omega)
    subst h1
    refine .inr ⟨by omega, b, off, cap, hv, hc, h2, fun i hi => ?_⟩
    obtain ⟨b', off', h1', _, h3'⟩ := hx i hi
    cases h1'
    exact h3'

theorem Sl.len {k : IntKind} {w : World} {ao : Option Addr} {n cap : Nat} {xs : List Nat} (h : Sl k w (.slice ao n cap) xs) : n = xs.length := by
  obtain ⟨_, _, hv, _, _⟩ := h
  simp only [Value.slice.injEq] at hv
  exact hv.2.1

theorem Sl.cap {k : IntKind} {w : World} {ao : Option Addr} {n cap : Nat} {xs : List Nat} (h : Sl k w (.slice ao n cap) xs) : n ≤ cap := by
  obtain ⟨_, _, hv, hc, _⟩ := h
  simp only [Value.slice.injEq] at hv
  rw [hv.2.1, hv.2.2]; exact hc

/-- where an element lies -/
theorem Sl.at {k : IntKind} {w : World} {ao : Option Addr} {n cap : Nat} {xs : List Nat} (h : Sl k w (.slice ao n cap) xs) (i : Nat) (hi : i < n) :
    ∃ b off, ao = some ⟨b, off, none⟩ ∧ b < w.heap.size ∧ w.cell? ⟨b, off + i, none⟩ = some (.int k ((xs.getD i 0 : Nat) : Int)) := by
  have hl := h.len
  obtain ⟨_, _, hv, _, hx⟩ := h
  simp only [Value.slice.injEq] at hv
  rw [hv.1]
  exact hx i (by omega)

theorem Sl.mk {k : IntKind} {w : World} {b off cap n : Nat} {xs : List Nat} (hn : n = xs.length) (hc : n ≤ cap) (hb : b < w.heap.size)
    (hx : ∀ i, i < xs.length → w.cell? ⟨b, off + i, none⟩ = some (.int k ((xs.getD i 0 : Nat) : Int))) : Sl k w (.slice (some ⟨b, off, none⟩) n cap) xs := by
  subst hn
  exact ⟨_, cap, rfl, hc, fun i hi => ⟨b, off, rfl, hb, hx i hi⟩⟩

/-- the first of them -/
theorem Sl.take {k : IntKind} {w : World} {b off cap : Nat} {xs : List Nat} (n : Nat) (hn : n ≤ xs.length) (hc : xs.length ≤ cap) (hb : b < w.heap.size)
    (hx : ∀ i, i < xs.length → w.cell? ⟨b, off + i, none⟩ = some (.int k ((xs.getD i 0 : Nat) : Int))) : Sl k w (.slice (some ⟨b, off, none⟩) n cap) (xs.take n) := by
  refine Sl.mk (by simp; omega) (by omega) hb (fun i hi => ?_)
  have hi' : i < n := by simp at hi; omega
  rw [hx i (by omega)]
  simp [List.getD, hi']

/-- a slice that the call has made itself, from block B on -/
def Own (k : IntKind) (e : TypeId) (w : World) (B : Nat) (v : Value) (xs : List Nat) : Prop := w.ownsRow B e 1 v xs.length (nums k xs)

theorem Own.nil (k : IntKind) (e : TypeId) (w : World) (B : Nat) : Own k e w B (.slice none 0 0) [] := World.ownsRow_nil _ _ _ _

theorem Own.lit (k : IntKind) (e : TypeId) (w : World) (B : Nat) (hB : B ≤ w.heap.size) : Own k e (w.alloc (.cells #[] e)) B (.slice (some ⟨w.heap.size, 0, none⟩) 0 0) [] := by
  have := World.ownsRow_made (base := B) (e := e) (size := 1) w #[] 0 hB (by simp) (by simp)
  simpa [Own, nums] using this

theorem Own.lit1 (k : IntKind) (e : TypeId) (w : World) (B x : Nat) (z : Int) (hz : z = (x : Int)) (hB : B ≤ w.heap.size) : Own k e (w.alloc (.cells #[.int k z] e)) B (.slice (some ⟨w.heap.size, 0, none⟩) 1 1) [x] := by
  subst hz
  refine ⟨by simp [nums], .inr ⟨w.heap.size, 1, #[.int k (x : Int)], rfl, hB, ?_, by simp, by simp only [maxLen]; omega, by simp, by simp [nums]⟩⟩
  show (w.heap.push _)[_]? = _
  simp

theorem Own.sl {k : IntKind} {e : TypeId} {w : World} {B : Nat} {v : Value} {xs : List Nat} (h : Own k e w B v xs) : Sl k w v xs := by
  obtain ⟨h1, h2⟩ := h
  rcases h2 with ⟨rfl, h2⟩ | ⟨g, cap, cur, rfl, hg, hh, hn, hm, hs, ht⟩
  · have : xs = [] := List.length_eq_zero_iff.1 h2
    subst this; exact Sl.nil _ _ _ _
  · refine Sl.mk rfl hn (by obtain ⟨h, _⟩ := Array.getElem?_eq_some_iff.1 hh; exact h) (fun i hi => ?_)
    have hi2 : (nums k xs)[i]? = some (.int k ((xs.getD i 0 : Nat) : Int)) := nums_get k xs i hi
    rw [← ht] at hi2
    simp only [World.cell?, hh]
    rw [List.getElem?_take] at hi2
    split at hi2
    · simp only [Option.isSome_none, Bool.false_eq_true, if_false, Nat.zero_add]
      rw [← Array.getElem?_toList]; exact hi2
    · cases hi2

theorem Own.alloc {k : IntKind} {e : TypeId} {w : World} {B : Nat} {v : Value} {xs : List Nat} (h : Own k e w B v xs) (o : Obj) : Own k e (w.alloc o) B v xs := World.ownsRow.alloc h o

theorem Own.ownBlock {k : IntKind} {e : TypeId} {w : World} {B : Nat} {v : Value} {xs : List Nat} (h : Own k e w B v xs) : ∀ g, v.ownBlock = some g → B ≤ g ∧ g < w.heap.size := World.ownsRow.lt h

/-- an owned slice behind changes of other blocks from some block on -/
theorem Own.later {k : IntKind} {e : TypeId} {w w' : World} {B B' : Nat} {v : Value} {xs : List Nat} (h : Own k e w B v xs) (hb : Below B' w w') (hB : w.heap.size ≤ B') : Own k e w' B v xs :=
  World.ownsRow.kept (row := none) h ⟨hb.os, hb.tape, hb.output, hb.size, fun k hk _ => hb.block k (Nat.lt_of_lt_of_le hk hB)⟩ (by
    by_cases h0 : v.ownBlock = none
    · exact .inl h0
    · exact .inr h0)

/-- one element is appended to a slice that the call has made -/
theorem wpList_push {P : Program} {w : World} {ops : Array Oper} {rest : List Oper} {o : Oper} {a : Act} {Q : Exit → Act → World → Prop} (hgd : o.guard = none) (s x : Operand) (t : TypeId)
    (ho : o.op = .call { callee := .builtin .append, args := #[s, x], argTypes := #[t, t] })
    (e : TypeId) (k : IntKind) (bytes : Nat) (ht : P.underlying t = some (.slice e)) (hi : (P.info? e).map (fun i => (i.zero, i.size, i.bytes)) = some (some (.int k 0), 1, bytes)) (hby : bytes ≤ 16)
    (B : Nat) (v : Value) (xs : List Nat) (n : Nat) (hs : a.eval s = v) (hown : Own k e w B v xs)
    (g : Nat) (hx : a.eval x = .slice (some ⟨g, 0, none⟩) 1 1) (hg : w.cell? ⟨g, 0, none⟩ = some (.int k ((n : Nat) : Int)))
    (hlen : xs.length ≤ 100000000) (hB : B ≤ w.heap.size)
    (h : ∀ v' w', Own k e w' B v' (xs ++ [n]) → Below B w w' → wpList P ops Q rest (a.put o.dst v') w') : wpList P ops Q (o :: rest) a w := by
  obtain ⟨i0, hi0, hz0, hz1, hz2⟩ := info_parts hi
  refine wpList_append_own w hgd s x t ho B e i0 (.int k 0) 1 bytes ht hi0 hz0 hz1 hz2 rfl (by decide) v xs.length (nums k xs) hs hown ⟨g, 0, none⟩ 1 1 [.int k ((n : Nat) : Int)] hx rfl ?_ ?_ ?_ ?_ hB ?_
  · intro j u hj
    match j, hj with
    | 0, hj => simp at hj; subst hj; simpa [Addr.add] using hg
  · intro u hu; simp at hu; subst hu; rfl
  · simp only [maxLen]; omega
  · have : (xs.length + 1) * bytes ≤ (xs.length + 1) * 16 := Nat.mul_le_mul_left _ hby
    omega
  · intro v' w' hown' hgrow _
    refine h v' w' ?_ ?_
    · simpa [Own, nums] using hown'
    · refine (Below.refl B w).grown hgrow hB (fun g' hg' => ?_)
      exact (Own.ownBlock hown g' hg').1

/-- the end of a function whose result lies in memory; the value is what the run says -/
theorem bodyPost_ret_at {P : Program} {fn : Func} {R : Ending → World → Prop} {a : Act} {w : World} {v : Value}
    (hr : (results fn a.tmps).run P w = .ok v w) (hd : a.defers = []) (hR : R (.returned v) w) : bodyPost P fn R .ret a w := ⟨hd, v, hr, hR⟩

/-- the same where the number is reckoned as an integer -/
theorem wpList_pushz {P : Program} {w : World} {ops : Array Oper} {rest : List Oper} {o : Oper} {a : Act} {Q : Exit → Act → World → Prop} (hgd : o.guard = none) (s x : Operand) (t : TypeId)
    (ho : o.op = .call { callee := .builtin .append, args := #[s, x], argTypes := #[t, t] })
    (e : TypeId) (k : IntKind) (bytes : Nat) (ht : P.underlying t = some (.slice e)) (hi : (P.info? e).map (fun i => (i.zero, i.size, i.bytes)) = some (some (.int k 0), 1, bytes)) (hby : bytes ≤ 16)
    (B : Nat) (v : Value) (xs : List Nat) (n : Nat) (z : Int) (hz : z = (n : Int)) (hs : a.eval s = v) (hown : Own k e w B v xs)
    (g : Nat) (hx : a.eval x = .slice (some ⟨g, 0, none⟩) 1 1) (hg : w.cell? ⟨g, 0, none⟩ = some (.int k z))
    (hlen : xs.length ≤ 100000000) (hB : B ≤ w.heap.size)
    (h : ∀ v' w', Own k e w' B v' (xs ++ [n]) → Below B w w' → wpList P ops Q rest (a.put o.dst v') w') : wpList P ops Q (o :: rest) a w := by
  subst hz
  exact wpList_push hgd s x t ho e k bytes ht hi hby B v xs n hs hown g hx hg hlen hB h

/-- a value that is no number -/
def notInt : Value → Bool
  | .int _ _ => false
  | _ => true

/-- no cell of a block holds a number: so a list of numbers does not lie there -/
def NoInt (w : World) (b : Nat) : Prop := ∀ o u, w.cell? ⟨b, o, none⟩ = some u → notInt u = true

theorem cell?_set (w : World) (b o c q : Nat) (u : Value) : (w.setCell ⟨b, o, none⟩ u).cell? ⟨c, q, none⟩ = if c = b ∧ q = o then (w.cell? ⟨c, q, none⟩).map (fun _ => u) else w.cell? ⟨c, q, none⟩ := by
  simp only [World.cell?, World.setCell, Array.getElem?_modify]
  by_cases hc : c = b
  · subst hc
    simp only [true_and, if_true]
    cases hh : w.heap[c]? with
    | none => simp
    | some ob =>
      cases ob <;> simp
      rename_i cs t f
      by_cases hq : q = o
      · subst hq
        simp only [if_true]
        rw [Array.getElem?_setIfInBounds]
        simp only [if_true]
        split
        · rename_i hlt; rw [Array.getElem?_eq_getElem hlt]; rfl
        · rename_i hlt; rw [Array.getElem?_eq_none (by omega)]; rfl
      · rw [Array.getElem?_setIfInBounds_ne (fun e => hq e.symm), if_neg hq]
  · simp only [hc, false_and, if_false]
    rw [if_neg (fun e => hc e.symm)]

theorem NoInt.set {w : World} {b : Nat} (h : NoInt w b) (o c : Nat) {u : Value} (hu : notInt u = true) : NoInt (w.setCell ⟨c, o, none⟩ u) b := by
  intro q x hx
  rw [cell?_set] at hx
  split at hx
  · cases hw : w.cell? ⟨b, q, none⟩ with
    | none => rw [hw] at hx; cases hx
    | some y => rw [hw] at hx; simp at hx; subst hx; exact hu
  · exact h q x hx

theorem heap_size_set (w : World) (a : Addr) (u : Value) : (w.setCell a u).heap.size = w.heap.size := by simp [World.setCell]

/-- a store into a block without numbers leaves a list of numbers as it is -/
theorem Sl.set {k : IntKind} {w : World} {v : Value} {xs : List Nat} (h : Sl k w v xs) {b : Nat} (hb : NoInt w b) (o : Nat) (u : Value) : Sl k (w.setCell ⟨b, o, none⟩ u) v xs := by
  obtain ⟨ao, cap, hv, hc, hx⟩ := h
  refine ⟨ao, cap, hv, hc, fun i hi => ?_⟩
  obtain ⟨c, off, h1, h2, h3⟩ := hx i hi
  refine ⟨c, off, h1, by rw [heap_size_set]; exact h2, ?_⟩
  rw [cell?_set, if_neg]
  · exact h3
  · rintro ⟨rfl, _⟩
    have := hb _ _ h3
    cases this

/-- a block of two cells -/
def Box2 (w : World) (b : Nat) (u v : Value) (t : TypeId) : Prop := w.heap[b]? = some (.cells #[u, v] t (0, 0))
theorem Box2.cells {w : World} {b : Nat} {u v : Value} {t : TypeId} (h : Box2 w b u v t) :
    w.cell? ⟨b, 0, none⟩ = some u ∧ w.cell? ⟨b, 1, none⟩ = some v ∧ w.frozen? ⟨b, 0, none⟩ = false ∧ w.frozen? ⟨b, 1, none⟩ = false := by
  unfold Box2 at h
  simp [World.cell?, World.frozen?, h]
theorem Box2.noInt {w : World} {b : Nat} {u v : Value} {t : TypeId} (h : Box2 w b u v t) (hu : notInt u = true) (hv : notInt v = true) : NoInt w b := by
  intro o x hx
  unfold Box2 at h
  simp only [World.cell?, h, Option.isSome_none, Bool.false_eq_true, if_false] at hx
  match o, hx with
  | 0, hx => simp at hx; subst hx; exact hu
  | 1, hx => simp at hx; subst hx; exact hv
  | (n + 2), hx => simp at hx
theorem Box2.later {w w' : World} {b : Nat} {u v : Value} {t : TypeId} {B : Nat} (h : Box2 w b u v t) (hb : Below B w w') (hB : b < B) : Box2 w' b u v t := by
  unfold Box2 at *; rw [hb.block b hB]; exact h
theorem Box2.alloc {w : World} {b : Nat} {u v : Value} {t : TypeId} (h : Box2 w b u v t) (o : Obj) : Box2 (w.alloc o) b u v t :=
  h.later ((Below.refl w.heap.size w).alloc (Nat.le_refl _) o) (lt_of_block h)
theorem Box2.drewN {w : World} {b : Nat} {u v : Value} {t : TypeId} (h : Box2 w b u v t) (n : Nat) : Box2 (w.drewN n) b u v t := h
theorem Box2.made (w : World) (u v : Value) (t : TypeId) : Box2 (w.alloc (.cells #[u, v] t)) w.heap.size u v t := by
  show (w.heap.push _)[_]? = _
  simp

end Go.Proofs.YtdkjcdfkoahfkaaGreatDoor

namespace Go.Proofs.YtdkjcdfkoahfkaaGreatDoor
open Go Go.RowKit

/-- the value of the model's type of an integer of any size -/
def IsZ (w : World) (v : Value) (z : Int) : Prop := ∃ s, v = .agg #[.bool (decide (z < 0)), s] ∧ Sl .i64 w s (dig 10000 z.natAbs)

theorem IsZ.open {w : World} {v : Value} {z : Int} (h : IsZ w v z) : ∃ ao n cap, v = .agg #[.bool (decide (z < 0)), .slice ao n cap] ∧ n = (dig 10000 z.natAbs).length ∧ Sl .i64 w (.slice ao n cap) (dig 10000 z.natAbs) := by
  obtain ⟨s, h1, h2⟩ := h
  obtain ⟨ao, cap, h3, h4⟩ := h2
  exact ⟨ao, _, cap, by rw [h1, h3], rfl, ao, cap, rfl, h4⟩

theorem IsZ.later {w w' : World} {v : Value} {z : Int} {B : Nat} (h : IsZ w v z) (hb : Below B w w') (hB : w.heap.size ≤ B) : IsZ w' v z := by
  obtain ⟨s, h1, h2⟩ := h; exact ⟨s, h1, h2.later hb hB⟩

set_option maxRecDepth 100000 in
theorem cut_core (neg : Bool) (ao : Option Addr) (n cap : Nat) (xs : List Nat) (w : World) (hs : Sl .i64 w (.slice ao n cap) xs) (hlen : xs.length ≤ 1000000000) (R : Ending → World → Prop)
    (hR : ∀ n' w', Sl .i64 w' (.slice ao n' cap) (xs.take (cutLen xs xs.length)) → Below w.heap.size w w' → R (.returned (.agg #[.bool (neg && decide (0 < cutLen xs xs.length)), .slice ao n' cap])) w') :
    Calls Tryz.prog 59 #[.bool neg, .slice ao n cap] w R := by
  have HR := Lib.hid hR; clear hR
  rcases hs.cases with ⟨rfl, ao2, cap2, he⟩ | ⟨h0, b, off, cap2, he, hcap, hb, hc⟩ <;> (simp only [Value.slice.injEq] at he; obtain ⟨rfl, rfl, rfl⟩ := he)
  · go_enter Tryz.func59, Tryz.ntmps59
    go_wp2
    go_loop [5] (fun n => n = .int .i64 0) (fun _ => 0)
    case atStart => rfl
    case round =>
      subst hrel
      cases neg
      · go_wp2
        refine bodyPost_ret (v := .agg #[.bool false, .slice ao 0 cap]) (by simp [results, Tryz.results59, go_sem]) rfl ?_
        exact HR.out _ _ (Sl.nil _ _ _ _) ((Below.refl _ _).alloc (Nat.le_refl _) _)
      · go_wp2
        refine bodyPost_ret (v := .agg #[.bool false, .slice ao 0 cap]) (by simp [results, Tryz.results59, go_sem]) rfl ?_
        exact HR.out _ _ (Sl.nil _ _ _ _) ((Below.refl _ _).alloc (Nat.le_refl _) _)
  · obtain ⟨len, hlen'⟩ : ∃ len, len = xs.length := ⟨_, rfl⟩
    rw [← hlen'] at h0 hc hlen hcap HR ⊢
    have Hl := Lib.hid hlen'; clear hlen'
    go_enter Tryz.func59, Tryz.ntmps59
    go_wp2
    go_loop [5] (fun n => ∃ k : Nat, k ≤ len ∧ n = .int .i64 k ∧ cutLen xs k = cutLen xs len) (fun n => (intOf n).toNat)
    case atStart => exact ⟨len, Nat.le_refl _, rfl, rfl⟩
    case round =>
      obtain ⟨k, hk, rfl, hcut⟩ := hrel
      have Hcut := Lib.hid hcut; clear hcut
      by_cases hk0 : 0 < k
      · obtain ⟨j, rfl⟩ : ∃ j, k = j + 1 := ⟨k - 1, by omega⟩
        have hcell := hc j (by omega)
        obtain ⟨x, hx⟩ : ∃ x, x = xs.getD j 0 := ⟨_, rfl⟩
        rw [← hx] at hcell
        have Hx := Lib.hid hx; clear hx
        by_cases hz : x = 0
        · subst hz
          go_wp2
          go_round
          case rel => exact ⟨j, by omega, by go_num, by have := Hcut.out; rw [← this, cutLen, if_pos Hx.out.symm]⟩
          case measure => simp [intOf]
        · have e : (((x : Nat) : Int) == 0) = false := by simp; omega
          have hce : cutLen xs len = j + 1 := by have := Hcut.out; rw [← this, cutLen, if_neg (by rw [← Hx.out]; exact hz)]
          have HC := Lib.hid hce; clear hce
          have HS := fun w' (hb' : Below w.heap.size w w') => (Sl.take (j + 1) (by rw [← Hl.out]; exact hk) (by rw [← Hl.out]; exact hcap) (Nat.lt_of_lt_of_le hb hb'.size) (fun i hi => by rw [hb'.cell (by exact hb)]; exact hc i (by rw [Hl.out]; exact hi)) : Sl .i64 w' (.slice (some ⟨b, off, none⟩) (j + 1) cap) (xs.take (j + 1)))
          rw [HC.out] at HR
          have HS := Lib.hid HS
          clear hc
          cases neg
          all_goals
            go_wp2
            refine bodyPost_ret_at (by simp [results, Tryz.results59, go_sem] <;> rfl) rfl ?_
            exact HR.out _ _ (HS.out _ ((Below.refl _ _).alloc (Nat.le_refl _) _)) ((Below.refl _ _).alloc (Nat.le_refl _) _)
      · obtain rfl : k = 0 := by omega
        have hce : cutLen xs len = 0 := by have := Hcut.out; rw [← this]; rfl
        rw [hce] at HR
        clear hce
        cases neg
        all_goals
          go_wp2
          refine bodyPost_ret_at (by simp [results, Tryz.results59, go_sem] <;> rfl) rfl ?_
          exact HR.out _ _ (Sl.nil _ _ _ _) ((Below.refl _ _).alloc (Nat.le_refl _) _)
/-- the digits at the beginning, without zeros at the end -/
theorem cut_at (neg : Bool) (ao : Option Addr) (n cap : Nat) (xs : List Nat) (w : World) (hs : Sl .i64 w (.slice ao n cap) xs) (hd : ∀ d ∈ xs, d < 10000) (hlen : xs.length ≤ 1000000000) (R : Ending → World → Prop)
    (hR : ∀ n' w', Sl .i64 w' (.slice ao n' cap) (dig 10000 (val 10000 xs)) → Below w.heap.size w w' → R (.returned (.agg #[.bool (neg && decide (0 < val 10000 xs)), .slice ao n' cap])) w') :
    Calls Tryz.prog 59 #[.bool neg, .slice ao n cap] w R := by
  refine cut_core neg ao n cap xs w hs hlen R fun n' w' h1 h2 => ?_
  have hpos : decide (0 < cutLen xs xs.length) = decide (0 < val 10000 xs) := by
    rw [cutLen_eq (by omega : 2 ≤ 10000) xs hd]
    by_cases h0 : val 10000 xs = 0
    · rw [h0, dig_zero]; rfl
    · have : (dig 10000 (val 10000 xs)).length ≠ 0 := fun e => h0 ((dig_eq_nil (by omega)).1 (List.length_eq_zero_iff.1 e))
      rw [decide_eq_true (by omega), decide_eq_true (by omega)]
  rw [take_cut (by omega : 2 ≤ 10000) xs hd] at h1
  rw [hpos]
  exact hR n' w' h1 h2

theorem cut_any (neg : Bool) (s : Value) (xs : List Nat) (w : World) (hs : Sl .i64 w s xs) (hd : ∀ d ∈ xs, d < 10000) (hlen : xs.length ≤ 1000000000) (R : Ending → World → Prop)
    (hR : ∀ s' w', Sl .i64 w' s' (dig 10000 (val 10000 xs)) → Below w.heap.size w w' → R (.returned (.agg #[.bool (neg && decide (0 < val 10000 xs)), s'])) w') :
    Calls Tryz.prog 59 #[.bool neg, s] w R := by
  obtain ⟨ao, cap, rfl, hc⟩ := hs
  exact cut_at neg ao _ cap xs w ⟨ao, cap, rfl, hc⟩ hd hlen R fun n' w' h1 h2 => hR _ w' h1 h2

/-- an integer from its sign and digits that may end in zeros -/
theorem cut_z (neg : Bool) (s : Value) (xs : List Nat) (w : World) (hs : Sl .i64 w s xs) (hd : ∀ d ∈ xs, d < 10000) (hlen : xs.length ≤ 1000000000) (z : Int) (hz : z = if neg then -(val 10000 xs : Int) else val 10000 xs) (R : Ending → World → Prop)
    (hR : ∀ v' w', IsZ w' v' z → Below w.heap.size w w' → R (.returned v') w') :
    Calls Tryz.prog 59 #[.bool neg, s] w R := by
  refine cut_any neg s xs w hs hd hlen R fun s' w' h1 h2 => hR _ w' ⟨s', ?_, ?_⟩ h2
  · have : (neg && decide (0 < val 10000 xs)) = decide (z < 0) := by
      cases neg
      · rw [hz]; simp
      · rw [hz]; simp
    rw [this]
  · have : z.natAbs = val 10000 xs := by rw [hz]; split <;> omega
    rw [this]; exact h1
end Go.Proofs.YtdkjcdfkoahfkaaGreatDoor

namespace Go.Proofs.YtdkjcdfkoahfkaaGreatDoor
open Go Go.RowKit

theorem info_i64 : (Tryz.prog.info? 2).map (fun i => (i.zero, i.size, i.bytes)) = some (some (.int .i64 0), 1, 8) := by kernel_rfl

theorem zof_step (m : Int) (hm : m ≠ 0) : dig 10000 m.natAbs = (m.tmod 10000).natAbs :: dig 10000 (m.tdiv 10000).natAbs := by
  rw [dig_pos (by omega) (by omega), Int.natAbs_tdiv, Int.natAbs_tmod]; rfl

set_option maxRecDepth 100000 in
theorem zof_any (n : Int) (w : World) (h1 : -9223372036854775807 - 1 ≤ n) (h2 : n ≤ 9223372036854775807) (R : Ending → World → Prop)
    (hR : ∀ v w', IsZ w' v n → Below w.heap.size w w' → R (.returned v) w') :
    Calls Tryz.prog 60 #[.int .i64 n] w R := by
  have HR := Lib.hid hR; clear hR
  have hlenn : (dig 10000 n.natAbs).length ≤ 20 := dig_length_ten (by omega) (by omega)
  have Hlenn := Lib.hid hlenn; clear hlenn
  go_enter Tryz.func60, Tryz.ntmps60
  go_wp2
  go_loopw [3, 4, 5] (fun d r x wr => ∃ (ds : List Nat) (m : Int), r = .int .i64 m ∧ -9223372036854775807 - 1 ≤ m ∧ m ≤ 9223372036854775807 ∧ ds ++ dig 10000 m.natAbs = dig 10000 n.natAbs ∧
      Own .i64 2 wr (w.heap.size + 1) d ds ∧ Below w.heap.size w wr ∧ Box2 wr w.heap.size (.bool false) (.slice none 0 0) 67) (fun _ r _ _ => (intOf r).natAbs)
  case atStart =>
    exact ⟨[], n, rfl, h1, h2, rfl, by have := Own.lit .i64 2 (w.alloc (.cells #[.bool false, .slice none 0 0] 67)) (w.heap.size + 1) (by simp); simpa using this,
      ((Below.refl _ _).alloc (Nat.le_refl _) _).alloc (by simp) _, (Box2.made w _ _ _).alloc _⟩
  case round =>
    obtain ⟨ds, m, rfl, hm1, hm2, hds, hown, hbel, hbox⟩ := hrel
    have hsz := hbel.size
    obtain ⟨hA, hB, hA', hB'⟩ := hbox.cells
    have hdl : ds.length ≤ 20 := by have := Hlenn.out; rw [← hds, List.length_append] at this; omega
    have Hds := Lib.hid hds; clear hds
    by_cases hm : m = 0
    · subst hm
      have hds := Hds.out
      rw [show Int.natAbs 0 = 0 from rfl, dig_zero, List.append_nil] at hds
      go_wp2_with fail
      refine cut_z (decide (n < 0)) u3 ds wr hown.sl (by rw [hds]; exact dig_lt (by omega) _) (by omega) n (by rw [hds, val_dig (by omega)]; split <;> simp_all <;> omega) _ ?_
      intro v' w1 hz hb1
      obtain ⟨ao', n', cap', rfl, hn', hs'⟩ := hz.open
      obtain ⟨hA1, hB1, hA1', hB1'⟩ := (hbox.later hb1 (lt_of_block hbox)).cells
      have Hn' := Lib.hid hn'
      clear hA hB hA' hB' hds hn'
      dsimp only
      go_wp2
      refine bodyPost_ret_at (by simp [results, Tryz.results60, go_sem, hA1, hB1, hA1', hB1'] <;> rfl) rfl ?_
      have hbz : Below w.heap.size w w1 := hbel.trans (hb1.mono hsz)
      have hni := (hbox.later hb1 (lt_of_block hbox)).noInt rfl rfl
      exact HR.out _ _ ⟨_, rfl, (hs'.set hni 0 _).set (hni.set 0 _ rfl) 1 _⟩ ((hbz.setCell (by simp) _).setCell (by simp) _)
    · have e0 : (m != 0) = true := by simp [hm]
      have Hst := Lib.hid (zof_step m hm)
      by_cases hneg : m < 0
      · obtain ⟨a, rfl⟩ : ∃ a : Nat, m = -(a : Int) := ⟨m.natAbs, by omega⟩
        have hst := Hst.out
        rw [tmod_neg_nat, tdiv_neg_nat] at hst
        obtain ⟨x, hxx⟩ : ∃ x : Nat, x = a % 10000 := ⟨_, rfl⟩
        obtain ⟨q, hqq⟩ : ∃ q : Nat, q = a / 10000 := ⟨_, rfl⟩
        have ht1 := tmod_neg_nat a
        have ht2 := tdiv_neg_nat a
        rw [← hxx] at ht1 hst
        rw [← hqq] at ht2 hst
        have hx1 : x < 10000 := by omega
        have hq1 : q < a := by omega
        have Hst2 := Lib.hid hst
        clear hst Hst hxx hqq
        by_cases hx0 : x = 0
        · subst hx0
          have ht3 : (-(a : Int)).tmod 10000 = ((0 : Nat) : Int) := by rw [ht1]; rfl
          clear ht1
          go_wp2_with (at_builtin; go_must (refine wpList_push rfl (.tmp 18) (.tmp 20) 65 rfl 2 .i64 8 Tryz.underlying65 info_i64 (by omega) (w.heap.size + 1) _ ds 0 rfl (hown.alloc _) wr.heap.size rfl (World.cell?_alloc_at _ _ _ _ rfl) (by omega) (by simp; omega) ?_))
          intro v' w1 hown1 hb1
          have hbox1 := (hbox.alloc (.cells #[.int .i64 0] 2)).later hb1 (by simp)
          have hb2 : Below w.heap.size w w1 := (hbel.alloc hsz _).trans (hb1.mono (by omega))
          clear hA hB hA' hB' hbox hown hb1
          go_wp2
          go_roundw
          case rel =>
            have := Hst2.out; have h4 := Hds.out
            exact ⟨ds ++ [0], -(q : Int), by go_num, by omega, by omega, by rw [← h4, this]; simp, hown1, hb2, hbox1⟩
          case measure => simp [intOf]; omega
        · have hneg2 : -(x : Int) < 0 := by omega
          go_wp2_with (at_builtin; go_must (refine wpList_push rfl (.tmp 18) (.tmp 20) 65 rfl 2 .i64 8 Tryz.underlying65 info_i64 (by omega) (w.heap.size + 1) _ ds x rfl (hown.alloc _) wr.heap.size rfl (World.cell?_alloc_at _ _ _ _ rfl) (by omega) (by simp; omega) ?_))
          intro v' w1 hown1 hb1
          have hbox1 := (hbox.alloc (.cells #[.int .i64 x] 2)).later hb1 (by simp)
          have hb2 : Below w.heap.size w w1 := (hbel.alloc hsz _).trans (hb1.mono (by omega))
          clear hA hB hA' hB' hbox hown hb1
          go_wp2
          go_roundw
          case rel =>
            have := Hst2.out; have h4 := Hds.out
            exact ⟨ds ++ [x], -(q : Int), by go_num, by omega, by omega, by rw [← h4, this]; simp, hown1, hb2, hbox1⟩
          case measure => simp [intOf]; omega
      · have hx : 0 ≤ m.tmod 10000 := Int.tmod_nonneg _ (by omega)
        have hx2 : m.tmod 10000 < 10000 := Int.tmod_lt_of_pos _ (by omega)
        have hq : m.tdiv 10000 = m / 10000 := Int.tdiv_eq_ediv_of_nonneg (by omega)
        obtain ⟨x, hxx⟩ : ∃ x : Nat, m.tmod 10000 = x := ⟨(m.tmod 10000).toNat, by omega⟩
        rw [hxx] at hx hx2
        have hm' : 0 ≤ m := by omega
        have hmm : m % 10000 = x := by rw [← hxx, Int.tmod_eq_emod_of_nonneg hm']
        go_wp2_with (at_builtin; go_must (refine wpList_push rfl (.tmp 18) (.tmp 20) 65 rfl 2 .i64 8 Tryz.underlying65 info_i64 (by omega) (w.heap.size + 1) _ ds x rfl (hown.alloc _) wr.heap.size rfl (World.cell?_alloc_at _ _ _ _ rfl) (by omega) (by simp; omega) ?_))
        intro v' w1 hown1 hb1
        have hbox1 := (hbox.alloc (.cells #[.int .i64 x] 2)).later hb1 (by omega)
        have hb2 : Below w.heap.size w w1 := (hbel.alloc hsz _).trans (hb1.mono (by omega))
        clear hA hB hA' hB' hbox hown hb1
        go_wp2
        go_roundw
        case rel =>
          have := Hst.out; have h4 := Hds.out
          exact ⟨ds ++ [x], m.tdiv 10000, by go_num, by omega, by omega, by rw [← h4, this, hxx]; simp, hown1, hb2, hbox1⟩
        case measure => simp [intOf]; omega
end Go.Proofs.YtdkjcdfkoahfkaaGreatDoor

namespace Go.Proofs.YtdkjcdfkoahfkaaGreatDoor
open Go Go.RowKit

theorem cmpN_lt {a b : Nat} (h : a < b) : cmpN a b = -1 := if_pos h
theorem cmpN_gt {a b : Nat} (h : b < a) : cmpN a b = 1 := by rw [cmpN, if_neg (by omega), if_pos h]
theorem cmpN_eq (a : Nat) : cmpN a a = 0 := by rw [cmpN, if_neg (by omega), if_neg (by omega)]

set_option maxRecDepth 100000 in
theorem far_any (va vb : Value) (a b : Int) (w : World) (ha : IsZ w va a) (hb : IsZ w vb b) (hla : (dig 10000 a.natAbs).length ≤ 1000000000) (hlb : (dig 10000 b.natAbs).length ≤ 1000000000) (R : Ending → World → Prop)
    (hR : ∀ w', Below w.heap.size w w' → R (.returned (.int .i64 (cmpN a.natAbs b.natAbs))) w') :
    Calls Tryz.prog 246 #[va, vb] w R := by
  obtain ⟨aa, na, ca, rfl, ena, hsa⟩ := ha.open
  obtain ⟨ab, nb, cb, rfl, enb, hsb⟩ := hb.open
  obtain ⟨xs, hxs⟩ : ∃ xs, xs = dig 10000 a.natAbs := ⟨_, rfl⟩
  obtain ⟨ys, hys⟩ : ∃ ys, ys = dig 10000 b.natAbs := ⟨_, rfl⟩
  have hx : ∀ d ∈ xs, d < 10000 := by rw [hxs]; exact dig_lt (by omega) _
  have hy : ∀ d ∈ ys, d < 10000 := by rw [hys]; exact dig_lt (by omega) _
  have hvx : val 10000 xs = a.natAbs := by rw [hxs]; exact val_dig (by omega) _
  have hvy : val 10000 ys = b.natAbs := by rw [hys]; exact val_dig (by omega) _
  have hlt : na < nb → a.natAbs < b.natAbs := fun h => lt_of_dig_length (B := 10000) (by omega) _ _ (by omega)
  have hgt : nb < na → b.natAbs < a.natAbs := fun h => lt_of_dig_length (B := 10000) (by omega) _ _ (by omega)
  rw [← ena] at hla
  rw [← enb] at hlb
  rw [← hxs] at hsa ena
  rw [← hys] at hsb enb
  have HR := Lib.hid hR
  obtain ⟨nega, hnega⟩ : ∃ x, x = decide (a < 0) := ⟨_, rfl⟩
  obtain ⟨negb, hnegb⟩ : ∃ x, x = decide (b < 0) := ⟨_, rfl⟩
  rw [← hnega, ← hnegb]
  have Ena := Lib.hid ena
  have Enb := Lib.hid enb
  have Hvx := Lib.hid hvx
  have Hvy := Lib.hid hvy
  have Hx := Lib.hid hx
  have Hy := Lib.hid hy
  have hba := Box2.made w (.bool nega) (.slice aa na ca) 67
  have hbel1 : Below w.heap.size w (w.alloc (.cells #[.bool nega, .slice aa na ca] 67)) := (Below.refl _ _).alloc (Nat.le_refl _) _
  have hbb := Box2.made (w.alloc (.cells #[.bool nega, .slice aa na ca] 67)) (.bool negb) (.slice ab nb cb) 67
  have HB := Lib.hid (hbel1.alloc (by simp) (.cells #[.bool negb, .slice ab nb cb] 67))
  have H1 := Lib.hid (hba.alloc (.cells #[.bool negb, .slice ab nb cb] 67))
  have H2 := Lib.hid hbb
  simp only [World.size_alloc] at H2
  clear hR hnega hnegb hxs hys ena enb hvx hvy ha hb hx hy hba hbb hbel1
  by_cases hne : na = nb
  · obtain rfl := hne
    have e0 : ((na : Int) != (na : Int)) = false := by simp
    clear hlt hgt
    go_enter Tryz.func246, Tryz.ntmps246
    go_wp2
    go_loopw [5] (fun i wr => ∃ k : Nat, k ≤ na ∧ i = .int .i64 ((k : Int) - 1) ∧ xs.drop k = ys.drop k ∧ Box2 wr w.heap.size (.bool nega) (.slice aa na ca) 67 ∧ Box2 wr (w.heap.size + 1) (.bool negb) (.slice ab na cb) 67 ∧ Below w.heap.size w wr) (fun i _ => (intOf i + 1).toNat)
    case atStart => exact ⟨na, Nat.le_refl _, rfl, by rw [Ena.out, List.drop_length, ← Ena.out, Enb.out, List.drop_length], H1.out, H2.out, HB.out⟩
    case round =>
      obtain ⟨k, hk, rfl, hdr, hba, hbb, hbel⟩ := hrel
      have Hdr := Lib.hid hdr; clear hdr
      obtain ⟨hA, hB, _, _⟩ := hba.cells
      obtain ⟨hC, hD, _, _⟩ := hbb.cells
      have HBEL := Lib.hid hbel
      by_cases hk0 : k = 0
      · subst hk0
        have hxy : xs = ys := Hdr.out
        have hv : a.natAbs = b.natAbs := by rw [← Hvx.out, ← Hvy.out, hxy]
        rw [hv, cmpN_eq] at HR
        clear hv hxy
        go_wp2
        first | go_ret | skip
        exact HR.out _ HBEL.out
      · obtain ⟨j, rfl⟩ : ∃ j, k = j + 1 := ⟨k - 1, by omega⟩
        obtain ⟨b1, o1, rfl, hb1, hc1⟩ := hsa.at j (by omega)
        obtain ⟨b2, o2, rfl, hb2, hc2⟩ := hsb.at j (by omega)
        rw [← hbel.cell (p := ⟨b1, o1 + j, none⟩) hb1] at hc1
        rw [← hbel.cell (p := ⟨b2, o2 + j, none⟩) hb2] at hc2
        obtain ⟨x, hxe⟩ : ∃ x, x = xs.getD j 0 := ⟨_, rfl⟩
        obtain ⟨y, hye⟩ : ∃ y, y = ys.getD j 0 := ⟨_, rfl⟩
        rw [← hxe] at hc1
        rw [← hye] at hc2
        have hxl : x < 10000 := by rw [hxe]; exact getD_lt (by omega) _ Hx.out _
        have hyl : y < 10000 := by rw [hye]; exact getD_lt (by omega) _ Hy.out _
        have Hxe := Lib.hid hxe
        have Hye := Lib.hid hye
        have hjn : j < na := by omega
        have hji : (0 : Int) ≤ (j : Int) := by omega
        have hji2 : (j : Int) < (na : Int) := by omega
        clear hxe hye hbel
        have es : ((j + 1 : Nat) : Int) - 1 = (j : Int) := by omega
        rw [es]
        clear es
        rcases Nat.lt_trichotomy x y with hxy | hxy | hxy
        · have hcm : a.natAbs < b.natAbs := by
            rw [← Hvx.out, ← Hvy.out]
            exact val_lt_at xs ys Hx.out j (by rw [← Ena.out]; exact hjn) (by rw [← Enb.out]; exact hjn) Hdr.out (by rw [← Hxe.out, ← Hye.out]; exact hxy)
          rw [cmpN_lt hcm] at HR
          clear hcm
          go_wp2
          go_quiet (fail)
          go_wp2
          first | go_ret | skip
          exact HR.out _ (below_draws HBEL.out _)
        · subst hxy
          have hdr2 : xs.drop j = ys.drop j := by
            have l1 : j < xs.length := by rw [← Ena.out]; exact hjn
            have l2 : j < ys.length := by rw [← Enb.out]; exact hjn
            have d1 : xs.drop j = xs[j] :: xs.drop (j + 1) := List.drop_eq_getElem_cons l1
            have d2 : ys.drop j = ys[j] :: ys.drop (j + 1) := List.drop_eq_getElem_cons l2
            rw [d1, d2, Hdr.out, ← getD_eq l1, ← getD_eq l2, ← Hxe.out, ← Hye.out]
          have Hdr2 := Lib.hid hdr2
          clear hdr2
          go_wp2
          go_quiet (fail)
          go_wp2
          go_quiet (fail)
          go_wp2
          go_roundw
          case rel => exact ⟨j, by omega, by go_num, Hdr2.out, (hba.drewN _), (hbb.drewN _), below_draws HBEL.out _⟩
          case measure => simp [intOf]
        · have hcm : b.natAbs < a.natAbs := by
            rw [← Hvx.out, ← Hvy.out]
            exact val_lt_at ys xs Hy.out j (by rw [← Enb.out]; exact hjn) (by rw [← Ena.out]; exact hjn) Hdr.out.symm (by rw [← Hxe.out, ← Hye.out]; exact hxy)
          rw [cmpN_gt hcm] at HR
          clear hcm
          go_wp2
          go_quiet (fail)
          go_wp2
          go_quiet (fail)
          go_wp2
          first | go_ret | skip
          exact HR.out _ (below_draws (below_draws HBEL.out _) _)
  · have e0 : ((na : Int) != (nb : Int)) = true := by simp; omega
    by_cases h : na < nb
    · rw [cmpN_lt (hlt h)] at HR
      clear hlt hgt hsa hsb
      go_enter Tryz.func246, Tryz.ntmps246
      go_wp2
      first | go_ret | skip
      exact HR.out _ HB.out
    · rw [cmpN_gt (hgt (by omega))] at HR
      clear hlt hgt hsa hsb
      go_enter Tryz.func246, Tryz.ntmps246
      go_wp2
      first | go_ret | skip
      exact HR.out _ HB.out
end Go.Proofs.YtdkjcdfkoahfkaaGreatDoor

namespace Go.Proofs.YtdkjcdfkoahfkaaGreatDoor
open Go Go.RowKit

set_option maxRecDepth 100000 in
theorem zneg_any (va : Value) (a : Int) (w : World) (ha : IsZ w va a) (hla : (dig 10000 a.natAbs).length ≤ 1000000000) (R : Ending → World → Prop)
    (hR : ∀ v w', IsZ w' v (-a) → Below w.heap.size w w' → R (.returned v) w') :
    Calls Tryz.prog 153 #[va] w R := by
  have HR := Lib.hid hR; clear hR
  obtain ⟨aa, na, ca, rfl, ena, hsa⟩ := ha.open
  obtain ⟨neg, hneg⟩ : ∃ x, x = decide (a < 0) := ⟨_, rfl⟩
  rw [← hneg]
  have hbox0 := Box2.made (w.alloc (.cells #[.bool neg, .slice aa na ca] 67)) (.bool false) (.slice none 0 0) 67
  simp only [World.size_alloc] at hbox0
  have hb0 : Below w.heap.size w ((w.alloc (.cells #[.bool neg, .slice aa na ca] 67)).alloc (.cells #[.bool false, .slice none 0 0] 67)) := ((Below.refl _ _).alloc (Nat.le_refl _) _).alloc (by simp) _
  have HB0 := Lib.hid hb0
  have Hneg := Lib.hid hneg
  clear ena hneg hb0 ha
  go_enter Tryz.func153, Tryz.ntmps153
  go_wp2_with fail
  refine cut_z (!neg) _ (dig 10000 a.natAbs) _ (hsa.later HB0.out (Nat.le_refl _)) (dig_lt (by omega) _) hla (-a) (by rw [Hneg.out, val_dig (by omega)]; by_cases h : a < 0 <;> simp [h] <;> omega) _ ?_
  intro v' w1 hz hb1
  obtain ⟨ao', n', cap', rfl, hn', hs'⟩ := hz.open
  have hbox1 := hbox0.later hb1 (by simp)
  obtain ⟨hA1, hB1, hA1', hB1'⟩ := hbox1.cells
  have hni := hbox1.noInt rfl rfl
  have hbz : Below w.heap.size w w1 := HB0.out.trans (hb1.mono (by simp; omega))
  have HZ := Lib.hid hbz
  have HS := Lib.hid hs'
  clear hn' hbox0 hsa hbz hs' hz hb1
  dsimp only
  go_wp2
  refine bodyPost_ret_at (by simp [results, Tryz.results153, go_sem, hA1, hB1, hA1', hB1'] <;> rfl) rfl ?_
  exact HR.out _ _ ⟨.slice ao' n' cap', by simp, (HS.out.set hni 0 _).set (hni.set 0 _ rfl) 1 _⟩ ((HZ.out.setCell (by simp <;> omega) _).setCell (by simp <;> omega) _)

/-- what holds at the head of the first loop of the sum -/
def AddInv (w : World) (xs ys : List Nat) (na nb : Nat) (u0 v0 u1 v1 u2 v2 : Value) (d c i : Value) (wr : World) : Prop :=
  ∃ (ds : List Nat) (cy k : Nat), i = .int .i64 k ∧ c = .int .i64 cy ∧ cy ≤ 1 ∧ k ≤ max na nb + 1 ∧ (cy = 1 → k ≤ max na nb) ∧ ds.length = k ∧ (∀ x ∈ ds, x < 10000) ∧
    val 10000 ds + 10000 ^ k * (cy + val 10000 (xs.drop k) + val 10000 (ys.drop k)) = val 10000 xs + val 10000 ys ∧
    Own .i64 2 wr (w.heap.size + 3) d ds ∧ Below w.heap.size w wr ∧
    Box2 wr w.heap.size u0 v0 67 ∧ Box2 wr (w.heap.size + 1) u1 v1 67 ∧ Box2 wr (w.heap.size + 2) u2 v2 67

theorem add_step (B : Nat) (ds xs ys : List Nat) (cy k x y T : Nat) (hl : ds.length = k) (hx : val B (xs.drop k) = x + B * val B (xs.drop (k + 1))) (hy : val B (ys.drop k) = y + B * val B (ys.drop (k + 1)))
    (h : val B ds + B ^ k * (cy + val B (xs.drop k) + val B (ys.drop k)) = T) :
    val B (ds ++ [(cy + x + y) % B]) + B ^ (k + 1) * ((cy + x + y) / B + val B (xs.drop (k + 1)) + val B (ys.drop (k + 1))) = T := by
  rw [val_snoc, hl, ← h, hx, hy, Nat.pow_succ, Nat.mul_assoc, Nat.add_assoc, ← Nat.mul_add]
  congr 2
  have := Nat.div_add_mod (cy + x + y) B
  rw [Nat.mul_add, Nat.mul_add]
  generalize B * val B (xs.drop (k + 1)) = p at *
  generalize B * val B (ys.drop (k + 1)) = q at *
  omega

theorem add_rel (w wr w1 : World) (xs ys ds : List Nat) (na nb cy k x y : Nat) (u0 v0 u1 v1 u2 v2 : Value) (v' : Value) (o : Obj) (zc zk : Int)
    (hcy : cy ≤ 1) (hxl : x < 10000) (hyl : y < 10000) (hk : k ≤ max na nb) (hkk : k < max na nb ∨ (x = 0 ∧ y = 0)) (hdl : ds.length = k) (hd : ∀ x ∈ ds, x < 10000)
    (hdx : val 10000 (xs.drop k) = x + 10000 * val 10000 (xs.drop (k + 1))) (hdy : val 10000 (ys.drop k) = y + 10000 * val 10000 (ys.drop (k + 1)))
    (hval : val 10000 ds + 10000 ^ k * (cy + val 10000 (xs.drop k) + val 10000 (ys.drop k)) = val 10000 xs + val 10000 ys)
    (hzc : zc = (((cy + x + y) / 10000 : Nat) : Int)) (hzk : zk = ((k + 1 : Nat) : Int))
    (hown : Own .i64 2 w1 (w.heap.size + 3) v' (ds ++ [(cy + x + y) % 10000])) (hb : Below (w.heap.size + 3) (wr.alloc o) w1) (hbel : Below w.heap.size w wr)
    (h0 : Box2 wr w.heap.size u0 v0 67) (h1 : Box2 wr (w.heap.size + 1) u1 v1 67) (h2 : Box2 wr (w.heap.size + 2) u2 v2 67) :
    AddInv w xs ys na nb u0 v0 u1 v1 u2 v2 v' (.int .i64 zc) (.int .i64 zk) w1 := by
  subst hzc hzk
  refine ⟨_, (cy + x + y) / 10000, k + 1, rfl, rfl, by omega, by omega, fun h => by omega, by simp [hdl], ?_, add_step 10000 ds xs ys cy k x y _ hdl hdx hdy hval, hown, (hbel.alloc hbel.size o).trans (hb.mono (by omega)), (h0.alloc o).later hb (by omega), (h1.alloc o).later hb (by omega), (h2.alloc o).later hb (by omega)⟩
  intro z hz
  rcases List.mem_append.1 hz with hz | hz
  · exact hd z hz
  · simp at hz; omega

set_option maxRecDepth 100000 in
set_option maxHeartbeats 2000000 in
theorem zadd_same (va vb : Value) (a b : Int) (w : World) (ha : IsZ w va a) (hb : IsZ w vb b) (hla : (dig 10000 a.natAbs).length ≤ 10000000) (hlb : (dig 10000 b.natAbs).length ≤ 10000000) (hsame : decide (a < 0) = decide (b < 0)) (R : Ending → World → Prop)
    (hR : ∀ v w', IsZ w' v (a + b) → Below w.heap.size w w' → R (.returned v) w') :
    Calls Tryz.prog 236 #[va, vb] w R := by
  have HR := Lib.hid hR; clear hR
  obtain ⟨aa, na, ca, rfl, ena, hsa⟩ := ha.open
  obtain ⟨ab, nb, cb, rfl, enb, hsb⟩ := hb.open
  obtain ⟨xs, hxs⟩ : ∃ xs, xs = dig 10000 a.natAbs := ⟨_, rfl⟩
  obtain ⟨ys, hys⟩ : ∃ ys, ys = dig 10000 b.natAbs := ⟨_, rfl⟩
  have hx : ∀ d ∈ xs, d < 10000 := by rw [hxs]; exact dig_lt (by omega) _
  have hy : ∀ d ∈ ys, d < 10000 := by rw [hys]; exact dig_lt (by omega) _
  have hvx : val 10000 xs = a.natAbs := by rw [hxs]; exact val_dig (by omega) _
  have hvy : val 10000 ys = b.natAbs := by rw [hys]; exact val_dig (by omega) _
  rw [← ena] at hla
  rw [← enb] at hlb
  rw [← hxs] at hsa ena
  rw [← hys] at hsb enb
  rw [← hsame]
  obtain ⟨neg, hneg⟩ : ∃ x, x = decide (a < 0) := ⟨_, rfl⟩
  have hz : a + b = if neg = true then -((a.natAbs + b.natAbs : Nat) : Int) else ((a.natAbs + b.natAbs : Nat) : Int) := by
    by_cases h : a < 0
    · have h2 : b < 0 := by simpa [h] using hsame
      rw [hneg]; simp [h]; omega
    · have h2 : ¬ b < 0 := by simpa [h] using hsame
      rw [hneg]; simp [h]; omega
  rw [← hneg]
  have Ena := Lib.hid ena
  have Enb := Lib.hid enb
  have Hvx := Lib.hid hvx
  have Hvy := Lib.hid hvy
  have Hx := Lib.hid hx
  have Hy := Lib.hid hy
  have Hz := Lib.hid hz
  clear hsame hneg hxs hys ena enb hvx hvy ha hb hx hy hz
  go_enter Tryz.func236, Tryz.ntmps236
  go_wp2
  go_loopw [5, 6, 7] (fun d c i wr => AddInv w xs ys na nb (.bool neg) (.slice aa na ca) (.bool neg) (.slice ab nb cb) (.bool false) (.slice none 0 0) d c i wr) (fun _ _ i _ => max na nb + 2 - (intOf i).toNat)
  case atStart =>
    have hB0 := (((Box2.made w (.bool neg) (.slice aa na ca) 67).alloc (.cells #[.bool neg, .slice ab nb cb] 67)).alloc (.cells #[.bool false, .slice none 0 0] 67)).alloc (.cells #[] 2)
    have hB1 := ((Box2.made (w.alloc (.cells #[.bool neg, .slice aa na ca] 67)) (.bool neg) (.slice ab nb cb) 67).alloc (.cells #[.bool false, .slice none 0 0] 67)).alloc (.cells #[] 2)
    have hB2 := (Box2.made ((w.alloc (.cells #[.bool neg, .slice aa na ca] 67)).alloc (.cells #[.bool neg, .slice ab nb cb] 67)) (.bool false) (.slice none 0 0) 67).alloc (.cells #[] 2)
    have hOw := Own.lit .i64 2 (((w.alloc (.cells #[.bool neg, .slice aa na ca] 67)).alloc (.cells #[.bool neg, .slice ab nb cb] 67)).alloc (.cells #[.bool false, .slice none 0 0] 67)) (w.heap.size + 3) (by simp)
    simp only [World.size_alloc] at hB0 hB1 hB2 hOw
    exact ⟨[], 0, 0, rfl, rfl, by omega, by omega, by omega, rfl, by simp, by simp [val], hOw, ((((Below.refl _ _).alloc (Nat.le_refl _) _).alloc (by simp) _).alloc (by simp; omega) _).alloc (by simp; omega) _, hB0, hB1, hB2⟩
  case round =>
    obtain ⟨ds, cy, k, rfl, rfl, hcy, hk, hkc, hdl, hd, hval, hown, hbel, hb0, hb1, hb2⟩ := hrel
    have hsz := hbel.size
    have hlt2 := lt_of_block hb2
    obtain ⟨hA0, hA1, _, _⟩ := hb0.cells
    obtain ⟨hB0, hB1, _, _⟩ := hb1.cells
    have Hval := Lib.hid hval
    have Hd := Lib.hid hd
    have Hdl := Lib.hid hdl
    have HBEL := Lib.hid hbel
    have hkb : k ≤ 20000000 := by omega
    have hdlb : ds.length ≤ 20000000 := by omega
    clear hval hd hdl
    by_cases hka : k < na
    · obtain ⟨p1, o1, rfl, hp1, hc1⟩ := hsa.at k hka
      rw [← hbel.cell (p := ⟨p1, o1 + k, none⟩) hp1] at hc1
      obtain ⟨x, hxe⟩ : ∃ x, x = xs.getD k 0 := ⟨_, rfl⟩
      rw [← hxe] at hc1
      have hxl : x < 10000 := by rw [hxe]; exact getD_lt (by omega) _ Hx.out _
      have hdx : val 10000 (xs.drop k) = x + 10000 * val 10000 (xs.drop (k + 1)) := by rw [hxe]; exact val_drop _ _ _ (by rw [← Ena.out]; exact hka)
      have Hdx := Lib.hid hdx
      clear hxe hdx
      by_cases hkb2 : k < nb
      · obtain ⟨p2, o2, rfl, hp2, hc2⟩ := hsb.at k hkb2
        rw [← hbel.cell (p := ⟨p2, o2 + k, none⟩) hp2] at hc2
        obtain ⟨y, hye⟩ : ∃ y, y = ys.getD k 0 := ⟨_, rfl⟩
        rw [← hye] at hc2
        have hyl : y < 10000 := by rw [hye]; exact getD_lt (by omega) _ Hy.out _
        have hdy : val 10000 (ys.drop k) = y + 10000 * val 10000 (ys.drop (k + 1)) := by rw [hye]; exact val_drop _ _ _ (by rw [← Enb.out]; exact hkb2)
        have Hdy := Lib.hid hdy
        clear hye hdy hbel
        go_wp2_with (at_builtin; go_must (refine wpList_pushz rfl (.tmp 60) (.tmp 63) 65 rfl 2 .i64 8 Tryz.underlying65 info_i64 (by omega) (w.heap.size + 3) _ ds ((cy + x + y) % 10000) ((↑cy + ↑x + ↑y) % 10000) (by omega) rfl (hown.alloc _) wr.heap.size rfl (World.cell?_alloc_at _ _ _ _ rfl) (by omega) (by simp; omega) ?_))
        intro v' w1 hown1 hbw
        have HR1 := Lib.hid (add_rel w wr w1 xs ys ds na nb cy k x y _ _ _ _ _ _ v' _ ((↑cy + ↑x + ↑y) / 10000) (↑k + 1) hcy hxl hyl (by omega) (.inl (by omega)) Hdl.out Hd.out Hdx.out Hdy.out Hval.out (by omega) (by omega) hown1 hbw HBEL.out hb0 hb1 hb2)
        clear hown hown1 hbw hb0 hb1 hb2
        go_wp2
        go_roundw
        case rel => exact HR1.out
        case measure => simp [intOf]; omega
      · have Hdy := Lib.hid (show val 10000 (ys.drop k) = 0 + 10000 * val 10000 (ys.drop (k + 1)) by rw [val_drop_all _ _ _ (by rw [← Enb.out]; omega), val_drop_all _ _ _ (by rw [← Enb.out]; omega)])
        clear hbel
        go_wp2_with (at_builtin; go_must (refine wpList_pushz rfl (.tmp 60) (.tmp 63) 65 rfl 2 .i64 8 Tryz.underlying65 info_i64 (by omega) (w.heap.size + 3) _ ds ((cy + x + 0) % 10000) ((↑cy + ↑x) % 10000) (by omega) rfl (hown.alloc _) wr.heap.size rfl (World.cell?_alloc_at _ _ _ _ rfl) (by omega) (by simp; omega) ?_))
        intro v' w1 hown1 hbw
        have HR1 := Lib.hid (add_rel w wr w1 xs ys ds na nb cy k x 0 _ _ _ _ _ _ v' _ ((↑cy + ↑x) / 10000) (↑k + 1) hcy hxl (by omega) (by omega) (.inl (by omega)) Hdl.out Hd.out Hdx.out Hdy.out Hval.out (by omega) (by omega) hown1 hbw HBEL.out hb0 hb1 hb2)
        clear hown hown1 hbw hb0 hb1 hb2
        go_wp2
        go_roundw
        case rel => exact HR1.out
        case measure => simp [intOf]; omega
    · have Hdx := Lib.hid (show val 10000 (xs.drop k) = 0 + 10000 * val 10000 (xs.drop (k + 1)) by rw [val_drop_all _ _ _ (by rw [← Ena.out]; omega), val_drop_all _ _ _ (by rw [← Ena.out]; omega)])
      by_cases hkb2 : k < nb
      · obtain ⟨p2, o2, rfl, hp2, hc2⟩ := hsb.at k hkb2
        rw [← hbel.cell (p := ⟨p2, o2 + k, none⟩) hp2] at hc2
        obtain ⟨y, hye⟩ : ∃ y, y = ys.getD k 0 := ⟨_, rfl⟩
        rw [← hye] at hc2
        have hyl : y < 10000 := by rw [hye]; exact getD_lt (by omega) _ Hy.out _
        have hdy : val 10000 (ys.drop k) = y + 10000 * val 10000 (ys.drop (k + 1)) := by rw [hye]; exact val_drop _ _ _ (by rw [← Enb.out]; exact hkb2)
        have Hdy := Lib.hid hdy
        clear hye hdy hbel
        go_wp2_with (at_builtin; go_must (refine wpList_pushz rfl (.tmp 60) (.tmp 63) 65 rfl 2 .i64 8 Tryz.underlying65 info_i64 (by omega) (w.heap.size + 3) _ ds ((cy + 0 + y) % 10000) ((↑cy + ↑y) % 10000) (by omega) rfl (hown.alloc _) wr.heap.size rfl (World.cell?_alloc_at _ _ _ _ rfl) (by omega) (by simp; omega) ?_))
        intro v' w1 hown1 hbw
        have HR1 := Lib.hid (add_rel w wr w1 xs ys ds na nb cy k 0 y _ _ _ _ _ _ v' _ ((↑cy + ↑y) / 10000) (↑k + 1) hcy (by omega) hyl (by omega) (.inl (by omega)) Hdl.out Hd.out Hdx.out Hdy.out Hval.out (by omega) (by omega) hown1 hbw HBEL.out hb0 hb1 hb2)
        clear hown hown1 hbw hb0 hb1 hb2
        go_wp2
        go_roundw
        case rel => exact HR1.out
        case measure => simp [intOf]; omega
      · have Hdy := Lib.hid (show val 10000 (ys.drop k) = 0 + 10000 * val 10000 (ys.drop (k + 1)) by rw [val_drop_all _ _ _ (by rw [← Enb.out]; omega), val_drop_all _ _ _ (by rw [← Enb.out]; omega)])
        clear hbel
        by_cases hc1 : cy = 1
        · subst hc1
          have hkm := hkc rfl
          go_wp2_with (at_builtin; go_must (refine wpList_pushz rfl (.tmp 60) (.tmp 63) 65 rfl 2 .i64 8 Tryz.underlying65 info_i64 (by omega) (w.heap.size + 3) _ ds ((1 + 0 + 0) % 10000) (1) (by omega) rfl (hown.alloc _) wr.heap.size rfl (World.cell?_alloc_at _ _ _ _ rfl) (by omega) (by simp; omega) ?_))
          intro v' w1 hown1 hbw
          have HR1 := Lib.hid (add_rel w wr w1 xs ys ds na nb 1 k 0 0 _ _ _ _ _ _ v' _ (0) (↑k + 1) hcy (by omega) (by omega) (by omega) (.inr ⟨rfl, rfl⟩) Hdl.out Hd.out Hdx.out Hdy.out Hval.out (by omega) (by omega) hown1 hbw HBEL.out hb0 hb1 hb2)
          clear hown hown1 hbw hb0 hb1 hb2
          go_wp2
          go_roundw
          case rel => exact HR1.out
          case measure => simp [intOf]; omega
        · obtain rfl : cy = 0 := by omega
          have hval2 : val 10000 ds = a.natAbs + b.natAbs := by
            have := Hval.out
            rw [val_drop_all _ _ _ (by rw [← Ena.out]; omega), val_drop_all _ _ _ (by rw [← Enb.out]; omega), Hvx.out, Hvy.out] at this
            simpa using this
          have Hv2 := Lib.hid hval2
          clear hval2
          go_wp2_with fail
          refine cut_z neg _ ds _ hown.sl Hd.out (by omega) (a + b) (by rw [Hv2.out]; exact Hz.out) _ ?_
          intro v' w1 hz hbw
          obtain ⟨ao', n', cap', rfl, hn', hs'⟩ := hz.open
          have hbox1 := hb2.later hbw (by omega)
          obtain ⟨hA2, hB2, hA2', hB2'⟩ := hbox1.cells
          have hni := hbox1.noInt rfl rfl
          have HZ := Lib.hid (HBEL.out.trans (hbw.mono hsz))
          have HS := Lib.hid hs'
          clear hn' hb0 hb1 hb2 hbox1 hs' hz hbw hown hA0 hA1 hB0 hB1
          dsimp only
          go_wp2
          refine bodyPost_ret_at (by simp [results, Tryz.results236, go_sem, hA2, hB2, hA2', hB2'] <;> rfl) rfl ?_
          exact HR.out _ _ ⟨.slice ao' n' cap', by simp, (HS.out.set hni 0 _).set (hni.set 0 _ rfl) 1 _⟩ ((HZ.out.setCell (by simp <;> omega) _).setCell (by simp <;> omega) _)
end Go.Proofs.YtdkjcdfkoahfkaaGreatDoor

namespace Go.Proofs.YtdkjcdfkoahfkaaGreatDoor
open Go Go.RowKit

/-- what holds at the head of the second loop of the sum -/
def SubInv (w : World) (xs ys : List Nat) (na : Nat) (u0 v0 u1 v1 u2 v2 : Value) (d c i : Value) (wr : World) : Prop :=
  ∃ (ds : List Nat) (cy k : Nat), i = .int .i64 k ∧ c = .int .i64 cy ∧ cy ≤ 1 ∧ k ≤ na ∧ ds.length = k ∧ (∀ x ∈ ds, x < 10000) ∧
    val 10000 ds + 10000 ^ k * val 10000 (xs.drop k) + val 10000 ys = val 10000 xs + 10000 ^ k * (cy + val 10000 (ys.drop k)) ∧
    Own .i64 2 wr (w.heap.size + 3) d ds ∧ Below w.heap.size w wr ∧
    Box2 wr w.heap.size u0 v0 67 ∧ Box2 wr (w.heap.size + 1) u1 v1 67 ∧ Box2 wr (w.heap.size + 2) u2 v2 67

theorem sub_step (B : Nat) (ds xs ys : List Nat) (cy k x y z cy2 S T : Nat) (hl : ds.length = k) (hx : val B (xs.drop k) = x + B * val B (xs.drop (k + 1))) (hy : val B (ys.drop k) = y + B * val B (ys.drop (k + 1)))
    (hz : z + cy + y = x + B * cy2) (h : val B ds + B ^ k * val B (xs.drop k) + S = T + B ^ k * (cy + val B (ys.drop k))) :
    val B (ds ++ [z]) + B ^ (k + 1) * val B (xs.drop (k + 1)) + S = T + B ^ (k + 1) * (cy2 + val B (ys.drop (k + 1))) := by
  rw [hx, hy] at h
  rw [val_snoc, hl, Nat.pow_succ, Nat.mul_assoc, Nat.mul_assoc]
  have h1 : B ^ k * (z + cy + y) = B ^ k * (x + B * cy2) := by rw [hz]
  simp only [Nat.mul_add] at h h1 ⊢
  generalize B ^ k * (B * val B (xs.drop (k + 1))) = p at *
  generalize B ^ k * (B * val B (ys.drop (k + 1))) = q at *
  generalize B ^ k * (B * cy2) = r at *
  omega

theorem sub_rel (w wr w1 : World) (xs ys ds : List Nat) (na cy k x y z cy2 : Nat) (u0 v0 u1 v1 u2 v2 v' : Value) (o : Obj) (zc zk : Int)
    (hcy : cy2 ≤ 1) (hzl : z < 10000) (hk : k < na) (hdl : ds.length = k) (hd : ∀ x ∈ ds, x < 10000)
    (hdx : val 10000 (xs.drop k) = x + 10000 * val 10000 (xs.drop (k + 1))) (hdy : val 10000 (ys.drop k) = y + 10000 * val 10000 (ys.drop (k + 1)))
    (hz : z + cy + y = x + 10000 * cy2)
    (hval : val 10000 ds + 10000 ^ k * val 10000 (xs.drop k) + val 10000 ys = val 10000 xs + 10000 ^ k * (cy + val 10000 (ys.drop k)))
    (hzc : zc = (cy2 : Int)) (hzk : zk = ((k + 1 : Nat) : Int))
    (hown : Own .i64 2 w1 (w.heap.size + 3) v' (ds ++ [z])) (hb : Below (w.heap.size + 3) (wr.alloc o) w1) (hbel : Below w.heap.size w wr)
    (h0 : Box2 wr w.heap.size u0 v0 67) (h1 : Box2 wr (w.heap.size + 1) u1 v1 67) (h2 : Box2 wr (w.heap.size + 2) u2 v2 67) :
    SubInv w xs ys na u0 v0 u1 v1 u2 v2 v' (.int .i64 zc) (.int .i64 zk) w1 := by
  subst hzc hzk
  refine ⟨_, cy2, k + 1, rfl, rfl, hcy, by omega, by simp [hdl], ?_, sub_step 10000 ds xs ys cy k x y z cy2 _ _ hdl hdx hdy hz hval, hown, (hbel.alloc hbel.size o).trans (hb.mono (by omega)), (h0.alloc o).later hb (by omega), (h1.alloc o).later hb (by omega), (h2.alloc o).later hb (by omega)⟩
  intro q hq
  rcases List.mem_append.1 hq with hq | hq
  · exact hd q hq
  · simp at hq; omega

theorem sub_end (A Y D P cy : Nat) (h : D + Y = A + P * cy) (hD : D < P) (hle : Y ≤ A) (hcy : cy ≤ 1) : D = A - Y := by
  by_cases h1 : cy = 1
  · subst h1; omega
  · obtain rfl : cy = 0 := by omega
    omega

set_option maxRecDepth 100000 in
set_option maxHeartbeats 2000000 in
theorem zadd_diff (va vb : Value) (a b : Int) (w : World) (ha : IsZ w va a) (hb : IsZ w vb b) (hla : (dig 10000 a.natAbs).length ≤ 10000000) (hlb : (dig 10000 b.natAbs).length ≤ 10000000) (hdiff : decide (a < 0) ≠ decide (b < 0)) (hle : b.natAbs ≤ a.natAbs) (R : Ending → World → Prop)
    (hR : ∀ v w', IsZ w' v (a + b) → Below w.heap.size w w' → R (.returned v) w') :
    Calls Tryz.prog 236 #[va, vb] w R := by
  have HR := Lib.hid hR; clear hR
  have HA := Lib.hid ha
  have HB := Lib.hid hb
  obtain ⟨aa, na, ca, rfl, ena, hsa⟩ := ha.open
  obtain ⟨ab, nb, cb, rfl, enb, hsb⟩ := hb.open
  have hnn : nb ≤ na := by
    rcases Nat.lt_or_ge na nb with h | h
    · have := lt_of_dig_length (B := 10000) (by omega) a.natAbs b.natAbs (by omega); omega
    · exact h
  obtain ⟨xs, hxs⟩ : ∃ xs, xs = dig 10000 a.natAbs := ⟨_, rfl⟩
  obtain ⟨ys, hys⟩ : ∃ ys, ys = dig 10000 b.natAbs := ⟨_, rfl⟩
  have hx : ∀ d ∈ xs, d < 10000 := by rw [hxs]; exact dig_lt (by omega) _
  have hy : ∀ d ∈ ys, d < 10000 := by rw [hys]; exact dig_lt (by omega) _
  have hvx : val 10000 xs = a.natAbs := by rw [hxs]; exact val_dig (by omega) _
  have hvy : val 10000 ys = b.natAbs := by rw [hys]; exact val_dig (by omega) _
  have hla9 := Lib.hid (Nat.le_trans hla (by omega : 10000000 ≤ 1000000000))
  have hlb9 := Lib.hid (Nat.le_trans hlb (by omega : 10000000 ≤ 1000000000))
  rw [← ena] at hla
  rw [← enb] at hlb
  rw [← hxs] at hsa ena
  rw [← hys] at hsb enb
  obtain ⟨nega, hnega⟩ : ∃ x, x = decide (a < 0) := ⟨_, rfl⟩
  obtain ⟨negb, hnegb⟩ : ∃ x, x = decide (b < 0) := ⟨_, rfl⟩
  have hz : a + b = if nega = true then -((a.natAbs - b.natAbs : Nat) : Int) else ((a.natAbs - b.natAbs : Nat) : Int) := by
    by_cases h : a < 0
    · have h2 : ¬ b < 0 := by intro h2; exact hdiff (by simp [h, h2])
      rw [hnega]; simp [h]; omega
    · have h2 : b < 0 := by rcases Int.lt_or_le b 0 with h2 | h2
                            · exact h2
                            · exact absurd (by simp [h]; omega) hdiff
      rw [hnega]; simp [h]; omega
  have hcmp : ¬ (cmpN a.natAbs b.natAbs < 0) := by unfold cmpN; rw [if_neg (by omega)]; split <;> omega
  rw [← hnega] at HA hdiff ⊢
  rw [← hnegb] at HB hdiff ⊢
  have hne : (nega == negb) = false := by cases nega <;> cases negb <;> simp_all
  obtain ⟨cm, hcm⟩ : ∃ cm, cm = cmpN a.natAbs b.natAbs := ⟨_, rfl⟩
  rw [← hcm] at hcmp
  have Hcm := Lib.hid hcm
  have Ena := Lib.hid ena
  have Enb := Lib.hid enb
  have Hvx := Lib.hid hvx
  have Hvy := Lib.hid hvy
  have Hx := Lib.hid hx
  have Hy := Lib.hid hy
  have Hz := Lib.hid hz
  have Hle := Lib.hid hle
  have B0 := ((Box2.made w (.bool nega) (.slice aa na ca) 67).alloc (.cells #[.bool negb, .slice ab nb cb] 67)).alloc (.cells #[.bool false, .slice none 0 0] 67)
  have B1 := (Box2.made (w.alloc (.cells #[.bool nega, .slice aa na ca] 67)) (.bool negb) (.slice ab nb cb) 67).alloc (.cells #[.bool false, .slice none 0 0] 67)
  have B2 := Box2.made ((w.alloc (.cells #[.bool nega, .slice aa na ca] 67)).alloc (.cells #[.bool negb, .slice ab nb cb] 67)) (.bool false) (.slice none 0 0) 67
  simp only [World.size_alloc] at B0 B1 B2
  have HEXT := Lib.hid ((((Below.refl w.heap.size w).alloc (Nat.le_refl _) (.cells #[.bool nega, .slice aa na ca] 67)).alloc (by simp) (.cells #[.bool negb, .slice ab nb cb] 67)).alloc (by simp; omega) (.cells #[.bool false, .slice none 0 0] 67))
  clear hdiff hnega hnegb hxs hys ena enb hvx hvy ha hb hx hy hz hle hcm
  go_enter Tryz.func236, Tryz.ntmps236
  go_wp2_with fail
  refine far_any _ _ a b _ (HA.out.later HEXT.out (Nat.le_refl _)) (HB.out.later HEXT.out (Nat.le_refl _)) hla9.out hlb9.out _ ?_
  intro w0 hbw0
  have b0 := B0.later hbw0 (by simp <;> omega)
  have b1 := B1.later hbw0 (by simp <;> omega)
  have b2 := B2.later hbw0 (by simp <;> omega)
  have hbel0 : Below w.heap.size w w0 := HEXT.out.trans (hbw0.mono (by simp; omega))
  rw [← Hcm.out]
  obtain ⟨hA0, hA1, _, _⟩ := b0.cells
  obtain ⟨hB0, hB1, _, _⟩ := b1.cells
  have hlt0 := lt_of_block b2
  clear B0 B1 B2 hbw0
  dsimp only
  go_wp2
  go_loopw [8, 9, 10] (fun d c i wr => SubInv w xs ys na (.bool nega) (.slice aa na ca) (.bool negb) (.slice ab nb cb) (.bool false) (.slice none 0 0) d c i wr) (fun _ _ i _ => na - (intOf i).toNat)
  case atStart =>
    exact ⟨[], 0, 0, rfl, rfl, by omega, by omega, rfl, by simp, by simp [val], Own.lit .i64 2 w0 (w.heap.size + 3) (by omega), hbel0.alloc hbel0.size _, b0.alloc _, b1.alloc _, b2.alloc _⟩
  case round =>
    clear hA0 hA1 hB0 hB1
    obtain ⟨ds, cy, k, rfl, rfl, hcy, hk, hdl, hd, hval, hown, hbel, hb0, hb1, hb2⟩ := hrel
    have hsz := hbel.size
    have hlt2 := lt_of_block hb2
    obtain ⟨hA0, hA1, _, _⟩ := hb0.cells
    obtain ⟨hB0, hB1, _, _⟩ := hb1.cells
    have Hval := Lib.hid hval
    have Hd := Lib.hid hd
    have Hdl := Lib.hid hdl
    have HBEL := Lib.hid hbel
    have hdlb : ds.length ≤ 20000000 := by omega
    clear hval hd hdl b0 b1 b2 hbel0 hlt0
    by_cases hka : k < na
    · obtain ⟨p1, o1, rfl, hp1, hc1⟩ := hsa.at k hka
      rw [← hbel.cell (p := ⟨p1, o1 + k, none⟩) hp1] at hc1
      obtain ⟨x, hxe⟩ : ∃ x, x = xs.getD k 0 := ⟨_, rfl⟩
      rw [← hxe] at hc1
      have hxl : x < 10000 := by rw [hxe]; exact getD_lt (by omega) _ Hx.out _
      have hdx : val 10000 (xs.drop k) = x + 10000 * val 10000 (xs.drop (k + 1)) := by rw [hxe]; exact val_drop _ _ _ (by rw [← Ena.out]; exact hka)
      have Hdx := Lib.hid hdx
      clear hxe hdx
      by_cases hkb2 : k < nb
      · obtain ⟨p2, o2, rfl, hp2, hc2⟩ := hsb.at k hkb2
        rw [← hbel.cell (p := ⟨p2, o2 + k, none⟩) hp2] at hc2
        obtain ⟨y, hye⟩ : ∃ y, y = ys.getD k 0 := ⟨_, rfl⟩
        rw [← hye] at hc2
        have hyl : y < 10000 := by rw [hye]; exact getD_lt (by omega) _ Hy.out _
        have hdy : val 10000 (ys.drop k) = y + 10000 * val 10000 (ys.drop (k + 1)) := by rw [hye]; exact val_drop _ _ _ (by rw [← Enb.out]; exact hkb2)
        have Hdy := Lib.hid hdy
        clear hye hdy hbel
        by_cases hneg : x < cy + y
        · have hneg2 : (x : Int) - (cy : Int) - (y : Int) < 0 := by omega
          go_wp2_with (at_builtin; go_must (refine wpList_pushz rfl (.tmp 109) (.tmp 111) 65 rfl 2 .i64 8 Tryz.underlying65 info_i64 (by omega) (w.heap.size + 3) _ ds (x + 10000 - cy - y) (↑x - ↑cy - ↑y + 10000) (by omega) rfl (hown.alloc _) wr.heap.size rfl (World.cell?_alloc_at _ _ _ _ rfl) (by omega) (by simp; omega) ?_))
          intro v' w1 hown1 hbw
          have HR1 := Lib.hid (sub_rel w wr w1 xs ys ds na cy k x y (x + 10000 - cy - y) 1 _ _ _ _ _ _ v' _ 1 (↑k + 1) (by omega) (by omega) hka Hdl.out Hd.out Hdx.out Hdy.out (by omega) Hval.out (by omega) (by omega) hown1 hbw HBEL.out hb0 hb1 hb2)
          clear hown hown1 hbw hb0 hb1 hb2
          go_wp2
          go_roundw
          case rel => exact HR1.out
          case measure => simp [intOf]; omega
        · have hneg2 : ¬ (x : Int) - (cy : Int) - (y : Int) < 0 := by omega
          go_wp2_with (at_builtin; go_must (refine wpList_pushz rfl (.tmp 109) (.tmp 111) 65 rfl 2 .i64 8 Tryz.underlying65 info_i64 (by omega) (w.heap.size + 3) _ ds (x - cy - y) (↑x - ↑cy - ↑y) (by omega) rfl (hown.alloc _) wr.heap.size rfl (World.cell?_alloc_at _ _ _ _ rfl) (by omega) (by simp; omega) ?_))
          intro v' w1 hown1 hbw
          have HR1 := Lib.hid (sub_rel w wr w1 xs ys ds na cy k x y (x - cy - y) 0 _ _ _ _ _ _ v' _ 0 (↑k + 1) (by omega) (by omega) hka Hdl.out Hd.out Hdx.out Hdy.out (by omega) Hval.out (by omega) (by omega) hown1 hbw HBEL.out hb0 hb1 hb2)
          clear hown hown1 hbw hb0 hb1 hb2
          go_wp2
          go_roundw
          case rel => exact HR1.out
          case measure => simp [intOf]; omega
      · have Hdy := Lib.hid (show val 10000 (ys.drop k) = 0 + 10000 * val 10000 (ys.drop (k + 1)) by rw [val_drop_all _ _ _ (by rw [← Enb.out]; omega), val_drop_all _ _ _ (by rw [← Enb.out]; omega)])
        clear hbel
        by_cases hneg : x < cy
        · have hneg2 : (x : Int) - (cy : Int) < 0 := by omega
          go_wp2_with (at_builtin; go_must (refine wpList_pushz rfl (.tmp 109) (.tmp 111) 65 rfl 2 .i64 8 Tryz.underlying65 info_i64 (by omega) (w.heap.size + 3) _ ds (x + 10000 - cy) (↑x - ↑cy + 10000) (by omega) rfl (hown.alloc _) wr.heap.size rfl (World.cell?_alloc_at _ _ _ _ rfl) (by omega) (by simp; omega) ?_))
          intro v' w1 hown1 hbw
          have HR1 := Lib.hid (sub_rel w wr w1 xs ys ds na cy k x 0 (x + 10000 - cy) 1 _ _ _ _ _ _ v' _ 1 (↑k + 1) (by omega) (by omega) hka Hdl.out Hd.out Hdx.out Hdy.out (by omega) Hval.out (by omega) (by omega) hown1 hbw HBEL.out hb0 hb1 hb2)
          clear hown hown1 hbw hb0 hb1 hb2
          go_wp2
          go_roundw
          case rel => exact HR1.out
          case measure => simp [intOf]; omega
        · have hneg2 : ¬ (x : Int) - (cy : Int) < 0 := by omega
          go_wp2_with (at_builtin; go_must (refine wpList_pushz rfl (.tmp 109) (.tmp 111) 65 rfl 2 .i64 8 Tryz.underlying65 info_i64 (by omega) (w.heap.size + 3) _ ds (x - cy) (↑x - ↑cy) (by omega) rfl (hown.alloc _) wr.heap.size rfl (World.cell?_alloc_at _ _ _ _ rfl) (by omega) (by simp; omega) ?_))
          intro v' w1 hown1 hbw
          have HR1 := Lib.hid (sub_rel w wr w1 xs ys ds na cy k x 0 (x - cy) 0 _ _ _ _ _ _ v' _ 0 (↑k + 1) (by omega) (by omega) hka Hdl.out Hd.out Hdx.out Hdy.out (by omega) Hval.out (by omega) (by omega) hown1 hbw HBEL.out hb0 hb1 hb2)
          clear hown hown1 hbw hb0 hb1 hb2
          go_wp2
          go_roundw
          case rel => exact HR1.out
          case measure => simp [intOf]; omega
    · obtain rfl : k = na := by omega
      have hval2 : val 10000 ds = a.natAbs - b.natAbs := by
        have h := Hval.out
        rw [val_drop_all _ xs _ (by rw [← Ena.out]; omega), val_drop_all _ ys _ (by rw [← Enb.out]; omega), Hvx.out, Hvy.out, Nat.mul_zero, Nat.add_zero, Nat.add_zero] at h
        have h2 := val_lt ds Hd.out
        rw [Hdl.out] at h2
        exact sub_end _ _ _ _ _ h h2 Hle.out hcy
      have Hv2 := Lib.hid hval2
      clear hval2 hbel
      go_wp2_with fail
      refine cut_z nega _ ds _ hown.sl Hd.out (by omega) (a + b) (by rw [Hv2.out]; exact Hz.out) _ ?_
      intro v' w1 hz hbw
      obtain ⟨ao', n', cap', rfl, hn', hs'⟩ := hz.open
      have hbox1 := hb2.later hbw (by omega)
      obtain ⟨hA2, hB2, hA2', hB2'⟩ := hbox1.cells
      have hni := hbox1.noInt rfl rfl
      have HZ := Lib.hid (HBEL.out.trans (hbw.mono hsz))
      have HS := Lib.hid hs'
      clear hn' hb0 hb1 hb2 hbox1 hs' hz hbw hown hA0 hA1 hB0 hB1
      dsimp only
      go_wp2
      refine bodyPost_ret_at (by simp [results, Tryz.results236, go_sem, hA2, hB2, hA2', hB2'] <;> rfl) rfl ?_
      exact HR.out _ _ ⟨.slice ao' n' cap', by simp, (HS.out.set hni 0 _).set (hni.set 0 _ rfl) 1 _⟩ ((HZ.out.setCell (by simp <;> omega) _).setCell (by simp <;> omega) _)

set_option maxRecDepth 100000 in
set_option maxHeartbeats 1000000 in
/-- the sum of two integers of any size -/
theorem zadd_any (va vb : Value) (a b : Int) (w : World) (ha : IsZ w va a) (hb : IsZ w vb b) (hla : (dig 10000 a.natAbs).length ≤ 10000000) (hlb : (dig 10000 b.natAbs).length ≤ 10000000) (R : Ending → World → Prop)
    (hR : ∀ v w', IsZ w' v (a + b) → Below w.heap.size w w' → R (.returned v) w') :
    Calls Tryz.prog 236 #[va, vb] w R := by
  by_cases hsame : decide (a < 0) = decide (b < 0)
  · exact zadd_same va vb a b w ha hb hla hlb hsame R hR
  · by_cases hle : b.natAbs ≤ a.natAbs
    · exact zadd_diff va vb a b w ha hb hla hlb hsame hle R hR
    · have HR := Lib.hid hR; clear hR
      have HA := Lib.hid ha
      have HB := Lib.hid hb
      obtain ⟨aa, na, ca, rfl, ena, hsa⟩ := ha.open
      obtain ⟨ab, nb, cb, rfl, enb, hsb⟩ := hb.open
      obtain ⟨nega, hnega⟩ : ∃ x, x = decide (a < 0) := ⟨_, rfl⟩
      obtain ⟨negb, hnegb⟩ : ∃ x, x = decide (b < 0) := ⟨_, rfl⟩
      have Hdiff := Lib.hid (show decide (b < 0) ≠ decide (a < 0) from fun h => hsame h.symm)
      have Hle := Lib.hid (show a.natAbs ≤ b.natAbs by omega)
      have hcm : cmpN a.natAbs b.natAbs = -1 := cmpN_lt (by omega)
      have Hcm := Lib.hid hcm
      have hla9 := Lib.hid (Nat.le_trans hla (by omega : 10000000 ≤ 1000000000))
      have hlb9 := Lib.hid (Nat.le_trans hlb (by omega : 10000000 ≤ 1000000000))
      have Hla := Lib.hid hla
      have Hlb := Lib.hid hlb
      rw [← hnega] at HA hsame ⊢
      rw [← hnegb] at HB hsame ⊢
      have hne : (nega == negb) = false := by cases nega <;> cases negb <;> simp_all
      have B0 := ((Box2.made w (.bool nega) (.slice aa na ca) 67).alloc (.cells #[.bool negb, .slice ab nb cb] 67)).alloc (.cells #[.bool false, .slice none 0 0] 67)
      have B1 := (Box2.made (w.alloc (.cells #[.bool nega, .slice aa na ca] 67)) (.bool negb) (.slice ab nb cb) 67).alloc (.cells #[.bool false, .slice none 0 0] 67)
      have B2 := Box2.made ((w.alloc (.cells #[.bool nega, .slice aa na ca] 67)).alloc (.cells #[.bool negb, .slice ab nb cb] 67)) (.bool false) (.slice none 0 0) 67
      simp only [World.size_alloc] at B0 B1 B2
      have HEXT := Lib.hid ((((Below.refl w.heap.size w).alloc (Nat.le_refl _) (.cells #[.bool nega, .slice aa na ca] 67)).alloc (by simp) (.cells #[.bool negb, .slice ab nb cb] 67)).alloc (by simp; omega) (.cells #[.bool false, .slice none 0 0] 67))
      clear hnega hnegb ena enb ha hb hle hcm hla hlb hsa hsb hsame
      go_enter Tryz.func236, Tryz.ntmps236
      go_wp2_with fail
      refine far_any _ _ a b _ (HA.out.later HEXT.out (Nat.le_refl _)) (HB.out.later HEXT.out (Nat.le_refl _)) hla9.out hlb9.out _ ?_
      intro w0 hbw0
      have b0 := B0.later hbw0 (by simp <;> omega)
      have b1 := B1.later hbw0 (by simp <;> omega)
      have b2 := B2.later hbw0 (by simp <;> omega)
      have hbel0 := Lib.hid (HEXT.out.trans (hbw0.mono (by simp; omega)))
      rw [Hcm.out]
      obtain ⟨hA0, hA1, _, _⟩ := b0.cells
      obtain ⟨hB0, hB1, _, _⟩ := b1.cells
      clear B0 B1 B2 hbw0
      dsimp only
      go_wp2_with fail
      refine zadd_diff _ _ b a _ (HB.out.later hbel0.out (Nat.le_refl _)) (HA.out.later hbel0.out (Nat.le_refl _)) Hlb.out Hla.out Hdiff.out Hle.out _ ?_
      intro v' w1 hz hbw
      rw [Int.add_comm b a] at hz
      obtain ⟨ao', n', cap', rfl, hn', hs'⟩ := hz.open
      have hbox1 := b2.later hbw (lt_of_block b2)
      obtain ⟨hA2, hB2, hA2', hB2'⟩ := hbox1.cells
      have hni := hbox1.noInt rfl rfl
      have HZ := Lib.hid (hbel0.out.trans (hbw.mono hbel0.out.size))
      have HS := Lib.hid hs'
      clear hn' b0 b1 b2 hbox1 hs' hz hbw hA0 hA1 hB0 hB1
      dsimp only
      go_wp2
      refine bodyPost_ret_at (by simp [results, Tryz.results236, go_sem, hA2, hB2, hA2', hB2'] <;> rfl) rfl ?_
      exact HR.out _ _ ⟨.slice ao' n' cap', by simp, (HS.out.set hni 0 _).set (hni.set 0 _ rfl) 1 _⟩ ((HZ.out.setCell (by simp <;> omega) _).setCell (by simp <;> omega) _)

end Go.Proofs.YtdkjcdfkoahfkaaGreatDoor

namespace Go.Proofs.YtdkjcdfkoahfkaaGreatDoor
open Go Go.RowKit

/-- a block holds these numbers and nothing else -/
def Arr (k : IntKind) (e : TypeId) (w : World) (g : Nat) (xs : List Nat) : Prop := w.heap[g]? = some (.cells (nums k xs).toArray e (0, 0))

theorem Arr.lt {k : IntKind} {e : TypeId} {w : World} {g : Nat} {xs : List Nat} (h : Arr k e w g xs) : g < w.heap.size := lt_of_block h

theorem Arr.cell {k : IntKind} {e : TypeId} {w : World} {g : Nat} {xs : List Nat} (h : Arr k e w g xs) (i : Nat) (hi : i < xs.length) : w.cell? ⟨g, i, none⟩ = some (.int k ((xs.getD i 0 : Nat) : Int)) := by
  unfold Arr at h
  simp only [World.cell?, h, Option.isSome_none, Bool.false_eq_true, if_false, List.getElem?_toArray]
  exact nums_get k xs i hi

theorem Arr.frozen {k : IntKind} {e : TypeId} {w : World} {g : Nat} {xs : List Nat} (h : Arr k e w g xs) (i : Nat) : w.frozen? ⟨g, i, none⟩ = false := by
  unfold Arr at h
  simp [World.frozen?, h]

theorem Arr.set {k : IntKind} {e : TypeId} {w : World} {g : Nat} {xs : List Nat} (h : Arr k e w g xs) (i x : Nat) : Arr k e (w.setCell ⟨g, i, none⟩ (.int k (x : Int))) g (xs.set i x) := by
  unfold Arr at *
  simp only [World.setCell, Array.getElem?_modify, h, if_true, Option.map_some]
  congr 2
  simp [nums, List.map_set]

theorem Arr.setz {k : IntKind} {e : TypeId} {w : World} {g : Nat} {xs : List Nat} (h : Arr k e w g xs) (i x : Nat) (z : Int) (hz : z = (x : Int)) : Arr k e (w.setCell ⟨g, i, none⟩ (.int k z)) g (xs.set i x) := by
  subst hz; exact h.set i x

theorem Arr.other {k : IntKind} {e : TypeId} {w : World} {g : Nat} {xs : List Nat} (h : Arr k e w g xs) {g' : Nat} (hg : g ≠ g') (i : Nat) (u : Value) : Arr k e (w.setCell ⟨g', i, none⟩ u) g xs := by
  unfold Arr at *
  rw [Below.heap_setCell _ _ _ _ hg]; exact h

theorem Arr.later {k : IntKind} {e : TypeId} {w w' : World} {g : Nat} {xs : List Nat} (h : Arr k e w g xs) {B : Nat} (hb : Below B w w') (hB : g < B) : Arr k e w' g xs := by
  unfold Arr at *; rw [hb.block g hB]; exact h

theorem Arr.drewN {k : IntKind} {e : TypeId} {w : World} {g : Nat} {xs : List Nat} (h : Arr k e w g xs) (n : Nat) : Arr k e (w.drewN n) g xs := h

theorem Arr.alloc {k : IntKind} {e : TypeId} {w : World} {g : Nat} {xs : List Nat} (h : Arr k e w g xs) (o : Obj) : Arr k e (w.alloc o) g xs :=
  h.later ((Below.refl w.heap.size w).alloc (Nat.le_refl _) o) h.lt

/-- a slice of it -/
theorem Arr.sub {k : IntKind} {e : TypeId} {w : World} {g : Nat} {xs : List Nat} (h : Arr k e w g xs) (off n cap : Nat) (hn : off + n ≤ xs.length) (hc : n ≤ cap) : Sl k w (.slice (some ⟨g, off, none⟩) n cap) ((xs.drop off).take n) := by
  refine Sl.mk (by simp; omega) hc h.lt (fun i hi => ?_)
  have hi' : i < n := by simp at hi; omega
  rw [h.cell (off + i) (by omega)]
  simp [List.getD, List.getElem?_take, List.getElem?_drop, hi']

theorem Arr.sl {k : IntKind} {e : TypeId} {w : World} {g : Nat} {xs : List Nat} (h : Arr k e w g xs) (n cap : Nat) (hn : n = xs.length) (hc : n ≤ cap) : Sl k w (.slice (some ⟨g, 0, none⟩) n cap) xs := by
  have := h.sub 0 n cap (by omega) hc
  rw [List.drop_zero, List.take_of_length_le (by omega)] at this
  exact this

/-- another list of numbers stays as it is where a block that is known whole is written, if that lies elsewhere -/
theorem Sl.setOther {k : IntKind} {w : World} {v : Value} {xs : List Nat} {B : Nat} {w0 : World} (h : Sl k w0 v xs) (hb : Below B w0 w) (hB : w0.heap.size ≤ B) : Sl k w v xs := h.later hb hB

/-- make with a length that is a number of the walk's -/
theorem wpList_makez {P : Program} (w : World) {ops : Array Oper} {rest : List Oper} {o : Oper} {a : Act} {Q : Exit → Act → World → Prop}
    (hg : o.guard = none) (l : Operand) (t : TypeId) (hop : o.op = Op.makeSlice t l l)
    (e : TypeId) (k : IntKind) (bytes : Nat) (h1 : P.underlying t = some (.slice e)) (hi : (P.info? e).map (fun i => (i.zero, i.size, i.bytes)) = some (some (.int k 0), 1, bytes)) (hby : bytes ≤ 16)
    (kl : IntKind) (L : Int) (n : Nat) (hl : a.eval l = .int kl L) (hL : L = (n : Int)) (hn : n ≤ 1000000000000)
    (hK : ∀ w', Arr k e w' w.heap.size (List.replicate n 0) → Below w.heap.size w w' → w'.heap.size = w.heap.size + 1 → wpList P ops Q rest (a.put o.dst (.slice (some ⟨w.heap.size, 0, none⟩) n n)) w') :
    wpList P ops Q (o :: rest) a w := by
  obtain ⟨i0, hi0, hz0, hz1, hz2⟩ := info_parts hi
  refine wpList_plain hg fun K hK' => ?_
  subst hL
  have hb : (i0.bytes : Int) * (n : Int) ≤ 281474976710656 := by
    rw [hz2]
    have : bytes * n ≤ 16 * n := Nat.mul_le_mul_right n hby
    have h2 : ((bytes * n : Nat) : Int) ≤ 281474976710656 := by omega
    rwa [Int.natCast_mul] at h2
  have hr := run_make (P := P) w t e i0 (.int k 0) h1 hi0 hz0 kl kl n n (by omega) (Int.le_refl _) hb (by omega)
  simp only [Int.toNat_natCast, hz1, Nat.mul_one] at hr
  unfold Oper.wp
  simp [execOp, hop, hl, hr, Result.andThen]
  refine hK' _ _ (hK _ ?_ ?_ ?_)
  · show (w.heap.push _)[_]? = _
    rw [Array.getElem?_push, if_pos rfl]
    congr 2
    apply Array.toList_inj.1
    have h3 := toList_madeCells_one (.int k 0) n
    simp only [Value.cells] at h3 ⊢
    rw [h3]
    simp [nums]
  · exact (Below.refl _ _).alloc (Nat.le_refl _) _
  · simp

end Go.Proofs.YtdkjcdfkoahfkaaGreatDoor

namespace Go.Proofs.YtdkjcdfkoahfkaaGreatDoor
open Go Go.RowKit

theorem val_set (B : Nat) (D : List Nat) (j z : Nat) (h : j < D.length) : val B (D.set j z) + B ^ j * D.getD j 0 = val B D + B ^ j * z := by
  have h1 : D.set j z = D.take j ++ z :: D.drop (j + 1) := List.set_eq_take_append_cons_drop (l := D) (i := j) (a := z) ▸ by simp [h]
  have h2 : D = D.take j ++ D[j] :: D.drop (j + 1) := by rw [← List.drop_eq_getElem_cons h, List.take_append_drop]
  have e1 : val B (D.set j z) = val B (D.take j) + B ^ j * (z + B * val B (D.drop (j + 1))) := by
    rw [h1, val_append, List.length_take, Nat.min_eq_left (by omega)]; rfl
  have e2 : val B D = val B (D.take j) + B ^ j * (D[j] + B * val B (D.drop (j + 1))) := by
    conv => lhs; rw [h2]
    rw [val_append, List.length_take, Nat.min_eq_left (by omega)]; rfl
  rw [e1, e2, getD_eq h, Nat.mul_add, Nat.mul_add]
  omega

theorem mul_step (B : Nat) (D ys : List Nat) (cy x y k i T : Nat) (hl : i + k < D.length) (hy : val B (ys.drop k) = y + B * val B (ys.drop (k + 1)))
    (h : val B D + B ^ (i + k) * (cy + x * val B (ys.drop k)) = T) :
    val B (D.set (i + k) ((cy + D.getD (i + k) 0 + x * y) % B)) + B ^ (i + (k + 1)) * ((cy + D.getD (i + k) 0 + x * y) / B + x * val B (ys.drop (k + 1))) = T := by
  have hs := val_set B D (i + k) ((cy + D.getD (i + k) 0 + x * y) % B) hl
  have hd := Nat.div_add_mod (cy + D.getD (i + k) 0 + x * y) B
  obtain ⟨q, hq⟩ : ∃ q, q = (cy + D.getD (i + k) 0 + x * y) / B := ⟨_, rfl⟩
  obtain ⟨r, hr⟩ : ∃ r, r = (cy + D.getD (i + k) 0 + x * y) % B := ⟨_, rfl⟩
  rw [← hq, ← hr] at hd
  rw [← hr] at hs
  rw [← hq, ← hr]
  have hd2 : B ^ (i + k) * (B * q + r) = B ^ (i + k) * (cy + D.getD (i + k) 0 + x * y) := by rw [hd]
  rw [hy] at h
  have e : B ^ (i + (k + 1)) = B ^ (i + k) * B := by rw [← Nat.add_assoc, Nat.pow_succ]
  have e2 : x * (B * val B (ys.drop (k + 1))) = B * (x * val B (ys.drop (k + 1))) := by rw [← Nat.mul_assoc, Nat.mul_comm x B, Nat.mul_assoc]
  rw [e, Nat.mul_assoc]
  simp only [Nat.mul_add, e2] at h hd2 ⊢
  generalize B ^ (i + k) * (B * (x * val B (ys.drop (k + 1)))) = p1 at *
  generalize B ^ (i + k) * (B * q) = p2 at *
  generalize B ^ (i + k) * (x * y) = p3 at *
  generalize B ^ (i + k) * cy = p4 at *
  generalize B ^ (i + k) * r = p5 at *
  generalize B ^ (i + k) * D.getD (i + k) 0 = p6 at *
  omega

theorem mul_sign (a b : Int) : a * b = if (decide (a < 0) != decide (b < 0)) = true then -((a.natAbs * b.natAbs : Nat) : Int) else ((a.natAbs * b.natAbs : Nat) : Int) := by
  have e1 : a = if a < 0 then -(a.natAbs : Int) else (a.natAbs : Int) := by split <;> omega
  have e2 : b = if b < 0 then -(b.natAbs : Int) else (b.natAbs : Int) := by split <;> omega
  by_cases h1 : a < 0 <;> by_cases h2 : b < 0
  · rw [if_pos h1] at e1; rw [if_pos h2] at e2; simp [h1, h2]; conv => lhs; rw [e1, e2, Int.neg_mul_neg]
  · rw [if_pos h1] at e1; rw [if_neg h2] at e2; simp [h1, h2]; conv => lhs; rw [e1, e2, Int.neg_mul]
  · rw [if_neg h1] at e1; rw [if_pos h2] at e2; simp [h1, h2]; conv => lhs; rw [e1, e2, Int.mul_neg]
  · rw [if_neg h1] at e1; rw [if_neg h2] at e2; simp [h1, h2]; conv => lhs; rw [e1, e2]

theorem set_lt {B : Nat} (D : List Nat) (j z : Nat) (h : ∀ d ∈ D, d < B) (hz : z < B) : ∀ d ∈ D.set j z, d < B := by
  intro d hd
  rcases List.mem_or_eq_of_mem_set hd with h1 | h1
  · exact h d h1
  · rw [h1]; exact hz

/-- what holds at the head of the outer loop of the product -/
def MulOut (w : World) (xs ys : List Nat) (na nb : Nat) (u0 v0 u1 v1 u2 v2 : Value) (i : Value) (wr : World) : Prop :=
  ∃ (D : List Nat) (k : Nat), i = .int .i64 k ∧ k ≤ na ∧ D.length = na + nb + 1 ∧ (∀ x ∈ D, x < 10000) ∧ val 10000 D = val 10000 (xs.take k) * val 10000 ys ∧
    Arr .i64 2 wr (w.heap.size + 3) D ∧ Below w.heap.size w wr ∧
    Box2 wr w.heap.size u0 v0 67 ∧ Box2 wr (w.heap.size + 1) u1 v1 67 ∧ Box2 wr (w.heap.size + 2) u2 v2 67

/-- what holds at the head of the inner loop -/
def MulIn (w : World) (ys : List Nat) (na nb i x T : Nat) (u0 v0 u1 v1 u2 v2 : Value) (c q : Value) (wr : World) : Prop :=
  ∃ (D : List Nat) (cy k : Nat), c = .int .i64 cy ∧ q = .int .i64 k ∧ cy < 10000 ∧ k ≤ nb + 1 ∧ (k = nb + 1 → cy = 0) ∧ D.length = na + nb + 1 ∧ (∀ x ∈ D, x < 10000) ∧
    val 10000 D + 10000 ^ (i + k) * (cy + x * val 10000 (ys.drop k)) = T ∧
    Arr .i64 2 wr (w.heap.size + 3) D ∧ Below w.heap.size w wr ∧
    Box2 wr w.heap.size u0 v0 67 ∧ Box2 wr (w.heap.size + 1) u1 v1 67 ∧ Box2 wr (w.heap.size + 2) u2 v2 67

theorem Box2.setOther {w : World} {b : Nat} {u v : Value} {t : TypeId} (h : Box2 w b u v t) {g : Nat} (hg : b ≠ g) (i : Nat) (x : Value) : Box2 (w.setCell ⟨g, i, none⟩ x) b u v t := by
  unfold Box2 at *; rw [Below.heap_setCell _ _ _ _ hg]; exact h

theorem mul_rel (w wr : World) (ys D : List Nat) (na nb i x T cy k y dv n : Nat) (u0 v0 u1 v1 u2 v2 : Value) (zc zk z : Int)
    (hxl : x < 10000) (hyl : y < 10000) (hcy : cy < 10000) (hk : k ≤ nb) (hi : i < na) (hdl : D.length = na + nb + 1) (hd : ∀ x ∈ D, x < 10000) (hdv : dv = D.getD (i + k) 0)
    (hys : ys.length = nb) (hdy : val 10000 (ys.drop k) = y + 10000 * val 10000 (ys.drop (k + 1)))
    (hval : val 10000 D + 10000 ^ (i + k) * (cy + x * val 10000 (ys.drop k)) = T) (hT : T < 10000 ^ (i + 1 + nb))
    (hzc : zc = (((cy + dv + x * y) / 10000 : Nat) : Int)) (hzk : zk = ((k + 1 : Nat) : Int)) (hz : z = (((cy + dv + x * y) % 10000 : Nat) : Int))
    (harr : Arr .i64 2 wr (w.heap.size + 3) D) (hbel : Below w.heap.size w wr)
    (h0 : Box2 wr w.heap.size u0 v0 67) (h1 : Box2 wr (w.heap.size + 1) u1 v1 67) (h2 : Box2 wr (w.heap.size + 2) u2 v2 67) :
    MulIn w ys na nb i x T u0 v0 u1 v1 u2 v2 (.int .i64 zc) (.int .i64 zk) ((wr.drewN n).setCell ⟨w.heap.size + 3, i + k, none⟩ (.int .i64 z)) := by
  subst hzc hzk hdv
  have hst := mul_step 10000 D ys cy x y k i T (by omega) hdy hval
  have hdvl : D.getD (i + k) 0 < 10000 := getD_lt (by omega) D hd _
  have hxy : x * y ≤ 9999 * 9999 := Nat.mul_le_mul (by omega) (by omega)
  refine ⟨D.set (i + k) ((cy + D.getD (i + k) 0 + x * y) % 10000), (cy + D.getD (i + k) 0 + x * y) / 10000, k + 1, rfl, rfl, by omega, by omega, fun h => ?_, by simp [hdl], set_lt D _ _ hd (by omega), hst, (harr.drewN n).setz _ _ z hz, (below_draws hbel n).setCell (by simp) _, (h0.drewN n).setOther (by omega) _ _, (h1.drewN n).setOther (by omega) _ _, (h2.drewN n).setOther (by omega) _ _⟩
  obtain rfl : k = nb := by omega
  rcases Nat.eq_zero_or_pos ((cy + D.getD (i + k) 0 + x * y) / 10000) with h0 | h0
  · exact h0
  · exfalso
    have e : i + (k + 1) = i + 1 + k := by omega
    rw [e] at hst
    have : 10000 ^ (i + 1 + k) * 1 ≤ 10000 ^ (i + 1 + k) * ((cy + D.getD (i + k) 0 + x * y) / 10000 + x * val 10000 (ys.drop (k + 1))) := Nat.mul_le_mul_left _ (by omega)
    omega

end Go.Proofs.YtdkjcdfkoahfkaaGreatDoor

namespace Go.Proofs.YtdkjcdfkoahfkaaGreatDoor
open Go Go.RowKit

set_option maxRecDepth 100000 in
set_option maxHeartbeats 2000000 in
theorem zmul_any (va vb : Value) (a b : Int) (w : World) (ha : IsZ w va a) (hb : IsZ w vb b) (hla : (dig 10000 a.natAbs).length ≤ 10000000) (hlb : (dig 10000 b.natAbs).length ≤ 10000000) (R : Ending → World → Prop)
    (hR : ∀ v w', IsZ w' v (a * b) → Below w.heap.size w w' → R (.returned v) w') :
    Calls Tryz.prog 176 #[va, vb] w R := by
  have HR := Lib.hid hR; clear hR
  obtain ⟨aa, na, ca, rfl, ena, hsa⟩ := ha.open
  obtain ⟨ab, nb, cb, rfl, enb, hsb⟩ := hb.open
  obtain ⟨xs, hxs⟩ : ∃ xs, xs = dig 10000 a.natAbs := ⟨_, rfl⟩
  obtain ⟨ys, hys⟩ : ∃ ys, ys = dig 10000 b.natAbs := ⟨_, rfl⟩
  have hx : ∀ d ∈ xs, d < 10000 := by rw [hxs]; exact dig_lt (by omega) _
  have hy : ∀ d ∈ ys, d < 10000 := by rw [hys]; exact dig_lt (by omega) _
  have hvx : val 10000 xs = a.natAbs := by rw [hxs]; exact val_dig (by omega) _
  have hvy : val 10000 ys = b.natAbs := by rw [hys]; exact val_dig (by omega) _
  rw [← ena] at hla
  rw [← enb] at hlb
  rw [← hxs] at hsa ena
  rw [← hys] at hsb enb
  obtain ⟨nega, hnega⟩ : ∃ x, x = decide (a < 0) := ⟨_, rfl⟩
  obtain ⟨negb, hnegb⟩ : ∃ x, x = decide (b < 0) := ⟨_, rfl⟩
  have hz : a * b = if (nega != negb) = true then -((a.natAbs * b.natAbs : Nat) : Int) else ((a.natAbs * b.natAbs : Nat) : Int) := by
    rw [hnega, hnegb]; exact mul_sign a b
  rw [← hnega, ← hnegb]
  have Ena := Lib.hid ena
  have Enb := Lib.hid enb
  have Hvx := Lib.hid hvx
  have Hvy := Lib.hid hvy
  have Hx := Lib.hid hx
  have Hy := Lib.hid hy
  have Hz := Lib.hid hz
  have B0 := ((Box2.made w (.bool nega) (.slice aa na ca) 67).alloc (.cells #[.bool negb, .slice ab nb cb] 67)).alloc (.cells #[.bool false, .slice none 0 0] 67)
  have B1 := (Box2.made (w.alloc (.cells #[.bool nega, .slice aa na ca] 67)) (.bool negb) (.slice ab nb cb) 67).alloc (.cells #[.bool false, .slice none 0 0] 67)
  have B2 := Box2.made ((w.alloc (.cells #[.bool nega, .slice aa na ca] 67)).alloc (.cells #[.bool negb, .slice ab nb cb] 67)) (.bool false) (.slice none 0 0) 67
  simp only [World.size_alloc] at B0 B1 B2
  have HEXT := Lib.hid ((((Below.refl w.heap.size w).alloc (Nat.le_refl _) (.cells #[.bool nega, .slice aa na ca] 67)).alloc (by simp) (.cells #[.bool negb, .slice ab nb cb] 67)).alloc (by simp; omega) (.cells #[.bool false, .slice none 0 0] 67))
  clear hnega hnegb hxs hys ena enb hvx hvy ha hb hx hy hz
  go_enter Tryz.func176, Tryz.ntmps176
  go_wp2_with (at_make; go_must (refine wpList_makez _ rfl (.tmp 16) 65 rfl 2 .i64 8 Tryz.underlying65 info_i64 (by omega) .i64 (↑na + ↑nb + 1) (na + nb + 1) rfl (by omega) (by omega) ?_))
  intro w0 harr0 hbw0 hsz0
  have b0 := B0.later hbw0 (by omega)
  have b1 := B1.later hbw0 (by omega)
  have b2 := B2.later hbw0 (by omega)
  have hbel0 : Below w.heap.size w w0 := HEXT.out.trans (hbw0.mono (by omega))
  obtain ⟨hA0, hA1, _, _⟩ := b0.cells
  obtain ⟨hB0, hB1, _, _⟩ := b1.cells
  clear B0 B1 B2 hbw0
  go_wp2
  go_loopw [6] (fun i wr => MulOut w xs ys na nb (.bool nega) (.slice aa na ca) (.bool negb) (.slice ab nb cb) (.bool false) (.slice none 0 0) i wr) (fun i _ => na - (intOf i).toNat)
  case atStart =>
    exact ⟨List.replicate (na + nb + 1) 0, 0, rfl, by omega, by simp, fun x hx => by rw [(List.mem_replicate.1 hx).2]; omega, by
      have : ∀ n, val 10000 (List.replicate n 0) = 0 := fun n => by induction n with
        | zero => rfl
        | succ n ih => rw [List.replicate_succ, val, ih]
      rw [this]; simp [val], harr0, hbel0, b0, b1, b2⟩
  case round =>
    clear hA0 hA1 hB0 hB1
    obtain ⟨D, i, rfl, hi, hdl, hd, hval, harr, hbel, hb0, hb1, hb2⟩ := hrel
    have hsz := hbel.size
    have hlt2 := harr.lt
    obtain ⟨hA0, hA1, _, _⟩ := hb0.cells
    obtain ⟨hB0, hB1, _, _⟩ := hb1.cells
    have Hval := Lib.hid hval
    have Hd := Lib.hid hd
    have Hdl := Lib.hid hdl
    have HBEL := Lib.hid hbel
    clear hval hd hdl b0 b1 b2 hbel0 harr0 hsz0
    by_cases hia : i < na
    · obtain ⟨p1, o1, rfl, hp1, hc1⟩ := hsa.at i hia
      obtain ⟨x, hxe⟩ : ∃ x, x = xs.getD i 0 := ⟨_, rfl⟩
      rw [← hxe] at hc1
      have hxl : x < 10000 := by rw [hxe]; exact getD_lt (by omega) _ Hx.out _
      have htk : val 10000 (xs.take (i + 1)) = val 10000 (xs.take i) + 10000 ^ i * x := by
        rw [List.take_succ_eq_append_getElem (by rw [← Ena.out]; exact hia), val_snoc, List.length_take, Nat.min_eq_left (by rw [← Ena.out]; omega), hxe, getD_eq (by rw [← Ena.out]; exact hia)]
      obtain ⟨T, hT⟩ : ∃ T, T = val 10000 (xs.take (i + 1)) * val 10000 ys := ⟨_, rfl⟩
      have hTlt : T < 10000 ^ (i + 1 + nb) := by
        have l1 := val_lt (xs.take (i + 1)) (fun d hd => Hx.out d (List.mem_of_mem_take hd))
        have l2 := val_lt ys Hy.out
        rw [List.length_take, Nat.min_eq_left (by rw [← Ena.out]; omega)] at l1
        rw [← Enb.out] at l2
        rw [hT, Nat.pow_add]
        exact Nat.mul_lt_mul'' l1 l2
      have hT0 : val 10000 D + 10000 ^ (i + 0) * (0 + x * val 10000 (ys.drop 0)) = T := by
        rw [hT, htk, Hval.out, Nat.add_mul, Nat.add_zero, Nat.zero_add, List.drop_zero, Nat.mul_assoc]
      have HT := Lib.hid hT
      have HTlt := Lib.hid hTlt
      have HT0 := Lib.hid hT0
      clear hxe htk hT hTlt hT0
      obtain ⟨wo, hwo⟩ : ∃ wo : World, wo = wr := ⟨_, rfl⟩
      subst hwo
      go_wp2
      go_loopw [7, 8] (fun c q wq => MulIn w ys na nb i x T (.bool nega) (.slice (some ⟨p1, o1, none⟩) na ca) (.bool negb) (.slice ab nb cb) (.bool false) (.slice none 0 0) c q wq) (fun _ q _ => nb + 2 - (intOf q).toNat)
      case atStart => exact ⟨D, 0, 0, rfl, rfl, by omega, by omega, fun h => by omega, Hdl.out, Hd.out, HT0.out, harr, HBEL.out, hb0, hb1, hb2⟩
      case round =>
        clear hA0 hA1 hB0 hB1 hb0 hb1 hb2 harr hlt2 hbel hsz
        obtain ⟨D, cy, k, rfl, rfl, hcy, hk, hkc, hdl, hd, hval, harr, hbel, hb0, hb1, hb2⟩ := hrel
        have hlt2 := harr.lt
        obtain ⟨hA0, hA1, _, _⟩ := hb0.cells
        obtain ⟨hB0, hB1, _, _⟩ := hb1.cells
        have hcx := hc1
        rw [← hbel.cell (p := ⟨p1, o1 + i, none⟩) hp1] at hcx
        have Hvali := Lib.hid hval
        have Hdi := Lib.hid hd
        have Hdli := Lib.hid hdl
        have HBELi := Lib.hid hbel
        clear hval hd
        by_cases hkb : k < nb
        · obtain ⟨p2, o2, rfl, hp2, hc2⟩ := hsb.at k hkb
          rw [← hbel.cell (p := ⟨p2, o2 + k, none⟩) hp2] at hc2
          obtain ⟨y, hye⟩ : ∃ y, y = ys.getD k 0 := ⟨_, rfl⟩
          rw [← hye] at hc2
          have hyl : y < 10000 := by rw [hye]; exact getD_lt (by omega) _ Hy.out _
          have hdy : val 10000 (ys.drop k) = y + 10000 * val 10000 (ys.drop (k + 1)) := by rw [hye]; exact val_drop _ _ _ (by rw [← Enb.out]; exact hkb)
          have Hdy := Lib.hid hdy
          obtain ⟨dv, hdv⟩ : ∃ dv, dv = D.getD (i + k) 0 := ⟨_, rfl⟩
          have hcd := harr.cell (i + k) (by omega)
          have hfd := harr.frozen (i + k)
          rw [← hdv] at hcd
          have hdvl : dv < 10000 := by rw [hdv]; exact getD_lt (by omega) _ Hdi.out _
          have Hdv := Lib.hid hdv
          have hxy0 : (0 : Int) ≤ (x : Int) * (y : Int) := Int.mul_nonneg (by omega) (by omega)
          have hxy1 : (x : Int) * (y : Int) ≤ 99980001 := by
            have h1 : x * y ≤ 9999 * 9999 := Nat.mul_le_mul (by omega) (by omega)
            have h2 : ((x * y : Nat) : Int) ≤ 99980001 := by omega
            rwa [Int.natCast_mul] at h2
          have hk0 : (0 : Int) ≤ (k : Int) := by omega
          have hk1 : (k : Int) < (nb : Int) := by omega
          have hi0 : (0 : Int) ≤ (i : Int) := by omega
          have hi1 : (i : Int) < (na : Int) := by omega
          clear hye hdy hbel hdv hdl
          have hq1 : (0 : Int) ≤ (cy : Int) + (dv : Int) + (x : Int) * (y : Int) := by omega
          have hw1 : IntKind.i64.wrap ((x : Int) * (y : Int)) = (x : Int) * (y : Int) := IntWalk.i64_in _ (by omega)
          have hw2 : IntKind.i64.wrap ((cy : Int) + (dv : Int) + (x : Int) * (y : Int)) = (cy : Int) + (dv : Int) + (x : Int) * (y : Int) := IntWalk.i64_in _ (by omega)
          have HW1 := Lib.hid hw1
          have HW2 := Lib.hid hw2
          clear hw1 hw2
          go_wp2
          have hw1 := HW1.out
          have hw2 := HW2.out
          go_quiet (fail)
          clear hw1 hw2 HW1 HW2
          go_wp2
          go_roundw
          case rel => exact mul_rel w wr ys D na nb i x T cy k y dv _ _ _ _ _ _ _ _ _ _ hxl hyl hcy (by omega) hia Hdli.out Hdi.out Hdv.out Enb.out.symm Hdy.out Hvali.out HTlt.out (by push_cast; omega) (by omega) (by push_cast; omega) harr HBELi.out hb0 hb1 hb2
          case measure => simp [intOf] <;> omega
        · have hdy0 : val 10000 (ys.drop k) = 0 := val_drop_all _ _ _ (by rw [← Enb.out]; omega)
          have Hdy := Lib.hid (show val 10000 (ys.drop k) = 0 + 10000 * val 10000 (ys.drop (k + 1)) by rw [hdy0, val_drop_all _ _ _ (by rw [← Enb.out]; omega)])
          by_cases hc0 : cy = 0
          · subst hc0
            have hvD : val 10000 D = T := by have := Hvali.out; rw [hdy0] at this; simpa using this
            have HvD := Lib.hid hvD
            clear hdy0 hvD hbel
            go_wp2
            go_roundw
            case rel => exact ⟨D, i + 1, by go_num, by omega, Hdli.out, Hdi.out, by rw [HvD.out, HT.out], harr, HBELi.out, hb0, hb1, hb2⟩
            case measure => simp [intOf] <;> omega
          · obtain rfl : k = nb := by
              rcases Nat.lt_or_ge nb k with h | h
              · exact absurd (hkc (by omega)) hc0
              · omega
            have hc0' : 0 < cy := by omega
            obtain ⟨dv, hdv⟩ : ∃ dv, dv = D.getD (i + k) 0 := ⟨_, rfl⟩
            have hcd := harr.cell (i + k) (by omega)
            have hfd := harr.frozen (i + k)
            rw [← hdv] at hcd
            have hdvl : dv < 10000 := by rw [hdv]; exact getD_lt (by omega) _ Hdi.out _
            have Hdv := Lib.hid hdv
            have hk0 : (0 : Int) ≤ (k : Int) := by omega
            have hi0 : (0 : Int) ≤ (i : Int) := by omega
            have hi1 : (i : Int) < (na : Int) := by omega
            clear hdy0 hbel hdv hdl
            go_wp2
            go_roundw
            case rel => exact mul_rel w wr ys D na k i x T cy k 0 dv 0 _ _ _ _ _ _ _ _ _ hxl (by omega) hcy (by omega) hia Hdli.out Hdi.out Hdv.out Enb.out.symm Hdy.out Hvali.out HTlt.out (by push_cast; omega) (by omega) (by push_cast; omega) harr HBELi.out hb0 hb1 hb2
            case measure => simp [intOf] <;> omega
    · obtain rfl : i = na := by omega
      have hvD : val 10000 D = a.natAbs * b.natAbs := by rw [Hval.out, ← Hvx.out, ← Hvy.out]; congr 2; rw [Ena.out, List.take_length]
      have HvD := Lib.hid hvD
      have Hsl := Lib.hid (harr.sl (i + nb + 1) (i + nb + 1) Hdl.out.symm (Nat.le_refl _))
      clear hvD hbel harr
      go_wp2_with fail
      refine cut_z (nega != negb) _ D _ Hsl.out Hd.out (by rw [Hdl.out]; omega) (a * b) (by rw [HvD.out]; exact Hz.out) _ ?_
      intro v' w1 hz hbw
      obtain ⟨ao', n', cap', rfl, hn', hs'⟩ := hz.open
      have hbox1 := hb2.later hbw (by omega)
      obtain ⟨hA2, hB2, hA2', hB2'⟩ := hbox1.cells
      have hni := hbox1.noInt rfl rfl
      have HZ := Lib.hid (HBEL.out.trans (hbw.mono hsz))
      have HS := Lib.hid hs'
      clear hn' hb0 hb1 hb2 hbox1 hs' hz hbw hA0 hA1 hB0 hB1
      dsimp only
      go_wp2
      refine bodyPost_ret_at (by simp [results, Tryz.results176, go_sem, hA2, hB2, hA2', hB2'] <;> rfl) rfl ?_
      exact HR.out _ _ ⟨.slice ao' n' cap', by simp, (HS.out.set hni 0 _).set (hni.set 0 _ rfl) 1 _⟩ ((HZ.out.setCell (by simp <;> omega) _).setCell (by simp <;> omega) _)
end Go.Proofs.YtdkjcdfkoahfkaaGreatDoor

namespace Go.Proofs.YtdkjcdfkoahfkaaGreatDoor
open Go Go.RowKit

/-- numbers are appended to a slice that the call has made: whatever the other slice is -/
theorem run_append_any {P : Program} {w : World} (t ty : TypeId) (e : TypeId) (k : IntKind) (bytes : Nat) (ht : P.underlying t = some (.slice e)) (hi : (P.info? e).map (fun i => (i.zero, i.size, i.bytes)) = some (some (.int k 0), 1, bytes)) (hby : bytes ≤ 16)
    (B : Nat) (v x : Value) (xs ys : List Nat) (hown : Own k e w B v xs) (hx : Sl k w x ys) (hlen : xs.length + ys.length ≤ 100000000) (hB : B ≤ w.heap.size) :
    ∃ v' w', (Builtin.append_ #[t, t] ty #[v, x]).run P w = .ok v' w' ∧ Own k e w' B v' (xs ++ ys) ∧ Below B w w' := by
  obtain ⟨i0, hi0, hz0, hz1, hz2⟩ := info_parts hi
  obtain ⟨ao, cap, rfl, hc, hcell⟩ := hx
  cases ao with
  | none =>
    have h0 : ys.length = 0 := by
      rcases Nat.eq_zero_or_pos ys.length with h | h
      · exact h
      · obtain ⟨_, _, h1, _⟩ := hcell 0 h; cases h1
    have hnil : ys = [] := List.length_eq_zero_iff.1 h0
    subst hnil
    refine ⟨v, w, ?_, by simpa using hown, Below.refl _ _⟩
    rcases hown.2 with ⟨rfl, _⟩ | ⟨g, cap', cur, rfl, _, _, hnc, _⟩
    · simp [Builtin.append_, run_underlying ht, sizeOf, typeInfo, hi0, Builtin.lenOf, Builtin.firstCells]
    · simp [Builtin.append_, run_underlying ht, sizeOf, typeInfo, hi0, Builtin.lenOf, Builtin.firstCells, hnc, storeCells]
  | some ad =>
    obtain ⟨v', w', hr, hown', hg, _⟩ := run_append_own (P := P) w B t ty e i0 (.int k 0) 1 bytes ht hi0 hz0 hz1 hz2 rfl (by decide) v xs.length (nums k xs) hown ad ys.length cap (nums k ys) (by simp [nums]) (by
      intro j u hj
      have hj' : j < ys.length := by
        rcases Nat.lt_or_ge j ys.length with h | h
        · exact h
        · rw [List.getElem?_eq_none (by rw [nums_length]; exact h)] at hj; cases hj
      obtain ⟨b, off, h1, h2, h3⟩ := hcell j hj'
      rw [nums_get k ys j hj'] at hj
      cases h1
      rw [← hj, ← h3]
      unfold Addr.add
      split
      · rename_i h0; subst h0; rfl
      · rfl) (by intro u hu; simp only [nums, List.mem_map] at hu; obtain ⟨y, _, rfl⟩ := hu; rfl) (by simp only [maxLen]; omega) (by
      have : (xs.length + ys.length) * bytes ≤ (xs.length + ys.length) * 16 := Nat.mul_le_mul_left _ hby
      omega) hB
    refine ⟨v', w', hr, ?_, ?_⟩
    · unfold Own; rw [nums_append, List.length_append]; exact hown'
    · exact (Below.refl B w).grown hg hB (fun g' hg' => (Own.ownBlock hown g' hg').1)

theorem Sl.drew {k : IntKind} {w : World} {v : Value} {xs : List Nat} (h : Sl k w v xs) : Sl k w.drew v xs := h
theorem Own.drew {k : IntKind} {e : TypeId} {w : World} {B : Nat} {v : Value} {xs : List Nat} (h : Own k e w B v xs) : Own k e w.drew B v xs := h
theorem Own.shape {k : IntKind} {e : TypeId} {w : World} {B : Nat} {v : Value} {xs : List Nat} (h : Own k e w B v xs) : ∃ ao n c, v = .slice ao n c ∧ n = xs.length := by
  rcases h.2 with ⟨rfl, h0⟩ | ⟨g, cap, cur, rfl, _⟩
  · exact ⟨none, 0, 0, rfl, h0.symm⟩
  · exact ⟨_, _, _, rfl, rfl⟩

/-- the same as a step of a region that draws its order -/
theorem step_append_any {P : Program} {ops : Array Oper} {o : Oper} {a : Act} {w : World} {K : Act → World → Prop} {Q : Exit → Act → World → Prop} {E : Prop} (hgd : o.guard = none) (s x : Operand) (t : TypeId)
    (ho : o.op = .call { callee := .builtin .append, args := #[s, x], argTypes := #[t, t] })
    (e : TypeId) (k : IntKind) (bytes : Nat) (ht : P.underlying t = some (.slice e)) (hi : (P.info? e).map (fun i => (i.zero, i.size, i.bytes)) = some (some (.int k 0), 1, bytes)) (hby : bytes ≤ 16)
    (B : Nat) (xs ys : List Nat) (hown : Own k e w B (a.eval s) xs) (hx : Sl k w (a.eval x) ys) (hlen : xs.length + ys.length ≤ 100000000) (hB : B ≤ w.heap.size)
    (h : ∀ ao n c w', Own k e w' B (.slice ao n c) (xs ++ ys) → n = xs.length + ys.length → Below B w w' → K (a.put o.dst (.slice ao n c)) w') :
    if Region.wanted o (yielded ops a.tmps) = true then Oper.wp P o a w K Q else E := by
  have hw : Region.wanted o (yielded ops a.tmps) = true := by simp [Region.wanted, hgd]
  rw [if_pos hw]
  obtain ⟨v', w', hr, h2, h3⟩ := run_append_any (P := P) (w := w) t o.type e k bytes ht hi hby B _ _ xs ys hown hx hlen hB
  unfold Oper.wp execOp
  simp only [ho, resolve, invoke, builtin, Sem.run_bind, Sem.run_pure, Result.andThen_ok, List.map_toArray, List.map_cons, List.map_nil, hr]
  obtain ⟨ao, n, c, rfl, hn⟩ := h2.shape
  exact h ao n c w' h2 (by simpa using hn) h3

/-- the end of a slice, as one step; where it lies is not told -/
theorem wpList_slice_from {P : Program} {w : World} {ops : Array Oper} {rest : List Oper} {o : Oper} {a : Act} {Q : Exit → Act → World → Prop} (hgd : o.guard = none) (x l : Operand) (t : TypeId)
    (ho : o.op = .slice t x (some l) none none) (e : TypeId) (kk : IntKind) (bytes : Nat) (ht : P.underlying t = some (.slice e)) (hi : (P.info? e).map (fun i => (i.zero, i.size, i.bytes)) = some (some (.int kk 0), 1, bytes))
    (ao : Option Addr) (n c k : Nat) (xs : List Nat) (hx : a.eval x = .slice ao n c) (hl : a.eval l = .int .i64 (k : Int)) (hk : k ≤ n) (hs : Sl kk w (.slice ao n c) xs)
    (h : ∀ ao', Sl kk w (.slice ao' (n - k) (c - k)) (xs.drop k) → wpList P ops Q rest (a.put o.dst (.slice ao' (n - k) (c - k))) w) : wpList P ops Q (o :: rest) a w := by
  obtain ⟨i0, hi0, hz0, hz1, hz2⟩ := info_parts hi
  refine wpList_plain hgd fun K hK => ?_
  have hc := hs.cap
  have hl' := hs.len
  have hrun : (Instr.sliceAt t (.slice ao n c) (some (.int .i64 (k : Int))) none none).run P w = .ok (.slice (if c = k then ao else ao.map (·.add k)) (n - k) (c - k)) w := by
    simp [Instr.sliceAt, Instr.slice, run_underlying ht, Instr.sliceBounds, Instr.sliceBound, asIntOf, Sem.run_bind, Result.andThen, sizeOf, typeInfo, hi0, hz1, hk]
  unfold Oper.wp execOp
  simp only [ho, Option.map_some, Option.map_none, hx, hl, Sem.run_bind, hrun, Result.andThen_ok, Sem.run_pure]
  refine hK _ _ (h _ ?_)
  refine ⟨_, c - k, by rw [List.length_drop, hl'], by rw [List.length_drop]; omega, fun i hi => ?_⟩
  rw [List.length_drop] at hi
  obtain ⟨b, off, rfl, h2, h3⟩ := hs.at (k + i) (by omega)
  have hck : c ≠ k := by omega
  rw [if_neg hck]
  refine ⟨b, off + k, ?_, h2, ?_⟩
  · simp only [Option.map_some, Addr.add]
    split
    · rename_i h0; subst h0; rfl
    · rfl
  · rw [Nat.add_assoc, h3]; simp [List.getD, List.getElem?_drop]

/-- a slice does not lie in a block -/
def Away (ao : Option Addr) (n g : Nat) : Prop := ∀ b off, ao = some ⟨b, off, none⟩ → 0 < n → b ≠ g

/-- a store into a block in which a list of numbers does not lie -/
theorem Sl.setAway {k : IntKind} {w : World} {ao : Option Addr} {n c : Nat} {xs : List Nat} (h : Sl k w (.slice ao n c) xs) {g : Nat} (ha : Away ao n g) (i : Nat) (u : Value) : Sl k (w.setCell ⟨g, i, none⟩ u) (.slice ao n c) xs := by
  have hl := h.len
  refine ⟨ao, c, by rw [hl], by rw [← hl]; exact h.cap, fun j hj => ?_⟩
  obtain ⟨b, off, rfl, h2, h3⟩ := h.at j (by omega)
  refine ⟨b, off, rfl, by rw [heap_size_set]; exact h2, ?_⟩
  rw [cell?_set, if_neg]
  · exact h3
  · rintro ⟨e, _⟩
    exact ha b off rfl (by omega) e

theorem pow_le_dig {B : Nat} (hB : 2 ≤ B) (n l : Nat) (h : l < (dig B n).length) : B ^ l ≤ n := by
  rcases Nat.lt_or_ge n (B ^ l) with h1 | h1
  · exact absurd (dig_length_le hB l n h1) (by omega)
  · exact h1

/-- what holds at the head of the loop of the division: j digits are still to come down, r is the rest so far, D the digits of the quotient -/
def DivOut (w : World) (A M na k pa oa ca pb ob n1 cb g6 g8 g9 : Nat) (nega : Bool) (i : Value) (wr : World) : Prop :=
  ∃ (j : Nat) (D : List Nat) (r : Nat) (ar : Option Addr) (nr cr : Nat), i = .int .i64 ((j : Int) - 1) ∧ j ≤ k ∧ D.length = k ∧ (∀ x ∈ D, x < 10000) ∧ (∀ q, q < j → D.getD q 0 = 0) ∧
    val 10000 ((dig 10000 A).drop j) = M * val 10000 (D.drop j) + r ∧ r < M ∧ Arr .i64 2 wr g8 D ∧ Below w.heap.size w wr ∧
    Box2 wr w.heap.size (.bool nega) (.slice (some ⟨pa, oa, none⟩) na ca) 67 ∧ Box2 wr (w.heap.size + 2) (.bool false) (.slice none 0 0) 67 ∧ Box2 wr (w.heap.size + 3) (.bool false) (.slice none 0 0) 67 ∧
    Box2 wr g6 (.bool false) (.slice (some ⟨pb, ob, none⟩) n1 cb) 67 ∧ Sl .i64 wr (.slice (some ⟨pb, ob, none⟩) n1 cb) (dig 10000 M) ∧
    Box2 wr g9 (.bool false) (.slice ar nr cr) 67 ∧ Sl .i64 wr (.slice ar nr cr) (dig 10000 r)

theorem Box2.set01 {w : World} {b : Nat} {u v : Value} {t : TypeId} (h : Box2 w b u v t) (x y : Value) : Box2 ((w.setCell ⟨b, 0, none⟩ x).setCell ⟨b, 1, none⟩ y) b x y t := by
  unfold Box2 at *
  simp [World.setCell, Array.getElem?_modify, h]

theorem Arr.noSet {k : IntKind} {e : TypeId} {w : World} {g : Nat} {xs : List Nat} (h : Arr k e w g xs) {b : Nat} (hb : g ≠ b) (x y : Value) : Arr k e ((w.setCell ⟨b, 0, none⟩ x).setCell ⟨b, 1, none⟩ y) g xs :=
  (h.other hb 0 x).other hb 1 y

theorem Box2.noSet {w : World} {g : Nat} {u v : Value} {t : TypeId} (h : Box2 w g u v t) {b : Nat} (hb : g ≠ b) (x y : Value) : Box2 ((w.setCell ⟨b, 0, none⟩ x).setCell ⟨b, 1, none⟩ y) g u v t :=
  (h.setOther hb 0 x).setOther hb 1 y

theorem Sl.noSet {k : IntKind} {w : World} {v : Value} {xs : List Nat} (h : Sl k w v xs) {b : Nat} (hb : NoInt w b) (x y : Value) (hx : notInt x = true) : Sl k ((w.setCell ⟨b, 0, none⟩ x).setCell ⟨b, 1, none⟩ y) v xs :=
  (h.set hb 0 x).set (hb.set 0 b hx) 1 y

/-- what the round of the division leaves alone, and the rest -/
def DivMid (w : World) (M na pa oa ca pb ob n1 cb g6 g8 g9 : Nat) (nega : Bool) (D : List Nat) (t : Nat) (wx : World) : Prop :=
  ∃ (ar : Option Addr) (nr cr : Nat), Away ar nr g8 ∧ Arr .i64 2 wx g8 D ∧ Below w.heap.size w wx ∧
    Box2 wx w.heap.size (.bool nega) (.slice (some ⟨pa, oa, none⟩) na ca) 67 ∧ Box2 wx (w.heap.size + 2) (.bool false) (.slice none 0 0) 67 ∧ Box2 wx (w.heap.size + 3) (.bool false) (.slice none 0 0) 67 ∧
    Box2 wx g6 (.bool false) (.slice (some ⟨pb, ob, none⟩) n1 cb) 67 ∧ Sl .i64 wx (.slice (some ⟨pb, ob, none⟩) n1 cb) (dig 10000 M) ∧
    Box2 wx g9 (.bool false) (.slice ar nr cr) 67 ∧ Sl .i64 wx (.slice ar nr cr) (dig 10000 t)

theorem mid_rel (w wr wA wC : World) (M na pa oa ca pb ob n1 cb g6 g8 g9 : Nat) (nega : Bool) (D xs : List Nat) (t : Nat) (o : Obj) (av : Option Addr) (an ac nC : Nat) (ar : Option Addr) (nr cr : Nat)
    (hg6 : w.heap.size + 3 < g6) (hg8 : g6 < g8) (hg9 : g8 < g9)
    (harr : Arr .i64 2 wr g8 D) (hbel : Below w.heap.size w wr)
    (b0 : Box2 wr w.heap.size (.bool nega) (.slice (some ⟨pa, oa, none⟩) na ca) 67) (b2 : Box2 wr (w.heap.size + 2) (.bool false) (.slice none 0 0) 67) (b3 : Box2 wr (w.heap.size + 3) (.bool false) (.slice none 0 0) 67)
    (b6 : Box2 wr g6 (.bool false) (.slice (some ⟨pb, ob, none⟩) n1 cb) 67) (hsby : Sl .i64 wr (.slice (some ⟨pb, ob, none⟩) n1 cb) (dig 10000 M)) (b9 : Box2 wr g9 (.bool false) (.slice ar nr cr) 67)
    (hown : Own .i64 2 wA wr.heap.size (.slice av an ac) xs) (hbA : Below wr.heap.size (wr.alloc o).drew wA) (hbC : Below wA.heap.size wA wC) (hsC : Sl .i64 wC (.slice av nC ac) (dig 10000 t)) :
    DivMid w M na pa oa ca pb ob n1 cb g6 g8 g9 nega D t ((wC.setCell ⟨g9, 0, none⟩ (.bool false)).setCell ⟨g9, 1, none⟩ (.slice av nC ac)) := by
  have hl := lt_of_block b9
  have hA : Below wr.heap.size wr wA := ((Below.refl wr.heap.size wr).alloc (Nat.le_refl _) o).trans ⟨hbA.os, hbA.tape, hbA.output, hbA.size, hbA.block⟩
  have hC : Below wr.heap.size wr wC := hA.trans (hbC.mono hA.size)
  have b9C := b9.later hC hl
  have hni := b9C.noInt rfl rfl
  refine ⟨av, nC, ac, ?_, (harr.later hC harr.lt).noSet (by omega) _ _, ((hbel.trans (hC.mono hbel.size)).setCell (by show w.heap.size ≤ g9; omega) _).setCell (by show w.heap.size ≤ g9; omega) _, (b0.later hC (lt_of_block b0)).noSet (by omega) _ _, (b2.later hC (lt_of_block b2)).noSet (by omega) _ _, (b3.later hC (lt_of_block b3)).noSet (by omega) _ _, (b6.later hC (lt_of_block b6)).noSet (by omega) _ _, (hsby.later hC (Nat.le_refl _)).noSet hni _ _ rfl, b9C.set01 _ _, hsC.noSet hni _ _ rfl⟩
  intro b off he _
  subst he
  have := (Own.ownBlock hown b rfl).1
  have h8 := harr.lt
  omega

theorem div_cont (xs D : List Nat) (M i x r : Nat) (hi : i < xs.length) (hd : i < D.length) (hx : x = xs.getD i 0) (h0 : D.getD i 0 = 0)
    (h : val 10000 (xs.drop (i + 1)) = M * val 10000 (D.drop (i + 1)) + r) : val 10000 (xs.drop i) = M * val 10000 (D.drop i) + (x + 10000 * r) := by
  rw [val_drop _ xs i hi, val_drop _ D i hd, ← hx, h0, h, Nat.zero_add, Nat.mul_add, ← Nat.mul_assoc, ← Nat.mul_assoc, Nat.mul_comm M 10000]
  omega

theorem div_store (xs D : List Nat) (M i x r q t : Nat) (hi : i < xs.length) (hd : i < D.length) (hx : x = xs.getD i 0) (ht : x + 10000 * r = M * q + t)
    (h : val 10000 (xs.drop (i + 1)) = M * val 10000 (D.drop (i + 1)) + r) : val 10000 (xs.drop i) = M * val 10000 ((D.set i q).drop i) + t := by
  rw [val_drop _ xs i hi, val_drop _ (D.set i q) i (by simpa using hd), ← hx, h]
  have e1 : (D.set i q).getD i 0 = q := by simp [List.getD, hd]
  have e2 : (D.set i q).drop (i + 1) = D.drop (i + 1) := by rw [List.drop_set_of_lt (by omega)]
  rw [e1, e2, Nat.mul_add, Nat.mul_add, ← Nat.mul_assoc, ← Nat.mul_assoc, Nat.mul_comm M 10000]
  omega

theorem DivMid.later {w : World} {M na pa oa ca pb ob n1 cb g6 g8 g9 : Nat} {nega : Bool} {D : List Nat} {t : Nat} {wx wy : World} (h : DivMid w M na pa oa ca pb ob n1 cb g6 g8 g9 nega D t wx) (hb : Below wx.heap.size wx wy) : DivMid w M na pa oa ca pb ob n1 cb g6 g8 g9 nega D t wy := by
  obtain ⟨ar, nr, cr, h1, h2, h3, h4, h5, h6, h7, h8, h9, h10⟩ := h
  exact ⟨ar, nr, cr, h1, h2.later hb h2.lt, h3.trans (hb.mono h3.size), h4.later hb (lt_of_block h4), h5.later hb (lt_of_block h5), h6.later hb (lt_of_block h6), h7.later hb (lt_of_block h7), h8.later hb (Nat.le_refl _), h9.later hb (lt_of_block h9), h10.later hb (Nat.le_refl _)⟩

/-- what holds at the head of the search for a digit -/
def DivIn (w : World) (M na pa oa ca pb ob n1 cb g6 g8 g9 : Nat) (nega : Bool) (D : List Nat) (t : Nat) (low high : Value) (wx : World) : Prop :=
  ∃ lo hi : Nat, low = .int .i64 lo ∧ high = .int .i64 hi ∧ 1 ≤ lo ∧ lo ≤ hi ∧ hi ≤ 9999 ∧ M * lo ≤ t ∧ t < M * (hi + 1) ∧ DivMid w M na pa oa ca pb ob n1 cb g6 g8 g9 nega D t wx

theorem below_ofDrew {B : Nat} {w w' : World} (h : Below B w.drew w') : Below B w w' := ⟨h.os, h.tape, h.output, h.size, h.block⟩

theorem cmpN_le (a b : Nat) : decide (cmpN a b ≤ 0) = decide (a ≤ b) := by
  unfold cmpN
  by_cases h1 : a < b
  · rw [if_pos h1, decide_eq_true (by omega), decide_eq_true (by omega)]
  · rw [if_neg h1]
    by_cases h2 : b < a
    · rw [if_pos h2, decide_eq_false (by omega), decide_eq_false (by omega)]
    · rw [if_neg h2, decide_eq_true (by omega), decide_eq_true (by omega)]

theorem DivMid.store {w : World} {M na pa oa ca pb ob n1 cb g6 g8 g9 : Nat} {nega : Bool} {D : List Nat} {t : Nat} {wx : World} (h : DivMid w M na pa oa ca pb ob n1 cb g6 g8 g9 nega D t wx) (i q : Nat)
    (hpb : pb < w.heap.size) (hg6 : w.heap.size + 3 < g6) (hg8 : g6 < g8) (hg9 : g8 < g9) :
    DivMid w M na pa oa ca pb ob n1 cb g6 g8 g9 nega (D.set i q) t (wx.setCell ⟨g8, i, none⟩ (.int .i64 (q : Int))) := by
  obtain ⟨ar, nr, cr, h1, h2, h3, h4, h5, h6, h7, h8, h9, h10⟩ := h
  refine ⟨ar, nr, cr, h1, h2.set i q, h3.setCell (by show w.heap.size ≤ g8; omega) _, h4.setOther (by omega) _ _, h5.setOther (by omega) _ _, h6.setOther (by omega) _ _, h7.setOther (by omega) _ _, h8.setAway ?_ _ _, h9.setOther (by omega) _ _, h10.setAway h1 _ _⟩
  intro b off he _
  cases he
  omega

theorem end_rel (w wr wC : World) (A M na k pa oa ca pb ob n1 cb g6 g8 g9 i : Nat) (nega : Bool) (D : List Nat) (t r : Nat) (av : Option Addr) (nC ac : Nat)
    (hg6 : w.heap.size + 3 < g6) (hg8 : g6 < g8) (hg9 : g8 < g9) (h : DivMid w M na pa oa ca pb ob n1 cb g6 g8 g9 nega D t wr) (hC : Below wr.heap.size wr wC) (hsC : Sl .i64 wC (.slice av nC ac) (dig 10000 r))
    (hik : i ≤ k) (hdl : D.length = k) (hd : ∀ x ∈ D, x < 10000) (hd0 : ∀ q, q < i → D.getD q 0 = 0) (hval : val 10000 ((dig 10000 A).drop i) = M * val 10000 (D.drop i) + r) (hr : r < M) :
    DivOut w A M na k pa oa ca pb ob n1 cb g6 g8 g9 nega (.int .i64 ((i : Int) - 1)) ((wC.setCell ⟨g9, 0, none⟩ (.bool false)).setCell ⟨g9, 1, none⟩ (.slice av nC ac)) := by
  obtain ⟨ar, nr, cr, h1, h2, h3, h4, h5, h6, h7, h8, h9, h10⟩ := h
  have b9C := h9.later hC (lt_of_block h9)
  have hni := b9C.noInt rfl rfl
  exact ⟨i, D, r, av, nC, ac, rfl, hik, hdl, hd, hd0, hval, hr, (h2.later hC h2.lt).noSet (by omega) _ _, ((h3.trans (hC.mono h3.size)).setCell (by show w.heap.size ≤ g9; omega) _).setCell (by show w.heap.size ≤ g9; omega) _, (h4.later hC (lt_of_block h4)).noSet (by omega) _ _, (h5.later hC (lt_of_block h5)).noSet (by omega) _ _, (h6.later hC (lt_of_block h6)).noSet (by omega) _ _, (h7.later hC (lt_of_block h7)).noSet (by omega) _ _, (h8.later hC (Nat.le_refl _)).noSet hni _ _ rfl, b9C.set01 _ _, hsC.noSet hni _ _ rfl⟩

end Go.Proofs.YtdkjcdfkoahfkaaGreatDoor

namespace Go.Proofs.YtdkjcdfkoahfkaaGreatDoor
open Go Go.RowKit

/-- the value of the model's type, by its slice alone, of a number that is not negative -/
theorem IsZ.ofNat {w : World} {ao : Option Addr} {n c : Nat} {m : Nat} (h : IsZ w (.agg #[.bool false, .slice ao n c]) (m : Int)) : Sl .i64 w (.slice ao n c) (dig 10000 m) := by
  obtain ⟨s, h1, h2⟩ := h
  simp at h1
  subst h1
  simpa using h2

theorem IsZ.nat {w : World} {v : Value} {m : Nat} (h : IsZ w v (m : Int)) : ∃ ao n c, v = .agg #[.bool false, .slice ao n c] ∧ n = (dig 10000 m).length ∧ Sl .i64 w (.slice ao n c) (dig 10000 m) := by
  obtain ⟨ao, n, c, h1, h2, h3⟩ := h.open
  have e : decide ((m : Int) < 0) = false := by simp
  have e2 : (m : Int).natAbs = m := by simp
  rw [e] at h1
  rw [e2] at h2 h3
  exact ⟨ao, n, c, h1, h2, h3⟩

theorem IsZ.openB {w : World} {v : Value} {z : Int} (h : IsZ w v z) : ∃ bn ao n c, v = .agg #[.bool bn, .slice ao n c] ∧ IsZ w (.agg #[.bool bn, .slice ao n c]) z := by
  obtain ⟨ao, n, c, rfl, _, _⟩ := h.open
  exact ⟨_, ao, n, c, rfl, h⟩

theorem IsZ.mkNat {w : World} {ao : Option Addr} {n c : Nat} {m : Nat} (h : Sl .i64 w (.slice ao n c) (dig 10000 m)) : IsZ w (.agg #[.bool false, .slice ao n c]) (m : Int) :=
  ⟨.slice ao n c, by simp, by simpa using h⟩

set_option maxRecDepth 100000 in
set_option maxHeartbeats 2000000 in
/-- a quotient that is 0, as there are fewer digits -/
theorem zdiv_small (va vb : Value) (a b : Int) (w : World) (ha : IsZ w va a) (hb : IsZ w vb b) (hla : (dig 10000 a.natAbs).length ≤ 1000000) (hlb : (dig 10000 b.natAbs).length ≤ 1000000)
    (hless : (dig 10000 a.natAbs).length < (dig 10000 b.natAbs).length) (R : Ending → World → Prop)
    (hR : ∀ v1 v2 w', IsZ w' v1 ((a.natAbs / b.natAbs : Nat) : Int) → IsZ w' v2 ((a.natAbs % b.natAbs : Nat) : Int) → Below w.heap.size w w' → R (.returned (.tuple #[v1, v2])) w') :
    Calls Tryz.prog 212 #[va, vb] w R := by
  have hlt : a.natAbs < b.natAbs := lt_of_dig_length (B := 10000) (by omega) _ _ hless
  rw [Nat.div_eq_of_lt hlt, Nat.mod_eq_of_lt hlt] at hR
  have HR := Lib.hid hR; clear hR
  have HA := Lib.hid ha
  obtain ⟨aa, na, ca, rfl, ena, hsa⟩ := ha.open
  obtain ⟨ab, nb, cb, rfl, enb, hsb⟩ := hb.open
  rw [← ena] at hless hla
  rw [← enb] at hless hlb
  obtain ⟨nega, hnega⟩ : ∃ x, x = decide (a < 0) := ⟨_, rfl⟩
  obtain ⟨negb, hnegb⟩ : ∃ x, x = decide (b < 0) := ⟨_, rfl⟩
  rw [← hnega, ← hnegb]
  have Ena := Lib.hid ena
  have Enb := Lib.hid enb
  obtain ⟨L, hL⟩ : ∃ L, L = (((w.alloc (.cells #[.bool nega, .slice aa na ca] 67)).alloc (.cells #[.bool negb, .slice ab nb cb] 67)).alloc (.cells #[.bool false, .slice none 0 0] 67)).alloc (.cells #[.bool false, .slice none 0 0] 67) := ⟨_, rfl⟩
  have hLs : L.heap.size = w.heap.size + 4 := by rw [hL]; simp
  have B0 : Box2 L w.heap.size (.bool nega) (.slice aa na ca) 67 := by rw [hL]; exact (((Box2.made w _ _ _).alloc _).alloc _).alloc _
  have B1 : Box2 L (w.heap.size + 1) (.bool negb) (.slice ab nb cb) 67 := by rw [hL]; have := ((Box2.made (w.alloc (.cells #[.bool nega, .slice aa na ca] 67)) (.bool negb) (.slice ab nb cb) 67).alloc (.cells #[.bool false, .slice none 0 0] 67)).alloc (.cells #[.bool false, .slice none 0 0] 67); simpa using this
  have B2 : Box2 L (w.heap.size + 2) (.bool false) (.slice none 0 0) 67 := by rw [hL]; have := (Box2.made ((w.alloc (.cells #[.bool nega, .slice aa na ca] 67)).alloc (.cells #[.bool negb, .slice ab nb cb] 67)) (.bool false) (.slice none 0 0) 67).alloc (.cells #[.bool false, .slice none 0 0] 67); simpa using this
  have B3 : Box2 L (w.heap.size + 3) (.bool false) (.slice none 0 0) 67 := by rw [hL]; have := Box2.made (((w.alloc (.cells #[.bool nega, .slice aa na ca] 67)).alloc (.cells #[.bool negb, .slice ab nb cb] 67)).alloc (.cells #[.bool false, .slice none 0 0] 67)) (.bool false) (.slice none 0 0) 67; simpa using this
  have HEXT : Below w.heap.size w L := by rw [hL]; exact ((((Below.refl w.heap.size w).alloc (Nat.le_refl _) _).alloc (by simp) _).alloc (by simp; omega) _).alloc (by simp; omega) _
  have HEXT := Lib.hid HEXT
  obtain ⟨hA0, hA1, _, _⟩ := B0.cells
  obtain ⟨hB0, hB1, _, _⟩ := B1.cells
  have HL := Lib.hid hL
  clear hnega hnegb ena enb ha hb hlt hL
  go_enter Tryz.func212, Tryz.ntmps212
  go_wp2_with fail
  rw [← HL.out]
  refine cut_z false _ (dig 10000 b.natAbs) L (hsb.later HEXT.out (Nat.le_refl _)) (dig_lt (by omega) _) (by rw [← Enb.out]; omega) (b.natAbs : Int) (by rw [val_dig (by omega)]; rfl) _ ?_
  intro v1 w1 hz1 hb1
  obtain ⟨a1, n1, c1, rfl, e1, hs1⟩ := hz1.nat
  have b0 := B0.later hb1 (by omega)
  have b1 := B1.later hb1 (by omega)
  have b2 := B2.later hb1 (by omega)
  have b3 := B3.later hb1 (by omega)
  have HB1 := Lib.hid (HEXT.out.trans (hb1.mono (by omega)))
  have hsz1 := hb1.size
  clear B0 B1 B2 B3 hA0 hA1 hB0 hB1 e1 hs1 hz1 hb1
  obtain ⟨hA0, hA1, _, _⟩ := b0.cells
  obtain ⟨hB0, hB1, _, _⟩ := b1.cells
  have hk : (na : Int) - (nb : Int) + 1 < 1 := by omega
  have hl3 := lt_of_block b3
  have hl0 : w.heap.size < w1.heap.size := by omega
  have hl1 : w.heap.size + 1 < w1.heap.size := by omega
  dsimp only
  go_wp2_with fail
  obtain ⟨L2, hL2⟩ : ∃ L2, L2 = w1.alloc (.cells #[.bool false, .slice a1 n1 c1] 67) := ⟨_, rfl⟩
  rw [← hL2]
  have hb2 : Below w1.heap.size w1 L2 := by rw [hL2]; exact (Below.refl _ _).alloc (Nat.le_refl _) _
  have c2 := b2.later hb2 (by omega)
  have c3 := b3.later hb2 (by omega)
  have HB2 := Lib.hid (HB1.out.trans (hb2.mono HB1.out.size))
  clear hA0 hA1 hB0 hB1 b0 b1 b2 b3 hL2
  refine cut_z false _ (dig 10000 a.natAbs) L2 (hsa.later HB2.out (Nat.le_refl _)) (dig_lt (by omega) _) (by rw [← Ena.out]; omega) (a.natAbs : Int) (by rw [val_dig (by omega)]; rfl) _ ?_
  intro v2 w2 hz2 hb3
  obtain ⟨a2, n2, c2', rfl, e2, hs2⟩ := hz2.nat
  have hL2s := hb2.size
  have d2 := c2.later hb3 (by omega)
  have d3 := c3.later hb3 (by omega)
  have HB3 := Lib.hid (HB2.out.trans (hb3.mono HB2.out.size))
  have HS2 := Lib.hid hs2
  obtain ⟨hC0, hC1, hC2, hC3⟩ := d2.cells
  obtain ⟨hD0, hD1, hD2, hD3⟩ := d3.cells
  have hn2 := d2.noInt rfl rfl
  have hn3 := d3.noInt rfl rfl
  clear hz2 hs2 e2 c2 c3 d2 d3 hb2 hb3
  dsimp only
  go_wp2
  refine bodyPost_ret_at (by simp [results, Tryz.results212, go_sem, hC0, hC1, hD0, hD1] <;> rfl) rfl ?_
  refine HR.out _ _ _ ⟨.slice none 0 0, by simp, by rw [show ((0 : Nat) : Int).natAbs = 0 from rfl, dig_zero]; exact Sl.nil _ _ _ _⟩ (IsZ.mkNat ((((HS2.out.set hn2 0 _).set (hn2.set 0 _ rfl) 1 _).set ((hn3.set 0 _ rfl).set 1 _ rfl) 0 _).set (((hn3.set 0 _ rfl).set 1 _ rfl).set 0 _ rfl) 1 _)) ((((HB3.out.setCell (by simp <;> omega) _).setCell (by simp <;> omega) _).setCell (by simp <;> omega) _).setCell (by simp <;> omega) _)

end Go.Proofs.YtdkjcdfkoahfkaaGreatDoor
