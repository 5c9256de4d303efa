/- Contracts of functions of the program and of the model: Num, Kit, Arr, Limb, Shelf, Cut, Zof, Far. -/
import Derived.WalkKit
import Derived.WalkSpells
import Derived.Lib.Hide
import Derived.WalkSmall
import Derived.Deep.QuietTactic
import Derived.BigQuiet
import Derived.Shelf.Small.Bits
import Derived.Shelf.Small.Wraps
import Derived.Shelf.Strconv.Itoa0
import Derived.Shelf.Strconv.Itoa1
import Derived.Shelf.LaysM
import Derived.Shelf.Strconv.Itoa2
import Derived.Shelf.Strconv.Itoa3
import Derived.Shelf.Strconv.Itoa4
import Derived.Shelf.Strings.Prefix
import Derived.Shelf.Bits.Mul64
import Derived.Ground.Names2Prog
import Derived.Shelf.Slices.SearchI
import Derived.Test.YtjpbmagpieonoaaDoorProg
namespace Go.Proofs.YtjpbmagpieonoaaDoor

/-- the digits of a number to a base, from the least one on -/
def dig (B : Nat) (n : Nat) : List Nat := if _h : n = 0 ∨ B < 2 then [] else n % B :: dig B (n / B)
termination_by n
decreasing_by exact Nat.div_lt_self (by omega) (by omega)

/-- the value of a list of digits, from the least one on -/
def val (B : Nat) : List Nat → Nat
  | [] => 0
  | d :: ds => d + B * val B ds

/-- how many digits are left when the zeros at the end are dropped -/
def cutLen (xs : List Nat) : Nat → Nat
  | 0 => 0
  | n + 1 => if xs.getD n 0 = 0 then cutLen xs n else n + 1

theorem dig_zero (B : Nat) : dig B 0 = [] := by rw [dig]; simp
theorem dig_pos {B n : Nat} (hB : 2 ≤ B) (hn : n ≠ 0) : dig B n = n % B :: dig B (n / B) := by rw [dig, dif_neg (by omega)]
theorem dig_small {B n : Nat} (hn : n ≠ 0) (h : n < B) : dig B n = [n] := by
  rw [dig_pos (by omega) hn, Nat.mod_eq_of_lt h, Nat.div_eq_of_lt h, dig_zero]

theorem val_dig {B : Nat} (hB : 2 ≤ B) (n : Nat) : val B (dig B n) = n := by
  induction n using Nat.strongRecOn with
  | _ n ih =>
    by_cases hn : n = 0
    · subst hn; rw [dig_zero]; rfl
    · rw [dig_pos hB hn, val, ih (n / B) (Nat.div_lt_self (by omega) (by omega))]
      exact Nat.mod_add_div n B

theorem dig_lt {B : Nat} (hB : 2 ≤ B) (n : Nat) : ∀ d ∈ dig B n, d < B := by
  induction n using Nat.strongRecOn with
  | _ n ih =>
    by_cases hn : n = 0
    · subst hn; rw [dig_zero]; intro d h; cases h
    · rw [dig_pos hB hn]
      intro d h
      rcases List.mem_cons.1 h with h | h
      · rw [h]; exact Nat.mod_lt _ (by omega)
      · exact ih (n / B) (Nat.div_lt_self (by omega) (by omega)) d h

theorem dig_eq_nil {B n : Nat} (hB : 2 ≤ B) : dig B n = [] ↔ n = 0 := by
  constructor
  · intro h
    by_cases hn : n = 0
    · exact hn
    · rw [dig_pos hB hn] at h; cases h
  · intro h; rw [h, dig_zero]

theorem val_append (B : Nat) (xs ys : List Nat) : val B (xs ++ ys) = val B xs + B ^ xs.length * val B ys := by
  induction xs with
  | nil => simp [val]
  | cons x xs ih => simp only [List.cons_append, val, ih, List.length_cons, Nat.pow_succ, Nat.mul_add]; rw [Nat.mul_comm (B ^ xs.length) B, Nat.mul_assoc, Nat.add_assoc]

theorem val_lt {B : Nat} (xs : List Nat) (h : ∀ d ∈ xs, d < B) : val B xs < B ^ xs.length := by
  induction xs with
  | nil => simp [val]
  | cons x xs ih =>
    have hx : x < B := h x (by simp)
    have := ih (fun d hd => h d (by simp [hd]))
    have hm : B * (val B xs + 1) ≤ B * B ^ xs.length := Nat.mul_le_mul_left B this
    simp only [val, List.length_cons, Nat.pow_succ]
    rw [Nat.mul_comm (B ^ xs.length) B]
    rw [Nat.mul_add] at hm
    omega

theorem val_cons_pos {B : Nat} (x : Nat) (xs : List Nat) : val B (x :: xs) = x + B * val B xs := rfl

/-- a list of digits without a zero at its end is the list of the digits of its value -/
theorem dig_val {B : Nat} (hB : 2 ≤ B) (xs : List Nat) (h : ∀ d ∈ xs, d < B) (hl : xs.getLast? ≠ some 0) : dig B (val B xs) = xs := by
  induction xs with
  | nil => simp [val, dig_zero]
  | cons x xs ih =>
    have hx : x < B := h x (by simp)
    have hxs : ∀ d ∈ xs, d < B := fun d hd => h d (by simp [hd])
    cases xs with
    | nil =>
      have : x ≠ 0 := by intro e; subst e; simp at hl
      simp only [val, Nat.mul_zero, Nat.add_zero]
      exact dig_small this hx
    | cons y ys =>
      have ih' := ih hxs (by simpa [List.getLast?_cons_cons] using hl)
      have hne : val B (y :: ys) ≠ 0 := by
        intro e; rw [e, dig_zero] at ih'; cases ih'
      have hmul : B * 1 ≤ B * val B (y :: ys) := Nat.mul_le_mul_left B (by omega)
      rw [val_cons_pos, dig_pos hB (by omega), Nat.add_mul_mod_self_left, Nat.mod_eq_of_lt hx, Nat.add_mul_div_left _ _ (by omega), Nat.div_eq_of_lt hx, Nat.zero_add, ih']

theorem cutLen_le (xs : List Nat) (n : Nat) : cutLen xs n ≤ n := by
  induction n with
  | zero => simp [cutLen]
  | succ n ih => simp only [cutLen]; split <;> omega

theorem val_take_cut {B : Nat} (xs : List Nat) (n : Nat) : n ≤ xs.length → val B (xs.take (cutLen xs n)) = val B (xs.take n) := by
  induction n with
  | zero => intro _; simp [cutLen]
  | succ n ih =>
    intro hn
    simp only [cutLen]
    split
    · rename_i hz
      rw [ih (by omega), List.take_succ_eq_append_getElem (by omega : n < xs.length), val_append]
      have : xs[n] = 0 := by simpa [List.getD, List.getElem?_eq_getElem (by omega : n < xs.length)] using hz
      rw [this]; simp [val]
    · rfl

theorem getLast_cut (xs : List Nat) (n : Nat) : n ≤ xs.length → (xs.take (cutLen xs n)).getLast? ≠ some 0 := by
  induction n with
  | zero => intro _; simp [cutLen]
  | succ n ih =>
    intro hn
    simp only [cutLen]
    split
    · exact ih (by omega)
    · rename_i hz
      rw [List.take_succ_eq_append_getElem (by omega : n < xs.length)]
      simp only [List.getLast?_append, List.getLast?_singleton, Option.some_or]
      intro e
      apply hz
      simp [List.getD, List.getElem?_eq_getElem (by omega : n < xs.length)]
      simpa using e

/-- dropping the zeros at the end gives the digits of the value -/
theorem take_cut {B : Nat} (hB : 2 ≤ B) (xs : List Nat) (h : ∀ d ∈ xs, d < B) : xs.take (cutLen xs xs.length) = dig B (val B xs) := by
  have h1 := val_take_cut (B := B) xs xs.length (Nat.le_refl _)
  rw [List.take_length] at h1
  rw [← h1, dig_val hB _ (fun d hd => h d (List.mem_of_mem_take hd)) (getLast_cut xs _ (Nat.le_refl _))]

theorem cutLen_eq {B : Nat} (hB : 2 ≤ B) (xs : List Nat) (h : ∀ d ∈ xs, d < B) : cutLen xs xs.length = (dig B (val B xs)).length := by
  rw [← take_cut hB xs h, List.length_take]; have := cutLen_le xs xs.length; omega

theorem dig_length_le {B : Nat} (hB : 2 ≤ B) (k : Nat) : ∀ n, n < B ^ k → (dig B n).length ≤ k := by
  induction k with
  | zero => intro n hn; simp at hn; subst hn; simp [dig_zero]
  | succ k ih =>
    intro n hn
    by_cases h0 : n = 0
    · subst h0; simp [dig_zero]
    · rw [dig_pos hB h0, List.length_cons]
      have : n / B < B ^ k := by
        rw [Nat.div_lt_iff_lt_mul (by omega)]; rw [Nat.pow_succ] at hn; exact hn
      have := ih _ this
      omega

theorem lt_pow_dig {B : Nat} (hB : 2 ≤ B) (n : Nat) : n < B ^ (dig B n).length := by
  have h := val_lt (dig B n) (dig_lt hB n)
  rwa [val_dig hB] at h

/-- with a base of at least 10, a number less than a power of 10 has at most so many digits -/
theorem dig_length_ten {B : Nat} (hB : 10 ≤ B) {n e : Nat} (h : n < 10 ^ e) : (dig B n).length ≤ e :=
  dig_length_le (by omega) e n (Nat.lt_of_lt_of_le h (Nat.pow_le_pow_left hB e))

theorem dig_getD_lt {B : Nat} (hB : 2 ≤ B) (n i : Nat) : (dig B n).getD i 0 < B := by
  by_cases h : i < (dig B n).length
  · simp only [List.getD, List.getElem?_eq_getElem h, Option.getD_some]
    exact dig_lt hB n _ (List.getElem_mem h)
  · simp only [List.getD, List.getElem?_eq_none (by omega : (dig B n).length ≤ i), Option.getD_none]; omega

theorem tmod_neg_nat (a : Nat) : (-(a : Int)).tmod 10000 = -((a % 10000 : Nat) : Int) := by rw [Int.neg_tmod]; rfl
theorem tdiv_neg_nat (a : Nat) : (-(a : Int)).tdiv 10000 = -((a / 10000 : Nat) : Int) := by rw [Int.neg_tdiv]; rfl

theorem val_take_drop (B : Nat) (xs : List Nat) (k : Nat) (h : k ≤ xs.length) : val B xs = val B (xs.take k) + B ^ k * val B (xs.drop k) := by
  have := val_append B (xs.take k) (xs.drop k)
  rw [List.take_append_drop, List.length_take, Nat.min_eq_left h] at this
  exact this

theorem getD_eq {xs : List Nat} {k : Nat} (h : k < xs.length) : xs.getD k 0 = xs[k] := by simp [List.getD, List.getElem?_eq_getElem h]

theorem val_drop (B : Nat) (xs : List Nat) (k : Nat) (h : k < xs.length) : val B (xs.drop k) = xs.getD k 0 + B * val B (xs.drop (k + 1)) := by
  rw [getD_eq h, List.drop_eq_getElem_cons h]; rfl

theorem val_drop_all (B : Nat) (xs : List Nat) (k : Nat) (h : xs.length ≤ k) : val B (xs.drop k) = 0 := by
  rw [List.drop_eq_nil_of_le h]; rfl

theorem val_snoc (B : Nat) (xs : List Nat) (x : Nat) : val B (xs ++ [x]) = val B xs + B ^ xs.length * x := by
  rw [val_append]; simp [val]

theorem getD_lt {B : Nat} (hB : 0 < B) (xs : List Nat) (h : ∀ d ∈ xs, d < B) (k : Nat) : xs.getD k 0 < B := by
  by_cases hk : k < xs.length
  · rw [getD_eq hk]; exact h _ (List.getElem_mem hk)
  · simp only [List.getD, List.getElem?_eq_none (by omega : xs.length ≤ k), Option.getD_none]; exact hB

/-- the first digit from above at which two numbers of as many digits differ decides -/
theorem val_lt_at {B : Nat} (xs ys : List Nat) (hx : ∀ d ∈ xs, d < B) (i : Nat) (hi : i < xs.length) (hj : i < ys.length)
    (hd : xs.drop (i + 1) = ys.drop (i + 1)) (h : xs.getD i 0 < ys.getD i 0) : val B xs < val B ys := by
  rw [val_take_drop B xs i (by omega), val_take_drop B ys i (by omega), val_drop B xs i hi, val_drop B ys i hj, hd]
  have h1 := val_lt (B := B) (xs.take i) (fun d hd => hx d (List.mem_of_mem_take hd))
  rw [List.length_take, Nat.min_eq_left (by omega)] at h1
  have h2 : B ^ i * (xs.getD i 0 + B * val B (ys.drop (i + 1)) + 1) ≤ B ^ i * (ys.getD i 0 + B * val B (ys.drop (i + 1))) := Nat.mul_le_mul_left _ (by omega)
  rw [Nat.mul_add, Nat.mul_one] at h2
  omega

/-- a number with fewer digits is less -/
theorem lt_of_dig_length {B : Nat} (hB : 2 ≤ B) (a b : Nat) (h : (dig B a).length < (dig B b).length) : a < b := by
  rcases Nat.lt_or_ge a b with h1 | h1
  · exact h1
  · exfalso
    have := lt_pow_dig hB a
    have := dig_length_le hB _ b (Nat.lt_of_le_of_lt h1 this)
    omega

/-- -1, 0 or 1 -/
def cmpN (a b : Nat) : Int := if a < b then -1 else if b < a then 1 else 0

end Go.Proofs.YtjpbmagpieonoaaDoor

namespace Go.Proofs.YtjpbmagpieonoaaDoor
open Go Go.RowKit

/-- numbers as values of a kind -/
def nums (k : IntKind) (xs : List Nat) : List Value := xs.map fun x => .int k ((x : Nat) : Int)

theorem nums_length (k : IntKind) (xs : List Nat) : (nums k xs).length = xs.length := by simp [nums]
theorem nums_get (k : IntKind) (xs : List Nat) (i : Nat) (h : i < xs.length) : (nums k xs)[i]? = some (.int k ((xs.getD i 0 : Nat) : Int)) := by
  simp [nums, List.getD, List.getElem?_eq_getElem h]
theorem nums_append (k : IntKind) (xs ys : List Nat) : nums k (xs ++ ys) = nums k xs ++ nums k ys := by simp [nums]

theorem bcell {B : Nat} {W w1 : World} (hb : Below B W w1) : (∀ b o, b < B → w1.cell? ⟨b, o, none⟩ = W.cell? ⟨b, o, none⟩) ∧ (∀ b o, b < B → w1.frozen? ⟨b, o, none⟩ = W.frozen? ⟨b, o, none⟩) :=
  ⟨fun b o h => hb.cell (p := ⟨b, o, none⟩) h, fun b o h => hb.frozen (p := ⟨b, o, none⟩) h⟩

/-- behind a callee that changes nothing that there was, what was so below B is so -/
theorem belowThen {B : Nat} {w W w1 : World} (h : Below B w W) (hB : B ≤ W.heap.size) (hb : Below W.heap.size W w1) : Below B w w1 := h.trans (hb.mono hB)

theorem below_draws {B : Nat} {w w' : World} (h : Below B w w') (n : Nat) : Below B w (w'.drewN n) := below_drewN h n

/-- a slice value reads as a list of numbers -/
def Sl (k : IntKind) (w : World) (v : Value) (xs : List Nat) : Prop :=
  ∃ ao cap, v = .slice ao xs.length cap ∧ xs.length ≤ cap ∧ ∀ i, i < xs.length → ∃ b off, ao = some ⟨b, off, none⟩ ∧ b < w.heap.size ∧ w.cell? ⟨b, off + i, none⟩ = some (.int k ((xs.getD i 0 : Nat) : Int))

theorem Sl.later {k : IntKind} {w w' : World} {v : Value} {xs : List Nat} {B : Nat} (h : Sl k w v xs) (hb : Below B w w') (hB : w.heap.size ≤ B) : Sl k w' v xs := by
  obtain ⟨ao, cap, hv, hc, hx⟩ := h
  refine ⟨ao, cap, hv, hc, fun i hi => ?_⟩
  obtain ⟨b, off, h1, h2, h3⟩ := hx i hi
  exact ⟨b, off, h1, Nat.lt_of_lt_of_le h2 hb.size, by rw [hb.cell (p := ⟨b, off + i, none⟩) (by exact Nat.lt_of_lt_of_le h2 hB)]; exact h3⟩

theorem Sl.alloc {k : IntKind} {w : World} {v : Value} {xs : List Nat} (h : Sl k w v xs) (o : Obj) : Sl k (w.alloc o) v xs :=
  h.later ((Below.refl w.heap.size w).alloc (Nat.le_refl _) o) (Nat.le_refl _)

theorem Sl.nil (k : IntKind) (w : World) (ao : Option Addr) (cap : Nat) : Sl k w (.slice ao 0 cap) [] := ⟨ao, cap, rfl, Nat.zero_le _, fun i hi => absurd hi (by simp)⟩

/-- either there is nothing, or the cells lie one behind the other in a block that is there -/
theorem Sl.cases {k : IntKind} {w : World} {v : Value} {xs : List Nat} (h : Sl k w v xs) :
    (xs = [] ∧ ∃ ao cap, v = .slice ao 0 cap) ∨
    (0 < xs.length ∧ ∃ b off cap, v = .slice (some ⟨b, off, none⟩) xs.length cap ∧ xs.length ≤ cap ∧ b < w.heap.size ∧ ∀ i, i < xs.length → w.cell? ⟨b, off + i, none⟩ = some (.int k ((xs.getD i 0 : Nat) : Int))) := by
  obtain ⟨ao, cap, hv, hc, hx⟩ := h
  by_cases h0 : xs.length = 0
  · have : xs = [] := List.length_eq_zero_iff.1 h0
    subst this
    exact .inl ⟨rfl, ao, cap, hv⟩
  · obtain ⟨b, off, h1, h2, _⟩ := hx 0 (by omega)
    subst h1
    refine .inr ⟨by omega, b, off, cap, hv, hc, h2, fun i hi => ?_⟩
    obtain ⟨b', off', h1', _, h3'⟩ := hx i hi
    cases h1'
    exact h3'

theorem Sl.len {k : IntKind} {w : World} {ao : Option Addr} {n cap : Nat} {xs : List Nat} (h : Sl k w (.slice ao n cap) xs) : n = xs.length := by
  obtain ⟨_, _, hv, _, _⟩ := h
  simp only [Value.slice.injEq] at hv
  exact hv.2.1

theorem Sl.cap {k : IntKind} {w : World} {ao : Option Addr} {n cap : Nat} {xs : List Nat} (h : Sl k w (.slice ao n cap) xs) : n ≤ cap := by
  obtain ⟨_, _, hv, hc, _⟩ := h
  simp only [Value.slice.injEq] at hv
  rw [hv.2.1, hv.2.2]; exact hc

/-- where an element lies -/
theorem Sl.at {k : IntKind} {w : World} {ao : Option Addr} {n cap : Nat} {xs : List Nat} (h : Sl k w (.slice ao n cap) xs) (i : Nat) (hi : i < n) :
    ∃ b off, ao = some ⟨b, off, none⟩ ∧ b < w.heap.size ∧ w.cell? ⟨b, off + i, none⟩ = some (.int k ((xs.getD i 0 : Nat) : Int)) := by
  have hl := h.len
  obtain ⟨_, _, hv, _, hx⟩ := h
  simp only [Value.slice.injEq] at hv
  rw [hv.1]
  exact hx i (by omega)

theorem Sl.mk {k : IntKind} {w : World} {b off cap n : Nat} {xs : List Nat} (hn : n = xs.length) (hc : n ≤ cap) (hb : b < w.heap.size)
    (hx : ∀ i, i < xs.length → w.cell? ⟨b, off + i, none⟩ = some (.int k ((xs.getD i 0 : Nat) : Int))) : Sl k w (.slice (some ⟨b, off, none⟩) n cap) xs := by
  subst hn
  exact ⟨_, cap, rfl, hc, fun i hi => ⟨b, off, rfl, hb, hx i hi⟩⟩

/-- the first of them -/
theorem Sl.take {k : IntKind} {w : World} {b off cap : Nat} {xs : List Nat} (n : Nat) (hn : n ≤ xs.length) (hc : xs.length ≤ cap) (hb : b < w.heap.size)
    (hx : ∀ i, i < xs.length → w.cell? ⟨b, off + i, none⟩ = some (.int k ((xs.getD i 0 : Nat) : Int))) : Sl k w (.slice (some ⟨b, off, none⟩) n cap) (xs.take n) := by
  refine Sl.mk (by simp; omega) (by omega) hb (fun i hi => ?_)
  have hi' : i < n := by simp at hi; omega
  rw [hx i (by omega)]
  simp [List.getD, hi']

/-- a slice that the call has made itself, from block B on -/
def Own (k : IntKind) (e : TypeId) (w : World) (B : Nat) (v : Value) (xs : List Nat) : Prop := w.ownsRow B e 1 v xs.length (nums k xs)

theorem Own.nil (k : IntKind) (e : TypeId) (w : World) (B : Nat) : Own k e w B (.slice none 0 0) [] := World.ownsRow_nil _ _ _ _

theorem Own.lit (k : IntKind) (e : TypeId) (w : World) (B : Nat) (hB : B ≤ w.heap.size) : Own k e (w.alloc (.cells #[] e)) B (.slice (some ⟨w.heap.size, 0, none⟩) 0 0) [] := by
  have := World.ownsRow_made (base := B) (e := e) (size := 1) w #[] 0 hB (by simp) (by simp)
  simpa [Own, nums] using this

theorem Own.lit1 (k : IntKind) (e : TypeId) (w : World) (B x : Nat) (z : Int) (hz : z = (x : Int)) (hB : B ≤ w.heap.size) : Own k e (w.alloc (.cells #[.int k z] e)) B (.slice (some ⟨w.heap.size, 0, none⟩) 1 1) [x] := by
  subst hz
  refine ⟨by simp [nums], .inr ⟨w.heap.size, 1, #[.int k (x : Int)], rfl, hB, ?_, by simp, by simp only [maxLen]; omega, by simp, by simp [nums]⟩⟩
  show (w.heap.push _)[_]? = _
  simp

theorem Own.sl {k : IntKind} {e : TypeId} {w : World} {B : Nat} {v : Value} {xs : List Nat} (h : Own k e w B v xs) : Sl k w v xs := by
  obtain ⟨h1, h2⟩ := h
  rcases h2 with ⟨rfl, h2⟩ | ⟨g, cap, cur, rfl, hg, hh, hn, hm, hs, ht⟩
  · have : xs = [] := List.length_eq_zero_iff.1 h2
    subst this; exact Sl.nil _ _ _ _
  · refine Sl.mk rfl hn (by obtain ⟨h, _⟩ := Array.getElem?_eq_some_iff.1 hh; exact h) (fun i hi => ?_)
    have hi2 : (nums k xs)[i]? = some (.int k ((xs.getD i 0 : Nat) : Int)) := nums_get k xs i hi
    rw [← ht] at hi2
    simp only [World.cell?, hh]
    rw [List.getElem?_take] at hi2
    split at hi2
    · simp only [Option.isSome_none, Bool.false_eq_true, if_false, Nat.zero_add]
      rw [← Array.getElem?_toList]; exact hi2
    · cases hi2

theorem Own.alloc {k : IntKind} {e : TypeId} {w : World} {B : Nat} {v : Value} {xs : List Nat} (h : Own k e w B v xs) (o : Obj) : Own k e (w.alloc o) B v xs := World.ownsRow.alloc h o

theorem Own.ownBlock {k : IntKind} {e : TypeId} {w : World} {B : Nat} {v : Value} {xs : List Nat} (h : Own k e w B v xs) : ∀ g, v.ownBlock = some g → B ≤ g ∧ g < w.heap.size := World.ownsRow.lt h

/-- an owned slice behind changes of other blocks from some block on -/
theorem Own.later {k : IntKind} {e : TypeId} {w w' : World} {B B' : Nat} {v : Value} {xs : List Nat} (h : Own k e w B v xs) (hb : Below B' w w') (hB : w.heap.size ≤ B') : Own k e w' B v xs :=
  World.ownsRow.kept (row := none) h ⟨hb.os, hb.tape, hb.output, hb.size, fun k hk _ => hb.block k (Nat.lt_of_lt_of_le hk hB)⟩ (by
    by_cases h0 : v.ownBlock = none
    · exact .inl h0
    · exact .inr h0)

/-- one element is appended to a slice that the call has made -/
theorem wpList_push {P : Program} {w : World} {ops : Array Oper} {rest : List Oper} {o : Oper} {a : Act} {Q : Exit → Act → World → Prop} (hgd : o.guard = none) (s x : Operand) (t : TypeId)
    (ho : o.op = .call { callee := .builtin .append, args := #[s, x], argTypes := #[t, t] })
    (e : TypeId) (k : IntKind) (bytes : Nat) (ht : P.underlying t = some (.slice e)) (hi : (P.info? e).map (fun i => (i.zero, i.size, i.bytes)) = some (some (.int k 0), 1, bytes)) (hby : bytes ≤ 16)
    (B : Nat) (v : Value) (xs : List Nat) (n : Nat) (hs : a.eval s = v) (hown : Own k e w B v xs)
    (g : Nat) (hx : a.eval x = .slice (some ⟨g, 0, none⟩) 1 1) (hg : w.cell? ⟨g, 0, none⟩ = some (.int k ((n : Nat) : Int)))
    (hlen : xs.length ≤ 100000000) (hB : B ≤ w.heap.size)
    (h : ∀ v' w', Own k e w' B v' (xs ++ [n]) → Below B w w' → wpList P ops Q rest (a.put o.dst v') w') : wpList P ops Q (o :: rest) a w := by
  obtain ⟨i0, hi0, hz0, hz1, hz2⟩ := info_parts hi
  refine wpList_append_own w hgd s x t ho B e i0 (.int k 0) 1 bytes ht hi0 hz0 hz1 hz2 rfl (by decide) v xs.length (nums k xs) hs hown ⟨g, 0, none⟩ 1 1 [.int k ((n : Nat) : Int)] hx rfl ?_ ?_ ?_ ?_ hB ?_
  · intro j u hj
    match j, hj with
    | 0, hj => simp at hj; subst hj; simpa [Addr.add] using hg
  · intro u hu; simp at hu; subst hu; rfl
  · simp only [maxLen]; omega
  · have : (xs.length + 1) * bytes ≤ (xs.length + 1) * 16 := Nat.mul_le_mul_left _ hby
    omega
  · intro v' w' hown' hgrow _
    refine h v' w' ?_ ?_
    · simpa [Own, nums] using hown'
    · refine (Below.refl B w).grown hgrow hB (fun g' hg' => ?_)
      exact (Own.ownBlock hown g' hg').1

/-- the end of a function whose result lies in memory; the value is what the run says -/
theorem bodyPost_ret_at {P : Program} {fn : Func} {R : Ending → World → Prop} {a : Act} {w : World} {v : Value}
    (hr : (results fn a.tmps).run P w = .ok v w) (hd : a.defers = []) (hR : R (.returned v) w) : bodyPost P fn R .ret a w := ⟨hd, v, hr, hR⟩

/-- the same where the number is reckoned as an integer -/
theorem wpList_pushz {P : Program} {w : World} {ops : Array Oper} {rest : List Oper} {o : Oper} {a : Act} {Q : Exit → Act → World → Prop} (hgd : o.guard = none) (s x : Operand) (t : TypeId)
    (ho : o.op = .call { callee := .builtin .append, args := #[s, x], argTypes := #[t, t] })
    (e : TypeId) (k : IntKind) (bytes : Nat) (ht : P.underlying t = some (.slice e)) (hi : (P.info? e).map (fun i => (i.zero, i.size, i.bytes)) = some (some (.int k 0), 1, bytes)) (hby : bytes ≤ 16)
    (B : Nat) (v : Value) (xs : List Nat) (n : Nat) (z : Int) (hz : z = (n : Int)) (hs : a.eval s = v) (hown : Own k e w B v xs)
    (g : Nat) (hx : a.eval x = .slice (some ⟨g, 0, none⟩) 1 1) (hg : w.cell? ⟨g, 0, none⟩ = some (.int k z))
    (hlen : xs.length ≤ 100000000) (hB : B ≤ w.heap.size)
    (h : ∀ v' w', Own k e w' B v' (xs ++ [n]) → Below B w w' → wpList P ops Q rest (a.put o.dst v') w') : wpList P ops Q (o :: rest) a w := by
  subst hz
  exact wpList_push hgd s x t ho e k bytes ht hi hby B v xs n hs hown g hx hg hlen hB h

/-- a value that is no number -/
def notInt : Value → Bool
  | .int _ _ => false
  | _ => true

/-- no cell of a block holds a number: so a list of numbers does not lie there -/
def NoInt (w : World) (b : Nat) : Prop := ∀ o u, w.cell? ⟨b, o, none⟩ = some u → notInt u = true

theorem cell?_set (w : World) (b o c q : Nat) (u : Value) : (w.setCell ⟨b, o, none⟩ u).cell? ⟨c, q, none⟩ = if c = b ∧ q = o then (w.cell? ⟨c, q, none⟩).map (fun _ => u) else w.cell? ⟨c, q, none⟩ := by
  simp only [World.cell?, World.setCell, Array.getElem?_modify]
  by_cases hc : c = b
  · subst hc
    simp only [true_and, if_true]
    cases hh : w.heap[c]? with
    | none => simp
    | some ob =>
      cases ob <;> simp
      rename_i cs t f
      by_cases hq : q = o
      · subst hq
        simp only [if_true]
        rw [Array.getElem?_setIfInBounds]
        simp only [if_true]
        split
        · rename_i hlt; rw [Array.getElem?_eq_getElem hlt]; rfl
        · rename_i hlt; rw [Array.getElem?_eq_none (by omega)]; rfl
      · rw [Array.getElem?_setIfInBounds_ne (fun e => hq e.symm), if_neg hq]
  · simp only [hc, false_and, if_false]
    rw [if_neg (fun e => hc e.symm)]

theorem NoInt.set {w : World} {b : Nat} (h : NoInt w b) (o c : Nat) {u : Value} (hu : notInt u = true) : NoInt (w.setCell ⟨c, o, none⟩ u) b := by
  intro q x hx
  rw [cell?_set] at hx
  split at hx
  · cases hw : w.cell? ⟨b, q, none⟩ with
    | none => rw [hw] at hx; cases hx
    | some y => rw [hw] at hx; simp at hx; subst hx; exact hu
  · exact h q x hx

theorem heap_size_set (w : World) (a : Addr) (u : Value) : (w.setCell a u).heap.size = w.heap.size := by simp [World.setCell]

/-- a store into a block without numbers leaves a list of numbers as it is -/
theorem Sl.set {k : IntKind} {w : World} {v : Value} {xs : List Nat} (h : Sl k w v xs) {b : Nat} (hb : NoInt w b) (o : Nat) (u : Value) : Sl k (w.setCell ⟨b, o, none⟩ u) v xs := by
  obtain ⟨ao, cap, hv, hc, hx⟩ := h
  refine ⟨ao, cap, hv, hc, fun i hi => ?_⟩
  obtain ⟨c, off, h1, h2, h3⟩ := hx i hi
  refine ⟨c, off, h1, by rw [heap_size_set]; exact h2, ?_⟩
  rw [cell?_set, if_neg]
  · exact h3
  · rintro ⟨rfl, _⟩
    have := hb _ _ h3
    cases this

/-- a block of two cells -/
def Box2 (w : World) (b : Nat) (u v : Value) (t : TypeId) : Prop := w.heap[b]? = some (.cells #[u, v] t (0, 0))
theorem Box2.cells {w : World} {b : Nat} {u v : Value} {t : TypeId} (h : Box2 w b u v t) :
    w.cell? ⟨b, 0, none⟩ = some u ∧ w.cell? ⟨b, 1, none⟩ = some v ∧ w.frozen? ⟨b, 0, none⟩ = false ∧ w.frozen? ⟨b, 1, none⟩ = false := by
  unfold Box2 at h
  simp [World.cell?, World.frozen?, h]
theorem Box2.noInt {w : World} {b : Nat} {u v : Value} {t : TypeId} (h : Box2 w b u v t) (hu : notInt u = true) (hv : notInt v = true) : NoInt w b := by
  intro o x hx
  unfold Box2 at h
  simp only [World.cell?, h, Option.isSome_none, Bool.false_eq_true, if_false] at hx
  match o, hx with
  | 0, hx => simp at hx; subst hx; exact hu
  | 1, hx => simp at hx; subst hx; exact hv
  | (n + 2), hx => simp at hx
theorem Box2.later {w w' : World} {b : Nat} {u v : Value} {t : TypeId} {B : Nat} (h : Box2 w b u v t) (hb : Below B w w') (hB : b < B) : Box2 w' b u v t := by
  unfold Box2 at *; rw [hb.block b hB]; exact h
theorem Box2.alloc {w : World} {b : Nat} {u v : Value} {t : TypeId} (h : Box2 w b u v t) (o : Obj) : Box2 (w.alloc o) b u v t :=
  h.later ((Below.refl w.heap.size w).alloc (Nat.le_refl _) o) (lt_of_block h)
theorem Box2.drewN {w : World} {b : Nat} {u v : Value} {t : TypeId} (h : Box2 w b u v t) (n : Nat) : Box2 (w.drewN n) b u v t := h
theorem Box2.made (w : World) (u v : Value) (t : TypeId) : Box2 (w.alloc (.cells #[u, v] t)) w.heap.size u v t := by
  show (w.heap.push _)[_]? = _
  simp

end Go.Proofs.YtjpbmagpieonoaaDoor

namespace Go.Proofs.YtjpbmagpieonoaaDoor
open Go Go.RowKit

/-- a block holds these numbers and nothing else -/
def Arr (k : IntKind) (e : TypeId) (w : World) (g : Nat) (xs : List Nat) : Prop := w.heap[g]? = some (.cells (nums k xs).toArray e (0, 0))

theorem Arr.lt {k : IntKind} {e : TypeId} {w : World} {g : Nat} {xs : List Nat} (h : Arr k e w g xs) : g < w.heap.size := lt_of_block h

theorem Arr.cell {k : IntKind} {e : TypeId} {w : World} {g : Nat} {xs : List Nat} (h : Arr k e w g xs) (i : Nat) (hi : i < xs.length) : w.cell? ⟨g, i, none⟩ = some (.int k ((xs.getD i 0 : Nat) : Int)) := by
  unfold Arr at h
  simp only [World.cell?, h, Option.isSome_none, Bool.false_eq_true, if_false, List.getElem?_toArray]
  exact nums_get k xs i hi

theorem Arr.frozen {k : IntKind} {e : TypeId} {w : World} {g : Nat} {xs : List Nat} (h : Arr k e w g xs) (i : Nat) : w.frozen? ⟨g, i, none⟩ = false := by
  unfold Arr at h
  simp [World.frozen?, h]

theorem Arr.set {k : IntKind} {e : TypeId} {w : World} {g : Nat} {xs : List Nat} (h : Arr k e w g xs) (i x : Nat) : Arr k e (w.setCell ⟨g, i, none⟩ (.int k (x : Int))) g (xs.set i x) := by
  unfold Arr at *
  simp only [World.setCell, Array.getElem?_modify, h, if_true, Option.map_some]
  congr 2
  simp [nums, List.map_set]

theorem Arr.setz {k : IntKind} {e : TypeId} {w : World} {g : Nat} {xs : List Nat} (h : Arr k e w g xs) (i x : Nat) (z : Int) (hz : z = (x : Int)) : Arr k e (w.setCell ⟨g, i, none⟩ (.int k z)) g (xs.set i x) := by
  subst hz; exact h.set i x

theorem Arr.other {k : IntKind} {e : TypeId} {w : World} {g : Nat} {xs : List Nat} (h : Arr k e w g xs) {g' : Nat} (hg : g ≠ g') (i : Nat) (u : Value) : Arr k e (w.setCell ⟨g', i, none⟩ u) g xs := by
  unfold Arr at *
  rw [Below.heap_setCell _ _ _ _ hg]; exact h

theorem Arr.later {k : IntKind} {e : TypeId} {w w' : World} {g : Nat} {xs : List Nat} (h : Arr k e w g xs) {B : Nat} (hb : Below B w w') (hB : g < B) : Arr k e w' g xs := by
  unfold Arr at *; rw [hb.block g hB]; exact h

theorem Arr.drewN {k : IntKind} {e : TypeId} {w : World} {g : Nat} {xs : List Nat} (h : Arr k e w g xs) (n : Nat) : Arr k e (w.drewN n) g xs := h

theorem Arr.alloc {k : IntKind} {e : TypeId} {w : World} {g : Nat} {xs : List Nat} (h : Arr k e w g xs) (o : Obj) : Arr k e (w.alloc o) g xs :=
  h.later ((Below.refl w.heap.size w).alloc (Nat.le_refl _) o) h.lt

/-- a slice of it -/
theorem Arr.sub {k : IntKind} {e : TypeId} {w : World} {g : Nat} {xs : List Nat} (h : Arr k e w g xs) (off n cap : Nat) (hn : off + n ≤ xs.length) (hc : n ≤ cap) : Sl k w (.slice (some ⟨g, off, none⟩) n cap) ((xs.drop off).take n) := by
  refine Sl.mk (by simp; omega) hc h.lt (fun i hi => ?_)
  have hi' : i < n := by simp at hi; omega
  rw [h.cell (off + i) (by omega)]
  simp [List.getD, List.getElem?_take, List.getElem?_drop, hi']

theorem Arr.sl {k : IntKind} {e : TypeId} {w : World} {g : Nat} {xs : List Nat} (h : Arr k e w g xs) (n cap : Nat) (hn : n = xs.length) (hc : n ≤ cap) : Sl k w (.slice (some ⟨g, 0, none⟩) n cap) xs := by
  have := h.sub 0 n cap (by omega) hc
  rw [List.drop_zero, List.take_of_length_le (by omega)] at this
  exact this

/-- another list of numbers stays as it is where a block that is known whole is written, if that lies elsewhere -/
theorem Sl.setOther {k : IntKind} {w : World} {v : Value} {xs : List Nat} {B : Nat} {w0 : World} (h : Sl k w0 v xs) (hb : Below B w0 w) (hB : w0.heap.size ≤ B) : Sl k w v xs := h.later hb hB

/-- make with a length that is a number of the walk's -/
theorem wpList_makez {P : Program} (w : World) {ops : Array Oper} {rest : List Oper} {o : Oper} {a : Act} {Q : Exit → Act → World → Prop}
    (hg : o.guard = none) (l : Operand) (t : TypeId) (hop : o.op = Op.makeSlice t l l)
    (e : TypeId) (k : IntKind) (bytes : Nat) (h1 : P.underlying t = some (.slice e)) (hi : (P.info? e).map (fun i => (i.zero, i.size, i.bytes)) = some (some (.int k 0), 1, bytes)) (hby : bytes ≤ 16)
    (kl : IntKind) (L : Int) (n : Nat) (hl : a.eval l = .int kl L) (hL : L = (n : Int)) (hn : n ≤ 1000000000000)
    (hK : ∀ w', Arr k e w' w.heap.size (List.replicate n 0) → Below w.heap.size w w' → w'.heap.size = w.heap.size + 1 → wpList P ops Q rest (a.put o.dst (.slice (some ⟨w.heap.size, 0, none⟩) n n)) w') :
    wpList P ops Q (o :: rest) a w := by
  obtain ⟨i0, hi0, hz0, hz1, hz2⟩ := info_parts hi
  refine wpList_plain hg fun K hK' => ?_
  subst hL
  have hb : (i0.bytes : Int) * (n : Int) ≤ 281474976710656 := by
    rw [hz2]
    have : bytes * n ≤ 16 * n := Nat.mul_le_mul_right n hby
    have h2 : ((bytes * n : Nat) : Int) ≤ 281474976710656 := by omega
    rwa [Int.natCast_mul] at h2
  have hr := run_make (P := P) w t e i0 (.int k 0) h1 hi0 hz0 kl kl n n (by omega) (Int.le_refl _) hb (by omega)
  simp only [Int.toNat_natCast, hz1, Nat.mul_one] at hr
  unfold Oper.wp
  simp [execOp, hop, hl, hr, Result.andThen]
  refine hK' _ _ (hK _ ?_ ?_ ?_)
  · show (w.heap.push _)[_]? = _
    rw [Array.getElem?_push, if_pos rfl]
    congr 2
    apply Array.toList_inj.1
    have h3 := toList_madeCells_one (.int k 0) n
    simp only [Value.cells] at h3 ⊢
    rw [h3]
    simp [nums]
  · exact (Below.refl _ _).alloc (Nat.le_refl _) _
  · simp

end Go.Proofs.YtjpbmagpieonoaaDoor

namespace Go.Proofs.YtjpbmagpieonoaaDoor

theorem val_setN (B : Nat) (xs : List Nat) (i z : Nat) (h : i < xs.length) : val B (xs.set i z) + B ^ i * xs.getD i 0 = val B xs + B ^ i * z := by
  induction xs generalizing i with
  | nil => simp at h
  | cons x xs ih =>
    cases i with
    | zero => simp [val]; omega
    | succ i =>
      have := ih i (by simpa using h)
      simp only [List.set_cons_succ, val, List.getD_cons_succ, Nat.pow_succ]
      have h2 : B * (val B (xs.set i z) + B ^ i * xs.getD i 0) = B * (val B xs + B ^ i * z) := by rw [this]
      rw [Nat.mul_add, Nat.mul_add] at h2
      rw [Nat.mul_comm (B ^ i) B, Nat.mul_assoc, Nat.mul_assoc]
      omega

theorem val_take_succ (B : Nat) (xs : List Nat) (k : Nat) (h : k < xs.length) : val B (xs.take (k + 1)) = val B (xs.take k) + B ^ k * xs.getD k 0 := by
  rw [List.take_succ_eq_append_getElem h, val_snoc, List.length_take, Nat.min_eq_left (by omega), getD_eq h]

/-- a round of adding a multiple -/
theorem addp_step (B : Nat) (cur rs ys : List Nat) (off k f c z c' : Nat) (hk : k < ys.length) (hi : off + k < cur.length)
    (hz : z + B * c' = cur.getD (off + k) 0 + ys.getD k 0 * f + c) (h : val B cur + B ^ (off + k) * c = val B rs + B ^ off * (f * val B (ys.take k))) :
    val B (cur.set (off + k) z) + B ^ (off + (k + 1)) * c' = val B rs + B ^ off * (f * val B (ys.take (k + 1))) := by
  have h1 := val_setN B cur (off + k) z hi
  rw [val_take_succ B ys k hk]
  have h2 : B ^ (off + k) * (z + B * c') = B ^ (off + k) * (cur.getD (off + k) 0 + ys.getD k 0 * f + c) := by rw [hz]
  have e1 : B ^ (off + (k + 1)) = B ^ (off + k) * B := by rw [← Nat.add_assoc, Nat.pow_succ]
  have e2 : B ^ (off + k) = B ^ off * B ^ k := Nat.pow_add ..
  generalize cur.getD (off + k) 0 = x at *
  generalize ys.getD k 0 = y at *
  grind

/-- a round of taking a multiple away -/
theorem takep_step (B : Nat) (cur rs ys : List Nat) (off k f c z c' : Nat) (hk : k < ys.length) (hi : off + k < cur.length)
    (hz : z + ys.getD k 0 * f + c = cur.getD (off + k) 0 + B * c') (h : val B cur + B ^ off * (f * val B (ys.take k)) = val B rs + B ^ (off + k) * c) :
    val B (cur.set (off + k) z) + B ^ off * (f * val B (ys.take (k + 1))) = val B rs + B ^ (off + (k + 1)) * c' := by
  have h1 := val_setN B cur (off + k) z hi
  rw [val_take_succ B ys k hk]
  have h2 : B ^ (off + k) * (z + ys.getD k 0 * f + c) = B ^ (off + k) * (cur.getD (off + k) 0 + B * c') := by rw [hz]
  have e1 : B ^ (off + (k + 1)) = B ^ (off + k) * B := by rw [← Nat.add_assoc, Nat.pow_succ]
  have e2 : B ^ (off + k) = B ^ off * B ^ k := Nat.pow_add ..
  generalize cur.getD (off + k) 0 = x at *
  generalize ys.getD k 0 = y at *
  grind

/-- high and low words of a product with something that is carried -/
theorem mul_carry {B x y c : Nat} (hx : x < B) (hy : y < B) (hc : c < B) : (x * y) / B + ((x * y) % B + c) / B < B ∧ ((x * y) % B + c) % B + B * ((x * y) / B + ((x * y) % B + c) / B) = x * y + c := by
  have hB : 0 < B := by omega
  have h1 := Nat.div_add_mod (x * y) B
  have h2 := Nat.div_add_mod ((x * y) % B + c) B
  have h3 : x * y + c < B * B := by
    have : x * y ≤ (B - 1) * (B - 1) := Nat.mul_le_mul (by omega) (by omega)
    have e : (B - 1) * (B - 1) + (B - 1) + (B - 1) + 1 = B * B := by
      obtain ⟨b, rfl⟩ : ∃ b, B = b + 1 := ⟨B - 1, by omega⟩
      simp only [Nat.add_sub_cancel]; grind
    omega
  have e : ((x * y) % B + c) % B + B * ((x * y) / B + ((x * y) % B + c) / B) = x * y + c := by rw [Nat.mul_add]; omega
  refine ⟨?_, e⟩
  apply Nat.lt_of_mul_lt_mul_left (a := B)
  omega

theorem mul_carry2 {B x y c d : Nat} (hx : x < B) (hy : y < B) (hc : c < B) (hd : d < B) :
    (x * y) / B + ((x * y) % B + c) / B + (d + ((x * y) % B + c) % B) / B < B ∧ (d + ((x * y) % B + c) % B) % B + B * ((x * y) / B + ((x * y) % B + c) / B + (d + ((x * y) % B + c) % B) / B) = d + x * y + c := by
  have hB : 0 < B := by omega
  obtain ⟨h1, h2⟩ := mul_carry hx hy hc
  generalize (x * y) / B + ((x * y) % B + c) / B = h at *
  generalize ((x * y) % B + c) % B = l at *
  have h3 := Nat.div_add_mod (d + l) B
  have h4 : d + (x * y + c) < B * B := by
    have : x * y ≤ (B - 1) * (B - 1) := Nat.mul_le_mul (by omega) (by omega)
    have e : (B - 1) * (B - 1) + (B - 1) + (B - 1) + 1 = B * B := by
      obtain ⟨b, rfl⟩ : ∃ b, B = b + 1 := ⟨B - 1, by omega⟩
      simp only [Nat.add_sub_cancel]; grind
    omega
  have e : (d + l) % B + B * (h + (d + l) / B) = d + x * y + c := by rw [Nat.mul_add]; omega
  refine ⟨?_, e⟩
  apply Nat.lt_of_mul_lt_mul_left (a := B)
  omega

theorem take_borrow {B x y c d : Nat} (hx : x < B) (hy : y < B) (hc : c < B) (hd : d < B) :
    (if d < ((x * y) % B + c) % B then
      (x * y) / B + ((x * y) % B + c) / B + 1 < B ∧ (d + B - ((x * y) % B + c) % B) + x * y + c = d + B * ((x * y) / B + ((x * y) % B + c) / B + 1)
     else (d - ((x * y) % B + c) % B) + x * y + c = d + B * ((x * y) / B + ((x * y) % B + c) / B)) := by
  have hB : 0 < B := by omega
  obtain ⟨h1, h2⟩ := mul_carry hx hy hc
  have hm := Nat.mod_lt ((x * y) % B + c) hB
  generalize hh : (x * y) / B + ((x * y) % B + c) / B = h at *
  generalize ((x * y) % B + c) % B = l at *
  split
  · refine ⟨?_, by rw [Nat.mul_add]; omega⟩
    have h3 : x * y + c < B * (B - 1) + 1 := by
      have : x * y ≤ (B - 1) * (B - 1) := Nat.mul_le_mul (by omega) (by omega)
      have e : (B - 1) * (B - 1) + (B - 1) = B * (B - 1) := by
        obtain ⟨b, rfl⟩ : ∃ b, B = b + 1 := ⟨B - 1, by omega⟩
        simp only [Nat.add_sub_cancel]; grind
      omega
    have h4 : B * h < B * (B - 1) := by omega
    have := Nat.lt_of_mul_lt_mul_left h4
    omega
  · omega

/-- Knuth: the guess is not too small -/
theorem knuth_ge (B P R r1 r0 D d : Nat) (hR : R < (r1 * B + r0 + 1) * P) (hD : d * P ≤ D) (hd : 0 < d) : R / D ≤ (r1 * B + r0) / d := by
  by_cases hP : P = 0
  · subst hP; simp at hR
  have hPp : 0 < P := Nat.pos_of_ne_zero hP
  have hdp : 0 < d * P := Nat.mul_pos hd hPp
  have h1 : R / D ≤ R / (d * P) := Nat.div_le_div_left hD hdp
  have h2 : R / (d * P) = R / P / d := by rw [Nat.mul_comm, Nat.div_div_eq_div_mul]
  have h3 : R / P < r1 * B + r0 + 1 := (Nat.div_lt_iff_lt_mul hPp).2 hR
  have h4 : R / P / d ≤ (r1 * B + r0) / d := Nat.div_le_div_right (by omega)
  omega

/-- bits that do not meet -/
theorem or_add (a b s : Nat) (ha : a < 2 ^ s) : a ||| (b * 2 ^ s) = a + b * 2 ^ s := by
  rw [Nat.or_comm, Nat.mul_comm, ← Nat.two_pow_add_eq_or_of_lt ha, Nat.add_comm]

/-- a limb that is shifted, and what goes over -/
theorem shl_parts (B p q l : Nat) (hB : B = p * q) (hp : 0 < p) : l * p % B = (l % q) * p ∧ l * p / B = l / q := by
  subst hB
  constructor
  · rw [Nat.mul_comm p q, Nat.mul_mod_mul_right]
  · rw [Nat.mul_comm p q, Nat.mul_div_mul_right _ _ hp]

/-- a round of shifting up: lo is what went over from the limb before -/
theorem up_step (B p q : Nat) (cur ys : List Nat) (k : Nat) (hB : B = p * q) (hp : 0 < p) (hk : k < ys.length) (hi : k + 1 < cur.length) (hz : cur.getD (k + 1) 0 = 0)
    (h : val B cur = p * val B (ys.take k)) :
    val B ((cur.set k (cur.getD k 0 + (ys.getD k 0 % q) * p)).set (k + 1) (ys.getD k 0 / q)) = p * val B (ys.take (k + 1)) := by
  obtain ⟨h1, h2⟩ := shl_parts B p q (ys.getD k 0) hB hp
  have e := Nat.div_add_mod (ys.getD k 0 * p) B
  rw [h1, h2] at e
  have s1 := val_setN B cur k (cur.getD k 0 + (ys.getD k 0 % q) * p) (by omega)
  have s2 := val_setN B (cur.set k (cur.getD k 0 + (ys.getD k 0 % q) * p)) (k + 1) (ys.getD k 0 / q) (by simp; omega)
  have hz2 : (cur.set k (cur.getD k 0 + (ys.getD k 0 % q) * p)).getD (k + 1) 0 = cur.getD (k + 1) 0 := by
    simp [List.getD]
  rw [hz2, hz, Nat.mul_zero, Nat.add_zero] at s2
  rw [s2, val_take_succ B ys k hk, Nat.pow_succ]
  generalize (cur.set k (cur.getD k 0 + (ys.getD k 0 % q) * p)) = c1 at *
  generalize cur.getD k 0 = x at *
  generalize ys.getD k 0 % q * p = m at *
  generalize ys.getD k 0 / q = d at *
  generalize ys.getD k 0 = y at *
  grind

/-- a round of shifting down, behind the first -/
theorem down_step (B p q : Nat) (cur ys : List Nat) (k r : Nat) (hB : B = p * q) (hk : k + 1 < ys.length) (hi : k + 1 < cur.length) (hz : cur.getD (k + 1) 0 = 0)
    (h : p * val B cur + r = val B (ys.take (k + 1))) :
    p * val B ((cur.set (k + 1) (ys.getD (k + 1) 0 / p)).set k (cur.getD k 0 + (ys.getD (k + 1) 0 % p) * q)) + r = val B (ys.take (k + 1 + 1)) := by
  have e := Nat.div_add_mod (ys.getD (k + 1) 0) p
  have s1 := val_setN B cur (k + 1) (ys.getD (k + 1) 0 / p) hi
  rw [hz, Nat.mul_zero, Nat.add_zero] at s1
  have s2 := val_setN B (cur.set (k + 1) (ys.getD (k + 1) 0 / p)) k (cur.getD k 0 + (ys.getD (k + 1) 0 % p) * q) (by simp; omega)
  have hz2 : (cur.set (k + 1) (ys.getD (k + 1) 0 / p)).getD k 0 = cur.getD k 0 := by
    simp [List.getD]
  rw [hz2] at s2
  rw [val_take_succ B ys (k + 1) hk, Nat.pow_succ]
  rw [Nat.pow_succ] at s1
  generalize ((cur.set (k + 1) (ys.getD (k + 1) 0 / p)).set k (cur.getD k 0 + (ys.getD (k + 1) 0 % p) * q)) = c2 at *
  generalize (cur.set (k + 1) (ys.getD (k + 1) 0 / p)) = c1 at *
  generalize cur.getD k 0 = x at *
  generalize ys.getD (k + 1) 0 % p = m at *
  generalize ys.getD (k + 1) 0 / p = d at *
  generalize ys.getD (k + 1) 0 = y at *
  grind

end Go.Proofs.YtjpbmagpieonoaaDoor

namespace Go.Proofs
open Go.Shelf
def Tryd.lays134_ren : Go.Shelf.Ren := ⟨fun | 134 => 107 | 129 => 102 | n => n, fun | 53 => 63 | 3 => 3 | 4 => 4 | 46 => 155 | 5 => 5 | 9 => 9 | n => n, fun | n => n⟩
theorem Tryd.lays134 : Go.Proofs.Lays.n134 Tryd.prog Tryd.lays134_ren := {
  mixed := by kernel_rfl
  f129 := Tryd.func102.trans (congrArg some (by kernel_rfl))
  f134 := Tryd.func107.trans (congrArg some (by kernel_rfl))
  t3 := Tryd.underlying3
  a3 := Tryd.isAgg3
  z3 := Tryd.sizeOf3
  v3 := Tryd.zeroValue3
  t4 := Tryd.underlying4
  a4 := Tryd.isAgg4
  z4 := Tryd.sizeOf4
  v4 := Tryd.zeroValue4
  t5 := Tryd.underlying5
  a5 := Tryd.isAgg5
  z5 := Tryd.sizeOf5
  v5 := Tryd.zeroValue5
  t9 := Tryd.underlying9
  a9 := Tryd.isAgg9
  z9 := Tryd.sizeOf9
  v9 := Tryd.zeroValue9
  t46 := Tryd.underlying155
  a46 := Tryd.isAgg155
  z46 := Tryd.sizeOf155
  v46 := Tryd.zeroValue155
  t53 := Tryd.underlying63
  a53 := Tryd.isAgg63
  z53 := Tryd.sizeOf63
  v53 := Tryd.zeroValue63 }
/-- bits.LeadingZeros64: "LeadingZeros64 returns the number of leading zero bits in x; the result is 64 for x == 0.": IT RETURNS '64 - Lib.bitLen x'; the world is as it was. ITS CALLEE bits.Len64 IS MET BY ITS OWN CONTRACT OFF THE SHELF (lay that first): entered in place it sends the kernel out of memory. (LAID: no walk: one application.) -/
theorem Tryd.bits_LeadingZeros64 (x : Int) (w : World) (h0 : 0 ≤ x) (h1 : x ≤ 18446744073709551615) :
    Calls Tryd.prog 107 #[.int .u64 x] w fun e w' => e = .returned (.int .i64 (64 - (Lib.bitLen x.toNat : Int))) ∧ w' = w := Any.bits_LeadingZeros64 Tryd.lays134 x w h0 h1
def Tryd.lays210_ren : Go.Shelf.Ren := ⟨fun | 210 => 68 | 206 => 87 | n => n, fun | 9 => 9 | 4 => 4 | 3 => 3 | n => n, fun | n => n⟩
theorem Tryd.lays210 : Go.Proofs.Lays.n210 Tryd.prog Tryd.lays210_ren := {
  mixed := by kernel_rfl
  f206 := Tryd.func87.trans (congrArg some (by kernel_rfl))
  f210 := Tryd.func68.trans (congrArg some (by kernel_rfl))
  t3 := Tryd.underlying3
  a3 := Tryd.isAgg3
  z3 := Tryd.sizeOf3
  v3 := Tryd.zeroValue3
  t4 := Tryd.underlying4
  a4 := Tryd.isAgg4
  z4 := Tryd.sizeOf4
  v4 := Tryd.zeroValue4
  t9 := Tryd.underlying9
  a9 := Tryd.isAgg9
  z9 := Tryd.sizeOf9
  v9 := Tryd.zeroValue9 }
open Go.RowKit in
/-- internal/stringslite.CutPrefix (what strings.CutPrefix calls). (LAID: no walk: one application.) -/
theorem Tryd.stringslite_CutPrefix (s p : ByteArray) (w : World) :
    Calls Tryd.prog 68 #[.string s, .string p] w fun e w' => e = .returned (.tuple #[.string ⟨(Lib.trimPrefix s.data.toList p.data.toList).toArray⟩, .bool (Lib.hasPrefix s.data.toList p.data.toList)]) ∧ w' = w := Any.stringslite_CutPrefix Tryd.lays210 s p w
def Tryd.lays103_ren : Go.Shelf.Ren := ⟨fun | 103 => 47 | 210 => 68 | 206 => 87 | n => n, fun | 9 => 9 | 4 => 4 | 24 => 72 | 3 => 3 | n => n, fun | n => n⟩
theorem Tryd.lays103 : Go.Proofs.Lays.n103 Tryd.prog Tryd.lays103_ren := {
  mixed := by kernel_rfl
  f103 := Tryd.func47.trans (congrArg some (by kernel_rfl))
  f206 := Tryd.func87.trans (congrArg some (by kernel_rfl))
  f210 := Tryd.func68.trans (congrArg some (by kernel_rfl))
  t3 := Tryd.underlying3
  a3 := Tryd.isAgg3
  z3 := Tryd.sizeOf3
  v3 := Tryd.zeroValue3
  t4 := Tryd.underlying4
  a4 := Tryd.isAgg4
  z4 := Tryd.sizeOf4
  v4 := Tryd.zeroValue4
  t9 := Tryd.underlying9
  a9 := Tryd.isAgg9
  z9 := Tryd.sizeOf9
  v9 := Tryd.zeroValue9
  t24 := Tryd.underlying72
  a24 := Tryd.isAgg72
  z24 := Tryd.sizeOf72
  v24 := Tryd.zeroValue72 }
open Go.RowKit in
/-- strings.CutPrefix: "CutPrefix returns s without the provided leading prefix string and reports whether it found the prefix. If s doesn't start with prefix, CutPrefix returns s, false. If prefix is the empty string, CutPrefix returns s, true.": IT RETURNS '(Lib.trimPrefix s p, Lib.hasPrefix s p)'; the world is as it was. (LAID: no walk: one application.) -/
theorem Tryd.strings_CutPrefix (s p : ByteArray) (w : World) :
    Calls Tryd.prog 47 #[.string s, .string p] w fun e w' => e = .returned (.tuple #[.string ⟨(Lib.trimPrefix s.data.toList p.data.toList).toArray⟩, .bool (Lib.hasPrefix s.data.toList p.data.toList)]) ∧ w' = w := Any.strings_CutPrefix Tryd.lays103 s p w
def Tryd.lays215_ren : Go.Shelf.Ren := ⟨fun | 215 => 81 | n => n, fun | 3 => 3 | 4 => 4 | n => n, fun | n => n⟩
theorem Tryd.lays215 : Go.Proofs.Lays.n215 Tryd.prog Tryd.lays215_ren := {
  mixed := by kernel_rfl
  f215 := Tryd.func81.trans (congrArg some (by kernel_rfl))
  t3 := Tryd.underlying3
  a3 := Tryd.isAgg3
  z3 := Tryd.sizeOf3
  v3 := Tryd.zeroValue3
  t4 := Tryd.underlying4
  a4 := Tryd.isAgg4
  z4 := Tryd.sizeOf4
  v4 := Tryd.zeroValue4 }
open Go.RowKit in
/-- cmp.isNaN at int: 'x != x': false. (LAID: no walk: one application.) -/
theorem Tryd.cmp_isNaN_int (x : Int) (w : World) :
    Calls Tryd.prog 81 #[.int .i64 x] w fun e w' => e = .returned (.bool false) ∧ w' = w := Any.cmp_isNaN_int Tryd.lays215 x w
def Tryd.lays122_ren : Go.Shelf.Ren := ⟨fun | 122 => 61 | 215 => 81 | n => n, fun | 3 => 3 | 4 => 4 | n => n, fun | n => n⟩
theorem Tryd.lays122 : Go.Proofs.Lays.n122 Tryd.prog Tryd.lays122_ren := {
  mixed := by kernel_rfl
  f122 := Tryd.func61.trans (congrArg some (by kernel_rfl))
  f215 := Tryd.func81.trans (congrArg some (by kernel_rfl))
  t3 := Tryd.underlying3
  a3 := Tryd.isAgg3
  z3 := Tryd.sizeOf3
  v3 := Tryd.zeroValue3
  t4 := Tryd.underlying4
  a4 := Tryd.isAgg4
  z4 := Tryd.sizeOf4
  v4 := Tryd.zeroValue4 }
open Go.RowKit in
/-- cmp.Compare at int: "Compare returns -1 if x is less than y, 0 if x equals y, +1 if x is greater than y.": IT RETURNS 'Lib.compareInt x y'; the world is as it was. (LAID: no walk: one application.) -/
theorem Tryd.cmp_Compare_int (x y : Int) (w : World) :
    Calls Tryd.prog 61 #[.int .i64 x, .int .i64 y] w fun e w' => e = .returned (.int .i64 (Lib.compareInt x y)) ∧ w' = w := Any.cmp_Compare_int Tryd.lays122 x y w
def Tryd.lays129_ren : Go.Shelf.Ren := ⟨fun | 129 => 102 | n => n, fun | 53 => 63 | 3 => 3 | 4 => 4 | 46 => 155 | 5 => 5 | 9 => 9 | n => n, fun | n => n⟩
theorem Tryd.lays129 : Go.Proofs.Lays.n129 Tryd.prog Tryd.lays129_ren := {
  mixed := by kernel_rfl
  f129 := Tryd.func102.trans (congrArg some (by kernel_rfl))
  t3 := Tryd.underlying3
  a3 := Tryd.isAgg3
  z3 := Tryd.sizeOf3
  v3 := Tryd.zeroValue3
  t4 := Tryd.underlying4
  a4 := Tryd.isAgg4
  z4 := Tryd.sizeOf4
  v4 := Tryd.zeroValue4
  t5 := Tryd.underlying5
  a5 := Tryd.isAgg5
  z5 := Tryd.sizeOf5
  v5 := Tryd.zeroValue5
  t9 := Tryd.underlying9
  a9 := Tryd.isAgg9
  z9 := Tryd.sizeOf9
  v9 := Tryd.zeroValue9
  t46 := Tryd.underlying155
  a46 := Tryd.isAgg155
  z46 := Tryd.sizeOf155
  v46 := Tryd.zeroValue155
  t53 := Tryd.underlying63
  a53 := Tryd.isAgg63
  z53 := Tryd.sizeOf63
  v53 := Tryd.zeroValue63 }
/-- bits.Len64: "Len64 returns the minimum number of bits required to represent x; the result is 0 for x == 0.": IT RETURNS 'Lib.bitLen x'; the world is as it was. ('h0', 'h1': x is a uint64.) (LAID: no walk: one application.) -/
theorem Tryd.bits_Len64 (x : Int) (w : World) (h0 : 0 ≤ x) (h1 : x ≤ 18446744073709551615) :
    Calls Tryd.prog 102 #[.int .u64 x] w fun e w' => e = .returned (.int .i64 (Lib.bitLen x.toNat)) ∧ w' = w := Any.bits_Len64 Tryd.lays129 x w h0 h1
def Tryd.lays317_ren : Go.Shelf.Ren := ⟨fun | 317 => 101 | n => n, fun | 3 => 3 | 46 => 155 | n => n, fun | n => n⟩
theorem Tryd.lays317 : Go.Proofs.Lays.n317 Tryd.prog Tryd.lays317_ren := {
  mixed := by kernel_rfl
  f317 := Tryd.func101.trans (congrArg some (by kernel_rfl))
  t3 := Tryd.underlying3
  a3 := Tryd.isAgg3
  z3 := Tryd.sizeOf3
  v3 := Tryd.zeroValue3
  t46 := Tryd.underlying155
  a46 := Tryd.isAgg155
  z46 := Tryd.sizeOf155
  v46 := Tryd.zeroValue155 }
open Go.Lib in
/-- internal/strconv.log10Pow2: "log10Pow2(x) returns ⌊log₁₀ 2**x⌋ = ⌊x * log₁₀ 2⌋.": '(x * 78913) >> 18', at an x up to 64 (a length in bits). The world is as it was. (LAID: no walk: one application.) -/
theorem Tryd.internal_strconv_log10Pow2 (x : Nat) (h : x ≤ 64) (w : World) :
    Calls Tryd.prog 101 #[.int .i64 x] w fun e w' => e = .returned (.int .i64 (Lib.l10 x)) ∧ w' = w := Any.internal_strconv_log10Pow2 Tryd.lays317 x h w
def Tryd.lays318_ren : Go.Shelf.Ren := ⟨fun | 318 => 103 | n => n, fun | 3 => 3 | 4 => 4 | n => n, fun | n => n⟩
theorem Tryd.lays318 : Go.Proofs.Lays.n318 Tryd.prog Tryd.lays318_ren := {
  mixed := by kernel_rfl
  f318 := Tryd.func103.trans (congrArg some (by kernel_rfl))
  t3 := Tryd.underlying3
  a3 := Tryd.isAgg3
  z3 := Tryd.sizeOf3
  v3 := Tryd.zeroValue3
  t4 := Tryd.underlying4
  a4 := Tryd.isAgg4
  z4 := Tryd.sizeOf4
  v4 := Tryd.zeroValue4 }
open Go.Lib in
/-- internal/strconv.bool2: "bool2 converts b to an integer: 1 for true, 0 for false." The world is as it was. (LAID: no walk: one application.) -/
theorem Tryd.internal_strconv_bool2_int (b : Bool) (w : World) :
    Calls Tryd.prog 103 #[.bool b] w fun e w' => e = .returned (.int .i64 (if b then 1 else 0)) ∧ w' = w := Any.internal_strconv_bool2_int Tryd.lays318 b w
def Tryd.lays283_ren : Go.Shelf.Ren := ⟨fun | 283 => 77 | n => n, fun | 3 => 3 | 9 => 9 | 4 => 4 | n => n, fun | n => n⟩
theorem Tryd.lays283 : Go.Proofs.Lays.n283 Tryd.prog Tryd.lays283_ren := {
  mixed := by kernel_rfl
  f283 := Tryd.func77.trans (congrArg some (by kernel_rfl))
  t3 := Tryd.underlying3
  a3 := Tryd.isAgg3
  z3 := Tryd.sizeOf3
  v3 := Tryd.zeroValue3
  t4 := Tryd.underlying4
  a4 := Tryd.isAgg4
  z4 := Tryd.sizeOf4
  v4 := Tryd.zeroValue4
  t9 := Tryd.underlying9
  a9 := Tryd.isAgg9
  z9 := Tryd.sizeOf9
  v9 := Tryd.zeroValue9 }
open Go.Lib in
/-- internal/strconv.small: "small returns the string for an i with 0 <= i < nSmalls.": i's decimal numeral. The world is as it was. (LAID: no walk: one application.) -/
theorem Tryd.internal_strconv_small (i : Nat) (h : i < 100) (w : World) :
    Calls Tryd.prog 77 #[.int .i64 i] w fun e w' => e = .returned (.string ⟨(Lib.decDigits i).toArray⟩) ∧ w' = w := Any.internal_strconv_small Tryd.lays283 i h w
def Tryd.laysM284_ren : Go.Shelf.Ren := ⟨fun | 284 => 78 | 129 => 102 | 317 => 101 | 318 => 103 | n => n, fun | 53 => 63 | 3 => 3 | 212 => 152 | 0 => 0 | 4 => 4 | 46 => 155 | 5 => 5 | 9 => 9 | n => n, fun | 17 => 3 | n => n⟩
theorem Tryd.laysM284 : Go.Proofs.LaysM.n284 Tryd.prog Tryd.laysM284_ren := {
  mixed := by kernel_rfl
  f129 := Tryd.func102.trans (congrArg some (by kernel_rfl))
  f284 := Tryd.func78.trans (congrArg some (by kernel_rfl))
  f317 := Tryd.func101.trans (congrArg some (by kernel_rfl))
  f318 := Tryd.func103.trans (congrArg some (by kernel_rfl))
  t0 := Tryd.underlying0
  a0 := Tryd.isAgg0
  z0 := Tryd.sizeOf0
  v0 := Tryd.zeroValue0
  t3 := Tryd.underlying3
  a3 := Tryd.isAgg3
  z3 := Tryd.sizeOf3
  v3 := Tryd.zeroValue3
  t4 := Tryd.underlying4
  a4 := Tryd.isAgg4
  z4 := Tryd.sizeOf4
  v4 := Tryd.zeroValue4
  t5 := Tryd.underlying5
  a5 := Tryd.isAgg5
  z5 := Tryd.sizeOf5
  v5 := Tryd.zeroValue5
  t9 := Tryd.underlying9
  a9 := Tryd.isAgg9
  z9 := Tryd.sizeOf9
  v9 := Tryd.zeroValue9
  t46 := Tryd.underlying155
  a46 := Tryd.isAgg155
  z46 := Tryd.sizeOf155
  v46 := Tryd.zeroValue155
  t53 := Tryd.underlying63
  a53 := Tryd.isAgg63
  z53 := Tryd.sizeOf63
  v53 := Tryd.zeroValue63
  t212 := Tryd.underlying152
  a212 := Tryd.isAgg152
  z212 := Tryd.sizeOf152
  v212 := Tryd.zeroValue152
  g17 := by kernel_rfl
  i0 := by kernel_rfl
  i3 := by kernel_rfl
  i4 := by kernel_rfl
  i5 := by kernel_rfl
  i9 := by kernel_rfl
  i46 := by kernel_rfl
  i53 := by kernel_rfl
  i212 := by kernel_rfl
  m17 := by kernel_rfl }
open Go.Lib in
/-- internal/strconv.numDigits, at a d that is not 0: THE NUMBER OF d's DECIMAL DIGITS. The world is as it was. (LAID: no walk: one application.) -/
theorem Tryd.internal_strconv_numDigits (u : Nat) (h1 : 1 ≤ u) (h2 : u < 18446744073709551616) (w : World) (htab : Lib.TabIs Tryd.prog w "internal/strconv.uint64pow10" .u64 Lib.pow10Tab) :
    Calls Tryd.prog 78 #[.int .u64 u] w fun e w' => e = .returned (.int .i64 (Lib.nDigits u)) ∧ w' = w := Any.internal_strconv_numDigits Tryd.laysM284 u h1 h2 w htab
def Tryd.lays285_ren : Go.Shelf.Ren := ⟨fun | 285 => 79 | n => n, fun | 37 => 112 | 53 => 63 | 3 => 3 | 4 => 4 | 51 => 153 | 9 => 9 | 5 => 5 | 0 => 0 | n => n, fun | n => n⟩
theorem Tryd.lays285 : Go.Proofs.Lays.n285 Tryd.prog Tryd.lays285_ren := {
  mixed := by kernel_rfl
  f285 := Tryd.func79.trans (congrArg some (by kernel_rfl))
  t0 := Tryd.underlying0
  a0 := Tryd.isAgg0
  z0 := Tryd.sizeOf0
  v0 := Tryd.zeroValue0
  t3 := Tryd.underlying3
  a3 := Tryd.isAgg3
  z3 := Tryd.sizeOf3
  v3 := Tryd.zeroValue3
  t4 := Tryd.underlying4
  a4 := Tryd.isAgg4
  z4 := Tryd.sizeOf4
  v4 := Tryd.zeroValue4
  t5 := Tryd.underlying5
  a5 := Tryd.isAgg5
  z5 := Tryd.sizeOf5
  v5 := Tryd.zeroValue5
  t9 := Tryd.underlying9
  a9 := Tryd.isAgg9
  z9 := Tryd.sizeOf9
  v9 := Tryd.zeroValue9
  t37 := Tryd.underlying112
  a37 := Tryd.isAgg112
  z37 := Tryd.sizeOf112
  v37 := Tryd.zeroValue112
  t51 := Tryd.underlying153
  a51 := Tryd.isAgg153
  z51 := Tryd.sizeOf153
  v51 := Tryd.zeroValue153
  t53 := Tryd.underlying63
  a53 := Tryd.isAgg63
  z53 := Tryd.sizeOf63
  v53 := Tryd.zeroValue63 }
open Go.RowKit Go.Sort Go.Lib in
/-- internal/strconv.formatBase10: "formatBase10 formats the decimal representation of u into a. The caller is responsible for ensuring that a is big enough to hold u. If a is too big, leading zeros will be filled in as needed.": THE ROW HOLDS u's DIGITS ('FmtInv .. 0 ..': every place t holds 'dg u (len - 1 - t)'); all else is as it was but for the count of draws. (LAID: no walk: one application.) -/
theorem Tryd.internal_strconv_formatBase10 (blk off cap : Nat) (u : Nat) (d : Array UInt8) (w : World) (hH : Holds (fun (b : UInt8) => Value.int .u8 (b.toNat : Int)) w blk off d) (hu : u < 10 ^ d.size) (hu64 : u < 18446744073709551616) (hsz : d.size < 4611686018427387904) :
    Calls Tryd.prog 79 #[.slice (some ⟨blk, off, none⟩) d.size cap, .int .u64 u] w fun e w' =>
      e = .returned (.tuple #[]) ∧ ∃ (n v' : Nat) (dk : Array UInt8), w' = (putRow (fun (b : UInt8) => Value.int .u8 (b.toNat : Int)) w blk off dk).drewN n ∧ FmtInv d.size u 0 v' dk := Any.internal_strconv_formatBase10 Tryd.lays285 blk off cap u d w hH hu hu64 hsz
def Tryd.laysM246_ren : Go.Shelf.Ren := ⟨fun | 246 => 60 | 283 => 77 | 284 => 78 | 285 => 79 | 286 => 80 | 129 => 102 | 317 => 101 | 318 => 103 | 319 => 104 | 320 => 105 | 337 => 115 | 338 => 116 | n => n, fun | 2 => 2 | 3 => 3 | 9 => 9 | 4 => 4 | 171 => 114 | 0 => 0 | 53 => 63 | 37 => 112 | 5 => 5 | 173 => 117 | 212 => 152 | 51 => 153 | 20 => 20 | 213 => 154 | 46 => 155 | 232 => 167 | 233 => 168 | n => n, fun | 17 => 3 | 18 => 6 | 19 => 7 | n => n⟩
theorem Tryd.laysM246 : Go.Proofs.LaysM.n246 Tryd.prog Tryd.laysM246_ren := {
  mixed := by kernel_rfl
  f129 := Tryd.func102.trans (congrArg some (by kernel_rfl))
  f246 := Tryd.func60.trans (congrArg some (by kernel_rfl))
  f283 := Tryd.func77.trans (congrArg some (by kernel_rfl))
  f284 := Tryd.func78.trans (congrArg some (by kernel_rfl))
  f285 := Tryd.func79.trans (congrArg some (by kernel_rfl))
  f286 := Tryd.func80.trans (congrArg some (by kernel_rfl))
  f317 := Tryd.func101.trans (congrArg some (by kernel_rfl))
  f318 := Tryd.func103.trans (congrArg some (by kernel_rfl))
  f319 := Tryd.func104.trans (congrArg some (by kernel_rfl))
  f320 := Tryd.func105.trans (congrArg some (by kernel_rfl))
  f337 := Tryd.func115.trans (congrArg some (by kernel_rfl))
  f338 := Tryd.func116.trans (congrArg some (by kernel_rfl))
  t0 := Tryd.underlying0
  a0 := Tryd.isAgg0
  z0 := Tryd.sizeOf0
  v0 := Tryd.zeroValue0
  t2 := Tryd.underlying2
  a2 := Tryd.isAgg2
  z2 := Tryd.sizeOf2
  v2 := Tryd.zeroValue2
  t3 := Tryd.underlying3
  a3 := Tryd.isAgg3
  z3 := Tryd.sizeOf3
  v3 := Tryd.zeroValue3
  t4 := Tryd.underlying4
  a4 := Tryd.isAgg4
  z4 := Tryd.sizeOf4
  v4 := Tryd.zeroValue4
  t5 := Tryd.underlying5
  a5 := Tryd.isAgg5
  z5 := Tryd.sizeOf5
  v5 := Tryd.zeroValue5
  t9 := Tryd.underlying9
  a9 := Tryd.isAgg9
  z9 := Tryd.sizeOf9
  v9 := Tryd.zeroValue9
  t20 := Tryd.underlying20
  a20 := Tryd.isAgg20
  z20 := Tryd.sizeOf20
  v20 := Tryd.zeroValue20
  t37 := Tryd.underlying112
  a37 := Tryd.isAgg112
  z37 := Tryd.sizeOf112
  v37 := Tryd.zeroValue112
  t46 := Tryd.underlying155
  a46 := Tryd.isAgg155
  z46 := Tryd.sizeOf155
  v46 := Tryd.zeroValue155
  t51 := Tryd.underlying153
  a51 := Tryd.isAgg153
  z51 := Tryd.sizeOf153
  v51 := Tryd.zeroValue153
  t53 := Tryd.underlying63
  a53 := Tryd.isAgg63
  z53 := Tryd.sizeOf63
  v53 := Tryd.zeroValue63
  t171 := Tryd.underlying114
  a171 := Tryd.isAgg114
  z171 := Tryd.sizeOf114
  v171 := Tryd.zeroValue114
  t173 := Tryd.underlying117
  a173 := Tryd.isAgg117
  z173 := Tryd.sizeOf117
  v173 := Tryd.zeroValue117
  t212 := Tryd.underlying152
  a212 := Tryd.isAgg152
  z212 := Tryd.sizeOf152
  v212 := Tryd.zeroValue152
  t213 := Tryd.underlying154
  a213 := Tryd.isAgg154
  z213 := Tryd.sizeOf154
  t232 := Tryd.underlying167
  a232 := Tryd.isAgg167
  z232 := Tryd.sizeOf167
  v232 := Tryd.zeroValue167
  t233 := Tryd.underlying168
  a233 := Tryd.isAgg168
  z233 := Tryd.sizeOf168
  v233 := Tryd.zeroValue168
  g17 := by kernel_rfl
  g18 := by kernel_rfl
  g19 := by kernel_rfl
  i0 := by kernel_rfl
  i2 := by kernel_rfl
  i3 := by kernel_rfl
  i4 := by kernel_rfl
  i5 := by kernel_rfl
  i9 := by kernel_rfl
  i20 := by kernel_rfl
  i37 := by kernel_rfl
  i46 := by kernel_rfl
  i51 := by kernel_rfl
  i53 := by kernel_rfl
  i171 := by kernel_rfl
  i173 := by kernel_rfl
  i212 := by kernel_rfl
  i232 := by kernel_rfl
  i233 := by kernel_rfl
  m17 := by kernel_rfl
  m18 := by kernel_rfl
  m19 := by kernel_rfl }
open Go.RowKit Go.Sort Go.Lib in
/-- internal/strconv.FormatInt: "FormatInt returns the string representation of i in the given base": AT BASE 10: i's decimal numeral, for every int64. The world behind the call: the world before it, new blocks behind the heap, draws. (LAID: no walk: one application.) -/
theorem Tryd.internal_strconv_FormatInt_10 (n : Int) (h0 : -9223372036854775808 ≤ n) (h1 : n ≤ 9223372036854775807) (w : World) (htab : Lib.TabIs Tryd.prog w "internal/strconv.uint64pow10" .u64 Lib.pow10Tab) :
    Calls Tryd.prog 60 #[.int .i64 n, .int .i64 10] w fun e w' => e = .returned (.string ⟨(Lib.itoa n).toArray⟩) ∧ ∃ k os, w' = grow (w.drewN k) os := Any.internal_strconv_FormatInt_10 Tryd.laysM246 n h0 h1 w htab
def Tryd.lays246_ren : Go.Shelf.Ren := ⟨fun | 246 => 60 | 283 => 77 | 284 => 78 | 285 => 79 | 286 => 80 | 129 => 102 | 317 => 101 | 318 => 103 | 319 => 104 | 320 => 105 | 337 => 115 | 338 => 116 | n => n, fun | 2 => 2 | 3 => 3 | 9 => 9 | 4 => 4 | 171 => 114 | 0 => 0 | 53 => 63 | 37 => 112 | 5 => 5 | 173 => 117 | 212 => 152 | 51 => 153 | 20 => 20 | 213 => 154 | 46 => 155 | 232 => 167 | 233 => 168 | n => n, fun | 17 => 3 | 18 => 6 | 19 => 7 | n => n⟩
theorem Tryd.lays246 : Go.Proofs.Lays.n246 Tryd.prog Tryd.lays246_ren := {
  mixed := by kernel_rfl
  f129 := Tryd.func102.trans (congrArg some (by kernel_rfl))
  f246 := Tryd.func60.trans (congrArg some (by kernel_rfl))
  f283 := Tryd.func77.trans (congrArg some (by kernel_rfl))
  f284 := Tryd.func78.trans (congrArg some (by kernel_rfl))
  f285 := Tryd.func79.trans (congrArg some (by kernel_rfl))
  f286 := Tryd.func80.trans (congrArg some (by kernel_rfl))
  f317 := Tryd.func101.trans (congrArg some (by kernel_rfl))
  f318 := Tryd.func103.trans (congrArg some (by kernel_rfl))
  f319 := Tryd.func104.trans (congrArg some (by kernel_rfl))
  f320 := Tryd.func105.trans (congrArg some (by kernel_rfl))
  f337 := Tryd.func115.trans (congrArg some (by kernel_rfl))
  f338 := Tryd.func116.trans (congrArg some (by kernel_rfl))
  t0 := Tryd.underlying0
  a0 := Tryd.isAgg0
  z0 := Tryd.sizeOf0
  v0 := Tryd.zeroValue0
  t2 := Tryd.underlying2
  a2 := Tryd.isAgg2
  z2 := Tryd.sizeOf2
  v2 := Tryd.zeroValue2
  t3 := Tryd.underlying3
  a3 := Tryd.isAgg3
  z3 := Tryd.sizeOf3
  v3 := Tryd.zeroValue3
  t4 := Tryd.underlying4
  a4 := Tryd.isAgg4
  z4 := Tryd.sizeOf4
  v4 := Tryd.zeroValue4
  t5 := Tryd.underlying5
  a5 := Tryd.isAgg5
  z5 := Tryd.sizeOf5
  v5 := Tryd.zeroValue5
  t9 := Tryd.underlying9
  a9 := Tryd.isAgg9
  z9 := Tryd.sizeOf9
  v9 := Tryd.zeroValue9
  t20 := Tryd.underlying20
  a20 := Tryd.isAgg20
  z20 := Tryd.sizeOf20
  v20 := Tryd.zeroValue20
  t37 := Tryd.underlying112
  a37 := Tryd.isAgg112
  z37 := Tryd.sizeOf112
  v37 := Tryd.zeroValue112
  t46 := Tryd.underlying155
  a46 := Tryd.isAgg155
  z46 := Tryd.sizeOf155
  v46 := Tryd.zeroValue155
  t51 := Tryd.underlying153
  a51 := Tryd.isAgg153
  z51 := Tryd.sizeOf153
  v51 := Tryd.zeroValue153
  t53 := Tryd.underlying63
  a53 := Tryd.isAgg63
  z53 := Tryd.sizeOf63
  v53 := Tryd.zeroValue63
  t171 := Tryd.underlying114
  a171 := Tryd.isAgg114
  z171 := Tryd.sizeOf114
  v171 := Tryd.zeroValue114
  t173 := Tryd.underlying117
  a173 := Tryd.isAgg117
  z173 := Tryd.sizeOf117
  v173 := Tryd.zeroValue117
  t212 := Tryd.underlying152
  a212 := Tryd.isAgg152
  z212 := Tryd.sizeOf152
  v212 := Tryd.zeroValue152
  t213 := Tryd.underlying154
  a213 := Tryd.isAgg154
  z213 := Tryd.sizeOf154
  t232 := Tryd.underlying167
  a232 := Tryd.isAgg167
  z232 := Tryd.sizeOf167
  v232 := Tryd.zeroValue167
  t233 := Tryd.underlying168
  a233 := Tryd.isAgg168
  z233 := Tryd.sizeOf168
  v233 := Tryd.zeroValue168
  g17 := by kernel_rfl
  g18 := by kernel_rfl
  g19 := by kernel_rfl }
open Go.RowKit Go.Sort Go.Lib in
/-- THE ROAD WITHOUT THE TABLE: 0 <= i < 100: two constants are read, nothing is laid: no premise on the world, and the world is as it was. (LAID: no walk: one application.) -/
theorem Tryd.internal_strconv_FormatInt_10_small (i : Nat) (hi : i < 100) (w : World) :
    Calls Tryd.prog 60 #[.int .i64 i, .int .i64 10] w fun e w' => e = .returned (.string ⟨(Lib.decDigits i).toArray⟩) ∧ w' = w := Any.internal_strconv_FormatInt_10_small Tryd.lays246 i hi w
def Tryd.laysM173_ren : Go.Shelf.Ren := ⟨fun | 173 => 36 | 246 => 60 | 283 => 77 | 284 => 78 | 285 => 79 | 286 => 80 | 129 => 102 | 317 => 101 | 318 => 103 | 319 => 104 | 320 => 105 | 337 => 115 | 338 => 116 | n => n, fun | 2 => 2 | 3 => 3 | 9 => 9 | 4 => 4 | 171 => 114 | 0 => 0 | 53 => 63 | 37 => 112 | 5 => 5 | 173 => 117 | 212 => 152 | 51 => 153 | 20 => 20 | 213 => 154 | 46 => 155 | 232 => 167 | 233 => 168 | n => n, fun | 17 => 3 | 18 => 6 | 19 => 7 | n => n⟩
theorem Tryd.laysM173 : Go.Proofs.LaysM.n173 Tryd.prog Tryd.laysM173_ren := {
  mixed := by kernel_rfl
  f129 := Tryd.func102.trans (congrArg some (by kernel_rfl))
  f173 := Tryd.func36.trans (congrArg some (by kernel_rfl))
  f246 := Tryd.func60.trans (congrArg some (by kernel_rfl))
  f283 := Tryd.func77.trans (congrArg some (by kernel_rfl))
  f284 := Tryd.func78.trans (congrArg some (by kernel_rfl))
  f285 := Tryd.func79.trans (congrArg some (by kernel_rfl))
  f286 := Tryd.func80.trans (congrArg some (by kernel_rfl))
  f317 := Tryd.func101.trans (congrArg some (by kernel_rfl))
  f318 := Tryd.func103.trans (congrArg some (by kernel_rfl))
  f319 := Tryd.func104.trans (congrArg some (by kernel_rfl))
  f320 := Tryd.func105.trans (congrArg some (by kernel_rfl))
  f337 := Tryd.func115.trans (congrArg some (by kernel_rfl))
  f338 := Tryd.func116.trans (congrArg some (by kernel_rfl))
  t0 := Tryd.underlying0
  a0 := Tryd.isAgg0
  z0 := Tryd.sizeOf0
  v0 := Tryd.zeroValue0
  t2 := Tryd.underlying2
  a2 := Tryd.isAgg2
  z2 := Tryd.sizeOf2
  v2 := Tryd.zeroValue2
  t3 := Tryd.underlying3
  a3 := Tryd.isAgg3
  z3 := Tryd.sizeOf3
  v3 := Tryd.zeroValue3
  t4 := Tryd.underlying4
  a4 := Tryd.isAgg4
  z4 := Tryd.sizeOf4
  v4 := Tryd.zeroValue4
  t5 := Tryd.underlying5
  a5 := Tryd.isAgg5
  z5 := Tryd.sizeOf5
  v5 := Tryd.zeroValue5
  t9 := Tryd.underlying9
  a9 := Tryd.isAgg9
  z9 := Tryd.sizeOf9
  v9 := Tryd.zeroValue9
  t20 := Tryd.underlying20
  a20 := Tryd.isAgg20
  z20 := Tryd.sizeOf20
  v20 := Tryd.zeroValue20
  t37 := Tryd.underlying112
  a37 := Tryd.isAgg112
  z37 := Tryd.sizeOf112
  v37 := Tryd.zeroValue112
  t46 := Tryd.underlying155
  a46 := Tryd.isAgg155
  z46 := Tryd.sizeOf155
  v46 := Tryd.zeroValue155
  t51 := Tryd.underlying153
  a51 := Tryd.isAgg153
  z51 := Tryd.sizeOf153
  v51 := Tryd.zeroValue153
  t53 := Tryd.underlying63
  a53 := Tryd.isAgg63
  z53 := Tryd.sizeOf63
  v53 := Tryd.zeroValue63
  t171 := Tryd.underlying114
  a171 := Tryd.isAgg114
  z171 := Tryd.sizeOf114
  v171 := Tryd.zeroValue114
  t173 := Tryd.underlying117
  a173 := Tryd.isAgg117
  z173 := Tryd.sizeOf117
  v173 := Tryd.zeroValue117
  t212 := Tryd.underlying152
  a212 := Tryd.isAgg152
  z212 := Tryd.sizeOf152
  v212 := Tryd.zeroValue152
  t213 := Tryd.underlying154
  a213 := Tryd.isAgg154
  z213 := Tryd.sizeOf154
  t232 := Tryd.underlying167
  a232 := Tryd.isAgg167
  z232 := Tryd.sizeOf167
  v232 := Tryd.zeroValue167
  t233 := Tryd.underlying168
  a233 := Tryd.isAgg168
  z233 := Tryd.sizeOf168
  v233 := Tryd.zeroValue168
  g17 := by kernel_rfl
  g18 := by kernel_rfl
  g19 := by kernel_rfl
  i0 := by kernel_rfl
  i2 := by kernel_rfl
  i3 := by kernel_rfl
  i4 := by kernel_rfl
  i5 := by kernel_rfl
  i9 := by kernel_rfl
  i20 := by kernel_rfl
  i37 := by kernel_rfl
  i46 := by kernel_rfl
  i51 := by kernel_rfl
  i53 := by kernel_rfl
  i171 := by kernel_rfl
  i173 := by kernel_rfl
  i212 := by kernel_rfl
  i232 := by kernel_rfl
  i233 := by kernel_rfl
  m17 := by kernel_rfl
  m18 := by kernel_rfl
  m19 := by kernel_rfl }
open Go.RowKit Go.Sort Go.Lib in
/-- strconv.FormatInt: "FormatInt returns the string representation of i in the given base": AT BASE 10: i's decimal numeral, for every int64. (LAID: no walk: one application.) -/
theorem Tryd.strconv_FormatInt_10 (n : Int) (h0 : -9223372036854775808 ≤ n) (h1 : n ≤ 9223372036854775807) (w : World) (htab : Lib.TabIs Tryd.prog w "internal/strconv.uint64pow10" .u64 Lib.pow10Tab) :
    Calls Tryd.prog 36 #[.int .i64 n, .int .i64 10] w fun e w' => e = .returned (.string ⟨(Lib.itoa n).toArray⟩) ∧ ∃ k os, w' = grow (w.drewN k) os := Any.strconv_FormatInt_10 Tryd.laysM173 n h0 h1 w htab
def Tryd.lays173_ren : Go.Shelf.Ren := ⟨fun | 173 => 36 | 246 => 60 | 283 => 77 | 284 => 78 | 285 => 79 | 286 => 80 | 129 => 102 | 317 => 101 | 318 => 103 | 319 => 104 | 320 => 105 | 337 => 115 | 338 => 116 | n => n, fun | 2 => 2 | 3 => 3 | 9 => 9 | 4 => 4 | 171 => 114 | 0 => 0 | 53 => 63 | 37 => 112 | 5 => 5 | 173 => 117 | 212 => 152 | 51 => 153 | 20 => 20 | 213 => 154 | 46 => 155 | 232 => 167 | 233 => 168 | n => n, fun | 17 => 3 | 18 => 6 | 19 => 7 | n => n⟩
theorem Tryd.lays173 : Go.Proofs.Lays.n173 Tryd.prog Tryd.lays173_ren := {
  mixed := by kernel_rfl
  f129 := Tryd.func102.trans (congrArg some (by kernel_rfl))
  f173 := Tryd.func36.trans (congrArg some (by kernel_rfl))
  f246 := Tryd.func60.trans (congrArg some (by kernel_rfl))
  f283 := Tryd.func77.trans (congrArg some (by kernel_rfl))
  f284 := Tryd.func78.trans (congrArg some (by kernel_rfl))
  f285 := Tryd.func79.trans (congrArg some (by kernel_rfl))
  f286 := Tryd.func80.trans (congrArg some (by kernel_rfl))
  f317 := Tryd.func101.trans (congrArg some (by kernel_rfl))
  f318 := Tryd.func103.trans (congrArg some (by kernel_rfl))
  f319 := Tryd.func104.trans (congrArg some (by kernel_rfl))
  f320 := Tryd.func105.trans (congrArg some (by kernel_rfl))
  f337 := Tryd.func115.trans (congrArg some (by kernel_rfl))
  f338 := Tryd.func116.trans (congrArg some (by kernel_rfl))
  t0 := Tryd.underlying0
  a0 := Tryd.isAgg0
  z0 := Tryd.sizeOf0
  v0 := Tryd.zeroValue0
  t2 := Tryd.underlying2
  a2 := Tryd.isAgg2
  z2 := Tryd.sizeOf2
  v2 := Tryd.zeroValue2
  t3 := Tryd.underlying3
  a3 := Tryd.isAgg3
  z3 := Tryd.sizeOf3
  v3 := Tryd.zeroValue3
  t4 := Tryd.underlying4
  a4 := Tryd.isAgg4
  z4 := Tryd.sizeOf4
  v4 := Tryd.zeroValue4
  t5 := Tryd.underlying5
  a5 := Tryd.isAgg5
  z5 := Tryd.sizeOf5
  v5 := Tryd.zeroValue5
  t9 := Tryd.underlying9
  a9 := Tryd.isAgg9
  z9 := Tryd.sizeOf9
  v9 := Tryd.zeroValue9
  t20 := Tryd.underlying20
  a20 := Tryd.isAgg20
  z20 := Tryd.sizeOf20
  v20 := Tryd.zeroValue20
  t37 := Tryd.underlying112
  a37 := Tryd.isAgg112
  z37 := Tryd.sizeOf112
  v37 := Tryd.zeroValue112
  t46 := Tryd.underlying155
  a46 := Tryd.isAgg155
  z46 := Tryd.sizeOf155
  v46 := Tryd.zeroValue155
  t51 := Tryd.underlying153
  a51 := Tryd.isAgg153
  z51 := Tryd.sizeOf153
  v51 := Tryd.zeroValue153
  t53 := Tryd.underlying63
  a53 := Tryd.isAgg63
  z53 := Tryd.sizeOf63
  v53 := Tryd.zeroValue63
  t171 := Tryd.underlying114
  a171 := Tryd.isAgg114
  z171 := Tryd.sizeOf114
  v171 := Tryd.zeroValue114
  t173 := Tryd.underlying117
  a173 := Tryd.isAgg117
  z173 := Tryd.sizeOf117
  v173 := Tryd.zeroValue117
  t212 := Tryd.underlying152
  a212 := Tryd.isAgg152
  z212 := Tryd.sizeOf152
  v212 := Tryd.zeroValue152
  t213 := Tryd.underlying154
  a213 := Tryd.isAgg154
  z213 := Tryd.sizeOf154
  t232 := Tryd.underlying167
  a232 := Tryd.isAgg167
  z232 := Tryd.sizeOf167
  v232 := Tryd.zeroValue167
  t233 := Tryd.underlying168
  a233 := Tryd.isAgg168
  z233 := Tryd.sizeOf168
  v233 := Tryd.zeroValue168
  g17 := by kernel_rfl
  g18 := by kernel_rfl
  g19 := by kernel_rfl }
open Go.RowKit Go.Sort Go.Lib in
/-- THE ROAD WITHOUT THE TABLE: 0 <= i < 100. (LAID: no walk: one application.) -/
theorem Tryd.strconv_FormatInt_10_small (i : Nat) (hi : i < 100) (w : World) :
    Calls Tryd.prog 36 #[.int .i64 i, .int .i64 10] w fun e w' => e = .returned (.string ⟨(Lib.decDigits i).toArray⟩) ∧ w' = w := Any.strconv_FormatInt_10_small Tryd.lays173 i hi w
def Tryd.lays206_ren : Go.Shelf.Ren := ⟨fun | 206 => 87 | n => n, fun | 9 => 9 | 4 => 4 | 3 => 3 | n => n, fun | n => n⟩
theorem Tryd.lays206 : Go.Proofs.Lays.n206 Tryd.prog Tryd.lays206_ren := {
  mixed := by kernel_rfl
  f206 := Tryd.func87.trans (congrArg some (by kernel_rfl))
  t3 := Tryd.underlying3
  a3 := Tryd.isAgg3
  z3 := Tryd.sizeOf3
  v3 := Tryd.zeroValue3
  t4 := Tryd.underlying4
  a4 := Tryd.isAgg4
  z4 := Tryd.sizeOf4
  v4 := Tryd.zeroValue4
  t9 := Tryd.underlying9
  a9 := Tryd.isAgg9
  z9 := Tryd.sizeOf9
  v9 := Tryd.zeroValue9 }
open Go.RowKit Go.Lib in
/-- internal/stringslite.HasPrefix (what strings.HasPrefix calls). (LAID: no walk: one application.) -/
theorem Tryd.stringslite_HasPrefix (s p : ByteArray) (w : World) :
    Calls Tryd.prog 87 #[.string s, .string p] w fun e w' => e = .returned (.bool (Lib.hasPrefix s.data.toList p.data.toList)) ∧ w' = w := Any.stringslite_HasPrefix Tryd.lays206 s p w
def Tryd.lays264_ren : Go.Shelf.Ren := ⟨fun | 264 => 117 | n => n, fun | 53 => 63 | 46 => 155 | n => n, fun | n => n⟩
theorem Tryd.lays264 : Go.Proofs.Lays.n264 Tryd.prog Tryd.lays264_ren := {
  mixed := by kernel_rfl
  f264 := Tryd.func117.trans (congrArg some (by kernel_rfl))
  t46 := Tryd.underlying155
  a46 := Tryd.isAgg155
  z46 := Tryd.sizeOf155
  v46 := Tryd.zeroValue155
  t53 := Tryd.underlying63
  a53 := Tryd.isAgg63
  z53 := Tryd.sizeOf63
  v53 := Tryd.zeroValue63 }
open Go.RowKit Go.Lib in
theorem Tryd.bits_Mul64 (x y : Nat) (hx : x < 18446744073709551616) (hy : y < 18446744073709551616) (w : World) :
    Calls Tryd.prog 117 #[.int .u64 x, .int .u64 y] w fun e w' => e = .returned (.tuple #[.int .u64 ((x * y / 18446744073709551616 : Nat) : Int), .int .u64 ((x * y % 18446744073709551616 : Nat) : Int)]) ∧ w' = w := Any.bits_Mul64 Tryd.lays264 x y hx hy w
def Tryd.laysNm237_ren : Go.Shelf.Ren := ⟨fun | 37 => 81 | n => n, fun | 3 => 3 | 4 => 4 | n => n, fun | n => n⟩
theorem Tryd.laysNm237 : Go.Proofs.Lays2.n37 Tryd.prog Tryd.laysNm237_ren := {
  mixed := by kernel_rfl
  f37 := Tryd.func81.trans (congrArg some (by kernel_rfl))
  t3 := Tryd.underlying3
  a3 := Tryd.isAgg3
  z3 := Tryd.sizeOf3
  v3 := Tryd.zeroValue3
  t4 := Tryd.underlying4
  a4 := Tryd.isAgg4
  z4 := Tryd.sizeOf4
  v4 := Tryd.zeroValue4 }
open Go.RowKit Go.Lib in
/-- cmp.isNaN[int]: 'x != x': false. (LAID: no walk: one application.) -/
theorem Tryd.cmp_isNaN_int2 (x : Int) (w : World) :
    Calls Tryd.prog 81 #[.int .i64 x] w fun e w' => e = .returned (.bool false) ∧ w' = w := Any.cmp_isNaN_int2 Tryd.laysNm237 x w
end Go.Proofs

namespace Go.Proofs.YtjpbmagpieonoaaDoor
open Go Go.RowKit

/-- the value of the model's type of an integer of any size -/
def IsZ (w : World) (v : Value) (z : Int) : Prop := ∃ s, v = .agg #[.bool (decide (z < 0)), s] ∧ Sl .i64 w s (dig 10000 z.natAbs)

theorem IsZ.open {w : World} {v : Value} {z : Int} (h : IsZ w v z) : ∃ ao n cap, v = .agg #[.bool (decide (z < 0)), .slice ao n cap] ∧ n = (dig 10000 z.natAbs).length ∧ Sl .i64 w (.slice ao n cap) (dig 10000 z.natAbs) := by
  obtain ⟨s, h1, h2⟩ := h
  obtain ⟨ao, cap, h3, h4⟩ := h2
  exact ⟨ao, _, cap, by rw [h1, h3], rfl, ao, cap, rfl, h4⟩

theorem IsZ.later {w w' : World} {v : Value} {z : Int} {B : Nat} (h : IsZ w v z) (hb : Below B w w') (hB : w.heap.size ≤ B) : IsZ w' v z := by
  obtain ⟨s, h1, h2⟩ := h; exact ⟨s, h1, h2.later hb hB⟩

set_option maxRecDepth 100000 in
theorem cut_core (neg : Bool) (ao : Option Addr) (n cap : Nat) (xs : List Nat) (w : World) (hs : Sl .i64 w (.slice ao n cap) xs) (hlen : xs.length ≤ 1000000000) (R : Ending → World → Prop)
    (hR : ∀ n' w', Sl .i64 w' (.slice ao n' cap) (xs.take (cutLen xs xs.length)) → Below w.heap.size w w' → R (.returned (.agg #[.bool (neg && decide (0 < cutLen xs xs.length)), .slice ao n' cap])) w') :
    Calls Tryd.prog 56 #[.bool neg, .slice ao n cap] w R := by
  have HR := Lib.hid hR; clear hR
  rcases hs.cases with ⟨rfl, ao2, cap2, he⟩ | ⟨h0, b, off, cap2, he, hcap, hb, hc⟩ <;> (simp only [Value.slice.injEq] at he; obtain ⟨rfl, rfl, rfl⟩ := he)
  · go_enter Tryd.func56, Tryd.ntmps56
    go_wp2
    go_loop [5] (fun n => n = .int .i64 0) (fun _ => 0)
    case atStart => rfl
    case round =>
      subst hrel
      cases neg
      · go_wp2
        refine bodyPost_ret (v := .agg #[.bool false, .slice ao 0 cap]) (by simp [results, Tryd.results56, go_sem]) rfl ?_
        exact HR.out _ _ (Sl.nil _ _ _ _) ((Below.refl _ _).alloc (Nat.le_refl _) _)
      · go_wp2
        refine bodyPost_ret (v := .agg #[.bool false, .slice ao 0 cap]) (by simp [results, Tryd.results56, go_sem]) rfl ?_
        exact HR.out _ _ (Sl.nil _ _ _ _) ((Below.refl _ _).alloc (Nat.le_refl _) _)
  · obtain ⟨len, hlen'⟩ : ∃ len, len = xs.length := ⟨_, rfl⟩
    rw [← hlen'] at h0 hc hlen hcap HR ⊢
    have Hl := Lib.hid hlen'; clear hlen'
    go_enter Tryd.func56, Tryd.ntmps56
    go_wp2
    go_loop [5] (fun n => ∃ k : Nat, k ≤ len ∧ n = .int .i64 k ∧ cutLen xs k = cutLen xs len) (fun n => (intOf n).toNat)
    case atStart => exact ⟨len, Nat.le_refl _, rfl, rfl⟩
    case round =>
      obtain ⟨k, hk, rfl, hcut⟩ := hrel
      have Hcut := Lib.hid hcut; clear hcut
      by_cases hk0 : 0 < k
      · obtain ⟨j, rfl⟩ : ∃ j, k = j + 1 := ⟨k - 1, by omega⟩
        have hcell := hc j (by omega)
        obtain ⟨x, hx⟩ : ∃ x, x = xs.getD j 0 := ⟨_, rfl⟩
        rw [← hx] at hcell
        have Hx := Lib.hid hx; clear hx
        by_cases hz : x = 0
        · subst hz
          go_wp2
          go_round
          case rel => exact ⟨j, by omega, by go_num, by have := Hcut.out; rw [← this, cutLen, if_pos Hx.out.symm]⟩
          case measure => simp [intOf]
        · have e : (((x : Nat) : Int) == 0) = false := by simp; omega
          have hce : cutLen xs len = j + 1 := by have := Hcut.out; rw [← this, cutLen, if_neg (by rw [← Hx.out]; exact hz)]
          have HC := Lib.hid hce; clear hce
          have HS := fun w' (hb' : Below w.heap.size w w') => (Sl.take (j + 1) (by rw [← Hl.out]; exact hk) (by rw [← Hl.out]; exact hcap) (Nat.lt_of_lt_of_le hb hb'.size) (fun i hi => by rw [hb'.cell (by exact hb)]; exact hc i (by rw [Hl.out]; exact hi)) : Sl .i64 w' (.slice (some ⟨b, off, none⟩) (j + 1) cap) (xs.take (j + 1)))
          rw [HC.out] at HR
          have HS := Lib.hid HS
          clear hc
          cases neg
          all_goals
            go_wp2
            refine bodyPost_ret_at (by simp [results, Tryd.results56, go_sem] <;> rfl) rfl ?_
            exact HR.out _ _ (HS.out _ ((Below.refl _ _).alloc (Nat.le_refl _) _)) ((Below.refl _ _).alloc (Nat.le_refl _) _)
      · obtain rfl : k = 0 := by omega
        have hce : cutLen xs len = 0 := by have := Hcut.out; rw [← this]; rfl
        rw [hce] at HR
        clear hce
        cases neg
        all_goals
          go_wp2
          refine bodyPost_ret_at (by simp [results, Tryd.results56, go_sem] <;> rfl) rfl ?_
          exact HR.out _ _ (Sl.nil _ _ _ _) ((Below.refl _ _).alloc (Nat.le_refl _) _)
/-- the digits at the beginning, without zeros at the end -/
theorem cut_at (neg : Bool) (ao : Option Addr) (n cap : Nat) (xs : List Nat) (w : World) (hs : Sl .i64 w (.slice ao n cap) xs) (hd : ∀ d ∈ xs, d < 10000) (hlen : xs.length ≤ 1000000000) (R : Ending → World → Prop)
    (hR : ∀ n' w', Sl .i64 w' (.slice ao n' cap) (dig 10000 (val 10000 xs)) → Below w.heap.size w w' → R (.returned (.agg #[.bool (neg && decide (0 < val 10000 xs)), .slice ao n' cap])) w') :
    Calls Tryd.prog 56 #[.bool neg, .slice ao n cap] w R := by
  refine cut_core neg ao n cap xs w hs hlen R fun n' w' h1 h2 => ?_
  have hpos : decide (0 < cutLen xs xs.length) = decide (0 < val 10000 xs) := by
    rw [cutLen_eq (by omega : 2 ≤ 10000) xs hd]
    by_cases h0 : val 10000 xs = 0
    · rw [h0, dig_zero]; rfl
    · have : (dig 10000 (val 10000 xs)).length ≠ 0 := fun e => h0 ((dig_eq_nil (by omega)).1 (List.length_eq_zero_iff.1 e))
      rw [decide_eq_true (by omega), decide_eq_true (by omega)]
  rw [take_cut (by omega : 2 ≤ 10000) xs hd] at h1
  rw [hpos]
  exact hR n' w' h1 h2

theorem cut_any (neg : Bool) (s : Value) (xs : List Nat) (w : World) (hs : Sl .i64 w s xs) (hd : ∀ d ∈ xs, d < 10000) (hlen : xs.length ≤ 1000000000) (R : Ending → World → Prop)
    (hR : ∀ s' w', Sl .i64 w' s' (dig 10000 (val 10000 xs)) → Below w.heap.size w w' → R (.returned (.agg #[.bool (neg && decide (0 < val 10000 xs)), s'])) w') :
    Calls Tryd.prog 56 #[.bool neg, s] w R := by
  obtain ⟨ao, cap, rfl, hc⟩ := hs
  exact cut_at neg ao _ cap xs w ⟨ao, cap, rfl, hc⟩ hd hlen R fun n' w' h1 h2 => hR _ w' h1 h2

/-- an integer from its sign and digits that may end in zeros -/
theorem cut_z (neg : Bool) (s : Value) (xs : List Nat) (w : World) (hs : Sl .i64 w s xs) (hd : ∀ d ∈ xs, d < 10000) (hlen : xs.length ≤ 1000000000) (z : Int) (hz : z = if neg then -(val 10000 xs : Int) else val 10000 xs) (R : Ending → World → Prop)
    (hR : ∀ v' w', IsZ w' v' z → Below w.heap.size w w' → R (.returned v') w') :
    Calls Tryd.prog 56 #[.bool neg, s] w R := by
  refine cut_any neg s xs w hs hd hlen R fun s' w' h1 h2 => hR _ w' ⟨s', ?_, ?_⟩ h2
  · have : (neg && decide (0 < val 10000 xs)) = decide (z < 0) := by
      cases neg
      · rw [hz]; simp
      · rw [hz]; simp
    rw [this]
  · have : z.natAbs = val 10000 xs := by rw [hz]; split <;> omega
    rw [this]; exact h1
end Go.Proofs.YtjpbmagpieonoaaDoor

namespace Go.Proofs.YtjpbmagpieonoaaDoor
open Go Go.RowKit

theorem info_i64 : (Tryd.prog.info? 2).map (fun i => (i.zero, i.size, i.bytes)) = some (some (.int .i64 0), 1, 8) := by kernel_rfl

theorem zof_step (m : Int) (hm : m ≠ 0) : dig 10000 m.natAbs = (m.tmod 10000).natAbs :: dig 10000 (m.tdiv 10000).natAbs := by
  rw [dig_pos (by omega) (by omega), Int.natAbs_tdiv, Int.natAbs_tmod]; rfl

set_option maxRecDepth 100000 in
theorem zof_any (n : Int) (w : World) (h1 : -9223372036854775807 - 1 ≤ n) (h2 : n ≤ 9223372036854775807) (R : Ending → World → Prop)
    (hR : ∀ v w', IsZ w' v n → Below w.heap.size w w' → R (.returned v) w') :
    Calls Tryd.prog 54 #[.int .i64 n] w R := by
  have HR := Lib.hid hR; clear hR
  have hlenn : (dig 10000 n.natAbs).length ≤ 20 := dig_length_ten (by omega) (by omega)
  have Hlenn := Lib.hid hlenn; clear hlenn
  go_enter Tryd.func54, Tryd.ntmps54
  go_wp2
  go_loopw [3, 4, 5] (fun d r x wr => ∃ (ds : List Nat) (m : Int), r = .int .i64 m ∧ -9223372036854775807 - 1 ≤ m ∧ m ≤ 9223372036854775807 ∧ ds ++ dig 10000 m.natAbs = dig 10000 n.natAbs ∧
      Own .i64 2 wr (w.heap.size + 1) d ds ∧ Below w.heap.size w wr ∧ Box2 wr w.heap.size (.bool false) (.slice none 0 0) 49) (fun _ r _ _ => (intOf r).natAbs)
  case atStart =>
    exact ⟨[], n, rfl, h1, h2, rfl, by have := Own.lit .i64 2 (w.alloc (.cells #[.bool false, .slice none 0 0] 49)) (w.heap.size + 1) (by simp); simpa using this,
      ((Below.refl _ _).alloc (Nat.le_refl _) _).alloc (by simp) _, (Box2.made w _ _ _).alloc _⟩
  case round =>
    obtain ⟨ds, m, rfl, hm1, hm2, hds, hown, hbel, hbox⟩ := hrel
    have hsz := hbel.size
    obtain ⟨hA, hB, hA', hB'⟩ := hbox.cells
    have hdl : ds.length ≤ 20 := by have := Hlenn.out; rw [← hds, List.length_append] at this; omega
    have Hds := Lib.hid hds; clear hds
    by_cases hm : m = 0
    · subst hm
      have hds := Hds.out
      rw [show Int.natAbs 0 = 0 from rfl, dig_zero, List.append_nil] at hds
      go_wp2_with fail
      refine cut_z (decide (n < 0)) u3 ds wr hown.sl (by rw [hds]; exact dig_lt (by omega) _) (by omega) n (by rw [hds, val_dig (by omega)]; split <;> simp_all <;> omega) _ ?_
      intro v' w1 hz hb1
      obtain ⟨ao', n', cap', rfl, hn', hs'⟩ := hz.open
      obtain ⟨hA1, hB1, hA1', hB1'⟩ := (hbox.later hb1 (lt_of_block hbox)).cells
      have Hn' := Lib.hid hn'
      clear hA hB hA' hB' hds hn'
      dsimp only
      go_wp2
      refine bodyPost_ret_at (by simp [results, Tryd.results54, go_sem, hA1, hB1, hA1', hB1'] <;> rfl) rfl ?_
      have hbz : Below w.heap.size w w1 := hbel.trans (hb1.mono hsz)
      have hni := (hbox.later hb1 (lt_of_block hbox)).noInt rfl rfl
      exact HR.out _ _ ⟨_, rfl, (hs'.set hni 0 _).set (hni.set 0 _ rfl) 1 _⟩ ((hbz.setCell (by simp) _).setCell (by simp) _)
    · have e0 : (m != 0) = true := by simp [hm]
      have Hst := Lib.hid (zof_step m hm)
      by_cases hneg : m < 0
      · obtain ⟨a, rfl⟩ : ∃ a : Nat, m = -(a : Int) := ⟨m.natAbs, by omega⟩
        have hst := Hst.out
        rw [tmod_neg_nat, tdiv_neg_nat] at hst
        obtain ⟨x, hxx⟩ : ∃ x : Nat, x = a % 10000 := ⟨_, rfl⟩
        obtain ⟨q, hqq⟩ : ∃ q : Nat, q = a / 10000 := ⟨_, rfl⟩
        have ht1 := tmod_neg_nat a
        have ht2 := tdiv_neg_nat a
        rw [← hxx] at ht1 hst
        rw [← hqq] at ht2 hst
        have hx1 : x < 10000 := by omega
        have hq1 : q < a := by omega
        have Hst2 := Lib.hid hst
        clear hst Hst hxx hqq
        by_cases hx0 : x = 0
        · subst hx0
          have ht3 : (-(a : Int)).tmod 10000 = ((0 : Nat) : Int) := by rw [ht1]; rfl
          clear ht1
          go_wp2_with (at_builtin; go_must (refine wpList_push rfl (.tmp 18) (.tmp 20) 47 rfl 2 .i64 8 Tryd.underlying47 info_i64 (by omega) (w.heap.size + 1) _ ds 0 rfl (hown.alloc _) wr.heap.size rfl (World.cell?_alloc_at _ _ _ _ rfl) (by omega) (by simp; omega) ?_))
          intro v' w1 hown1 hb1
          have hbox1 := (hbox.alloc (.cells #[.int .i64 0] 2)).later hb1 (by simp)
          have hb2 : Below w.heap.size w w1 := (hbel.alloc hsz _).trans (hb1.mono (by omega))
          clear hA hB hA' hB' hbox hown hb1
          go_wp2
          go_roundw
          case rel =>
            have := Hst2.out; have h4 := Hds.out
            exact ⟨ds ++ [0], -(q : Int), by go_num, by omega, by omega, by rw [← h4, this]; simp, hown1, hb2, hbox1⟩
          case measure => simp [intOf]; omega
        · have hneg2 : -(x : Int) < 0 := by omega
          go_wp2_with (at_builtin; go_must (refine wpList_push rfl (.tmp 18) (.tmp 20) 47 rfl 2 .i64 8 Tryd.underlying47 info_i64 (by omega) (w.heap.size + 1) _ ds x rfl (hown.alloc _) wr.heap.size rfl (World.cell?_alloc_at _ _ _ _ rfl) (by omega) (by simp; omega) ?_))
          intro v' w1 hown1 hb1
          have hbox1 := (hbox.alloc (.cells #[.int .i64 x] 2)).later hb1 (by simp)
          have hb2 : Below w.heap.size w w1 := (hbel.alloc hsz _).trans (hb1.mono (by omega))
          clear hA hB hA' hB' hbox hown hb1
          go_wp2
          go_roundw
          case rel =>
            have := Hst2.out; have h4 := Hds.out
            exact ⟨ds ++ [x], -(q : Int), by go_num, by omega, by omega, by rw [← h4, this]; simp, hown1, hb2, hbox1⟩
          case measure => simp [intOf]; omega
      · have hx : 0 ≤ m.tmod 10000 := Int.tmod_nonneg _ (by omega)
        have hx2 : m.tmod 10000 < 10000 := Int.tmod_lt_of_pos _ (by omega)
        have hq : m.tdiv 10000 = m / 10000 := Int.tdiv_eq_ediv_of_nonneg (by omega)
        obtain ⟨x, hxx⟩ : ∃ x : Nat, m.tmod 10000 = x := ⟨(m.tmod 10000).toNat, by omega⟩
        rw [hxx] at hx hx2
        have hm' : 0 ≤ m := by omega
        have hmm : m % 10000 = x := by rw [← hxx, Int.tmod_eq_emod_of_nonneg hm']
        go_wp2_with (at_builtin; go_must (refine wpList_push rfl (.tmp 18) (.tmp 20) 47 rfl 2 .i64 8 Tryd.underlying47 info_i64 (by omega) (w.heap.size + 1) _ ds x rfl (hown.alloc _) wr.heap.size rfl (World.cell?_alloc_at _ _ _ _ rfl) (by omega) (by simp; omega) ?_))
        intro v' w1 hown1 hb1
        have hbox1 := (hbox.alloc (.cells #[.int .i64 x] 2)).later hb1 (by omega)
        have hb2 : Below w.heap.size w w1 := (hbel.alloc hsz _).trans (hb1.mono (by omega))
        clear hA hB hA' hB' hbox hown hb1
        go_wp2
        go_roundw
        case rel =>
          have := Hst.out; have h4 := Hds.out
          exact ⟨ds ++ [x], m.tdiv 10000, by go_num, by omega, by omega, by rw [← h4, this, hxx]; simp, hown1, hb2, hbox1⟩
        case measure => simp [intOf]; omega
end Go.Proofs.YtjpbmagpieonoaaDoor

namespace Go.Proofs.YtjpbmagpieonoaaDoor
open Go Go.RowKit

theorem cmpN_lt {a b : Nat} (h : a < b) : cmpN a b = -1 := if_pos h
theorem cmpN_gt {a b : Nat} (h : b < a) : cmpN a b = 1 := by rw [cmpN, if_neg (by omega), if_pos h]
theorem cmpN_eq (a : Nat) : cmpN a a = 0 := by rw [cmpN, if_neg (by omega), if_neg (by omega)]

set_option maxRecDepth 100000 in
theorem far_any (va vb : Value) (a b : Int) (w : World) (ha : IsZ w va a) (hb : IsZ w vb b) (hla : (dig 10000 a.natAbs).length ≤ 1000000000) (hlb : (dig 10000 b.natAbs).length ≤ 1000000000) (R : Ending → World → Prop)
    (hR : ∀ w', Below w.heap.size w w' → R (.returned (.int .i64 (cmpN a.natAbs b.natAbs))) w') :
    Calls Tryd.prog 97 #[va, vb] w R := by
  obtain ⟨aa, na, ca, rfl, ena, hsa⟩ := ha.open
  obtain ⟨ab, nb, cb, rfl, enb, hsb⟩ := hb.open
  obtain ⟨xs, hxs⟩ : ∃ xs, xs = dig 10000 a.natAbs := ⟨_, rfl⟩
  obtain ⟨ys, hys⟩ : ∃ ys, ys = dig 10000 b.natAbs := ⟨_, rfl⟩
  have hx : ∀ d ∈ xs, d < 10000 := by rw [hxs]; exact dig_lt (by omega) _
  have hy : ∀ d ∈ ys, d < 10000 := by rw [hys]; exact dig_lt (by omega) _
  have hvx : val 10000 xs = a.natAbs := by rw [hxs]; exact val_dig (by omega) _
  have hvy : val 10000 ys = b.natAbs := by rw [hys]; exact val_dig (by omega) _
  have hlt : na < nb → a.natAbs < b.natAbs := fun h => lt_of_dig_length (B := 10000) (by omega) _ _ (by omega)
  have hgt : nb < na → b.natAbs < a.natAbs := fun h => lt_of_dig_length (B := 10000) (by omega) _ _ (by omega)
  rw [← ena] at hla
  rw [← enb] at hlb
  rw [← hxs] at hsa ena
  rw [← hys] at hsb enb
  have HR := Lib.hid hR
  obtain ⟨nega, hnega⟩ : ∃ x, x = decide (a < 0) := ⟨_, rfl⟩
  obtain ⟨negb, hnegb⟩ : ∃ x, x = decide (b < 0) := ⟨_, rfl⟩
  rw [← hnega, ← hnegb]
  have Ena := Lib.hid ena
  have Enb := Lib.hid enb
  have Hvx := Lib.hid hvx
  have Hvy := Lib.hid hvy
  have Hx := Lib.hid hx
  have Hy := Lib.hid hy
  have hba := Box2.made w (.bool nega) (.slice aa na ca) 49
  have hbel1 : Below w.heap.size w (w.alloc (.cells #[.bool nega, .slice aa na ca] 49)) := (Below.refl _ _).alloc (Nat.le_refl _) _
  have hbb := Box2.made (w.alloc (.cells #[.bool nega, .slice aa na ca] 49)) (.bool negb) (.slice ab nb cb) 49
  have HB := Lib.hid (hbel1.alloc (by simp) (.cells #[.bool negb, .slice ab nb cb] 49))
  have H1 := Lib.hid (hba.alloc (.cells #[.bool negb, .slice ab nb cb] 49))
  have H2 := Lib.hid hbb
  simp only [World.size_alloc] at H2
  clear hR hnega hnegb hxs hys ena enb hvx hvy ha hb hx hy hba hbb hbel1
  by_cases hne : na = nb
  · obtain rfl := hne
    have e0 : ((na : Int) != (na : Int)) = false := by simp
    clear hlt hgt
    go_enter Tryd.func97, Tryd.ntmps97
    go_wp2
    go_loopw [5] (fun i wr => ∃ k : Nat, k ≤ na ∧ i = .int .i64 ((k : Int) - 1) ∧ xs.drop k = ys.drop k ∧ Box2 wr w.heap.size (.bool nega) (.slice aa na ca) 49 ∧ Box2 wr (w.heap.size + 1) (.bool negb) (.slice ab na cb) 49 ∧ Below w.heap.size w wr) (fun i _ => (intOf i + 1).toNat)
    case atStart => exact ⟨na, Nat.le_refl _, rfl, by rw [Ena.out, List.drop_length, ← Ena.out, Enb.out, List.drop_length], H1.out, H2.out, HB.out⟩
    case round =>
      obtain ⟨k, hk, rfl, hdr, hba, hbb, hbel⟩ := hrel
      have Hdr := Lib.hid hdr; clear hdr
      obtain ⟨hA, hB, _, _⟩ := hba.cells
      obtain ⟨hC, hD, _, _⟩ := hbb.cells
      have HBEL := Lib.hid hbel
      by_cases hk0 : k = 0
      · subst hk0
        have hxy : xs = ys := Hdr.out
        have hv : a.natAbs = b.natAbs := by rw [← Hvx.out, ← Hvy.out, hxy]
        rw [hv, cmpN_eq] at HR
        clear hv hxy
        go_wp2
        first | go_ret | skip
        exact HR.out _ HBEL.out
      · obtain ⟨j, rfl⟩ : ∃ j, k = j + 1 := ⟨k - 1, by omega⟩
        obtain ⟨b1, o1, rfl, hb1, hc1⟩ := hsa.at j (by omega)
        obtain ⟨b2, o2, rfl, hb2, hc2⟩ := hsb.at j (by omega)
        rw [← hbel.cell (p := ⟨b1, o1 + j, none⟩) hb1] at hc1
        rw [← hbel.cell (p := ⟨b2, o2 + j, none⟩) hb2] at hc2
        obtain ⟨x, hxe⟩ : ∃ x, x = xs.getD j 0 := ⟨_, rfl⟩
        obtain ⟨y, hye⟩ : ∃ y, y = ys.getD j 0 := ⟨_, rfl⟩
        rw [← hxe] at hc1
        rw [← hye] at hc2
        have hxl : x < 10000 := by rw [hxe]; exact getD_lt (by omega) _ Hx.out _
        have hyl : y < 10000 := by rw [hye]; exact getD_lt (by omega) _ Hy.out _
        have Hxe := Lib.hid hxe
        have Hye := Lib.hid hye
        have hjn : j < na := by omega
        have hji : (0 : Int) ≤ (j : Int) := by omega
        have hji2 : (j : Int) < (na : Int) := by omega
        clear hxe hye hbel
        have es : ((j + 1 : Nat) : Int) - 1 = (j : Int) := by omega
        rw [es]
        clear es
        rcases Nat.lt_trichotomy x y with hxy | hxy | hxy
        · have hcm : a.natAbs < b.natAbs := by
            rw [← Hvx.out, ← Hvy.out]
            exact val_lt_at xs ys Hx.out j (by rw [← Ena.out]; exact hjn) (by rw [← Enb.out]; exact hjn) Hdr.out (by rw [← Hxe.out, ← Hye.out]; exact hxy)
          rw [cmpN_lt hcm] at HR
          clear hcm
          go_wp2
          go_quiet (fail)
          go_wp2
          first | go_ret | skip
          exact HR.out _ (below_draws HBEL.out _)
        · subst hxy
          have hdr2 : xs.drop j = ys.drop j := by
            have l1 : j < xs.length := by rw [← Ena.out]; exact hjn
            have l2 : j < ys.length := by rw [← Enb.out]; exact hjn
            have d1 : xs.drop j = xs[j] :: xs.drop (j + 1) := List.drop_eq_getElem_cons l1
            have d2 : ys.drop j = ys[j] :: ys.drop (j + 1) := List.drop_eq_getElem_cons l2
            rw [d1, d2, Hdr.out, ← getD_eq l1, ← getD_eq l2, ← Hxe.out, ← Hye.out]
          have Hdr2 := Lib.hid hdr2
          clear hdr2
          go_wp2
          go_quiet (fail)
          go_wp2
          go_quiet (fail)
          go_wp2
          go_roundw
          case rel => exact ⟨j, by omega, by go_num, Hdr2.out, (hba.drewN _), (hbb.drewN _), below_draws HBEL.out _⟩
          case measure => simp [intOf]
        · have hcm : b.natAbs < a.natAbs := by
            rw [← Hvx.out, ← Hvy.out]
            exact val_lt_at ys xs Hy.out j (by rw [← Enb.out]; exact hjn) (by rw [← Ena.out]; exact hjn) Hdr.out.symm (by rw [← Hxe.out, ← Hye.out]; exact hxy)
          rw [cmpN_gt hcm] at HR
          clear hcm
          go_wp2
          go_quiet (fail)
          go_wp2
          go_quiet (fail)
          go_wp2
          first | go_ret | skip
          exact HR.out _ (below_draws (below_draws HBEL.out _) _)
  · have e0 : ((na : Int) != (nb : Int)) = true := by simp; omega
    by_cases h : na < nb
    · rw [cmpN_lt (hlt h)] at HR
      clear hlt hgt hsa hsb
      go_enter Tryd.func97, Tryd.ntmps97
      go_wp2
      first | go_ret | skip
      exact HR.out _ HB.out
    · rw [cmpN_gt (hgt (by omega))] at HR
      clear hlt hgt hsa hsb
      go_enter Tryd.func97, Tryd.ntmps97
      go_wp2
      first | go_ret | skip
      exact HR.out _ HB.out
end Go.Proofs.YtjpbmagpieonoaaDoor
