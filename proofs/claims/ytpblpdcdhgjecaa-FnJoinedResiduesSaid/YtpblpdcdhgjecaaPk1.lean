/- Contracts of functions of the program and of the model: Num, Kit, Arr, Limb, Shelf, W64, Half, Div64, ModT, InvM, In, InvI, InvS, ResB, LawInv. -/
import Derived.WalkKit
import Derived.WalkSpells
import Derived.Lib.Hide
import Derived.WalkSmall
import Derived.Deep.QuietTactic
import Derived.BigQuiet
import Derived.Shelf.Small.Bits
import Derived.Shelf.Strconv.Itoa0
import Derived.Shelf.Bits.Mul64
import Derived.Test.YtpblpdcdhgjecaaProg
import Derived.Laws.Externs
import Derived.Shelf.Spec.BitsCarry
import Derived.Deep.CutBlock
import Derived.Deep.DeepCutAuto
set_option linter.all false
set_option linter.unusedVariables false
set_option linter.unusedSimpArgs false
set_option linter.unnecessarySimpa false
set_option linter.deprecated false
namespace Go.Proofs.Ytpblpdcdhgjecaa

/-- the digits of a number to a base, from the least one on -/
def dig (B : Nat) (n : Nat) : List Nat := if _h : n = 0 ∨ B < 2 then [] else n % B :: dig B (n / B)
termination_by n
decreasing_by exact Nat.div_lt_self (by omega) (by omega)

/-- the value of a list of digits, from the least one on -/
def val (B : Nat) : List Nat → Nat
  | [] => 0
  | d :: ds => d + B * val B ds

/-- how many digits are left when the zeros at the end are dropped -/
def cutLen (xs : List Nat) : Nat → Nat
  | 0 => 0
  | n + 1 => if xs.getD n 0 = 0 then cutLen xs n else n + 1

theorem dig_zero (B : Nat) : dig B 0 = [] := by rw [dig]; simp
theorem dig_pos {B n : Nat} (hB : 2 ≤ B) (hn : n ≠ 0) : dig B n = n % B :: dig B (n / B) := by rw [dig, dif_neg (by omega)]
theorem dig_small {B n : Nat} (hn : n ≠ 0) (h : n < B) : dig B n = [n] := by
  rw [dig_pos (by omega) hn, Nat.mod_eq_of_lt h, Nat.div_eq_of_lt h, dig_zero]

theorem val_dig {B : Nat} (hB : 2 ≤ B) (n : Nat) : val B (dig B n) = n := by
  induction n using Nat.strongRecOn with
  | _ n ih =>
    by_cases hn : n = 0
    · subst hn; rw [dig_zero]; rfl
    · rw [dig_pos hB hn, val, ih (n / B) (Nat.div_lt_self (by omega) (by omega))]
      exact Nat.mod_add_div n B

theorem dig_lt {B : Nat} (hB : 2 ≤ B) (n : Nat) : ∀ d ∈ dig B n, d < B := by
  induction n using Nat.strongRecOn with
  | _ n ih =>
    by_cases hn : n = 0
    · subst hn; rw [dig_zero]; intro d h; cases h
    · rw [dig_pos hB hn]
      intro d h
      rcases List.mem_cons.1 h with h | h
      · rw [h]; exact Nat.mod_lt _ (by omega)
      · exact ih (n / B) (Nat.div_lt_self (by omega) (by omega)) d h

theorem dig_eq_nil {B n : Nat} (hB : 2 ≤ B) : dig B n = [] ↔ n = 0 := by
  constructor
  · intro h
    by_cases hn : n = 0
    · exact hn
    · rw [dig_pos hB hn] at h; cases h
  · intro h; rw [h, dig_zero]

theorem val_append (B : Nat) (xs ys : List Nat) : val B (xs ++ ys) = val B xs + B ^ xs.length * val B ys := by
  induction xs with
  | nil => simp [val]
  | cons x xs ih => simp only [List.cons_append, val, ih, List.length_cons, Nat.pow_succ, Nat.mul_add]; rw [Nat.mul_comm (B ^ xs.length) B, Nat.mul_assoc, Nat.add_assoc]

theorem val_lt {B : Nat} (xs : List Nat) (h : ∀ d ∈ xs, d < B) : val B xs < B ^ xs.length := by
  induction xs with
  | nil => simp [val]
  | cons x xs ih =>
    have hx : x < B := h x (by simp)
    have := ih (fun d hd => h d (by simp [hd]))
    have hm : B * (val B xs + 1) ≤ B * B ^ xs.length := Nat.mul_le_mul_left B this
    simp only [val, List.length_cons, Nat.pow_succ]
    rw [Nat.mul_comm (B ^ xs.length) B]
    rw [Nat.mul_add] at hm
    omega

theorem val_cons_pos {B : Nat} (x : Nat) (xs : List Nat) : val B (x :: xs) = x + B * val B xs := rfl

/-- a list of digits without a zero at its end is the list of the digits of its value -/
theorem dig_val {B : Nat} (hB : 2 ≤ B) (xs : List Nat) (h : ∀ d ∈ xs, d < B) (hl : xs.getLast? ≠ some 0) : dig B (val B xs) = xs := by
  induction xs with
  | nil => simp [val, dig_zero]
  | cons x xs ih =>
    have hx : x < B := h x (by simp)
    have hxs : ∀ d ∈ xs, d < B := fun d hd => h d (by simp [hd])
    cases xs with
    | nil =>
      have : x ≠ 0 := by intro e; subst e; simp at hl
      simp only [val, Nat.mul_zero, Nat.add_zero]
      exact dig_small this hx
    | cons y ys =>
      have ih' := ih hxs (by simpa [List.getLast?_cons_cons] using hl)
      have hne : val B (y :: ys) ≠ 0 := by
        intro e; rw [e, dig_zero] at ih'; cases ih'
      have hmul : B * 1 ≤ B * val B (y :: ys) := Nat.mul_le_mul_left B (by omega)
      rw [val_cons_pos, dig_pos hB (by omega), Nat.add_mul_mod_self_left, Nat.mod_eq_of_lt hx, Nat.add_mul_div_left _ _ (by omega), Nat.div_eq_of_lt hx, Nat.zero_add, ih']

theorem cutLen_le (xs : List Nat) (n : Nat) : cutLen xs n ≤ n := by
  induction n with
  | zero => simp [cutLen]
  | succ n ih => simp only [cutLen]; split <;> omega

theorem val_take_cut {B : Nat} (xs : List Nat) (n : Nat) : n ≤ xs.length → val B (xs.take (cutLen xs n)) = val B (xs.take n) := by
  induction n with
  | zero => intro _; simp [cutLen]
  | succ n ih =>
    intro hn
    simp only [cutLen]
    split
    · rename_i hz
      rw [ih (by omega), List.take_succ_eq_append_getElem (by omega : n < xs.length), val_append]
      have : xs[n] = 0 := by simpa [List.getD, List.getElem?_eq_getElem (by omega : n < xs.length)] using hz
      rw [this]; simp [val]
    · rfl

theorem getLast_cut (xs : List Nat) (n : Nat) : n ≤ xs.length → (xs.take (cutLen xs n)).getLast? ≠ some 0 := by
  induction n with
  | zero => intro _; simp [cutLen]
  | succ n ih =>
    intro hn
    simp only [cutLen]
    split
    · exact ih (by omega)
    · rename_i hz
      rw [List.take_succ_eq_append_getElem (by omega : n < xs.length)]
      simp only [List.getLast?_append, List.getLast?_singleton, Option.some_or]
      intro e
      apply hz
      simp [List.getD, List.getElem?_eq_getElem (by omega : n < xs.length)]
      simpa using e

/-- dropping the zeros at the end gives the digits of the value -/
theorem take_cut {B : Nat} (hB : 2 ≤ B) (xs : List Nat) (h : ∀ d ∈ xs, d < B) : xs.take (cutLen xs xs.length) = dig B (val B xs) := by
  have h1 := val_take_cut (B := B) xs xs.length (Nat.le_refl _)
  rw [List.take_length] at h1
  rw [← h1, dig_val hB _ (fun d hd => h d (List.mem_of_mem_take hd)) (getLast_cut xs _ (Nat.le_refl _))]

theorem cutLen_eq {B : Nat} (hB : 2 ≤ B) (xs : List Nat) (h : ∀ d ∈ xs, d < B) : cutLen xs xs.length = (dig B (val B xs)).length := by
  rw [← take_cut hB xs h, List.length_take]; have := cutLen_le xs xs.length; omega

theorem dig_length_le {B : Nat} (hB : 2 ≤ B) (k : Nat) : ∀ n, n < B ^ k → (dig B n).length ≤ k := by
  induction k with
  | zero => intro n hn; simp at hn; subst hn; simp [dig_zero]
  | succ k ih =>
    intro n hn
    by_cases h0 : n = 0
    · subst h0; simp [dig_zero]
    · rw [dig_pos hB h0, List.length_cons]
      have : n / B < B ^ k := by
        rw [Nat.div_lt_iff_lt_mul (by omega)]; rw [Nat.pow_succ] at hn; exact hn
      have := ih _ this
      omega

theorem lt_pow_dig {B : Nat} (hB : 2 ≤ B) (n : Nat) : n < B ^ (dig B n).length := by
  have h := val_lt (dig B n) (dig_lt hB n)
  rwa [val_dig hB] at h

/-- with a base of at least 10, a number less than a power of 10 has at most so many digits -/
theorem dig_length_ten {B : Nat} (hB : 10 ≤ B) {n e : Nat} (h : n < 10 ^ e) : (dig B n).length ≤ e :=
  dig_length_le (by omega) e n (Nat.lt_of_lt_of_le h (Nat.pow_le_pow_left hB e))

theorem dig_getD_lt {B : Nat} (hB : 2 ≤ B) (n i : Nat) : (dig B n).getD i 0 < B := by
  by_cases h : i < (dig B n).length
  · simp only [List.getD, List.getElem?_eq_getElem h, Option.getD_some]
    exact dig_lt hB n _ (List.getElem_mem h)
  · simp only [List.getD, List.getElem?_eq_none (by omega : (dig B n).length ≤ i), Option.getD_none]; omega

theorem tmod_neg_nat (a : Nat) : (-(a : Int)).tmod 10000 = -((a % 10000 : Nat) : Int) := by rw [Int.neg_tmod]; rfl
theorem tdiv_neg_nat (a : Nat) : (-(a : Int)).tdiv 10000 = -((a / 10000 : Nat) : Int) := by rw [Int.neg_tdiv]; rfl

theorem val_take_drop (B : Nat) (xs : List Nat) (k : Nat) (h : k ≤ xs.length) : val B xs = val B (xs.take k) + B ^ k * val B (xs.drop k) := by
  have := val_append B (xs.take k) (xs.drop k)
  rw [List.take_append_drop, List.length_take, Nat.min_eq_left h] at this
  exact this

theorem getD_eq {xs : List Nat} {k : Nat} (h : k < xs.length) : xs.getD k 0 = xs[k] := by simp [List.getD, List.getElem?_eq_getElem h]

theorem val_drop (B : Nat) (xs : List Nat) (k : Nat) (h : k < xs.length) : val B (xs.drop k) = xs.getD k 0 + B * val B (xs.drop (k + 1)) := by
  rw [getD_eq h, List.drop_eq_getElem_cons h]; rfl

theorem val_drop_all (B : Nat) (xs : List Nat) (k : Nat) (h : xs.length ≤ k) : val B (xs.drop k) = 0 := by
  rw [List.drop_eq_nil_of_le h]; rfl

theorem val_snoc (B : Nat) (xs : List Nat) (x : Nat) : val B (xs ++ [x]) = val B xs + B ^ xs.length * x := by
  rw [val_append]; simp [val]

theorem getD_lt {B : Nat} (hB : 0 < B) (xs : List Nat) (h : ∀ d ∈ xs, d < B) (k : Nat) : xs.getD k 0 < B := by
  by_cases hk : k < xs.length
  · rw [getD_eq hk]; exact h _ (List.getElem_mem hk)
  · simp only [List.getD, List.getElem?_eq_none (by omega : xs.length ≤ k), Option.getD_none]; exact hB

/-- the first digit from above at which two numbers of as many digits differ decides -/
theorem val_lt_at {B : Nat} (xs ys : List Nat) (hx : ∀ d ∈ xs, d < B) (i : Nat) (hi : i < xs.length) (hj : i < ys.length)
    (hd : xs.drop (i + 1) = ys.drop (i + 1)) (h : xs.getD i 0 < ys.getD i 0) : val B xs < val B ys := by
  rw [val_take_drop B xs i (by omega), val_take_drop B ys i (by omega), val_drop B xs i hi, val_drop B ys i hj, hd]
  have h1 := val_lt (B := B) (xs.take i) (fun d hd => hx d (List.mem_of_mem_take hd))
  rw [List.length_take, Nat.min_eq_left (by omega)] at h1
  have h2 : B ^ i * (xs.getD i 0 + B * val B (ys.drop (i + 1)) + 1) ≤ B ^ i * (ys.getD i 0 + B * val B (ys.drop (i + 1))) := Nat.mul_le_mul_left _ (by omega)
  rw [Nat.mul_add, Nat.mul_one] at h2
  omega

/-- a number with fewer digits is less -/
theorem lt_of_dig_length {B : Nat} (hB : 2 ≤ B) (a b : Nat) (h : (dig B a).length < (dig B b).length) : a < b := by
  rcases Nat.lt_or_ge a b with h1 | h1
  · exact h1
  · exfalso
    have := lt_pow_dig hB a
    have := dig_length_le hB _ b (Nat.lt_of_le_of_lt h1 this)
    omega

/-- -1, 0 or 1 -/
def cmpN (a b : Nat) : Int := if a < b then -1 else if b < a then 1 else 0

end Go.Proofs.Ytpblpdcdhgjecaa

namespace Go.Proofs.Ytpblpdcdhgjecaa
open Go Go.RowKit

/-- numbers as values of a kind -/
def nums (k : IntKind) (xs : List Nat) : List Value := xs.map fun x => .int k ((x : Nat) : Int)

theorem nums_length (k : IntKind) (xs : List Nat) : (nums k xs).length = xs.length := by simp [nums]
theorem nums_get (k : IntKind) (xs : List Nat) (i : Nat) (h : i < xs.length) : (nums k xs)[i]? = some (.int k ((xs.getD i 0 : Nat) : Int)) := by
  simp [nums, List.getD, List.getElem?_eq_getElem h]
theorem nums_append (k : IntKind) (xs ys : List Nat) : nums k (xs ++ ys) = nums k xs ++ nums k ys := by simp [nums]

theorem bcell {B : Nat} {W w1 : World} (hb : Below B W w1) : (∀ b o, b < B → w1.cell? ⟨b, o, none⟩ = W.cell? ⟨b, o, none⟩) ∧ (∀ b o, b < B → w1.frozen? ⟨b, o, none⟩ = W.frozen? ⟨b, o, none⟩) :=
  ⟨fun b o h => hb.cell (p := ⟨b, o, none⟩) h, fun b o h => hb.frozen (p := ⟨b, o, none⟩) h⟩

/-- behind a callee that changes nothing that there was, what was so below B is so -/
theorem belowThen {B : Nat} {w W w1 : World} (h : Below B w W) (hB : B ≤ W.heap.size) (hb : Below W.heap.size W w1) : Below B w w1 := h.trans (hb.mono hB)

theorem below_draws {B : Nat} {w w' : World} (h : Below B w w') (n : Nat) : Below B w (w'.drewN n) := below_drewN h n

/-- a slice value reads as a list of numbers -/
def Sl (k : IntKind) (w : World) (v : Value) (xs : List Nat) : Prop :=
  ∃ ao cap, v = .slice ao xs.length cap ∧ xs.length ≤ cap ∧ ∀ i, i < xs.length → ∃ b off, ao = some ⟨b, off, none⟩ ∧ b < w.heap.size ∧ w.cell? ⟨b, off + i, none⟩ = some (.int k ((xs.getD i 0 : Nat) : Int))

theorem Sl.later {k : IntKind} {w w' : World} {v : Value} {xs : List Nat} {B : Nat} (h : Sl k w v xs) (hb : Below B w w') (hB : w.heap.size ≤ B) : Sl k w' v xs := by
  obtain ⟨ao, cap, hv, hc, hx⟩ := h
  refine ⟨ao, cap, hv, hc, fun i hi => ?_⟩
  obtain ⟨b, off, h1, h2, h3⟩ := hx i hi
  exact ⟨b, off, h1, Nat.lt_of_lt_of_le h2 hb.size, by rw [hb.cell (p := ⟨b, off + i, none⟩) (by exact Nat.lt_of_lt_of_le h2 hB)]; exact h3⟩

theorem Sl.alloc {k : IntKind} {w : World} {v : Value} {xs : List Nat} (h : Sl k w v xs) (o : Obj) : Sl k (w.alloc o) v xs :=
  h.later ((Below.refl w.heap.size w).alloc (Nat.le_refl _) o) (Nat.le_refl _)

theorem Sl.nil (k : IntKind) (w : World) (ao : Option Addr) (cap : Nat) : Sl k w (.slice ao 0 cap) [] := ⟨ao, cap, rfl, Nat.zero_le _, fun i hi => absurd hi (by simp)⟩

/-- either there is nothing, or the cells lie one behind the other in a block that is there -/
theorem Sl.cases {k : IntKind} {w : World} {v : Value} {xs : List Nat} (h : Sl k w v xs) :
    (xs = [] ∧ ∃ ao cap, v = .slice ao 0 cap) ∨
    (0 < xs.length ∧ ∃ b off cap, v = .slice (some ⟨b, off, none⟩) xs.length cap ∧ xs.length ≤ cap ∧ b < w.heap.size ∧ ∀ i, i < xs.length → w.cell? ⟨b, off + i, none⟩ = some (.int k ((xs.getD i 0 : Nat) : Int))) := by
  obtain ⟨ao, cap, hv, hc, hx⟩ := h
  by_cases h0 : xs.length = 0
  · have : xs = [] := List.length_eq_zero_iff.1 h0
    subst this
    exact .inl ⟨rfl, ao, cap, hv⟩
  · obtain ⟨b, off, h1, h2, _⟩ := hx 0 (by omega)
    subst h1
    refine .inr ⟨by omega, b, off, cap, hv, hc, h2, fun i hi => ?_⟩
    obtain ⟨b', off', h1', _, h3'⟩ := hx i hi
    cases h1'
    exact h3'

theorem Sl.len {k : IntKind} {w : World} {ao : Option Addr} {n cap : Nat} {xs : List Nat} (h : Sl k w (.slice ao n cap) xs) : n = xs.length := by
  obtain ⟨_, _, hv, _, _⟩ := h
  simp only [Value.slice.injEq] at hv
  exact hv.2.1

theorem Sl.cap {k : IntKind} {w : World} {ao : Option Addr} {n cap : Nat} {xs : List Nat} (h : Sl k w (.slice ao n cap) xs) : n ≤ cap := by
  obtain ⟨_, _, hv, hc, _⟩ := h
  simp only [Value.slice.injEq] at hv
  rw [hv.2.1, hv.2.2]; exact hc

/-- where an element lies -/
theorem Sl.at {k : IntKind} {w : World} {ao : Option Addr} {n cap : Nat} {xs : List Nat} (h : Sl k w (.slice ao n cap) xs) (i : Nat) (hi : i < n) :
    ∃ b off, ao = some ⟨b, off, none⟩ ∧ b < w.heap.size ∧ w.cell? ⟨b, off + i, none⟩ = some (.int k ((xs.getD i 0 : Nat) : Int)) := by
  have hl := h.len
  obtain ⟨_, _, hv, _, hx⟩ := h
  simp only [Value.slice.injEq] at hv
  rw [hv.1]
  exact hx i (by omega)

theorem Sl.mk {k : IntKind} {w : World} {b off cap n : Nat} {xs : List Nat} (hn : n = xs.length) (hc : n ≤ cap) (hb : b < w.heap.size)
    (hx : ∀ i, i < xs.length → w.cell? ⟨b, off + i, none⟩ = some (.int k ((xs.getD i 0 : Nat) : Int))) : Sl k w (.slice (some ⟨b, off, none⟩) n cap) xs := by
  subst hn
  exact ⟨_, cap, rfl, hc, fun i hi => ⟨b, off, rfl, hb, hx i hi⟩⟩

/-- the first of them -/
theorem Sl.take {k : IntKind} {w : World} {b off cap : Nat} {xs : List Nat} (n : Nat) (hn : n ≤ xs.length) (hc : xs.length ≤ cap) (hb : b < w.heap.size)
    (hx : ∀ i, i < xs.length → w.cell? ⟨b, off + i, none⟩ = some (.int k ((xs.getD i 0 : Nat) : Int))) : Sl k w (.slice (some ⟨b, off, none⟩) n cap) (xs.take n) := by
  refine Sl.mk (by simp; omega) (by omega) hb (fun i hi => ?_)
  have hi' : i < n := by simp at hi; omega
  rw [hx i (by omega)]
  simp [List.getD, hi']

/-- a slice that the call has made itself, from block B on -/
def Own (k : IntKind) (e : TypeId) (w : World) (B : Nat) (v : Value) (xs : List Nat) : Prop := w.ownsRow B e 1 v xs.length (nums k xs)

theorem Own.nil (k : IntKind) (e : TypeId) (w : World) (B : Nat) : Own k e w B (.slice none 0 0) [] := World.ownsRow_nil _ _ _ _

theorem Own.lit (k : IntKind) (e : TypeId) (w : World) (B : Nat) (hB : B ≤ w.heap.size) : Own k e (w.alloc (.cells #[] e)) B (.slice (some ⟨w.heap.size, 0, none⟩) 0 0) [] := by
  have := World.ownsRow_made (base := B) (e := e) (size := 1) w #[] 0 hB (by simp) (by simp)
  simpa [Own, nums] using this

theorem Own.lit1 (k : IntKind) (e : TypeId) (w : World) (B x : Nat) (z : Int) (hz : z = (x : Int)) (hB : B ≤ w.heap.size) : Own k e (w.alloc (.cells #[.int k z] e)) B (.slice (some ⟨w.heap.size, 0, none⟩) 1 1) [x] := by
  subst hz
  refine ⟨by simp [nums], .inr ⟨w.heap.size, 1, #[.int k (x : Int)], rfl, hB, ?_, by simp, by simp only [maxLen]; omega, by simp, by simp [nums]⟩⟩
  show (w.heap.push _)[_]? = _
  simp

theorem Own.sl {k : IntKind} {e : TypeId} {w : World} {B : Nat} {v : Value} {xs : List Nat} (h : Own k e w B v xs) : Sl k w v xs := by
  obtain ⟨h1, h2⟩ := h
  rcases h2 with ⟨rfl, h2⟩ | ⟨g, cap, cur, rfl, hg, hh, hn, hm, hs, ht⟩
  · have : xs = [] := List.length_eq_zero_iff.1 h2
    subst this; exact Sl.nil _ _ _ _
  · refine Sl.mk rfl hn (by obtain ⟨h, _⟩ := Array.getElem?_eq_some_iff.1 hh; exact h) (fun i hi => ?_)
    have hi2 : (nums k xs)[i]? = some (.int k ((xs.getD i 0 : Nat) : Int)) := nums_get k xs i hi
    rw [← ht] at hi2
    simp only [World.cell?, hh]
    rw [List.getElem?_take] at hi2
    split at hi2
    · simp only [Option.isSome_none, Bool.false_eq_true, if_false, Nat.zero_add]
      rw [← Array.getElem?_toList]; exact hi2
    · cases hi2

theorem Own.alloc {k : IntKind} {e : TypeId} {w : World} {B : Nat} {v : Value} {xs : List Nat} (h : Own k e w B v xs) (o : Obj) : Own k e (w.alloc o) B v xs := World.ownsRow.alloc h o

theorem Own.ownBlock {k : IntKind} {e : TypeId} {w : World} {B : Nat} {v : Value} {xs : List Nat} (h : Own k e w B v xs) : ∀ g, v.ownBlock = some g → B ≤ g ∧ g < w.heap.size := World.ownsRow.lt h

/-- an owned slice behind changes of other blocks from some block on -/
theorem Own.later {k : IntKind} {e : TypeId} {w w' : World} {B B' : Nat} {v : Value} {xs : List Nat} (h : Own k e w B v xs) (hb : Below B' w w') (hB : w.heap.size ≤ B') : Own k e w' B v xs :=
  World.ownsRow.kept (row := none) h ⟨hb.os, hb.tape, hb.output, hb.size, fun k hk _ => hb.block k (Nat.lt_of_lt_of_le hk hB)⟩ (by
    by_cases h0 : v.ownBlock = none
    · exact .inl h0
    · exact .inr h0)

/-- one element is appended to a slice that the call has made -/
theorem wpList_push {P : Program} {w : World} {ops : Array Oper} {rest : List Oper} {o : Oper} {a : Act} {Q : Exit → Act → World → Prop} (hgd : o.guard = none) (s x : Operand) (t : TypeId)
    (ho : o.op = .call { callee := .builtin .append, args := #[s, x], argTypes := #[t, t] })
    (e : TypeId) (k : IntKind) (bytes : Nat) (ht : P.underlying t = some (.slice e)) (hi : (P.info? e).map (fun i => (i.zero, i.size, i.bytes)) = some (some (.int k 0), 1, bytes)) (hby : bytes ≤ 16)
    (B : Nat) (v : Value) (xs : List Nat) (n : Nat) (hs : a.eval s = v) (hown : Own k e w B v xs)
    (g : Nat) (hx : a.eval x = .slice (some ⟨g, 0, none⟩) 1 1) (hg : w.cell? ⟨g, 0, none⟩ = some (.int k ((n : Nat) : Int)))
    (hlen : xs.length ≤ 100000000) (hB : B ≤ w.heap.size)
    (h : ∀ v' w', Own k e w' B v' (xs ++ [n]) → Below B w w' → wpList P ops Q rest (a.put o.dst v') w') : wpList P ops Q (o :: rest) a w := by
  obtain ⟨i0, hi0, hz0, hz1, hz2⟩ := info_parts hi
  refine wpList_append_own w hgd s x t ho B e i0 (.int k 0) 1 bytes ht hi0 hz0 hz1 hz2 rfl (by decide) v xs.length (nums k xs) hs hown ⟨g, 0, none⟩ 1 1 [.int k ((n : Nat) : Int)] hx rfl ?_ ?_ ?_ ?_ hB ?_
  · intro j u hj
    match j, hj with
    | 0, hj => simp at hj; subst hj; simpa [Addr.add] using hg
  · intro u hu; simp at hu; subst hu; rfl
  · simp only [maxLen]; omega
  · have : (xs.length + 1) * bytes ≤ (xs.length + 1) * 16 := Nat.mul_le_mul_left _ hby
    omega
  · intro v' w' hown' hgrow _
    refine h v' w' ?_ ?_
    · simpa [Own, nums] using hown'
    · refine (Below.refl B w).grown hgrow hB (fun g' hg' => ?_)
      exact (Own.ownBlock hown g' hg').1

/-- the end of a function whose result lies in memory; the value is what the run says -/
theorem bodyPost_ret_at {P : Program} {fn : Func} {R : Ending → World → Prop} {a : Act} {w : World} {v : Value}
    (hr : (results fn a.tmps).run P w = .ok v w) (hd : a.defers = []) (hR : R (.returned v) w) : bodyPost P fn R .ret a w := ⟨hd, v, hr, hR⟩

/-- the same where the number is reckoned as an integer -/
theorem wpList_pushz {P : Program} {w : World} {ops : Array Oper} {rest : List Oper} {o : Oper} {a : Act} {Q : Exit → Act → World → Prop} (hgd : o.guard = none) (s x : Operand) (t : TypeId)
    (ho : o.op = .call { callee := .builtin .append, args := #[s, x], argTypes := #[t, t] })
    (e : TypeId) (k : IntKind) (bytes : Nat) (ht : P.underlying t = some (.slice e)) (hi : (P.info? e).map (fun i => (i.zero, i.size, i.bytes)) = some (some (.int k 0), 1, bytes)) (hby : bytes ≤ 16)
    (B : Nat) (v : Value) (xs : List Nat) (n : Nat) (z : Int) (hz : z = (n : Int)) (hs : a.eval s = v) (hown : Own k e w B v xs)
    (g : Nat) (hx : a.eval x = .slice (some ⟨g, 0, none⟩) 1 1) (hg : w.cell? ⟨g, 0, none⟩ = some (.int k z))
    (hlen : xs.length ≤ 100000000) (hB : B ≤ w.heap.size)
    (h : ∀ v' w', Own k e w' B v' (xs ++ [n]) → Below B w w' → wpList P ops Q rest (a.put o.dst v') w') : wpList P ops Q (o :: rest) a w := by
  subst hz
  exact wpList_push hgd s x t ho e k bytes ht hi hby B v xs n hs hown g hx hg hlen hB h

/-- a value that is no number -/
def notInt : Value → Bool
  | .int _ _ => false
  | _ => true

/-- no cell of a block holds a number: so a list of numbers does not lie there -/
def NoInt (w : World) (b : Nat) : Prop := ∀ o u, w.cell? ⟨b, o, none⟩ = some u → notInt u = true

theorem cell?_set (w : World) (b o c q : Nat) (u : Value) : (w.setCell ⟨b, o, none⟩ u).cell? ⟨c, q, none⟩ = if c = b ∧ q = o then (w.cell? ⟨c, q, none⟩).map (fun _ => u) else w.cell? ⟨c, q, none⟩ := by
  simp only [World.cell?, World.setCell, Array.getElem?_modify]
  by_cases hc : c = b
  · subst hc
    simp only [true_and, if_true]
    cases hh : w.heap[c]? with
    | none => simp
    | some ob =>
      cases ob <;> simp
      rename_i cs t f
      by_cases hq : q = o
      · subst hq
        simp only [if_true]
        rw [Array.getElem?_setIfInBounds]
        simp only [if_true]
        split
        · rename_i hlt; rw [Array.getElem?_eq_getElem hlt]; rfl
        · rename_i hlt; rw [Array.getElem?_eq_none (by omega)]; rfl
      · rw [Array.getElem?_setIfInBounds_ne (fun e => hq e.symm), if_neg hq]
  · simp only [hc, false_and, if_false]
    rw [if_neg (fun e => hc e.symm)]

theorem NoInt.set {w : World} {b : Nat} (h : NoInt w b) (o c : Nat) {u : Value} (hu : notInt u = true) : NoInt (w.setCell ⟨c, o, none⟩ u) b := by
  intro q x hx
  rw [cell?_set] at hx
  split at hx
  · cases hw : w.cell? ⟨b, q, none⟩ with
    | none => rw [hw] at hx; cases hx
    | some y => rw [hw] at hx; simp at hx; subst hx; exact hu
  · exact h q x hx

theorem heap_size_set (w : World) (a : Addr) (u : Value) : (w.setCell a u).heap.size = w.heap.size := by simp [World.setCell]

/-- a store into a block without numbers leaves a list of numbers as it is -/
theorem Sl.set {k : IntKind} {w : World} {v : Value} {xs : List Nat} (h : Sl k w v xs) {b : Nat} (hb : NoInt w b) (o : Nat) (u : Value) : Sl k (w.setCell ⟨b, o, none⟩ u) v xs := by
  obtain ⟨ao, cap, hv, hc, hx⟩ := h
  refine ⟨ao, cap, hv, hc, fun i hi => ?_⟩
  obtain ⟨c, off, h1, h2, h3⟩ := hx i hi
  refine ⟨c, off, h1, by rw [heap_size_set]; exact h2, ?_⟩
  rw [cell?_set, if_neg]
  · exact h3
  · rintro ⟨rfl, _⟩
    have := hb _ _ h3
    cases this

/-- a block of two cells -/
def Box2 (w : World) (b : Nat) (u v : Value) (t : TypeId) : Prop := w.heap[b]? = some (.cells #[u, v] t (0, 0))
theorem Box2.cells {w : World} {b : Nat} {u v : Value} {t : TypeId} (h : Box2 w b u v t) :
    w.cell? ⟨b, 0, none⟩ = some u ∧ w.cell? ⟨b, 1, none⟩ = some v ∧ w.frozen? ⟨b, 0, none⟩ = false ∧ w.frozen? ⟨b, 1, none⟩ = false := by
  unfold Box2 at h
  simp [World.cell?, World.frozen?, h]
theorem Box2.noInt {w : World} {b : Nat} {u v : Value} {t : TypeId} (h : Box2 w b u v t) (hu : notInt u = true) (hv : notInt v = true) : NoInt w b := by
  intro o x hx
  unfold Box2 at h
  simp only [World.cell?, h, Option.isSome_none, Bool.false_eq_true, if_false] at hx
  match o, hx with
  | 0, hx => simp at hx; subst hx; exact hu
  | 1, hx => simp at hx; subst hx; exact hv
  | (n + 2), hx => simp at hx
theorem Box2.later {w w' : World} {b : Nat} {u v : Value} {t : TypeId} {B : Nat} (h : Box2 w b u v t) (hb : Below B w w') (hB : b < B) : Box2 w' b u v t := by
  unfold Box2 at *; rw [hb.block b hB]; exact h
theorem Box2.alloc {w : World} {b : Nat} {u v : Value} {t : TypeId} (h : Box2 w b u v t) (o : Obj) : Box2 (w.alloc o) b u v t :=
  h.later ((Below.refl w.heap.size w).alloc (Nat.le_refl _) o) (lt_of_block h)
theorem Box2.drewN {w : World} {b : Nat} {u v : Value} {t : TypeId} (h : Box2 w b u v t) (n : Nat) : Box2 (w.drewN n) b u v t := h
theorem Box2.made (w : World) (u v : Value) (t : TypeId) : Box2 (w.alloc (.cells #[u, v] t)) w.heap.size u v t := by
  show (w.heap.push _)[_]? = _
  simp

end Go.Proofs.Ytpblpdcdhgjecaa

namespace Go.Proofs.Ytpblpdcdhgjecaa
open Go Go.RowKit

/-- a block holds these numbers and nothing else -/
def Arr (k : IntKind) (e : TypeId) (w : World) (g : Nat) (xs : List Nat) : Prop := w.heap[g]? = some (.cells (nums k xs).toArray e (0, 0))

theorem Arr.lt {k : IntKind} {e : TypeId} {w : World} {g : Nat} {xs : List Nat} (h : Arr k e w g xs) : g < w.heap.size := lt_of_block h

theorem Arr.cell {k : IntKind} {e : TypeId} {w : World} {g : Nat} {xs : List Nat} (h : Arr k e w g xs) (i : Nat) (hi : i < xs.length) : w.cell? ⟨g, i, none⟩ = some (.int k ((xs.getD i 0 : Nat) : Int)) := by
  unfold Arr at h
  simp only [World.cell?, h, Option.isSome_none, Bool.false_eq_true, if_false, List.getElem?_toArray]
  exact nums_get k xs i hi

theorem Arr.frozen {k : IntKind} {e : TypeId} {w : World} {g : Nat} {xs : List Nat} (h : Arr k e w g xs) (i : Nat) : w.frozen? ⟨g, i, none⟩ = false := by
  unfold Arr at h
  simp [World.frozen?, h]

theorem Arr.set {k : IntKind} {e : TypeId} {w : World} {g : Nat} {xs : List Nat} (h : Arr k e w g xs) (i x : Nat) : Arr k e (w.setCell ⟨g, i, none⟩ (.int k (x : Int))) g (xs.set i x) := by
  unfold Arr at *
  simp only [World.setCell, Array.getElem?_modify, h, if_true, Option.map_some]
  congr 2
  simp [nums, List.map_set]

theorem Arr.setz {k : IntKind} {e : TypeId} {w : World} {g : Nat} {xs : List Nat} (h : Arr k e w g xs) (i x : Nat) (z : Int) (hz : z = (x : Int)) : Arr k e (w.setCell ⟨g, i, none⟩ (.int k z)) g (xs.set i x) := by
  subst hz; exact h.set i x

theorem Arr.other {k : IntKind} {e : TypeId} {w : World} {g : Nat} {xs : List Nat} (h : Arr k e w g xs) {g' : Nat} (hg : g ≠ g') (i : Nat) (u : Value) : Arr k e (w.setCell ⟨g', i, none⟩ u) g xs := by
  unfold Arr at *
  rw [Below.heap_setCell _ _ _ _ hg]; exact h

theorem Arr.later {k : IntKind} {e : TypeId} {w w' : World} {g : Nat} {xs : List Nat} (h : Arr k e w g xs) {B : Nat} (hb : Below B w w') (hB : g < B) : Arr k e w' g xs := by
  unfold Arr at *; rw [hb.block g hB]; exact h

theorem Arr.drewN {k : IntKind} {e : TypeId} {w : World} {g : Nat} {xs : List Nat} (h : Arr k e w g xs) (n : Nat) : Arr k e (w.drewN n) g xs := h

theorem Arr.alloc {k : IntKind} {e : TypeId} {w : World} {g : Nat} {xs : List Nat} (h : Arr k e w g xs) (o : Obj) : Arr k e (w.alloc o) g xs :=
  h.later ((Below.refl w.heap.size w).alloc (Nat.le_refl _) o) h.lt

/-- a slice of it -/
theorem Arr.sub {k : IntKind} {e : TypeId} {w : World} {g : Nat} {xs : List Nat} (h : Arr k e w g xs) (off n cap : Nat) (hn : off + n ≤ xs.length) (hc : n ≤ cap) : Sl k w (.slice (some ⟨g, off, none⟩) n cap) ((xs.drop off).take n) := by
  refine Sl.mk (by simp; omega) hc h.lt (fun i hi => ?_)
  have hi' : i < n := by simp at hi; omega
  rw [h.cell (off + i) (by omega)]
  simp [List.getD, List.getElem?_take, List.getElem?_drop, hi']

theorem Arr.sl {k : IntKind} {e : TypeId} {w : World} {g : Nat} {xs : List Nat} (h : Arr k e w g xs) (n cap : Nat) (hn : n = xs.length) (hc : n ≤ cap) : Sl k w (.slice (some ⟨g, 0, none⟩) n cap) xs := by
  have := h.sub 0 n cap (by omega) hc
  rw [List.drop_zero, List.take_of_length_le (by omega)] at this
  exact this

/-- another list of numbers stays as it is where a block that is known whole is written, if that lies elsewhere -/
theorem Sl.setOther {k : IntKind} {w : World} {v : Value} {xs : List Nat} {B : Nat} {w0 : World} (h : Sl k w0 v xs) (hb : Below B w0 w) (hB : w0.heap.size ≤ B) : Sl k w v xs := h.later hb hB

/-- make with a length that is a number of the walk's -/
theorem wpList_makez {P : Program} (w : World) {ops : Array Oper} {rest : List Oper} {o : Oper} {a : Act} {Q : Exit → Act → World → Prop}
    (hg : o.guard = none) (l : Operand) (t : TypeId) (hop : o.op = Op.makeSlice t l l)
    (e : TypeId) (k : IntKind) (bytes : Nat) (h1 : P.underlying t = some (.slice e)) (hi : (P.info? e).map (fun i => (i.zero, i.size, i.bytes)) = some (some (.int k 0), 1, bytes)) (hby : bytes ≤ 16)
    (kl : IntKind) (L : Int) (n : Nat) (hl : a.eval l = .int kl L) (hL : L = (n : Int)) (hn : n ≤ 1000000000000)
    (hK : ∀ w', Arr k e w' w.heap.size (List.replicate n 0) → Below w.heap.size w w' → w'.heap.size = w.heap.size + 1 → wpList P ops Q rest (a.put o.dst (.slice (some ⟨w.heap.size, 0, none⟩) n n)) w') :
    wpList P ops Q (o :: rest) a w := by
  obtain ⟨i0, hi0, hz0, hz1, hz2⟩ := info_parts hi
  refine wpList_plain hg fun K hK' => ?_
  subst hL
  have hb : (i0.bytes : Int) * (n : Int) ≤ 281474976710656 := by
    rw [hz2]
    have : bytes * n ≤ 16 * n := Nat.mul_le_mul_right n hby
    have h2 : ((bytes * n : Nat) : Int) ≤ 281474976710656 := by omega
    rwa [Int.natCast_mul] at h2
  have hr := run_make (P := P) w t e i0 (.int k 0) h1 hi0 hz0 kl kl n n (by omega) (Int.le_refl _) hb (by omega)
  simp only [Int.toNat_natCast, hz1, Nat.mul_one] at hr
  unfold Oper.wp
  simp [execOp, hop, hl, hr, Result.andThen]
  refine hK' _ _ (hK _ ?_ ?_ ?_)
  · show (w.heap.push _)[_]? = _
    rw [Array.getElem?_push, if_pos rfl]
    congr 2
    apply Array.toList_inj.1
    have h3 := toList_madeCells_one (.int k 0) n
    simp only [Value.cells] at h3 ⊢
    rw [h3]
    simp [nums]
  · exact (Below.refl _ _).alloc (Nat.le_refl _) _
  · simp

end Go.Proofs.Ytpblpdcdhgjecaa

namespace Go.Proofs.Ytpblpdcdhgjecaa

theorem val_setN (B : Nat) (xs : List Nat) (i z : Nat) (h : i < xs.length) : val B (xs.set i z) + B ^ i * xs.getD i 0 = val B xs + B ^ i * z := by
  induction xs generalizing i with
  | nil => simp at h
  | cons x xs ih =>
    cases i with
    | zero => simp [val]; omega
    | succ i =>
      have := ih i (by simpa using h)
      simp only [List.set_cons_succ, val, List.getD_cons_succ, Nat.pow_succ]
      have h2 : B * (val B (xs.set i z) + B ^ i * xs.getD i 0) = B * (val B xs + B ^ i * z) := by rw [this]
      rw [Nat.mul_add, Nat.mul_add] at h2
      rw [Nat.mul_comm (B ^ i) B, Nat.mul_assoc, Nat.mul_assoc]
      omega

theorem val_take_succ (B : Nat) (xs : List Nat) (k : Nat) (h : k < xs.length) : val B (xs.take (k + 1)) = val B (xs.take k) + B ^ k * xs.getD k 0 := by
  rw [List.take_succ_eq_append_getElem h, val_snoc, List.length_take, Nat.min_eq_left (by omega), getD_eq h]

/-- a round of adding a multiple -/
theorem addp_step (B : Nat) (cur rs ys : List Nat) (off k f c z c' : Nat) (hk : k < ys.length) (hi : off + k < cur.length)
    (hz : z + B * c' = cur.getD (off + k) 0 + ys.getD k 0 * f + c) (h : val B cur + B ^ (off + k) * c = val B rs + B ^ off * (f * val B (ys.take k))) :
    val B (cur.set (off + k) z) + B ^ (off + (k + 1)) * c' = val B rs + B ^ off * (f * val B (ys.take (k + 1))) := by
  have h1 := val_setN B cur (off + k) z hi
  rw [val_take_succ B ys k hk]
  have h2 : B ^ (off + k) * (z + B * c') = B ^ (off + k) * (cur.getD (off + k) 0 + ys.getD k 0 * f + c) := by rw [hz]
  have e1 : B ^ (off + (k + 1)) = B ^ (off + k) * B := by rw [← Nat.add_assoc, Nat.pow_succ]
  have e2 : B ^ (off + k) = B ^ off * B ^ k := Nat.pow_add ..
  generalize cur.getD (off + k) 0 = x at *
  generalize ys.getD k 0 = y at *
  grind

/-- a round of taking a multiple away -/
theorem takep_step (B : Nat) (cur rs ys : List Nat) (off k f c z c' : Nat) (hk : k < ys.length) (hi : off + k < cur.length)
    (hz : z + ys.getD k 0 * f + c = cur.getD (off + k) 0 + B * c') (h : val B cur + B ^ off * (f * val B (ys.take k)) = val B rs + B ^ (off + k) * c) :
    val B (cur.set (off + k) z) + B ^ off * (f * val B (ys.take (k + 1))) = val B rs + B ^ (off + (k + 1)) * c' := by
  have h1 := val_setN B cur (off + k) z hi
  rw [val_take_succ B ys k hk]
  have h2 : B ^ (off + k) * (z + ys.getD k 0 * f + c) = B ^ (off + k) * (cur.getD (off + k) 0 + B * c') := by rw [hz]
  have e1 : B ^ (off + (k + 1)) = B ^ (off + k) * B := by rw [← Nat.add_assoc, Nat.pow_succ]
  have e2 : B ^ (off + k) = B ^ off * B ^ k := Nat.pow_add ..
  generalize cur.getD (off + k) 0 = x at *
  generalize ys.getD k 0 = y at *
  grind

/-- high and low words of a product with something that is carried -/
theorem mul_carry {B x y c : Nat} (hx : x < B) (hy : y < B) (hc : c < B) : (x * y) / B + ((x * y) % B + c) / B < B ∧ ((x * y) % B + c) % B + B * ((x * y) / B + ((x * y) % B + c) / B) = x * y + c := by
  have hB : 0 < B := by omega
  have h1 := Nat.div_add_mod (x * y) B
  have h2 := Nat.div_add_mod ((x * y) % B + c) B
  have h3 : x * y + c < B * B := by
    have : x * y ≤ (B - 1) * (B - 1) := Nat.mul_le_mul (by omega) (by omega)
    have e : (B - 1) * (B - 1) + (B - 1) + (B - 1) + 1 = B * B := by
      obtain ⟨b, rfl⟩ : ∃ b, B = b + 1 := ⟨B - 1, by omega⟩
      simp only [Nat.add_sub_cancel]; grind
    omega
  have e : ((x * y) % B + c) % B + B * ((x * y) / B + ((x * y) % B + c) / B) = x * y + c := by rw [Nat.mul_add]; omega
  refine ⟨?_, e⟩
  apply Nat.lt_of_mul_lt_mul_left (a := B)
  omega

theorem mul_carry2 {B x y c d : Nat} (hx : x < B) (hy : y < B) (hc : c < B) (hd : d < B) :
    (x * y) / B + ((x * y) % B + c) / B + (d + ((x * y) % B + c) % B) / B < B ∧ (d + ((x * y) % B + c) % B) % B + B * ((x * y) / B + ((x * y) % B + c) / B + (d + ((x * y) % B + c) % B) / B) = d + x * y + c := by
  have hB : 0 < B := by omega
  obtain ⟨h1, h2⟩ := mul_carry hx hy hc
  generalize (x * y) / B + ((x * y) % B + c) / B = h at *
  generalize ((x * y) % B + c) % B = l at *
  have h3 := Nat.div_add_mod (d + l) B
  have h4 : d + (x * y + c) < B * B := by
    have : x * y ≤ (B - 1) * (B - 1) := Nat.mul_le_mul (by omega) (by omega)
    have e : (B - 1) * (B - 1) + (B - 1) + (B - 1) + 1 = B * B := by
      obtain ⟨b, rfl⟩ : ∃ b, B = b + 1 := ⟨B - 1, by omega⟩
      simp only [Nat.add_sub_cancel]; grind
    omega
  have e : (d + l) % B + B * (h + (d + l) / B) = d + x * y + c := by rw [Nat.mul_add]; omega
  refine ⟨?_, e⟩
  apply Nat.lt_of_mul_lt_mul_left (a := B)
  omega

theorem take_borrow {B x y c d : Nat} (hx : x < B) (hy : y < B) (hc : c < B) (hd : d < B) :
    (if d < ((x * y) % B + c) % B then
      (x * y) / B + ((x * y) % B + c) / B + 1 < B ∧ (d + B - ((x * y) % B + c) % B) + x * y + c = d + B * ((x * y) / B + ((x * y) % B + c) / B + 1)
     else (d - ((x * y) % B + c) % B) + x * y + c = d + B * ((x * y) / B + ((x * y) % B + c) / B)) := by
  have hB : 0 < B := by omega
  obtain ⟨h1, h2⟩ := mul_carry hx hy hc
  have hm := Nat.mod_lt ((x * y) % B + c) hB
  generalize hh : (x * y) / B + ((x * y) % B + c) / B = h at *
  generalize ((x * y) % B + c) % B = l at *
  split
  · refine ⟨?_, by rw [Nat.mul_add]; omega⟩
    have h3 : x * y + c < B * (B - 1) + 1 := by
      have : x * y ≤ (B - 1) * (B - 1) := Nat.mul_le_mul (by omega) (by omega)
      have e : (B - 1) * (B - 1) + (B - 1) = B * (B - 1) := by
        obtain ⟨b, rfl⟩ : ∃ b, B = b + 1 := ⟨B - 1, by omega⟩
        simp only [Nat.add_sub_cancel]; grind
      omega
    have h4 : B * h < B * (B - 1) := by omega
    have := Nat.lt_of_mul_lt_mul_left h4
    omega
  · omega

/-- Knuth: the guess is not too small -/
theorem knuth_ge (B P R r1 r0 D d : Nat) (hR : R < (r1 * B + r0 + 1) * P) (hD : d * P ≤ D) (hd : 0 < d) : R / D ≤ (r1 * B + r0) / d := by
  by_cases hP : P = 0
  · subst hP; simp at hR
  have hPp : 0 < P := Nat.pos_of_ne_zero hP
  have hdp : 0 < d * P := Nat.mul_pos hd hPp
  have h1 : R / D ≤ R / (d * P) := Nat.div_le_div_left hD hdp
  have h2 : R / (d * P) = R / P / d := by rw [Nat.mul_comm, Nat.div_div_eq_div_mul]
  have h3 : R / P < r1 * B + r0 + 1 := (Nat.div_lt_iff_lt_mul hPp).2 hR
  have h4 : R / P / d ≤ (r1 * B + r0) / d := Nat.div_le_div_right (by omega)
  omega

/-- bits that do not meet -/
theorem or_add (a b s : Nat) (ha : a < 2 ^ s) : a ||| (b * 2 ^ s) = a + b * 2 ^ s := by
  rw [Nat.or_comm, Nat.mul_comm, ← Nat.two_pow_add_eq_or_of_lt ha, Nat.add_comm]

/-- a limb that is shifted, and what goes over -/
theorem shl_parts (B p q l : Nat) (hB : B = p * q) (hp : 0 < p) : l * p % B = (l % q) * p ∧ l * p / B = l / q := by
  subst hB
  constructor
  · rw [Nat.mul_comm p q, Nat.mul_mod_mul_right]
  · rw [Nat.mul_comm p q, Nat.mul_div_mul_right _ _ hp]

/-- a round of shifting up: lo is what went over from the limb before -/
theorem up_step (B p q : Nat) (cur ys : List Nat) (k : Nat) (hB : B = p * q) (hp : 0 < p) (hk : k < ys.length) (hi : k + 1 < cur.length) (hz : cur.getD (k + 1) 0 = 0)
    (h : val B cur = p * val B (ys.take k)) :
    val B ((cur.set k (cur.getD k 0 + (ys.getD k 0 % q) * p)).set (k + 1) (ys.getD k 0 / q)) = p * val B (ys.take (k + 1)) := by
  obtain ⟨h1, h2⟩ := shl_parts B p q (ys.getD k 0) hB hp
  have e := Nat.div_add_mod (ys.getD k 0 * p) B
  rw [h1, h2] at e
  have s1 := val_setN B cur k (cur.getD k 0 + (ys.getD k 0 % q) * p) (by omega)
  have s2 := val_setN B (cur.set k (cur.getD k 0 + (ys.getD k 0 % q) * p)) (k + 1) (ys.getD k 0 / q) (by simp; omega)
  have hz2 : (cur.set k (cur.getD k 0 + (ys.getD k 0 % q) * p)).getD (k + 1) 0 = cur.getD (k + 1) 0 := by
    simp [List.getD]
  rw [hz2, hz, Nat.mul_zero, Nat.add_zero] at s2
  rw [s2, val_take_succ B ys k hk, Nat.pow_succ]
  generalize (cur.set k (cur.getD k 0 + (ys.getD k 0 % q) * p)) = c1 at *
  generalize cur.getD k 0 = x at *
  generalize ys.getD k 0 % q * p = m at *
  generalize ys.getD k 0 / q = d at *
  generalize ys.getD k 0 = y at *
  grind

/-- a round of shifting down, behind the first -/
theorem down_step (B p q : Nat) (cur ys : List Nat) (k r : Nat) (hB : B = p * q) (hk : k + 1 < ys.length) (hi : k + 1 < cur.length) (hz : cur.getD (k + 1) 0 = 0)
    (h : p * val B cur + r = val B (ys.take (k + 1))) :
    p * val B ((cur.set (k + 1) (ys.getD (k + 1) 0 / p)).set k (cur.getD k 0 + (ys.getD (k + 1) 0 % p) * q)) + r = val B (ys.take (k + 1 + 1)) := by
  have e := Nat.div_add_mod (ys.getD (k + 1) 0) p
  have s1 := val_setN B cur (k + 1) (ys.getD (k + 1) 0 / p) hi
  rw [hz, Nat.mul_zero, Nat.add_zero] at s1
  have s2 := val_setN B (cur.set (k + 1) (ys.getD (k + 1) 0 / p)) k (cur.getD k 0 + (ys.getD (k + 1) 0 % p) * q) (by simp; omega)
  have hz2 : (cur.set (k + 1) (ys.getD (k + 1) 0 / p)).getD k 0 = cur.getD k 0 := by
    simp [List.getD]
  rw [hz2] at s2
  rw [val_take_succ B ys (k + 1) hk, Nat.pow_succ]
  rw [Nat.pow_succ] at s1
  generalize ((cur.set (k + 1) (ys.getD (k + 1) 0 / p)).set k (cur.getD k 0 + (ys.getD (k + 1) 0 % p) * q)) = c2 at *
  generalize (cur.set (k + 1) (ys.getD (k + 1) 0 / p)) = c1 at *
  generalize cur.getD k 0 = x at *
  generalize ys.getD (k + 1) 0 % p = m at *
  generalize ys.getD (k + 1) 0 / p = d at *
  generalize ys.getD (k + 1) 0 = y at *
  grind

end Go.Proofs.Ytpblpdcdhgjecaa

namespace Go.Proofs
open Go.Shelf
def Try.lays134_ren : Go.Shelf.Ren := ⟨fun | 134 => 24 | 129 => 25 | n => n, fun | 53 => 31 | 3 => 3 | 4 => 4 | 46 => 41 | 5 => 5 | 9 => 9 | n => n, fun | n => n⟩
theorem Try.lays134 : Go.Proofs.Lays.n134 Try.prog Try.lays134_ren := {
  mixed := by kernel_rfl
  f129 := Try.func25.trans (congrArg some (by kernel_rfl))
  f134 := Try.func24.trans (congrArg some (by kernel_rfl))
  t3 := Try.underlying3
  a3 := Try.isAgg3
  z3 := Try.sizeOf3
  v3 := Try.zeroValue3
  t4 := Try.underlying4
  a4 := Try.isAgg4
  z4 := Try.sizeOf4
  v4 := Try.zeroValue4
  t5 := Try.underlying5
  a5 := Try.isAgg5
  z5 := Try.sizeOf5
  v5 := Try.zeroValue5
  t9 := Try.underlying9
  a9 := Try.isAgg9
  z9 := Try.sizeOf9
  v9 := Try.zeroValue9
  t46 := Try.underlying41
  a46 := Try.isAgg41
  z46 := Try.sizeOf41
  v46 := Try.zeroValue41
  t53 := Try.underlying31
  a53 := Try.isAgg31
  z53 := Try.sizeOf31
  v53 := Try.zeroValue31 }
/-- bits.LeadingZeros64: "LeadingZeros64 returns the number of leading zero bits in x; the result is 64 for x == 0.": IT RETURNS '64 - Lib.bitLen x'; the world is as it was. ITS CALLEE bits.Len64 IS MET BY ITS OWN CONTRACT OFF THE SHELF (lay that first): entered in place it sends the kernel out of memory. (LAID: no walk: one application.) -/
theorem Try.bits_LeadingZeros64 (x : Int) (w : World) (h0 : 0 ≤ x) (h1 : x ≤ 18446744073709551615) :
    Calls Try.prog 24 #[.int .u64 x] w fun e w' => e = .returned (.int .i64 (64 - (Lib.bitLen x.toNat : Int))) ∧ w' = w := Any.bits_LeadingZeros64 Try.lays134 x w h0 h1
def Try.lays129_ren : Go.Shelf.Ren := ⟨fun | 129 => 25 | n => n, fun | 53 => 31 | 3 => 3 | 4 => 4 | 46 => 41 | 5 => 5 | 9 => 9 | n => n, fun | n => n⟩
theorem Try.lays129 : Go.Proofs.Lays.n129 Try.prog Try.lays129_ren := {
  mixed := by kernel_rfl
  f129 := Try.func25.trans (congrArg some (by kernel_rfl))
  t3 := Try.underlying3
  a3 := Try.isAgg3
  z3 := Try.sizeOf3
  v3 := Try.zeroValue3
  t4 := Try.underlying4
  a4 := Try.isAgg4
  z4 := Try.sizeOf4
  v4 := Try.zeroValue4
  t5 := Try.underlying5
  a5 := Try.isAgg5
  z5 := Try.sizeOf5
  v5 := Try.zeroValue5
  t9 := Try.underlying9
  a9 := Try.isAgg9
  z9 := Try.sizeOf9
  v9 := Try.zeroValue9
  t46 := Try.underlying41
  a46 := Try.isAgg41
  z46 := Try.sizeOf41
  v46 := Try.zeroValue41
  t53 := Try.underlying31
  a53 := Try.isAgg31
  z53 := Try.sizeOf31
  v53 := Try.zeroValue31 }
/-- bits.Len64: "Len64 returns the minimum number of bits required to represent x; the result is 0 for x == 0.": IT RETURNS 'Lib.bitLen x'; the world is as it was. ('h0', 'h1': x is a uint64.) (LAID: no walk: one application.) -/
theorem Try.bits_Len64 (x : Int) (w : World) (h0 : 0 ≤ x) (h1 : x ≤ 18446744073709551615) :
    Calls Try.prog 25 #[.int .u64 x] w fun e w' => e = .returned (.int .i64 (Lib.bitLen x.toNat)) ∧ w' = w := Any.bits_Len64 Try.lays129 x w h0 h1
def Try.lays264_ren : Go.Shelf.Ren := ⟨fun | 264 => 21 | n => n, fun | 53 => 31 | 46 => 41 | n => n, fun | n => n⟩
theorem Try.lays264 : Go.Proofs.Lays.n264 Try.prog Try.lays264_ren := {
  mixed := by kernel_rfl
  f264 := Try.func21.trans (congrArg some (by kernel_rfl))
  t46 := Try.underlying41
  a46 := Try.isAgg41
  z46 := Try.sizeOf41
  v46 := Try.zeroValue41
  t53 := Try.underlying31
  a53 := Try.isAgg31
  z53 := Try.sizeOf31
  v53 := Try.zeroValue31 }
open Go.RowKit Go.Lib in
theorem Try.bits_Mul64 (x y : Nat) (hx : x < 18446744073709551616) (hy : y < 18446744073709551616) (w : World) :
    Calls Try.prog 21 #[.int .u64 x, .int .u64 y] w fun e w' => e = .returned (.tuple #[.int .u64 ((x * y / 18446744073709551616 : Nat) : Int), .int .u64 ((x * y % 18446744073709551616 : Nat) : Int)]) ∧ w' = w := Any.bits_Mul64 Try.lays264 x y hx hy w
end Go.Proofs

namespace Go.Proofs.Ytpblpdcdhgjecaa
open Go Go.RowKit

/-- how many values a limb has -/
def W64 : Nat := 18446744073709551616
theorem W64_eq : W64 = 18446744073709551616 := rfl
theorem W64_two : 2 ≤ W64 := by rw [W64_eq]; omega
theorem wrapu (z : Int) (h0 : 0 ≤ z) (h1 : z ≤ 18446744073709551615) : IntKind.u64.wrap z = z := by rw [IntKind.wrap_u64]; omega

end Go.Proofs.Ytpblpdcdhgjecaa

namespace Go.Proofs.Ytpblpdcdhgjecaa
/-- a half step of a long division: the quotient is at most the guess -/
theorem half_start (b D y1 y0 u n q r : Nat) (hD : D = y1 * b + y0) (hy0 : y0 < b) (hb : b ≤ 2 * y1) (hu : u < D) (hn : n < b) (h : u = q * y1 + r) (hr : r < y1) : (u * b + n) / D ≤ q ∧ q ≤ b + 1 ∧ (u * b + n) / D < b := by
  have hb0 : 0 < b := by omega
  have hy1 : 0 < y1 := by omega
  have hD0 : 0 < D := by omega
  refine ⟨?_, ?_, ?_⟩
  · have h1 : u * b + n < (q + 1) * (y1 * b) := by
      have : u + 1 ≤ (q + 1) * y1 := by rw [h, Nat.add_mul, Nat.one_mul]; omega
      have h2 : (u + 1) * b ≤ (q + 1) * y1 * b := Nat.mul_le_mul_right _ this
      rw [Nat.add_mul, Nat.one_mul, Nat.mul_assoc] at h2
      omega
    have h2 : (q + 1) * (y1 * b) ≤ (q + 1) * D := Nat.mul_le_mul_left _ (by omega)
    have := (Nat.div_lt_iff_lt_mul hD0).2 (show u * b + n < (q + 1) * D by omega)
    omega
  · rcases Nat.lt_or_ge q (b + 2) with hq | hq
    · omega
    · exfalso
      have h1 : (b + 2) * y1 ≤ q * y1 := Nat.mul_le_mul_right _ hq
      have e : (b + 2) * y1 = y1 * b + 2 * y1 := by rw [Nat.add_mul, Nat.mul_comm b]
      omega
  · rw [Nat.div_lt_iff_lt_mul hD0]
    have : (u + 1) * b ≤ D * b := Nat.mul_le_mul_right _ hu
    rw [Nat.add_mul, Nat.mul_comm D] at this
    omega

theorem half_val (b D y1 y0 u q r : Nat) (hD : D = y1 * b + y0) (h : u = q * y1 + r) : q * D + r * b = u * b + q * y0 := by
  rw [hD, h]; grind

/-- the guess is too great -/
theorem half_dec (b D y1 y0 u n q r : Nat) (hD : D = y1 * b + y0) (hD0 : 0 < D) (h : u = q * y1 + r) (hQb : (u * b + n) / D < b) (hq : (u * b + n) / D ≤ q) (hc : b ≤ q ∨ b * r + n < q * y0) :
    1 ≤ q ∧ (u * b + n) / D ≤ q - 1 ∧ u = (q - 1) * y1 + (r + y1) := by
  have hlt : (u * b + n) / D < q := by
    rcases hc with hc | hc
    · omega
    · rw [Nat.div_lt_iff_lt_mul hD0]
      have := half_val b D y1 y0 u q r hD h
      rw [Nat.mul_comm r] at this
      omega
  generalize (u * b + n) / D = Q at *
  refine ⟨by omega, by omega, ?_⟩
  obtain ⟨p, rfl⟩ : ∃ p, q = p + 1 := ⟨q - 1, by omega⟩
  rw [h, Nat.add_sub_cancel, Nat.add_mul, Nat.one_mul]; omega

/-- the guess is right -/
theorem half_stop (b D y1 y0 u n q r : Nat) (hD : D = y1 * b + y0) (hD0 : 0 < D) (h : u = q * y1 + r) (hq : (u * b + n) / D ≤ q) (hc : q * y0 ≤ b * r + n) : q = (u * b + n) / D := by
  have := half_val b D y1 y0 u q r hD h
  rw [Nat.mul_comm r] at this
  have h2 := (Nat.le_div_iff_mul_le hD0).2 (show q * D ≤ u * b + n by omega)
  omega

theorem half_break (b D y1 y0 u n q r : Nat) (hD : D = y1 * b + y0) (hD0 : 0 < D) (hy0 : y0 < b) (h : u = q * y1 + r) (hq : (u * b + n) / D ≤ q) (hqb : q ≤ b) (hr : b ≤ r) : q = (u * b + n) / D := by
  refine half_stop b D y1 y0 u n q r hD hD0 h hq ?_
  have h1 : q * y0 ≤ b * y0 := Nat.mul_le_mul_right _ hqb
  have h2 : b * y0 ≤ b * r := Nat.mul_le_mul_left _ (by omega)
  omega

/-- two half steps make a step -/
theorem two_halves (b D u n1 n0 : Nat) (hD : 0 < D) : (u * (b * b) + (n1 * b + n0)) / D = (u * b + n1) / D * b + ((u * b + n1) % D * b + n0) / D ∧ (u * (b * b) + (n1 * b + n0)) % D = ((u * b + n1) % D * b + n0) % D := by
  have e : u * (b * b) + (n1 * b + n0) = ((u * b + n1) % D * b + n0) + D * ((u * b + n1) / D * b) := by
    have := Nat.div_add_mod (u * b + n1) D
    generalize (u * b + n1) / D = q at *
    generalize (u * b + n1) % D = r at *
    grind
  rw [e]
  refine ⟨?_, ?_⟩
  · rw [Nat.add_mul_div_left _ _ hD]; omega
  · rw [Nat.add_mul_mod_self_left]

/-- what is left of a subtraction that wraps -/
theorem sub_wrap (A P : Int) (N D : Nat) (M : Int) (q : Nat) (hA : A % M = (N : Int) % M) (hP : P % M = ((q * D : Nat) : Int) % M) (hq : q = N / D) (hD : ((D : Nat) : Int) ≤ M) (hD0 : 0 < D) : (A - P) % M = ((N % D : Nat) : Int) := by
  have h1 : (A - P) % M = (((N : Int)) - ((q * D : Nat) : Int)) % M := by rw [Int.sub_emod, hA, hP, ← Int.sub_emod]
  have h2 := Nat.div_add_mod N D
  have h3 := Nat.mod_lt N hD0
  rw [h1, hq]
  have e : (N : Int) - ((N / D * D : Nat) : Int) = ((N % D : Nat) : Int) := by
    rw [Nat.mul_comm (N / D) D]
    omega
  rw [e, Int.emod_eq_of_lt (by omega) (by omega)]

/-- shifting a number and a divisor alike -/
theorem shift_div (N D p : Nat) (hp : 0 < p) : N * p / (D * p) = N / D ∧ N * p % (D * p) / p = N % D := by
  refine ⟨Nat.mul_div_mul_right _ _ hp, ?_⟩
  rw [Nat.mul_mod_mul_right, Nat.mul_div_cancel _ hp]
end Go.Proofs.Ytpblpdcdhgjecaa

namespace Go.Proofs.Ytpblpdcdhgjecaa
open Go Go.RowKit

set_option maxRecDepth 100000 in
set_option maxHeartbeats 1000000 in
theorem div64_small (lo y : Nat) (w : World) (hlo : lo < W64) (hlt : 0 < y) (R : Ending → World → Prop)
    (hR : ∀ n, R (.returned (.tuple #[.int .u64 ((lo / y : Nat) : Int), .int .u64 ((lo % y : Nat) : Int)])) (w.drewN n)) :
    Calls Try.prog 23 #[.int .u64 0, .int .u64 ((lo : Nat) : Int), .int .u64 ((y : Nat) : Int)] w R := by
  have HR := Lib.hid hR; clear hR
  have e1 : ((y : Int) == 0) = false := by simp; omega
  have e2 : ¬ ((y : Int) ≤ 0) := by omega
  have hq1 : (0 : Int) ≤ (lo : Int) := by omega
  have hq2 : (1 : Int) ≤ (y : Int) := by omega
  have HLO := Lib.hid hlo
  clear hlo
  go_enter Try.func23, Try.ntmps23
  go_wp2
  go_quiet (fail)
  go_wp2
  first | go_ret | skip
  have hb : (lo : Int) / (y : Int) ≤ 18446744073709551615 := by
    have := Nat.div_le_self lo y
    have hlo := HLO.out
    rw [W64_eq] at hlo
    rw [← Int.natCast_ediv]
    generalize lo / y = z at *
    omega
  have := HR.out nq
  rw [wrapu _ (by rw [← Int.natCast_ediv]; exact Int.natCast_nonneg _) hb]
  simpa using this

theorem bitLenAux_spec : ∀ (f x : Nat), x < 2 ^ f → 0 < x → 1 ≤ Lib.bitLenAux f x ∧ Lib.bitLenAux f x ≤ f ∧ 2 ^ (Lib.bitLenAux f x - 1) ≤ x ∧ x < 2 ^ Lib.bitLenAux f x := by
  intro f
  induction f with
  | zero => intro x hx h0; simp at hx; omega
  | succ f ih =>
    intro x hx h0
    rw [Lib.bitLenAux, if_neg (by omega)]
    by_cases h1 : x / 2 = 0
    · have : x = 1 := by omega
      subst this
      have e : Lib.bitLenAux f (1 / 2) = 0 := by
        show Lib.bitLenAux f 0 = 0
        cases f <;> simp [Lib.bitLenAux]
      rw [e]; simp
    · obtain ⟨a1, a2, a3, a4⟩ := ih (x / 2) (by rw [Nat.pow_succ] at hx; omega) (by omega)
      generalize Lib.bitLenAux f (x / 2) = n at *
      refine ⟨by omega, by omega, ?_, ?_⟩
      · rw [show 1 + n - 1 = (n - 1) + 1 by omega, Nat.pow_succ]; omega
      · rw [Nat.add_comm, Nat.pow_succ]; omega

/-- how far a limb is shifted until its highest bit is 1 -/
theorem lead_spec (y : Nat) (h0 : 0 < y) (hy : y < W64) : ∃ s : Nat, s < 64 ∧ (64 - (Lib.bitLen (y : Int).toNat : Int)) = (s : Int) ∧ 9223372036854775808 ≤ y * 2 ^ s ∧ y * 2 ^ s < W64 := by
  have h64 : (2 : Nat) ^ 64 = W64 := rfl
  obtain ⟨a1, a2, a3, a4⟩ := bitLenAux_spec 64 y (by rw [h64]; exact hy) h0
  rw [Int.toNat_natCast]
  unfold Lib.bitLen
  generalize Lib.bitLenAux 64 y = n at *
  refine ⟨64 - n, by omega, by omega, ?_, ?_⟩
  · have : 2 ^ (n - 1) * 2 ^ (64 - n) ≤ y * 2 ^ (64 - n) := Nat.mul_le_mul_right _ a3
    rw [← Nat.pow_add, show n - 1 + (64 - n) = 63 by omega] at this
    exact this
  · have : y * 2 ^ (64 - n) < 2 ^ n * 2 ^ (64 - n) := Nat.mul_lt_mul_of_pos_right a4 (Nat.pow_pos (by omega))
    rw [← Nat.pow_add, show n + (64 - n) = 64 by omega, h64] at this
    exact this

/-- the parts of a division by a divisor that is shifted -/
theorem wrap_rest (u n D Q v : Nat) (hQ : Q = (u * 4294967296 + n) / D) (hv : v = (u * 4294967296 + n) % D) (hD : D < 18446744073709551616) (hD0 : 0 < D) :
    IntKind.u64.wrap (IntKind.u64.wrap (IntKind.u64.wrap ((u : Int) * 4294967296) + (n : Int)) - IntKind.u64.wrap ((Q : Int) * (D : Int))) = (v : Int) := by
  rw [IntKind.wrap_u64, IntKind.wrap_u64, IntKind.wrap_u64, IntKind.wrap_u64, hv]
  refine sub_wrap _ _ (u * 4294967296 + n) D 18446744073709551616 Q ?_ ?_ hQ (by omega) hD0
  · omega
  · rw [Int.natCast_mul]; exact Int.emod_emod_of_dvd _ (Int.dvd_refl _)

theorem div_norm (hi lo y s : Nat) (hlo : lo < W64) (hlt : hi < y) (hs : s < 64) (h1 : 9223372036854775808 ≤ y * 2 ^ s) (h2 : y * 2 ^ s < W64) :
    ∃ D u n1 n0 y1 y0 : Nat, IntKind.u64.wrap ((y : Int) * 2 ^ s) = (D : Int) ∧ D = y * 2 ^ s ∧ (D : Int) / 4294967296 = (y1 : Int) ∧ bits .and .u64 (D : Int) 4294967295 = (y0 : Int) ∧
      (∃ H : Nat, IntKind.u64.wrap ((hi : Int) * 2 ^ s) = (H : Int) ∧ bits .or .u64 (H : Int) ((lo : Int) / 2 ^ (64 - s)) = (u : Int)) ∧ True ∧
      (∃ L : Nat, IntKind.u64.wrap ((lo : Int) * 2 ^ s) = (L : Int) ∧ (L : Int) / 4294967296 = (n1 : Int) ∧ bits .and .u64 (L : Int) 4294967295 = (n0 : Int)) ∧ True ∧ True ∧
      D = y1 * 4294967296 + y0 ∧ D < 18446744073709551616 ∧ y0 < 4294967296 ∧ 4294967296 ≤ 2 * y1 ∧ u < D ∧ n1 < 4294967296 ∧ n0 < 4294967296 ∧
      (hi * W64 + lo) * 2 ^ s = u * (4294967296 * 4294967296) + (n1 * 4294967296 + n0) := by
  have hp : 0 < 2 ^ s := Nat.pow_pos (by omega)
  have hq : 0 < 2 ^ (64 - s) := Nat.pow_pos (by omega)
  have hpq : 2 ^ s * 2 ^ (64 - s) = W64 := by rw [← Nat.pow_add, show s + (64 - s) = 64 by omega]; rfl
  have hsh : hi * 2 ^ s < W64 := Nat.lt_of_le_of_lt (Nat.mul_le_mul_right _ (Nat.le_of_lt hlt)) h2
  have hlq : lo / 2 ^ (64 - s) < 2 ^ s := by rw [Nat.div_lt_iff_lt_mul hq, hpq]; exact hlo
  have hand : ∀ a : Nat, a < W64 → bits .and .u64 (a : Int) 4294967295 = ((a % 4294967296 : Nat) : Int) := fun a ha => Mul64.maskN a ha
  have hc : ∀ a : Nat, ((a : Int) * 2 ^ s) = ((a * 2 ^ s : Nat) : Int) := fun a => by rw [Int.natCast_mul, Int.natCast_pow]; rfl
  have hdv : (lo : Int) / 2 ^ (64 - s) = ((lo / 2 ^ (64 - s) : Nat) : Int) := by rw [Int.natCast_ediv, Int.natCast_pow]; rfl
  have hor : hi * 2 ^ s ||| lo / 2 ^ (64 - s) = hi * 2 ^ s + lo / 2 ^ (64 - s) := by
    rw [Nat.or_comm, or_add _ _ _ hlq, Nat.add_comm]
  have hpt := shl_parts W64 (2 ^ s) (2 ^ (64 - s)) lo hpq.symm hp
  have hL : lo * 2 ^ s % W64 < W64 := Nat.mod_lt _ (by rw [W64_eq]; omega)
  have hdm := Nat.div_add_mod (lo * 2 ^ s) W64
  rw [hpt.2] at hdm
  have hle : (hi + 1) * 2 ^ s ≤ y * 2 ^ s := Nat.mul_le_mul_right _ hlt
  rw [Nat.add_mul, Nat.one_mul] at hle
  have hlw : lo / 2 ^ (64 - s) < W64 := by omega
  have hmulN : (hi * W64 + lo) * 2 ^ s = hi * 2 ^ s * W64 + lo * 2 ^ s := by rw [Nat.add_mul, Nat.mul_right_comm]
  refine ⟨y * 2 ^ s, hi * 2 ^ s + lo / 2 ^ (64 - s), lo * 2 ^ s % W64 / 4294967296, lo * 2 ^ s % W64 % 4294967296, y * 2 ^ s / 4294967296, y * 2 ^ s % 4294967296, ?_, rfl, ?_, hand _ h2, ⟨hi * 2 ^ s, ?_, ?_⟩, trivial, ⟨lo * 2 ^ s % W64, ?_, ?_, hand _ hL⟩, trivial, trivial, ?_⟩
  · rw [hc]; exact Mul64.wrapN _ h2
  · rw [Mul64.divN]
  · rw [hc]; exact Mul64.wrapN _ hsh
  · rw [hdv]
    have := bits_or_u64_nat (hi * 2 ^ s) (lo / 2 ^ (64 - s)) hsh hlw
    rw [this, hor]
  · rw [hc]; exact Mul64.wrapM _
  · rw [Mul64.divN]
  · rw [hmulN]
    generalize hi * 2 ^ s = H at *
    generalize y * 2 ^ s = D at *
    generalize lo * 2 ^ s = L at *
    generalize lo / 2 ^ (64 - s) = c at *
    generalize 2 ^ s = P at *
    rw [W64_eq] at *
    refine ⟨by omega, by omega, by omega, by omega, by omega, by omega, by omega, by omega⟩

set_option maxRecDepth 100000 in
set_option maxHeartbeats 1000000 in
theorem div64_main (hi lo y : Nat) (w : World) (hh : 0 < hi) (hlo : lo < W64) (hy : y < W64) (hlt : hi < y) (R : Ending → World → Prop)
    (hR : R (.returned (.tuple #[.int .u64 (((hi * W64 + lo) / y : Nat) : Int), .int .u64 (((hi * W64 + lo) % y : Nat) : Int)])) w) :
    Calls Try.prog 23 #[.int .u64 ((hi : Nat) : Int), .int .u64 ((lo : Nat) : Int), .int .u64 ((y : Nat) : Int)] w R := by
  have HR := Lib.hid hR; clear hR
  have e1 : ((y : Int) == 0) = false := by simp; omega
  have e2 : ¬ ((y : Int) ≤ (hi : Int)) := by omega
  have e3 : ((hi : Int) == 0) = false := by simp; omega
  obtain ⟨s, hs64, hs, hn1, hn2⟩ := lead_spec y (by omega) hy
  have HS := Lib.hid hs
  have hy2 : (y : Int) ≤ 18446744073709551615 := by rw [W64_eq] at hy; omega
  have hlo2 : (lo : Int) ≤ 18446744073709551615 := by rw [W64_eq] at hlo; omega
  have hhi2 : (hi : Int) ≤ 18446744073709551615 := by omega
  obtain ⟨D, u, n1, n0, y1, y0, hD1, hD2, hy1, hy0, hU1, hU2, hL1, hL2, hL3, hDe, hDle, hy0l, hbn, hul, hn1l, hn0l, hfin⟩ := div_norm hi lo y s hlo hlt hs64 hn1 hn2
  obtain ⟨H, hH1, hH2⟩ := hU1
  obtain ⟨L, hL4, hL5, hL6⟩ := hL1
  have HFIN := Lib.hid hfin
  have HD2 := Lib.hid hD2
  clear hD2 hU2 hL2 hL3
  have HDE := Lib.hid hDe
  have HBN := Lib.hid hbn
  have HUL := Lib.hid hul
  have hy1p : 1 ≤ y1 := by omega
  have hDpos : 0 < D := by omega
  have hub : (u : Int) ≤ 18446744073709551615 := by omega
  have hDb : (D : Int) ≤ 18446744073709551615 := by omega
  obtain ⟨q, hq⟩ : ∃ q, q = u / y1 := ⟨_, rfl⟩
  obtain ⟨r, hr⟩ : ∃ r, r = u % y1 := ⟨_, rfl⟩
  have hqr : u = q * y1 + r := by rw [hq, hr, Nat.mul_comm]; exact (Nat.div_add_mod u y1).symm
  have hrl : r < y1 := by rw [hr]; exact Nat.mod_lt _ hy1p
  have hst := half_start 4294967296 D y1 y0 u n1 q r hDe hy0l hbn hul hn1l hqr hrl
  have hqe : (u : Int) / (y1 : Int) = (q : Int) := by rw [hq]; exact (Int.natCast_ediv u y1).symm
  obtain ⟨p, hp⟩ : ∃ p, p = q * y1 := ⟨_, rfl⟩
  have hpe : (q : Int) * (y1 : Int) = (p : Int) := by rw [hp]; exact (Int.natCast_mul q y1).symm
  have hpu : (p : Int) + (r : Int) = (u : Int) := by omega
  have hre : (u : Int) - (p : Int) = (r : Int) := by omega
  have hqb : (q : Int) ≤ 4294967297 := by omega
  have HQR := Lib.hid hqr
  have HST := Lib.hid hst
  have HRL := Lib.hid hrl
  have hy1b : (y1 : Int) ≤ 4294967295 := by omega
  have hy0b : (y0 : Int) ≤ 4294967295 := by omega
  have hn1b : (n1 : Int) ≤ 4294967295 := by omega
  have hn0b : (n0 : Int) ≤ 4294967295 := by omega
  have hy1i : (1 : Int) ≤ (y1 : Int) := by omega
  have hrb : (r : Int) ≤ 4294967295 := by omega
  have hpb : (p : Int) ≤ (u : Int) := by omega
  clear hlo hy hs hn1 hn2 hDe hDle hy0l hbn hul hn1l hn0l hfin hq hr hqr hst hp hpu hrl hy1p
  go_enter Try.func23, Try.ntmps23
  go_wp2_with fail
  refine (Try.bits_LeadingZeros64 (y : Int) _ (by omega) hy2).mono ?_
  rintro e w1 ⟨rfl, rfl⟩
  rw [HS.out]
  dsimp only
  have hs0 : (0 : Int) ≤ (s : Int) := by omega
  have hs65 : (s : Int) < 64 := by omega
  go_upto_block 0 with fail
  clear e1 e3 hH1 hH2 hL4 hL5 hL6 hD1 hy1 hy0 hqe hpe hre hpb
  obtain ⟨Q, hQ⟩ : ∃ Q, Q = (u * 4294967296 + n1) / D := ⟨_, rfl⟩
  have HQ := Lib.hid hQ
  have hst2 := HST.out
  rw [← hQ] at hst2
  obtain ⟨hq1, hq2, hq3⟩ := hst2
  have hy0n : y0 < 4294967296 := by omega
  clear hQ
  go_cut [15] (fun a wx => a = .int .u64 ((Q : Nat) : Int) ∧ wx = w1)
  case first =>
    go_wp2_with fail
    go_loop [15, 16] (fun a b => ∃ q r : Nat, a = .int .u64 ((q : Nat) : Int) ∧ b = .int .u64 ((r : Nat) : Int) ∧ u = q * y1 + r ∧ Q ≤ q ∧ q ≤ 4294967297 ∧ r < 4294967296) (fun a _ => (intOf a).toNat)
    case atStart => exact ⟨q, r, rfl, rfl, HQR.out, hq1, hq2, by have := HRL.out; omega⟩
    case round =>
      clear hq1 hq2 hqb hrb
      clear HQR HST HRL
      obtain ⟨q, r, rfl, rfl, hqr, hq1, hq2, hr⟩ := hrel
      have HQR := Lib.hid hqr
      clear hqr
      by_cases hbig : 4294967296 ≤ q
      · obtain ⟨hp1, hp2, hp3⟩ := half_dec 4294967296 D y1 y0 u n1 q r HDE.out hDpos HQR.out (by rw [← HQ.out]; exact hq3) (by rw [← HQ.out]; exact hq1) (.inl hbig)
        rw [← HQ.out] at hp2
        have HP3 := Lib.hid hp3
        clear hp3
        have hq5 : (1 : Int) ≤ (q : Int) := by omega
        have hq6 : (q : Int) ≤ 4294967297 := by omega
        have hbigi : (4294967296 : Int) ≤ (q : Int) := by omega
        have HBIG := Lib.hid hbig
        clear hbig
        by_cases hr2 : 4294967296 ≤ r + y1
        · have hr3 : (4294967296 : Int) ≤ (r : Int) + (y1 : Int) := by omega
          have HR2 := Lib.hid hr2
          clear hr2
          go_wp2_with fail
          go_meet
          have hr2 := HR2.out
          have := half_break 4294967296 D y1 y0 u n1 (q - 1) (r + y1) HDE.out hDpos hy0n HP3.out (by rw [← HQ.out]; exact hp2) (by omega) hr2
          rw [← HQ.out] at this
          exact ⟨congrArg (Value.int .u64) (by omega), rfl⟩
        · have hr3 : ¬ (4294967296 : Int) ≤ (r : Int) + (y1 : Int) := by omega
          go_wp2
          go_round
          case rel => exact ⟨q - 1, r + y1, congrArg (Value.int .u64) (by omega), congrArg (Value.int .u64) (by omega), HP3.out, hp2, by omega, by omega⟩
          case measure => simp [intOf]; omega
      · obtain ⟨a, ha⟩ : ∃ a, a = q * y0 := ⟨_, rfl⟩
        have hae : (q : Int) * (y0 : Int) = (a : Int) := by rw [ha]; exact (Int.natCast_mul q y0).symm
        have hal : a ≤ 18446744065119617025 := by rw [ha]; exact Nat.mul_le_mul (by omega : q ≤ 4294967295) (by omega : y0 ≤ 4294967295)
        have hali : (a : Int) ≤ 18446744065119617025 := by omega
        have hqs : ¬ (4294967296 : Int) ≤ (q : Int) := by omega
        have hrs : (r : Int) ≤ 4294967295 := by omega
        have HA := Lib.hid ha
        clear ha
        by_cases hc : 4294967296 * r + n1 < a
        · obtain ⟨hp1, hp2, hp3⟩ := half_dec 4294967296 D y1 y0 u n1 q r HDE.out hDpos HQR.out (by rw [← HQ.out]; exact hq3) (by rw [← HQ.out]; exact hq1) (.inr (by rw [← HA.out]; exact hc))
          rw [← HQ.out] at hp2
          have HP3 := Lib.hid hp3
          clear hp3
          have hci : 4294967296 * (r : Int) + (n1 : Int) < (a : Int) := by omega
          have hq5 : (1 : Int) ≤ (q : Int) := by omega
          by_cases hr2 : 4294967296 ≤ r + y1
          · have hr3 : (4294967296 : Int) ≤ (r : Int) + (y1 : Int) := by omega
            go_wp2_with fail
            go_meet
            have := half_break 4294967296 D y1 y0 u n1 (q - 1) (r + y1) HDE.out hDpos hy0n HP3.out (by rw [← HQ.out]; exact hp2) (by omega) hr2
            rw [← HQ.out] at this
            exact ⟨congrArg (Value.int .u64) (by omega), rfl⟩
          · have hr3 : ¬ (4294967296 : Int) ≤ (r : Int) + (y1 : Int) := by omega
            go_wp2
            go_round
            case rel => exact ⟨q - 1, r + y1, congrArg (Value.int .u64) (by omega), congrArg (Value.int .u64) (by omega), HP3.out, hp2, by omega, by omega⟩
            case measure => simp [intOf]; omega
        · have hci : ¬ 4294967296 * (r : Int) + (n1 : Int) < (a : Int) := by omega
          have := half_stop 4294967296 D y1 y0 u n1 q r HDE.out hDpos HQR.out (by rw [← HQ.out]; exact hq1) (by rw [← HA.out]; omega)
          rw [← HQ.out] at this
          subst this
          go_wp2_with fail
          go_meet
          exact ⟨rfl, rfl⟩
  case rest =>
    obtain ⟨rfl, rfl⟩ := hcut
    clear HQR HST HRL hq1 hq2 hqb hrb
    obtain ⟨v, hv⟩ : ∃ v, v = (u * 4294967296 + n1) % D := ⟨_, rfl⟩
    have hve := wrap_rest u n1 D Q v HQ.out hv (by omega) hDpos
    have hvl : v < D := by rw [hv]; exact Nat.mod_lt _ hDpos
    have HV := Lib.hid hv
    obtain ⟨q', hq⟩ : ∃ q, q = v / y1 := ⟨_, rfl⟩
    obtain ⟨r', hr⟩ : ∃ r, r = v % y1 := ⟨_, rfl⟩
    have hy1p : 1 ≤ y1 := by omega
    have hqr : v = q' * y1 + r' := by rw [hq, hr, Nat.mul_comm]; exact (Nat.div_add_mod v y1).symm
    have hrl : r' < y1 := by rw [hr]; exact Nat.mod_lt _ hy1p
    have hst := half_start 4294967296 D y1 y0 v n0 q' r' HDE.out hy0n HBN.out hvl (by omega) hqr hrl
    have hqe : (v : Int) / (y1 : Int) = (q' : Int) := by rw [hq]; exact (Int.natCast_ediv v y1).symm
    obtain ⟨p', hp⟩ : ∃ p, p = q' * y1 := ⟨_, rfl⟩
    have hpe : (q' : Int) * (y1 : Int) = (p' : Int) := by rw [hp]; exact (Int.natCast_mul q' y1).symm
    have hpu : (p' : Int) + (r' : Int) = (v : Int) := by omega
    have hre : (v : Int) - (p' : Int) = (r' : Int) := by omega
    have hqb' : (q' : Int) ≤ 4294967297 := by omega
    have hrb' : (r' : Int) ≤ 4294967295 := by omega
    have hpb : (p' : Int) ≤ (v : Int) := by omega
    have hvb : (v : Int) ≤ 18446744073709551615 := by omega
    have HQR2 := Lib.hid hqr
    have HRL2 := Lib.hid hrl
    obtain ⟨Q0, hQ⟩ : ∃ Q, Q = (v * 4294967296 + n0) / D := ⟨_, rfl⟩
    have HQ0 := Lib.hid hQ
    rw [← hQ] at hst
    obtain ⟨hq1', hq2', hq3'⟩ := hst
    clear hv hq hr hqr hrl hp hpu hQ hy1p hvl
    go_upto_block 2 with fail
    clear hve hqe hpe hre hpb
    go_cut [18] (fun a wx => a = .int .u64 ((Q0 : Nat) : Int) ∧ wx = wc)
    case first =>
      go_wp2_with fail
      go_loop [18, 16] (fun a b => ∃ q r : Nat, a = .int .u64 ((q : Nat) : Int) ∧ b = .int .u64 ((r : Nat) : Int) ∧ v = q * y1 + r ∧ Q0 ≤ q ∧ q ≤ 4294967297 ∧ r < 4294967296) (fun a _ => (intOf a).toNat)
      case atStart => exact ⟨q', r', rfl, rfl, HQR2.out, hq1', hq2', by have := HRL2.out; omega⟩
      case round =>
        clear hq1' hq2' hqb' hrb'
        clear HQR2 HRL2
        obtain ⟨q, r, rfl, rfl, hqr, hq1, hq2, hr⟩ := hrel
        have HQR := Lib.hid hqr
        clear hqr
        by_cases hbig : 4294967296 ≤ q
        · obtain ⟨hp1, hp2, hp3⟩ := half_dec 4294967296 D y1 y0 v n0 q r HDE.out hDpos HQR.out (by rw [← HQ0.out]; exact hq3') (by rw [← HQ0.out]; exact hq1) (.inl hbig)
          rw [← HQ0.out] at hp2
          have HP3 := Lib.hid hp3
          clear hp3
          have hq5 : (1 : Int) ≤ (q : Int) := by omega
          have hq6 : (q : Int) ≤ 4294967297 := by omega
          have hbigi : (4294967296 : Int) ≤ (q : Int) := by omega
          have HBIG := Lib.hid hbig
          clear hbig
          by_cases hr2 : 4294967296 ≤ r + y1
          · have hr3 : (4294967296 : Int) ≤ (r : Int) + (y1 : Int) := by omega
            have HR2 := Lib.hid hr2
            clear hr2
            go_wp2_with fail
            go_meet
            have hr2 := HR2.out
            have := half_break 4294967296 D y1 y0 v n0 (q - 1) (r + y1) HDE.out hDpos hy0n HP3.out (by rw [← HQ0.out]; exact hp2) (by omega) hr2
            rw [← HQ0.out] at this
            exact ⟨congrArg (Value.int .u64) (by omega), rfl⟩
          · have hr3 : ¬ (4294967296 : Int) ≤ (r : Int) + (y1 : Int) := by omega
            go_wp2
            go_round
            case rel => exact ⟨q - 1, r + y1, congrArg (Value.int .u64) (by omega), congrArg (Value.int .u64) (by omega), HP3.out, hp2, by omega, by omega⟩
            case measure => simp [intOf]; omega
        · obtain ⟨a, ha⟩ : ∃ a, a = q * y0 := ⟨_, rfl⟩
          have hae : (q : Int) * (y0 : Int) = (a : Int) := by rw [ha]; exact (Int.natCast_mul q y0).symm
          have hal : a ≤ 18446744065119617025 := by rw [ha]; exact Nat.mul_le_mul (by omega : q ≤ 4294967295) (by omega : y0 ≤ 4294967295)
          have hali : (a : Int) ≤ 18446744065119617025 := by omega
          have hqs : ¬ (4294967296 : Int) ≤ (q : Int) := by omega
          have hrs : (r : Int) ≤ 4294967295 := by omega
          have HA := Lib.hid ha
          clear ha
          by_cases hc : 4294967296 * r + n0 < a
          · obtain ⟨hp1, hp2, hp3⟩ := half_dec 4294967296 D y1 y0 v n0 q r HDE.out hDpos HQR.out (by rw [← HQ0.out]; exact hq3') (by rw [← HQ0.out]; exact hq1) (.inr (by rw [← HA.out]; exact hc))
            rw [← HQ0.out] at hp2
            have HP3 := Lib.hid hp3
            clear hp3
            have hci : 4294967296 * (r : Int) + (n0 : Int) < (a : Int) := by omega
            have hq5 : (1 : Int) ≤ (q : Int) := by omega
            by_cases hr2 : 4294967296 ≤ r + y1
            · have hr3 : (4294967296 : Int) ≤ (r : Int) + (y1 : Int) := by omega
              go_wp2_with fail
              go_meet
              have := half_break 4294967296 D y1 y0 v n0 (q - 1) (r + y1) HDE.out hDpos hy0n HP3.out (by rw [← HQ0.out]; exact hp2) (by omega) hr2
              rw [← HQ0.out] at this
              exact ⟨congrArg (Value.int .u64) (by omega), rfl⟩
            · have hr3 : ¬ (4294967296 : Int) ≤ (r : Int) + (y1 : Int) := by omega
              go_wp2
              go_round
              case rel => exact ⟨q - 1, r + y1, congrArg (Value.int .u64) (by omega), congrArg (Value.int .u64) (by omega), HP3.out, hp2, by omega, by omega⟩
              case measure => simp [intOf]; omega
          · have hci : ¬ 4294967296 * (r : Int) + (n0 : Int) < (a : Int) := by omega
            have := half_stop 4294967296 D y1 y0 v n0 q r HDE.out hDpos HQR.out (by rw [← HQ0.out]; exact hq1) (by rw [← HA.out]; omega)
            rw [← HQ0.out] at this
            subst this
            go_wp2_with fail
            go_meet
            exact ⟨rfl, rfl⟩
    case rest =>
      obtain ⟨rfl, rfl⟩ := hcut
      clear HQR2 HRL2 hq1' hq2' hqb' hrb'
      obtain ⟨v2, hv2⟩ : ∃ v2, v2 = (v * 4294967296 + n0) % D := ⟨_, rfl⟩
      have hve := wrap_rest v n0 D Q0 v2 HQ0.out hv2 (by omega) hDpos
      have hq4 : (Q : Int) ≤ 4294967295 := by omega
      have hq5 : (Q0 : Int) ≤ 4294967295 := by omega
      have HV2 := Lib.hid hv2
      have hvb2 : (v2 : Int) ≤ 18446744073709551615 := by
        have := Nat.mod_lt (v * 4294967296 + n0) hDpos
        rw [← hv2] at this; omega
      clear hv2 hq3 hq3'
      go_wp2
      first | go_ret | skip
      have hA : Q * 4294967296 + Q0 = (hi * W64 + lo) / y ∧ v2 / 2 ^ s = (hi * W64 + lo) % y := by
        have h1 := two_halves 4294967296 D u n1 n0 hDpos
        rw [← HV.out, ← HQ.out, ← HQ0.out, ← HV2.out, ← HFIN.out, HD2.out] at h1
        have h2 := shift_div (hi * W64 + lo) y (2 ^ s) (Nat.pow_pos (by omega))
        exact ⟨by rw [← h1.1, h2.1], by rw [← h1.2, h2.2]⟩
      have hB : (v2 : Int) / 2 ^ s = ((v2 / 2 ^ s : Nat) : Int) := by rw [Int.natCast_ediv, Int.natCast_pow]; rfl
      show R (.returned (.tuple #[.int .u64 ((Q : Int) * 4294967296 + (Q0 : Int)), .int .u64 ((v2 : Int) / 2 ^ s)])) _
      rw [hB, hA.2, show (Q : Int) * 4294967296 + (Q0 : Int) = ((Q * 4294967296 + Q0 : Nat) : Int) by omega, hA.1]
      exact HR.out
theorem div64_any (hi lo y : Nat) (w : World) (hlo : lo < W64) (hy : y < W64) (hlt : hi < y) (q r : Nat) (hq : q = (hi * W64 + lo) / y) (hr : r = (hi * W64 + lo) % y) (R : Ending → World → Prop)
    (hR : ∀ n, R (.returned (.tuple #[.int .u64 ((q : Nat) : Int), .int .u64 ((r : Nat) : Int)])) (w.drewN n)) :
    Calls Try.prog 23 #[.int .u64 ((hi : Nat) : Int), .int .u64 ((lo : Nat) : Int), .int .u64 ((y : Nat) : Int)] w R := by
  by_cases h0 : hi = 0
  · subst h0
    refine div64_small lo y w hlo hlt R fun n => ?_
    have := hR n
    rw [hq, hr, Nat.zero_mul, Nat.zero_add] at this
    exact this
  · refine div64_main hi lo y w (by omega) hlo hy hlt R ?_
    have := hR 0
    rw [hq, hr] at this
    exact this

end Go.Proofs.Ytpblpdcdhgjecaa

namespace Go.Proofs.Ytpblpdcdhgjecaa
open Go Go.RowKit

theorem rem64_eq (hi lo y : Nat) : (hi % y * W64 + lo) % y = (hi * W64 + lo) % y := by
  rw [Nat.add_mod, Nat.mod_mul_mod, ← Nat.add_mod]

theorem tmodN (y m : Nat) : Int.tmod (y : Int) (m : Int) = ((y % m : Nat) : Int) := by
  rw [Int.tmod_eq_emod_of_nonneg (by omega)]; omega

set_option maxRecDepth 100000 in
set_option maxHeartbeats 1000000 in
theorem rem64_any (hi lo y : Nat) (w : World) (hh : hi < W64) (hlo : lo < W64) (hy : y < W64) (h0 : 0 < y) (R : Ending → World → Prop)
    (hR : ∀ n, R (.returned (.int .u64 (((hi * W64 + lo) % y : Nat) : Int))) (w.drewN n)) :
    Calls Try.prog 22 #[.int .u64 ((hi : Nat) : Int), .int .u64 ((lo : Nat) : Int), .int .u64 ((y : Nat) : Int)] w R := by
  have HR := Lib.hid hR; clear hR
  obtain ⟨z, hz⟩ : ∃ z, z = hi % y := ⟨_, rfl⟩
  have hzy : z < y := by rw [hz]; exact Nat.mod_lt _ h0
  have e1 : Int.tmod (hi : Int) (y : Int) = (z : Int) := by rw [tmodN, hz]
  have e2 : (hi : Int) % (y : Int) = (z : Int) := by rw [hz]; omega
  have e3 : IntKind.u64.wrap (z : Int) = (z : Int) := wrapu _ (by omega) (by rw [W64_eq] at hy; omega)
  have HZ := Lib.hid hz
  have HH := Lib.hid (And.intro hlo hy)
  have e4 : ((y : Int) == 0) = false := by simp; omega
  have hy0 : ¬ ((y : Int) = 0) := by omega
  clear hz hh hlo hy
  go_enter Try.func22, Try.ntmps22
  go_wp2_with fail
  refine div64_any z lo y _ HH.out.1 HH.out.2 hzy _ _ rfl rfl _ ?_
  intro n
  have HF := Lib.hid (HR.out n)
  rw [show (hi * W64 + lo) % y = (z * W64 + lo) % y by rw [HZ.out, rem64_eq]] at HF
  dsimp only
  go_wp2
  first | go_ret | skip
  exact HF.out

set_option maxRecDepth 100000 in
set_option maxHeartbeats 1000000 in
theorem mtimes_any (m a b : Nat) (w : World) (ha : a < W64) (hb : b < W64) (hm : m < W64) (h0 : 0 < m) (R : Ending → World → Prop)
    (hR : ∀ n, R (.returned (.int .u64 ((a * b % m : Nat) : Int))) (w.drewN n)) :
    Calls Try.prog 15 #[.int .u64 ((m : Nat) : Int), .int .u64 ((a : Nat) : Int), .int .u64 ((b : Nat) : Int)] w R := by
  have HR := Lib.hid hR; clear hR
  obtain ⟨hi, hhi⟩ : ∃ hi, hi = a * b / W64 := ⟨_, rfl⟩
  obtain ⟨lo, hlo⟩ : ∃ lo, lo = a * b % W64 := ⟨_, rfl⟩
  have hW : 0 < W64 := by rw [W64_eq]; omega
  have hl1 : lo < W64 := by rw [hlo]; exact Nat.mod_lt _ hW
  have hl2 : hi < W64 := by
    rw [hhi]
    refine Nat.div_lt_of_lt_mul ?_
    exact Nat.mul_lt_mul'' ha hb
  have HAB : Hid (hi * W64 + lo = a * b) := Lib.hid (by rw [hhi, hlo, Nat.mul_comm]; exact Nat.div_add_mod _ _)
  have em := Lib.hid (Try.bits_Mul64 a b (by rw [← W64_eq]; exact ha) (by rw [← W64_eq]; exact hb))
  have HH := Lib.hid (And.intro hl1 (And.intro hl2 (And.intro hm h0)))
  have HHI := Lib.hid hhi
  have HLO := Lib.hid hlo
  clear hhi hlo ha hb hm h0 hl1 hl2
  go_enter Try.func15, Try.ntmps15
  go_wp2_with fail
  refine (em.out _).mono ?_
  rintro e w' ⟨rfl, rfl⟩
  rw [← W64_eq, ← HHI.out, ← HLO.out]
  dsimp only
  go_wp2_with fail
  refine rem64_any hi lo m _ HH.out.2.1 HH.out.1 HH.out.2.2.1 HH.out.2.2.2 _ ?_
  intro n
  rw [HAB.out]
  dsimp only
  go_wp2
  first | go_ret | skip
  exact HR.out n

set_option maxRecDepth 100000 in
set_option maxHeartbeats 1000000 in
theorem mminus_any (m a b : Nat) (w : World) (ha : a < m) (hb : b < m) (hm : m ≤ 9223372036854775807) (R : Ending → World → Prop)
    (hR : R (.returned (.int .u64 (((a + m - b) % m : Nat) : Int))) w) :
    Calls Try.prog 20 #[.int .u64 ((m : Nat) : Int), .int .u64 ((a : Nat) : Int), .int .u64 ((b : Nat) : Int)] w R := by
  have HR := Lib.hid hR; clear hR
  by_cases hlt : a < b
  · obtain ⟨s, hs⟩ : ∃ s, s = a + m - b := ⟨_, rfl⟩
    have e1 : IntKind.u64.wrap ((a : Int) + (m : Int)) = (a : Int) + (m : Int) := wrapu _ (by omega) (by omega)
    have e2 : IntKind.u64.wrap ((a : Int) + (m : Int) - (b : Int)) = (s : Int) := by rw [wrapu _ (by omega) (by omega)]; omega
    have e3 : (a : Int) < (b : Int) := by omega
    have HF := Lib.hid (show R (.returned (.int .u64 (s : Int))) w by have := HR.out; rw [← hs, Nat.mod_eq_of_lt (by omega)] at this; exact this)
    clear hs hlt
    go_enter Try.func20, Try.ntmps20
    go_wp2
    first | go_ret | skip
    exact HF.out
  · obtain ⟨s, hs⟩ : ∃ s, s = a - b := ⟨_, rfl⟩
    have e2 : IntKind.u64.wrap ((a : Int) - (b : Int)) = (s : Int) := by rw [wrapu _ (by omega) (by omega)]; omega
    have e3 : ¬ (a : Int) < (b : Int) := by omega
    have HF := Lib.hid (show R (.returned (.int .u64 (s : Int))) w by
      have := HR.out
      rw [show a + m - b = s + m by omega, Nat.add_mod_right, Nat.mod_eq_of_lt (by omega)] at this
      exact this)
    clear hs hlt
    go_enter Try.func20, Try.ntmps20
    go_wp2
    first | go_ret | skip
    exact HF.out
end Go.Proofs.Ytpblpdcdhgjecaa

namespace Go.Proofs.Ytpblpdcdhgjecaa

/-- the last number that is not 0, and its factor -/
def egc : Nat → Nat → Nat → Int → Int → Nat × Int
  | 0, big, _, x, _ => (big, x)
  | f + 1, big, small, x, y => if small = 0 then (big, x) else egc f small (big % small) y (x - ((big / small : Nat) : Int) * y)

theorem egc_fuel : ∀ (f f' big small : Nat) (x y : Int), small ≤ f → small ≤ f' → egc f big small x y = egc f' big small x y := by
  intro f
  induction f with
  | zero =>
    intro f' big small x y h _
    have : small = 0 := by omega
    subst this
    cases f' <;> simp [egc]
  | succ f ih =>
    intro f' big small x y h h'
    by_cases h0 : small = 0
    · subst h0
      cases f' <;> simp [egc]
    · obtain ⟨g, rfl⟩ : ∃ g, f' = g + 1 := ⟨f' - 1, by omega⟩
      simp only [egc, h0, if_false]
      have := Nat.mod_lt big (Nat.pos_of_ne_zero h0)
      exact ih g _ _ _ _ (by omega) (by omega)

/-- the same, with enough steps -/
def eg (big small : Nat) (x y : Int) : Nat × Int := egc small big small x y
theorem eg_zero (big : Nat) (x y : Int) : eg big 0 x y = (big, x) := rfl
theorem eg_step {big small : Nat} (x y : Int) (h : 0 < small) : eg big small x y = eg small (big % small) y (x - ((big / small : Nat) : Int) * y) := by
  unfold eg
  obtain ⟨g, rfl⟩ : ∃ g, small = g + 1 := ⟨small - 1, by omega⟩
  rw [egc, if_neg (by omega)]
  have := Nat.mod_lt big h
  exact egc_fuel _ _ _ _ _ _ (by omega) (by omega)

/-- the signs alternate, and the numbers stay small -/
def EgB (m : Nat) (big small : Nat) (x y : Int) : Prop := small < big ∧ x.natAbs * small + y.natAbs * big = m ∧ (0 ≤ x ∧ y ≤ 0 ∨ x ≤ 0 ∧ 0 ≤ y)

theorem egb_start (m a : Nat) (h : a < m) : EgB m m a 0 1 := ⟨h, by simp, .inr ⟨Int.le_refl _, by omega⟩⟩

theorem natAbs_next {q : Nat} {x y : Int} (h : 0 ≤ x ∧ y ≤ 0 ∨ x ≤ 0 ∧ 0 ≤ y) : (x - (q : Int) * y).natAbs = x.natAbs + q * y.natAbs ∧ (0 ≤ y ∧ x - (q : Int) * y ≤ 0 ∨ y ≤ 0 ∧ 0 ≤ x - (q : Int) * y) := by
  rcases h with ⟨hx, hy⟩ | ⟨hx, hy⟩
  · have h1 : (q : Int) * y ≤ 0 := Int.mul_nonpos_of_nonneg_of_nonpos (by omega) hy
    have h2 : (((q * y.natAbs : Nat)) : Int) = -((q : Int) * y) := by
      rw [Int.natCast_mul, Int.ofNat_natAbs_of_nonpos hy, Int.mul_neg]
    exact ⟨by omega, .inr ⟨hy, by omega⟩⟩
  · have h1 : 0 ≤ (q : Int) * y := Int.mul_nonneg (by omega) hy
    have h2 : (((q * y.natAbs : Nat)) : Int) = (q : Int) * y := by
      rw [Int.natCast_mul, Int.natAbs_of_nonneg hy]
    exact ⟨by omega, .inl ⟨hy, by omega⟩⟩

theorem egb_step {m big small : Nat} {x y : Int} (h : EgB m big small x y) (h0 : 0 < small) : EgB m small (big % small) y (x - ((big / small : Nat) : Int) * y) := by
  obtain ⟨h1, h2, h3⟩ := h
  obtain ⟨n1, n2⟩ := natAbs_next (q := big / small) h3
  refine ⟨Nat.mod_lt _ h0, ?_, n2.elim .inl .inr⟩
  rw [n1, ← h2]
  have hd := Nat.div_add_mod big small
  have e : y.natAbs * big = y.natAbs * (small * (big / small)) + y.natAbs * (big % small) := by rw [← Nat.mul_add, hd]
  rw [e, Nat.add_mul]
  have : big / small * y.natAbs * small = y.natAbs * (small * (big / small)) := by
    rw [Nat.mul_comm (big / small), Nat.mul_assoc, Nat.mul_comm (big / small)]
  omega

theorem egb_bounds {m big small : Nat} {x y : Int} (h : EgB m big small x y) : y.natAbs ≤ m ∧ (0 < small → x.natAbs ≤ m) := by
  obtain ⟨h1, h2, _⟩ := h
  constructor
  · have : y.natAbs * 1 ≤ y.natAbs * big := Nat.mul_le_mul_left _ (by omega)
    omega
  · intro h0
    have : x.natAbs * 1 ≤ x.natAbs * small := Nat.mul_le_mul_left _ h0
    omega

/-- both factors, times the number, are the numbers modulo m -/
def EgC (m a : Nat) (big small : Nat) (x y : Int) : Prop := (m : Int) ∣ (big : Int) - x * a ∧ (m : Int) ∣ (small : Int) - y * a
theorem egc_start (m a : Nat) : EgC m a m a 0 1 := ⟨⟨1, by omega⟩, ⟨0, by omega⟩⟩
theorem egc_step {m a big small : Nat} {x y : Int} (h : EgC m a big small x y) : EgC m a small (big % small) y (x - ((big / small : Nat) : Int) * y) := by
  obtain ⟨⟨u, hu⟩, ⟨v, hv⟩⟩ := h
  refine ⟨⟨v, hv⟩, ⟨u - ((big / small : Nat) : Int) * v, ?_⟩⟩
  have hd := Nat.div_add_mod big small
  have hd' : ((big % small : Nat) : Int) = (big : Int) - (small : Int) * ((big / small : Nat) : Int) := by
    rw [← Int.natCast_mul]; omega
  rw [hd', Int.mul_sub, ← hu, Int.mul_left_comm, ← hv, Int.sub_mul, Int.mul_sub]
  have e1 : ((big / small : Nat) : Int) * y * (a : Int) = ((big / small : Nat) : Int) * (y * (a : Int)) := Int.mul_assoc _ _ _
  rw [e1, Int.mul_comm (small : Int)]
  omega

/-- what comes out at the end -/
theorem eg_end : ∀ (f m a big small : Nat) (x y : Int), small ≤ f → EgC m a big small x y → (eg big small x y).1 = Nat.gcd big small ∧ (m : Int) ∣ ((eg big small x y).1 : Int) - (eg big small x y).2 * a := by
  intro f
  induction f with
  | zero =>
    intro m a big small x y h hc
    have : small = 0 := by omega
    subst this
    rw [eg_zero, Nat.gcd_zero_right]
    exact ⟨rfl, hc.1⟩
  | succ f ih =>
    intro m a big small x y h hc
    by_cases h0 : small = 0
    · subst h0
      rw [eg_zero, Nat.gcd_zero_right]
      exact ⟨rfl, hc.1⟩
    · have hp : 0 < small := by omega
      rw [eg_step x y hp]
      have hm := Nat.mod_lt big hp
      obtain ⟨i1, i2⟩ := ih m a small (big % small) y _ (by omega) (egc_step hc)
      refine ⟨?_, i2⟩
      rw [i1, Nat.gcd_comm big small, Nat.gcd_rec small big, Nat.gcd_comm]

/-- the inverse modulo m; 0 if there is none -/
def invR (a m : Nat) : Nat := ((eg m a 0 1).2 % (m : Int)).toNat
def invB (a m : Nat) : Bool := decide ((eg m a 0 1).1 = 1)
theorem invR_lt {a m : Nat} (hm : 0 < m) : invR a m < m := by
  unfold invR
  have h1 := Int.emod_lt_of_pos (eg m a 0 1).2 (show (0 : Int) < (m : Int) by omega)
  have h2 := Int.emod_nonneg (eg m a 0 1).2 (show (m : Int) ≠ 0 by omega)
  omega
theorem invB_iff (a m : Nat) : invB a m = true ↔ Nat.gcd m a = 1 := by
  unfold invB
  rw [decide_eq_true_iff, (eg_end a m a m a 0 1 (Nat.le_refl _) (egc_start m a)).1]
/-- it is the inverse -/
theorem invR_mul {a m : Nat} (hm : 0 < m) (h : Nat.gcd m a = 1) : (m : Int) ∣ 1 - ((invR a m : Nat) : Int) * a := by
  obtain ⟨e1, k, hk⟩ := eg_end a m a m a 0 1 (Nat.le_refl _) (egc_start m a)
  rw [e1, h] at hk
  have h2 := Int.emod_nonneg (eg m a 0 1).2 (show (m : Int) ≠ 0 by omega)
  have e : ((invR a m : Nat) : Int) = (eg m a 0 1).2 % (m : Int) := by unfold invR; omega
  have hd := Int.emod_add_mul_ediv (eg m a 0 1).2 (m : Int)
  refine ⟨k + (eg m a 0 1).2 / (m : Int) * a, ?_⟩
  rw [e, Int.mul_add, ← hk]
  have e2 : (eg m a 0 1).2 % (m : Int) = (eg m a 0 1).2 - (m : Int) * ((eg m a 0 1).2 / (m : Int)) := by omega
  rw [e2, Int.sub_mul, Int.mul_assoc]
  omega

end Go.Proofs.Ytpblpdcdhgjecaa

namespace Go.Proofs.Ytpblpdcdhgjecaa
open Go Go.RowKit

set_option maxRecDepth 100000 in
theorem in_any (n low high : Int) (w : World) (R : Ending → World → Prop) (hR : R (.returned (.bool (decide (low ≤ n ∧ n ≤ high)))) w) :
    Calls Try.prog 17 #[.int .i64 n, .int .i64 low, .int .i64 high] w R := by
  have HR := Lib.hid hR; clear hR
  by_cases h1 : low ≤ n
  · by_cases h2 : n ≤ high
    · rw [decide_eq_true ⟨h1, h2⟩] at HR
      go_enter Try.func17, Try.ntmps17
      go_wp2
      first | go_ret | skip
      exact HR.out
    · rw [decide_eq_false (fun h => h2 h.2)] at HR
      go_enter Try.func17, Try.ntmps17
      go_wp2
      first | go_ret | skip
      exact HR.out
  · rw [decide_eq_false (fun h => h1 h.1)] at HR
    go_enter Try.func17, Try.ntmps17
    go_wp2
    first | go_ret | skip
    exact HR.out

end Go.Proofs.Ytpblpdcdhgjecaa

namespace Go.Proofs.Ytpblpdcdhgjecaa
open Go Go.RowKit

theorem mod_next {m q : Nat} {x y : Int} (hm : 0 < m) (u v p : Nat) (hu : u = (x % (m : Int)).toNat) (hv : v = (y % (m : Int)).toNat) (hp : p = q * v % m) :
    (u + m - p) % m = ((x - (q : Int) * y) % (m : Int)).toNat := by
  have hpm : p < m := by rw [hp]; exact Nat.mod_lt _ hm
  have e1 := Int.emod_add_mul_ediv x (m : Int)
  have e2 := Int.emod_add_mul_ediv y (m : Int)
  have n1 := Int.emod_nonneg x (show (m : Int) ≠ 0 by omega)
  have n2 := Int.emod_nonneg y (show (m : Int) ≠ 0 by omega)
  have e3 := Nat.mod_add_div (q * v) m
  rw [← hp] at e3
  have e3' : (p : Int) + (m : Int) * ((q * v / m : Nat) : Int) = (q : Int) * (v : Int) := by rw [← Int.natCast_mul, ← Int.natCast_mul]; omega
  have hu' : (u : Int) = x % (m : Int) := by omega
  have hv' : (v : Int) = y % (m : Int) := by omega
  rw [← hu'] at e1
  rw [← hv'] at e2
  generalize ((q * v / m : Nat) : Int) = r at *
  generalize x / (m : Int) = s at *
  generalize y / (m : Int) = t at *
  have e4 : (q : Int) * y = (q : Int) * v + (m : Int) * ((q : Int) * t) := by rw [← e2, Int.mul_add, Int.mul_left_comm]
  have e5 : x - (q : Int) * y = ((u + m - p : Nat) : Int) + (m : Int) * (s - r - (q : Int) * t - 1) := by
    rw [e4, ← e3', ← e1]
    have : ((u + m - p : Nat) : Int) = (u : Int) + m - p := by omega
    rw [this, Int.mul_sub, Int.mul_sub, Int.mul_sub]
    omega
  rw [e5, Int.add_mul_emod_self_left]
  omega

/-- the inverse as it is told: 0 if there is none -/
def invO (a m : Nat) : Nat := if invB a m = true then invR a m else 0

/-- the loop of the program's search -/
def InvRel (m a : Nat) (w : World) (l r lf rf : Value) (wr : World) : Prop :=
  ∃ (big small u v : Nat) (x y : Int), l = .int .u64 (big : Int) ∧ r = .int .u64 (small : Int) ∧ lf = .int .u64 (u : Int) ∧ rf = .int .u64 (v : Int) ∧ big ≤ m ∧ EgB m big small x y ∧
    eg big small x y = eg m a 0 1 ∧ u = (x % (m : Int)).toNat ∧ (small = 0 ∨ v = (y % (m : Int)).toNat) ∧ Below w.heap.size w wr

set_option maxRecDepth 100000 in
set_option maxHeartbeats 2000000 in
theorem inverse_any (m a : Nat) (w : World) (ha : a < m) (hm : m ≤ 1000000000000) (R : Ending → World → Prop)
    (hR : ∀ w', Below w.heap.size w w' → R (.returned (.tuple #[.int .u64 ((invO a m : Nat) : Int), .bool (invB a m)])) w') :
    Calls Try.prog 14 #[.int .u64 ((m : Nat) : Int), .int .u64 ((a : Nat) : Int)] w R := by
  have HR := Lib.hid hR; clear hR
  have hm0 : 0 < m := by omega
  have HST : Hid (InvRel m a w (.int .u64 (m : Int)) (.int .u64 (a : Int)) (.int .u64 0) (.int .u64 1) w) := Lib.hid (by
    refine ⟨m, a, 0, 1, 0, 1, rfl, rfl, rfl, rfl, Nat.le_refl _, egb_start m a ha, rfl, by simp, ?_, Below.refl _ _⟩
    by_cases h1 : m = 1
    · left; omega
    · right
      rw [Int.emod_eq_of_lt (by omega) (by omega)]; rfl)
  clear ha
  go_enter Try.func14, Try.ntmps14
  go_wp2
  go_loopw [6, 7, 8, 9] (fun l r lf rf wr => InvRel m a w l r lf rf wr) (fun _ r _ _ _ => (intOf r).toNat)
  case atStart => exact HST.out
  case round =>
    clear HST
    obtain ⟨big, small, u, v, x, y, rfl, rfl, rfl, rfl, hbm, hB, heq, hu, hv, hbel⟩ := hrel
    have hsb := hB.1
    have HB := Lib.hid hB
    have HEQ := Lib.hid heq
    have HU := Lib.hid hu
    have HV := Lib.hid hv
    have HBEL := Lib.hid hbel
    have hul : u < m := by
      have := Int.emod_lt_of_pos x (show (0 : Int) < (m : Int) by omega)
      have := Int.emod_nonneg x (show (m : Int) ≠ 0 by omega)
      omega
    clear hB heq hu hv hbel
    by_cases h0 : small = 0
    · subst h0
      have he := HEQ.out
      rw [eg_zero] at he
      have eR : invR a m = u := by unfold invR; rw [← he]; exact HU.out.symm
      have eB : invB a m = decide (big = 1) := by unfold invB; rw [← he]
      by_cases h1 : big = 1
      · have HF := Lib.hid (show R (.returned (.tuple #[.int .u64 (u : Int), .bool true])) wr by
          have := HR.out wr HBEL.out
          unfold invO at this
          rw [eB, decide_eq_true h1, if_pos rfl, eR] at this; exact this)
        have e1 : ((big : Int) != 1) = false := by rw [h1]; rfl
        clear he eR eB h1 hul hsb
        go_wp2
        first | go_ret | skip
        exact HF.out
      · have HF := Lib.hid (show R (.returned (.tuple #[.int .u64 0, .bool false])) wr by
          have := HR.out wr HBEL.out
          unfold invO at this
          rw [eB, decide_eq_false h1, if_neg (by decide)] at this; exact this)
        have e1 : ((big : Int) != 1) = true := by rw [bne_iff_ne]; omega
        clear he eR eB h1 hul hsb
        go_wp2
        first | go_ret | skip
        exact HF.out
    · have hs0 : 0 < small := by omega
      obtain ⟨q, hq⟩ : ∃ q, q = big / small := ⟨_, rfl⟩
      obtain ⟨r, hr⟩ : ∃ r, r = big % small := ⟨_, rfl⟩
      have hrs : r < small := by rw [hr]; exact Nat.mod_lt _ hs0
      have hqb : q ≤ big := by rw [hq]; exact Nat.div_le_self _ _
      have hvv : v = (y % (m : Int)).toNat := HV.out.resolve_left h0
      have hvl : v < m := by
        have := Int.emod_lt_of_pos y (show (0 : Int) < (m : Int) by omega)
        have := Int.emod_nonneg y (show (m : Int) ≠ 0 by omega)
        omega
      obtain ⟨p, hp⟩ : ∃ p, p = q * v % m := ⟨_, rfl⟩
      have hpm : p < m := by rw [hp]; exact Nat.mod_lt _ hm0
      obtain ⟨v2, hv2⟩ : ∃ v2, v2 = (u + m - p) % m := ⟨_, rfl⟩
      have HP := Lib.hid hp
      have HV2 := Lib.hid hv2
      have hgo := egb_step HB.out hs0
      have hge := eg_step x y hs0 (big := big)
      rw [← hq, ← hr] at hgo hge
      have HNEXT : Hid (∀ wz, Below w.heap.size w wz → InvRel m a w (.int .u64 (small : Int)) (.int .u64 (r : Int)) (.int .u64 (v : Int)) (.int .u64 (v2 : Int)) wz) := Lib.hid fun wz hz =>
        ⟨small, r, v, v2, y, _, rfl, rfl, rfl, rfl, by omega, hgo, by rw [← hge]; exact HEQ.out, hvv, .inr (by rw [hv2]; exact mod_next hm0 u v p HU.out hvv hp), hz⟩
      have HVS := Lib.hid (And.intro hvl (And.intro hpm hul))
      have e1 : (big : Int) / (small : Int) = (q : Int) := by rw [hq]; omega
      have e2 : (big : Int) % (small : Int) = (r : Int) := by rw [hr]; omega
      have e3 : Int.tdiv (big : Int) (small : Int) = (q : Int) := by rw [Int.tdiv_eq_ediv_of_nonneg (by omega)]; exact e1
      have e4 : Int.tmod (big : Int) (small : Int) = (r : Int) := by rw [tmodN, hr]
      have e5 : IntKind.u64.wrap (q : Int) = (q : Int) := wrapu _ (by omega) (by omega)
      have e6 : IntKind.u64.wrap (r : Int) = (r : Int) := wrapu _ (by omega) (by omega)
      have e7 : ((small : Int) == 0) = false := by rw [beq_eq_false_iff_ne]; omega
      have e8 : ¬ ((small : Int) = 0) := by omega
      clear hp hv2 hgo hge hvv hq hr hul hvl hpm h0
      go_wp2
      go_quiet (fail)
      obtain ⟨wq, hwq⟩ : ∃ wq, wq = wr.drewN nq := ⟨_, rfl⟩
      have HBQ : Hid (Below w.heap.size w wq) := Lib.hid (by rw [hwq]; exact below_draws HBEL.out _)
      rw [← hwq]
      clear hwq e1 e2 e3 e4
      go_wp2_with fail
      refine mtimes_any m q v _ (by rw [W64_eq]; omega) (by have := HVS.out.1; rw [W64_eq]; omega) (by rw [W64_eq]; omega) hm0 _ ?_
      intro n1
      rw [← HP.out]
      dsimp only
      go_wp2_with fail
      refine mminus_any m u p _ HVS.out.2.2 HVS.out.2.1 (by omega) _ ?_
      rw [← HV2.out]
      have HN2 := Lib.hid (HNEXT.out (wq.drewN n1) (below_draws HBQ.out _))
      dsimp only
      go_wp2
      go_roundw
      case rel => exact HN2.out
      case measure => simp [intOf]; omega
end Go.Proofs.Ytpblpdcdhgjecaa

namespace Go.Proofs.Ytpblpdcdhgjecaa
open Go Go.RowKit

theorem mod_again {m : Nat} {x : Int} (hm : 0 < m) : Int.tmod (Int.tmod x (m : Int) + (m : Int)) (m : Int) = ((x % (m : Int)).toNat : Int) ∧ 0 ≤ Int.tmod x (m : Int) + (m : Int) ∧ Int.tmod x (m : Int) + (m : Int) < 2 * (m : Int) ∧ -(m : Int) < Int.tmod x (m : Int) := by
  have h1 := Int.emod_nonneg x (show (m : Int) ≠ 0 by omega)
  have h2 := Int.emod_lt_of_pos x (show (0 : Int) < (m : Int) by omega)
  have h3 : -(m : Int) < Int.tmod x (m : Int) ∧ Int.tmod x (m : Int) < (m : Int) := by
    have := Int.tmod_lt_of_pos x (show (0 : Int) < (m : Int) by omega)
    have h4 : -(m : Int) < Int.tmod x (m : Int) := by
      have e := Int.natAbs_tmod x (m : Int)
      rw [Int.natAbs_natCast] at e
      have := Nat.mod_lt x.natAbs hm
      omega
    exact ⟨h4, this⟩
  refine ⟨?_, by omega, by omega, h3.1⟩
  rw [Int.tmod_eq_emod_of_nonneg (by omega), Int.add_emod_right]
  have : Int.tmod x (m : Int) % (m : Int) = x % (m : Int) := by
    have hd := Int.tmod_add_mul_tdiv x (m : Int)
    conv => rhs; rw [← hd]
    rw [Int.add_mul_emod_self_left]
  rw [this]
  omega

/-- the loop of the model's search -/
def InvRelS (m a : Nat) (bg sm xv yv : Value) : Prop :=
  ∃ (big small : Nat) (x y : Int), bg = .int .i64 (big : Int) ∧ sm = .int .i64 (small : Int) ∧ xv = .int .i64 x ∧ yv = .int .i64 y ∧ big ≤ m ∧ EgB m big small x y ∧ x.natAbs ≤ m ∧ eg big small x y = eg m a 0 1

set_option maxRecDepth 100000 in
set_option maxHeartbeats 2000000 in
theorem spec_inverse (m a : Nat) (w : World) (ha : a < m) (hm : m ≤ 1000000) (R : Ending → World → Prop)
    (hR : R (.returned (.tuple #[.int .i64 ((invR a m : Nat) : Int), .bool (invB a m)])) w) :
    Calls Try.prog 18 #[.int .i64 ((a : Nat) : Int), .int .i64 ((m : Nat) : Int)] w R := by
  have HR := Lib.hid hR; clear hR
  have hm0 : 0 < m := by omega
  have HST : Hid (InvRelS m a (.int .i64 (m : Int)) (.int .i64 (a : Int)) (.int .i64 0) (.int .i64 1)) := Lib.hid
    ⟨m, a, 0, 1, rfl, rfl, rfl, rfl, Nat.le_refl _, egb_start m a ha, by simp, rfl⟩
  clear ha
  go_enter Try.func18, Try.ntmps18
  go_wp2
  go_loop [6, 7, 8, 9] (fun bg sm xv yv => InvRelS m a bg sm xv yv) (fun _ sm _ _ => (intOf sm).toNat)
  case atStart => exact HST.out
  case round =>
    clear HST
    obtain ⟨big, small, x, y, rfl, rfl, rfl, rfl, hbm, hB, hxm, heq⟩ := hrel
    have hsb := hB.1
    have HB := Lib.hid hB
    have HEQ := Lib.hid heq
    have hym := (egb_bounds hB).1
    clear hB heq
    by_cases h0 : small = 0
    · subst h0
      have he := HEQ.out
      rw [eg_zero] at he
      obtain ⟨m1, m2, m3, m4⟩ := mod_again (x := x) hm0
      obtain ⟨t1, ht1⟩ : ∃ t, t = Int.tmod x (m : Int) := ⟨_, rfl⟩
      rw [← ht1] at m1 m2 m3 m4
      obtain ⟨s, hs⟩ : ∃ s, s = t1 + (m : Int) := ⟨_, rfl⟩
      obtain ⟨z, hz⟩ : ∃ z, z = invR a m := ⟨_, rfl⟩
      have hzz : (z : Int) = ((x % (m : Int)).toNat : Int) := by rw [hz]; unfold invR; rw [← he]
      obtain ⟨B, hBB⟩ : ∃ B, B = invB a m := ⟨_, rfl⟩
      have HF := Lib.hid (show R (.returned (.tuple #[.int .i64 (z : Int), .bool B])) w by rw [hz, hBB]; exact HR.out)
      have eB : ((big : Int) == 1) = B := by
        rw [hBB]; unfold invB; rw [← he]
        by_cases h1 : big = 1
        · rw [decide_eq_true h1, h1]; rfl
        · rw [decide_eq_false h1, beq_eq_false_iff_ne]; omega
      have e1 : Int.tmod x (m : Int) = t1 := ht1.symm
      have e2 : IntKind.i64.wrap t1 = t1 := IntWalk.i64_in _ (by omega)
      have e3 : IntKind.i64.wrap (t1 + (m : Int)) = s := by rw [IntWalk.i64_in _ (by omega)]; exact hs.symm
      have e4 : Int.tmod s (m : Int) = (z : Int) := by rw [hs, m1, hzz]
      have e5 : s % (m : Int) = (z : Int) := by rw [← e4, Int.tmod_eq_emod_of_nonneg (by omega)]
      have hzm : z < m := by rw [hz]; exact invR_lt hm0
      have e6 : IntKind.i64.wrap (z : Int) = (z : Int) := IntWalk.i64_in _ (by omega)
      have e7 : ((m : Int) == 0) = false := by rw [beq_eq_false_iff_ne]; omega
      have e8 : ¬ ((m : Int) = 0) := by omega
      have hs0 : 0 ≤ s := by omega
      have hsm : s < 2 * (m : Int) := by omega
      have hx1 : x ≤ (m : Int) := by omega
      have hx2 : -(m : Int) ≤ x := by omega
      clear he m1 ht1 hs hz hzz hBB hxm hym hzm
      go_wp2
      first | go_ret | skip
      exact HF.out
    · have hs0 : 0 < small := by omega
      obtain ⟨q, hq⟩ : ∃ q, q = big / small := ⟨_, rfl⟩
      obtain ⟨r, hr⟩ : ∃ r, r = big % small := ⟨_, rfl⟩
      have hrs : r < small := by rw [hr]; exact Nat.mod_lt _ hs0
      have hqb : q ≤ big := by rw [hq]; exact Nat.div_le_self _ _
      have hgo := egb_step HB.out hs0
      have hge := eg_step x y hs0 (big := big)
      rw [← hq, ← hr] at hgo hge
      have hdm := Nat.div_add_mod big small
      rw [← hq, ← hr] at hdm
      obtain ⟨z, hz⟩ : ∃ z : Int, z = (q : Int) * y := ⟨_, rfl⟩
      obtain ⟨t, ht⟩ : ∃ t : Int, t = x - z := ⟨_, rfl⟩
      have htb : t.natAbs ≤ m := by rw [ht, hz]; exact (egb_bounds hgo).1
      have HNEXT : Hid (InvRelS m a (.int .i64 (small : Int)) (.int .i64 (r : Int)) (.int .i64 y) (.int .i64 t)) := Lib.hid
        ⟨small, r, y, t, rfl, rfl, rfl, rfl, by omega, by rw [ht, hz]; exact hgo, hym, by rw [ht, hz, ← hge]; exact HEQ.out⟩
      obtain ⟨ps, hps⟩ : ∃ ps, ps = q * small := ⟨_, rfl⟩
      have hps2 : (q : Int) * (small : Int) = (ps : Int) := by rw [hps, Int.natCast_mul]
      have hps3 : ps + r = big := by rw [hps, Nat.mul_comm]; exact hdm
      have e1 : (big : Int) / (small : Int) = (q : Int) := by rw [hq]; omega
      have e3 : Int.tdiv (big : Int) (small : Int) = (q : Int) := by rw [Int.tdiv_eq_ediv_of_nonneg (by omega)]; exact e1
      have e5 : IntKind.i64.wrap (q : Int) = (q : Int) := IntWalk.i64_in _ (by omega)
      have e6 : IntKind.i64.wrap ((q : Int) * (small : Int)) = (ps : Int) := by rw [hps2]; exact IntWalk.i64_in _ (by omega)
      have e9 : IntKind.i64.wrap ((big : Int) - (ps : Int)) = (r : Int) := by rw [IntWalk.i64_in _ (by omega)]; omega
      have e10 : IntKind.i64.wrap ((q : Int) * y) = z := by rw [← hz]; exact IntWalk.i64_in _ (by omega)
      have e11 : IntKind.i64.wrap (x - z) = t := by rw [← ht]; exact IntWalk.i64_in _ (by omega)
      have e7 : ((small : Int) == 0) = false := by rw [beq_eq_false_iff_ne]; omega
      have e8 : ¬ ((small : Int) = 0) := by omega
      have hx1 : x ≤ (m : Int) := by omega
      have hx2 : -(m : Int) ≤ x := by omega
      have hy1 : y ≤ (m : Int) := by omega
      have hy2 : -(m : Int) ≤ y := by omega
      clear hgo hge hdm hq hr hz ht hps hps2 hps3 htb hxm hym h0
      go_wp2
      go_round
      case rel => exact HNEXT.out
      case measure => simp [intOf]; omega
end Go.Proofs.Ytpblpdcdhgjecaa

namespace Go.Proofs.Ytpblpdcdhgjecaa
open Go Go.RowKit

set_option maxRecDepth 100000 in
theorem ismod_any (m : Int) (w : World) (R : Ending → World → Prop) (hR : R (.returned (.bool (decide (2 ≤ m ∧ m ≤ 1000000)))) w) :
    Calls Try.prog 19 #[.int .i64 m] w R := by
  have HR := Lib.hid hR; clear hR
  by_cases h1 : 2 ≤ m
  · by_cases h2 : m ≤ 1000000
    · rw [decide_eq_true ⟨h1, h2⟩] at HR
      go_enter Try.func19, Try.ntmps19
      go_wp2
      first | go_ret | skip
      exact HR.out
    · rw [decide_eq_false (fun h => h2 h.2)] at HR
      go_enter Try.func19, Try.ntmps19
      go_wp2
      first | go_ret | skip
      exact HR.out
  · rw [decide_eq_false (fun h => h1 h.1)] at HR
    go_enter Try.func19, Try.ntmps19
    go_wp2
    first | go_ret | skip
    exact HR.out

/-- whether a number is a residue of a modulus -/
def resB (a m : Int) : Bool := decide (2 ≤ m ∧ m ≤ 1000000 ∧ 0 ≤ a ∧ a < m)
theorem resB_parts {a m : Int} (h : resB a m = true) : ∃ x k : Nat, a = (x : Int) ∧ m = (k : Int) ∧ 2 ≤ k ∧ k ≤ 1000000 ∧ x < k := by
  unfold resB at h
  have := of_decide_eq_true h
  exact ⟨a.toNat, m.toNat, by omega, by omega, by omega, by omega, by omega⟩

set_option maxRecDepth 100000 in
theorem isres_any (a m : Int) (w : World) (R : Ending → World → Prop) (hR : R (.returned (.bool (resB a m))) w) :
    Calls Try.prog 12 #[.int .i64 a, .int .i64 m] w R := by
  have HR := Lib.hid hR; clear hR
  unfold resB at HR
  by_cases h1 : 2 ≤ m ∧ m ≤ 1000000
  · have HD := Lib.hid (decide_eq_true h1)
    by_cases h2 : 0 ≤ a
    · have HF := Lib.hid (show R (.returned (.bool (decide (a < m)))) w by
        have e : decide (2 ≤ m ∧ m ≤ 1000000 ∧ 0 ≤ a ∧ a < m) = decide (a < m) := by
          by_cases h3 : a < m
          · rw [decide_eq_true h3]; exact decide_eq_true ⟨h1.1, h1.2, h2, h3⟩
          · rw [decide_eq_false h3]; exact decide_eq_false (fun h => h3 h.2.2.2)
        have := HR.out; rw [e] at this; exact this)
      clear h1
      go_enter Try.func12, Try.ntmps12
      go_wp2_with fail
      refine ismod_any m _ _ ?_
      rw [HD.out]
      dsimp only
      go_wp2
      first | go_ret | skip
      exact HF.out
    · rw [decide_eq_false (fun h => h2 h.2.2.1)] at HR
      clear h1
      go_enter Try.func12, Try.ntmps12
      go_wp2_with fail
      refine ismod_any m _ _ ?_
      rw [HD.out]
      dsimp only
      go_wp2
      first | go_ret | skip
      exact HR.out
  · have HD := Lib.hid (decide_eq_false h1)
    rw [decide_eq_false (fun h => h1 ⟨h.1, h.2.1⟩)] at HR
    clear h1
    go_enter Try.func12, Try.ntmps12
    go_wp2_with fail
    refine ismod_any m _ _ ?_
    rw [HD.out]
    dsimp only
    go_wp2
    first | go_ret | skip
    exact HR.out

set_option maxRecDepth 100000 in
theorem smod_any (m : Int) (w : World) (R : Ending → World → Prop) (hR : R (.returned (.bool (decide (2 ≤ m ∧ m ≤ 1000000)))) w) :
    Calls Try.prog 16 #[.int .i64 m] w R := by
  have HR := Lib.hid hR; clear hR
  go_enter Try.func16, Try.ntmps16
  go_wp2_with fail
  refine in_any m 2 1000000 _ _ ?_
  obtain ⟨b, hb⟩ : ∃ b, b = decide (2 ≤ m ∧ m ≤ 1000000) := ⟨_, rfl⟩
  rw [← hb] at HR ⊢
  clear hb
  dsimp only
  go_wp2
  first | go_ret | skip
  exact HR.out
end Go.Proofs.Ytpblpdcdhgjecaa

namespace Go.Proofs.Ytpblpdcdhgjecaa
open Go Go.RowKit

/-- what is told of an inverse -/
def invN (a m : Int) : Nat := if resB a m = true then invO a.toNat m.toNat else 0
def invT (a m : Int) : Bool := resB a m && invB a.toNat m.toNat

set_option maxRecDepth 100000 in
set_option maxHeartbeats 1000000 in
theorem impl_inverseOf (a m : Int) (w : World) (R : Ending → World → Prop)
    (hR : ∀ w', Below w.heap.size w w' → R (.returned (.tuple #[.int .i64 ((invN a m : Nat) : Int), .bool (invT a m)])) w') :
    Calls Try.prog 10 #[.int .i64 a, .int .i64 m] w R := by
  have HR := Lib.hid hR; clear hR
  unfold invN invT at HR
  cases hb : resB a m with
  | false =>
    rw [hb] at HR
    have HF := Lib.hid (show R (.returned (.tuple #[.int .i64 0, .bool false])) w from HR.out w (Below.refl _ _))
    have HB := Lib.hid hb
    clear hb
    go_enter Try.func10, Try.ntmps10
    go_wp2_with fail
    refine isres_any a m _ _ ?_
    rw [HB.out]
    dsimp only
    go_wp2
    first | go_ret | skip
    exact HF.out
  | true =>
    rw [hb] at HR
    have HB := Lib.hid hb
    obtain ⟨x, k, rfl, rfl, hk1, hk2, hx⟩ := resB_parts hb
    rw [Int.toNat_natCast, Int.toNat_natCast, if_pos rfl, Bool.true_and] at HR
    obtain ⟨z, hz⟩ : ∃ z, z = invO x k := ⟨_, rfl⟩
    obtain ⟨B, hB⟩ : ∃ B, B = invB x k := ⟨_, rfl⟩
    rw [← hz, ← hB] at HR
    have hzk : z < k := by
      rw [hz]; unfold invO
      split
      · exact invR_lt (by omega)
      · omega
    have HZ := Lib.hid hz
    have HBB := Lib.hid hB
    have e1 : IntKind.u64.wrap (k : Int) = (k : Int) := wrapu _ (by omega) (by omega)
    have e2 : IntKind.u64.wrap (x : Int) = (x : Int) := wrapu _ (by omega) (by omega)
    have e3 : IntKind.i64.wrap (z : Int) = (z : Int) := IntWalk.i64_in _ (by omega)
    clear hb hz hB
    go_enter Try.func10, Try.ntmps10
    go_wp2_with fail
    refine isres_any _ _ _ _ ?_
    rw [HB.out]
    dsimp only
    go_wp2_with fail
    refine inverse_any k x _ hx (by omega) _ ?_
    intro w1 hb1
    rw [← HZ.out, ← HBB.out]
    have HF := Lib.hid (HR.out w1 hb1)
    clear hb1
    dsimp only
    go_wp2
    first | go_ret | skip
    exact HF.out

set_option maxRecDepth 100000 in
set_option maxHeartbeats 1000000 in
theorem spec_inverseOf (a m : Int) (w : World) (R : Ending → World → Prop)
    (hR : R (.returned (.tuple #[.int .i64 ((invN a m : Nat) : Int), .bool (invT a m)])) w) :
    Calls Try.prog 9 #[.int .i64 a, .int .i64 m] w R := by
  have HR := Lib.hid hR; clear hR
  unfold invN invT at HR
  by_cases hm : 2 ≤ m ∧ m ≤ 1000000
  · have HM := Lib.hid (decide_eq_true hm)
    obtain ⟨k, rfl⟩ : ∃ k : Nat, m = (k : Int) := ⟨m.toNat, by omega⟩
    have hk1 : 2 ≤ k := by omega
    have hk2 : k ≤ 1000000 := by omega
    have ew : IntKind.i64.wrap ((k : Int) - 1) = (k : Int) - 1 := IntWalk.i64_in _ (by omega)
    clear hm
    by_cases ha : 0 ≤ a ∧ a < (k : Int)
    · obtain ⟨x, rfl⟩ : ∃ x : Nat, a = (x : Int) := ⟨a.toNat, by omega⟩
      have hx : x < k := by omega
      have hb : resB (x : Int) (k : Int) = true := by unfold resB; exact decide_eq_true ⟨by omega, by omega, by omega, by omega⟩
      rw [hb, Int.toNat_natCast, Int.toNat_natCast, if_pos rfl, Bool.true_and] at HR
      have HA := Lib.hid (show decide ((0 : Int) ≤ (x : Int) ∧ (x : Int) ≤ (k : Int) - 1) = true from decide_eq_true ⟨by omega, by omega⟩)
      clear ha hb
      unfold invO at HR
      obtain ⟨z, hz⟩ : ∃ z, z = invR x k := ⟨_, rfl⟩
      have HZ := Lib.hid hz
      rw [← hz] at HR
      cases hB : invB x k with
      | true =>
        rw [hB, if_pos rfl] at HR
        have HB := Lib.hid hB
        clear hz hB
        go_enter Try.func9, Try.ntmps9
        go_wp2_with fail
        refine smod_any _ _ _ ?_
        rw [HM.out]
        dsimp only
        go_wp2_with fail
        refine in_any _ _ _ _ _ ?_
        rw [HA.out]
        dsimp only
        go_wp2_with fail
        refine spec_inverse k x _ hx hk2 _ ?_
        rw [HB.out, ← HZ.out]
        dsimp only
        go_wp2
        first | go_ret | skip
        exact HR.out
      | false =>
        rw [hB, if_neg (by decide)] at HR
        have HB := Lib.hid hB
        have HF := Lib.hid (show R (.returned (.tuple #[.int .i64 0, .bool false])) w from HR.out)
        clear hz hB
        go_enter Try.func9, Try.ntmps9
        go_wp2_with fail
        refine smod_any _ _ _ ?_
        rw [HM.out]
        dsimp only
        go_wp2_with fail
        refine in_any _ _ _ _ _ ?_
        rw [HA.out]
        dsimp only
        go_wp2_with fail
        refine spec_inverse k x _ hx hk2 _ ?_
        rw [HB.out, ← HZ.out]
        dsimp only
        go_wp2
        first | go_ret | skip
        exact HF.out
    · have hb : resB a (k : Int) = false := by unfold resB; exact decide_eq_false (fun h => ha ⟨h.2.2.1, h.2.2.2⟩)
      rw [hb] at HR
      have HF := Lib.hid (show R (.returned (.tuple #[.int .i64 0, .bool false])) w from HR.out)
      have HA := Lib.hid (show decide ((0 : Int) ≤ a ∧ a ≤ (k : Int) - 1) = false from decide_eq_false (fun h => ha ⟨h.1, by omega⟩))
      clear ha hb
      go_enter Try.func9, Try.ntmps9
      go_wp2_with fail
      refine smod_any _ _ _ ?_
      rw [HM.out]
      dsimp only
      go_wp2_with fail
      refine in_any _ _ _ _ _ ?_
      rw [HA.out]
      dsimp only
      go_wp2
      first | go_ret | skip
      exact HF.out
  · have HM := Lib.hid (decide_eq_false hm)
    have hb : resB a m = false := by unfold resB; exact decide_eq_false (fun h => hm ⟨h.1, h.2.1⟩)
    rw [hb] at HR
    have HF := Lib.hid (show R (.returned (.tuple #[.int .i64 0, .bool false])) w from HR.out)
    clear hm hb
    go_enter Try.func9, Try.ntmps9
    go_wp2_with fail
    refine smod_any _ _ _ ?_
    rw [HM.out]
    dsimp only
    go_wp2
    first | go_ret | skip
    exact HF.out

set_option maxRecDepth 100000 in
set_option maxHeartbeats 1000000 in
theorem law_inverseOf (a m : Int) (w : World) (R : Ending → World → Prop)
    (hR : ∀ w', Below w.heap.size w w' → R (.returned (.bool true)) w') :
    Calls Try.prog 4 #[.int .i64 a, .int .i64 m] w R := by
  have HR := Lib.hid hR; clear hR
  obtain ⟨z, hz⟩ : ∃ z, z = invN a m := ⟨_, rfl⟩
  obtain ⟨B, hB⟩ : ∃ B, B = invT a m := ⟨_, rfl⟩
  have HZ := Lib.hid hz
  have HB := Lib.hid hB
  clear hz hB
  go_enter Try.func4, Try.ntmps4
  go_wp2_with fail
  refine spec_inverseOf a m _ _ ?_
  rw [← HZ.out, ← HB.out]
  dsimp only
  go_wp2_with fail
  refine impl_inverseOf a m _ _ ?_
  intro w1 hb1
  rw [← HZ.out, ← HB.out]
  have HF := Lib.hid (HR.out w1 hb1)
  have e1 : ((z : Int) != (z : Int)) = false := by simp
  have e2 : (B != B) = false := by cases B <;> rfl
  clear hb1
  dsimp only
  go_wp2
  first | go_ret | skip
  exact HF.out
end Go.Proofs.Ytpblpdcdhgjecaa
