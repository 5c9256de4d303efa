/- Plain mathematics of decimal texts. Nothing of a program is named here. -/
import Derived.Test.YtjpbmagpieonoaaDoorNum
namespace Go.Proofs.YtjpbmagpieonoaaDoor

def chr (d : Nat) : UInt8 := UInt8.ofNat (48 + d)
/-- a number in decimal -/
def decs (n : Nat) : List UInt8 := if n = 0 then [48] else (dig 10 n).reverse.map chr
/-- four digits of a digit to the base 10000 -/
def four (x : Nat) : List UInt8 := [chr (x / 1000), chr (x / 100 % 10), chr (x / 10 % 10), chr (x % 10)]
/-- the texts of digits to the base 10000, the last one first -/
def cat4 (ds : List Nat) : List UInt8 := ds.reverse.flatMap four
def e4 (x : Nat) : List Nat := [x % 10, x / 10 % 10, x / 100 % 10, x / 1000]
/-- a text without zeros at its beginning -/
def strip0 : List UInt8 → List UInt8
  | [] => []
  | c :: l => if c = 48 then strip0 l else c :: l

theorem cat4_nil : cat4 [] = [] := rfl
theorem cat4_snoc (ds : List Nat) (x : Nat) : cat4 (ds ++ [x]) = four x ++ cat4 ds := by simp [cat4]
theorem cat4_cons (ds : List Nat) (x : Nat) : cat4 (x :: ds) = cat4 ds ++ four x := by simp [cat4]
theorem cat4_length (ds : List Nat) : (cat4 ds).length = 4 * ds.length := by
  induction ds with
  | nil => rfl
  | cons x ds ih => rw [cat4_cons, List.length_append, ih]; simp [four]; omega

theorem chr_zero {d : Nat} (h : d < 10) : chr d = 48 ↔ d = 0 := by
  constructor
  · intro e
    have := congrArg UInt8.toNat e
    simp [chr] at this
    omega
  · intro e; subst e; rfl

theorem val_e4 (ds : List Nat) : val 10 (ds.flatMap e4) = val 10000 ds := by
  induction ds with
  | nil => rfl
  | cons x ds ih =>
    rw [List.flatMap_cons, val_append, ih]
    simp only [e4, val, List.length_cons, List.length_nil]
    omega

theorem e4_lt (ds : List Nat) (h : ∀ d ∈ ds, d < 10000) : ∀ d ∈ ds.flatMap e4, d < 10 := by
  intro d hd
  obtain ⟨x, hx, hd⟩ := List.mem_flatMap.1 hd
  have := h x hx
  simp [e4] at hd
  omega

theorem cat4_e4 (ds : List Nat) : cat4 ds = (ds.flatMap e4).reverse.map chr := by
  induction ds with
  | nil => rfl
  | cons x ds ih => rw [cat4_cons, ih, List.flatMap_cons]; simp [four, e4]

theorem strip0_cut (xs : List Nat) (h : ∀ d ∈ xs, d < 10) (n : Nat) (hn : n ≤ xs.length) : strip0 ((xs.take n).reverse.map chr) = (xs.take (cutLen xs n)).reverse.map chr := by
  induction n with
  | zero => simp [cutLen, strip0]
  | succ n ih =>
    have hlt : n < xs.length := by omega
    rw [List.take_succ_eq_append_getElem hlt]
    simp only [List.reverse_append, List.reverse_cons, List.reverse_nil, List.nil_append, List.singleton_append, List.map_cons, strip0, cutLen]
    have hd : xs.getD n 0 = xs[n] := by simp [List.getD, List.getElem?_eq_getElem hlt]
    have hc := chr_zero (h xs[n] (List.getElem_mem hlt))
    rw [hd]
    by_cases h0 : xs[n] = 0
    · rw [if_pos (hc.2 h0), if_pos h0, ih (by omega)]
    · rw [if_neg (fun e => h0 (hc.1 e)), if_neg h0, List.take_succ_eq_append_getElem hlt, List.reverse_append]
      rfl

theorem strip0_cat4 (ds : List Nat) (h : ∀ d ∈ ds, d < 10000) : strip0 (cat4 ds) = (dig 10 (val 10000 ds)).reverse.map chr := by
  have h1 := strip0_cut (ds.flatMap e4) (e4_lt ds h) _ (Nat.le_refl _)
  rw [List.take_length, take_cut (by omega : 2 ≤ 10) _ (e4_lt ds h), val_e4] at h1
  rw [cat4_e4, h1]

/-- what the model makes of the digits of a number -/
theorem decs_of (ds : List Nat) (h : ∀ d ∈ ds, d < 10000) : decs (val 10000 ds) = if strip0 (cat4 ds) = [] then [48] else strip0 (cat4 ds) := by
  rw [strip0_cat4 ds h, decs]
  by_cases h0 : val 10000 ds = 0
  · rw [if_pos h0, h0, dig_zero]; rfl
  · rw [if_neg h0, if_neg]
    intro e
    have := congrArg List.length e
    simp at this
    exact h0 ((dig_eq_nil (by omega)).1 this)

theorem strip0_length (l : List UInt8) : (strip0 l).length ≤ l.length := by
  induction l with
  | nil => simp [strip0]
  | cons c l ih => simp only [strip0]; split <;> simp <;> omega

theorem dig10_length (n : Nat) : (dig 10 n).length ≤ 4 * (dig 10000 n).length := by
  refine dig_length_le (by omega) _ n ?_
  have := lt_pow_dig (by omega : 2 ≤ 10000) n
  rwa [show (10000 : Nat) = 10 ^ 4 from rfl, ← Nat.pow_mul] at this

theorem decs_length (n : Nat) : (decs n).length ≤ 4 * (dig 10000 n).length + 1 := by
  unfold decs
  split
  · simp
  · have := dig10_length n; simp; omega

/-- the text of a fraction -/
def textQ (q : Rat) : List UInt8 := (if q.num < 0 then [45] else []) ++ (decs q.num.natAbs ++ (if q.den = 1 then [] else 47 :: decs q.den))

end Go.Proofs.YtjpbmagpieonoaaDoor
