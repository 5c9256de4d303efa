/- Words for the walks of this seat: slices that read as lists of numbers, slices that a call owns, and what stays as it is behind a call. Nothing of a program is named here. -/
import Derived.WalkKit
import Derived.WalkSpells
import Derived.Lib.Hide
import Derived.WalkSmall
import Derived.Deep.QuietTactic
import Derived.BigQuiet
import Derived.Test.YtjpbmagpieonoaaDoorNum
namespace Go.Proofs.YtjpbmagpieonoaaDoor
open Go Go.RowKit

/-- numbers as values of a kind -/
def nums (k : IntKind) (xs : List Nat) : List Value := xs.map fun x => .int k ((x : Nat) : Int)

theorem nums_length (k : IntKind) (xs : List Nat) : (nums k xs).length = xs.length := by simp [nums]
theorem nums_get (k : IntKind) (xs : List Nat) (i : Nat) (h : i < xs.length) : (nums k xs)[i]? = some (.int k ((xs.getD i 0 : Nat) : Int)) := by
  simp [nums, List.getD, List.getElem?_eq_getElem h]
theorem nums_append (k : IntKind) (xs ys : List Nat) : nums k (xs ++ ys) = nums k xs ++ nums k ys := by simp [nums]

theorem bcell {B : Nat} {W w1 : World} (hb : Below B W w1) : (∀ b o, b < B → w1.cell? ⟨b, o, none⟩ = W.cell? ⟨b, o, none⟩) ∧ (∀ b o, b < B → w1.frozen? ⟨b, o, none⟩ = W.frozen? ⟨b, o, none⟩) :=
  ⟨fun b o h => hb.cell (p := ⟨b, o, none⟩) h, fun b o h => hb.frozen (p := ⟨b, o, none⟩) h⟩

/-- behind a callee that changes nothing that there was, what was so below B is so -/
theorem belowThen {B : Nat} {w W w1 : World} (h : Below B w W) (hB : B ≤ W.heap.size) (hb : Below W.heap.size W w1) : Below B w w1 := h.trans (hb.mono hB)

theorem below_draws {B : Nat} {w w' : World} (h : Below B w w') (n : Nat) : Below B w (w'.drewN n) := below_drewN h n

/-- a slice value reads as a list of numbers -/
def Sl (k : IntKind) (w : World) (v : Value) (xs : List Nat) : Prop :=
  ∃ ao cap, v = .slice ao xs.length cap ∧ xs.length ≤ cap ∧ ∀ i, i < xs.length → ∃ b off, ao = some ⟨b, off, none⟩ ∧ b < w.heap.size ∧ w.cell? ⟨b, off + i, none⟩ = some (.int k ((xs.getD i 0 : Nat) : Int))

theorem Sl.later {k : IntKind} {w w' : World} {v : Value} {xs : List Nat} {B : Nat} (h : Sl k w v xs) (hb : Below B w w') (hB : w.heap.size ≤ B) : Sl k w' v xs := by
  obtain ⟨ao, cap, hv, hc, hx⟩ := h
  refine ⟨ao, cap, hv, hc, fun i hi => ?_⟩
  obtain ⟨b, off, h1, h2, h3⟩ := hx i hi
  exact ⟨b, off, h1, Nat.lt_of_lt_of_le h2 hb.size, by rw [hb.cell (p := ⟨b, off + i, none⟩) (by exact Nat.lt_of_lt_of_le h2 hB)]; exact h3⟩

theorem Sl.alloc {k : IntKind} {w : World} {v : Value} {xs : List Nat} (h : Sl k w v xs) (o : Obj) : Sl k (w.alloc o) v xs :=
  h.later ((Below.refl w.heap.size w).alloc (Nat.le_refl _) o) (Nat.le_refl _)

theorem Sl.nil (k : IntKind) (w : World) (ao : Option Addr) (cap : Nat) : Sl k w (.slice ao 0 cap) [] := ⟨ao, cap, rfl, Nat.zero_le _, fun i hi => absurd hi (by simp)⟩

/-- either there is nothing, or the cells lie one behind the other in a block that is there -/
theorem Sl.cases {k : IntKind} {w : World} {v : Value} {xs : List Nat} (h : Sl k w v xs) :
    (xs = [] ∧ ∃ ao cap, v = .slice ao 0 cap) ∨
    (0 < xs.length ∧ ∃ b off cap, v = .slice (some ⟨b, off, none⟩) xs.length cap ∧ xs.length ≤ cap ∧ b < w.heap.size ∧ ∀ i, i < xs.length → w.cell? ⟨b, off + i, none⟩ = some (.int k ((xs.getD i 0 : Nat) : Int))) := by
  obtain ⟨ao, cap, hv, hc, hx⟩ := h
  by_cases h0 : xs.length = 0
  · have : xs = [] := List.length_eq_zero_iff.1 h0
    subst this
    exact .inl ⟨rfl, ao, cap, hv⟩
  · obtain ⟨b, off, h1, h2, _⟩ := hx 0 (by omega)
    subst h1
    refine .inr ⟨by omega, b, off, cap, hv, hc, h2, fun i hi => ?_⟩
    obtain ⟨b', off', h1', _, h3'⟩ := hx i hi
    cases h1'
    exact h3'

theorem Sl.len {k : IntKind} {w : World} {ao : Option Addr} {n cap : Nat} {xs : List Nat} (h : Sl k w (.slice ao n cap) xs) : n = xs.length := by
  obtain ⟨_, _, hv, _, _⟩ := h
  simp only [Value.slice.injEq] at hv
  exact hv.2.1

theorem Sl.cap {k : IntKind} {w : World} {ao : Option Addr} {n cap : Nat} {xs : List Nat} (h : Sl k w (.slice ao n cap) xs) : n ≤ cap := by
  obtain ⟨_, _, hv, hc, _⟩ := h
  simp only [Value.slice.injEq] at hv
  rw [hv.2.1, hv.2.2]; exact hc

/-- where an element lies -/
theorem Sl.at {k : IntKind} {w : World} {ao : Option Addr} {n cap : Nat} {xs : List Nat} (h : Sl k w (.slice ao n cap) xs) (i : Nat) (hi : i < n) :
    ∃ b off, ao = some ⟨b, off, none⟩ ∧ b < w.heap.size ∧ w.cell? ⟨b, off + i, none⟩ = some (.int k ((xs.getD i 0 : Nat) : Int)) := by
  have hl := h.len
  obtain ⟨_, _, hv, _, hx⟩ := h
  simp only [Value.slice.injEq] at hv
  rw [hv.1]
  exact hx i (by omega)

theorem Sl.mk {k : IntKind} {w : World} {b off cap n : Nat} {xs : List Nat} (hn : n = xs.length) (hc : n ≤ cap) (hb : b < w.heap.size)
    (hx : ∀ i, i < xs.length → w.cell? ⟨b, off + i, none⟩ = some (.int k ((xs.getD i 0 : Nat) : Int))) : Sl k w (.slice (some ⟨b, off, none⟩) n cap) xs := by
  subst hn
  exact ⟨_, cap, rfl, hc, fun i hi => ⟨b, off, rfl, hb, hx i hi⟩⟩

/-- the first of them -/
theorem Sl.take {k : IntKind} {w : World} {b off cap : Nat} {xs : List Nat} (n : Nat) (hn : n ≤ xs.length) (hc : xs.length ≤ cap) (hb : b < w.heap.size)
    (hx : ∀ i, i < xs.length → w.cell? ⟨b, off + i, none⟩ = some (.int k ((xs.getD i 0 : Nat) : Int))) : Sl k w (.slice (some ⟨b, off, none⟩) n cap) (xs.take n) := by
  refine Sl.mk (by simp; omega) (by omega) hb (fun i hi => ?_)
  have hi' : i < n := by simp at hi; omega
  rw [hx i (by omega)]
  simp [List.getD, hi']

/-- a slice that the call has made itself, from block B on -/
def Own (k : IntKind) (e : TypeId) (w : World) (B : Nat) (v : Value) (xs : List Nat) : Prop := w.ownsRow B e 1 v xs.length (nums k xs)

theorem Own.nil (k : IntKind) (e : TypeId) (w : World) (B : Nat) : Own k e w B (.slice none 0 0) [] := World.ownsRow_nil _ _ _ _

theorem Own.lit (k : IntKind) (e : TypeId) (w : World) (B : Nat) (hB : B ≤ w.heap.size) : Own k e (w.alloc (.cells #[] e)) B (.slice (some ⟨w.heap.size, 0, none⟩) 0 0) [] := by
  have := World.ownsRow_made (base := B) (e := e) (size := 1) w #[] 0 hB (by simp) (by simp)
  simpa [Own, nums] using this

theorem Own.lit1 (k : IntKind) (e : TypeId) (w : World) (B x : Nat) (z : Int) (hz : z = (x : Int)) (hB : B ≤ w.heap.size) : Own k e (w.alloc (.cells #[.int k z] e)) B (.slice (some ⟨w.heap.size, 0, none⟩) 1 1) [x] := by
  subst hz
  refine ⟨by simp [nums], .inr ⟨w.heap.size, 1, #[.int k (x : Int)], rfl, hB, ?_, by simp, by simp only [maxLen]; omega, by simp, by simp [nums]⟩⟩
  show (w.heap.push _)[_]? = _
  simp

theorem Own.sl {k : IntKind} {e : TypeId} {w : World} {B : Nat} {v : Value} {xs : List Nat} (h : Own k e w B v xs) : Sl k w v xs := by
  obtain ⟨h1, h2⟩ := h
  rcases h2 with ⟨rfl, h2⟩ | ⟨g, cap, cur, rfl, hg, hh, hn, hm, hs, ht⟩
  · have : xs = [] := List.length_eq_zero_iff.1 h2
    subst this; exact Sl.nil _ _ _ _
  · refine Sl.mk rfl hn (by obtain ⟨h, _⟩ := Array.getElem?_eq_some_iff.1 hh; exact h) (fun i hi => ?_)
    have hi2 : (nums k xs)[i]? = some (.int k ((xs.getD i 0 : Nat) : Int)) := nums_get k xs i hi
    rw [← ht] at hi2
    simp only [World.cell?, hh]
    rw [List.getElem?_take] at hi2
    split at hi2
    · simp only [Option.isSome_none, Bool.false_eq_true, if_false, Nat.zero_add]
      rw [← Array.getElem?_toList]; exact hi2
    · cases hi2

theorem Own.alloc {k : IntKind} {e : TypeId} {w : World} {B : Nat} {v : Value} {xs : List Nat} (h : Own k e w B v xs) (o : Obj) : Own k e (w.alloc o) B v xs := World.ownsRow.alloc h o

theorem Own.ownBlock {k : IntKind} {e : TypeId} {w : World} {B : Nat} {v : Value} {xs : List Nat} (h : Own k e w B v xs) : ∀ g, v.ownBlock = some g → B ≤ g ∧ g < w.heap.size := World.ownsRow.lt h

/-- an owned slice behind changes of other blocks from some block on -/
theorem Own.later {k : IntKind} {e : TypeId} {w w' : World} {B B' : Nat} {v : Value} {xs : List Nat} (h : Own k e w B v xs) (hb : Below B' w w') (hB : w.heap.size ≤ B') : Own k e w' B v xs :=
  World.ownsRow.kept (row := none) h ⟨hb.os, hb.tape, hb.output, hb.size, fun k hk _ => hb.block k (Nat.lt_of_lt_of_le hk hB)⟩ (by
    by_cases h0 : v.ownBlock = none
    · exact .inl h0
    · exact .inr h0)

/-- one element is appended to a slice that the call has made -/
theorem wpList_push {P : Program} {w : World} {ops : Array Oper} {rest : List Oper} {o : Oper} {a : Act} {Q : Exit → Act → World → Prop} (hgd : o.guard = none) (s x : Operand) (t : TypeId)
    (ho : o.op = .call { callee := .builtin .append, args := #[s, x], argTypes := #[t, t] })
    (e : TypeId) (k : IntKind) (bytes : Nat) (ht : P.underlying t = some (.slice e)) (hi : (P.info? e).map (fun i => (i.zero, i.size, i.bytes)) = some (some (.int k 0), 1, bytes)) (hby : bytes ≤ 16)
    (B : Nat) (v : Value) (xs : List Nat) (n : Nat) (hs : a.eval s = v) (hown : Own k e w B v xs)
    (g : Nat) (hx : a.eval x = .slice (some ⟨g, 0, none⟩) 1 1) (hg : w.cell? ⟨g, 0, none⟩ = some (.int k ((n : Nat) : Int)))
    (hlen : xs.length ≤ 100000000) (hB : B ≤ w.heap.size)
    (h : ∀ v' w', Own k e w' B v' (xs ++ [n]) → Below B w w' → wpList P ops Q rest (a.put o.dst v') w') : wpList P ops Q (o :: rest) a w := by
  obtain ⟨i0, hi0, hz0, hz1, hz2⟩ := info_parts hi
  refine wpList_append_own w hgd s x t ho B e i0 (.int k 0) 1 bytes ht hi0 hz0 hz1 hz2 rfl (by decide) v xs.length (nums k xs) hs hown ⟨g, 0, none⟩ 1 1 [.int k ((n : Nat) : Int)] hx rfl ?_ ?_ ?_ ?_ hB ?_
  · intro j u hj
    match j, hj with
    | 0, hj => simp at hj; subst hj; simpa [Addr.add] using hg
  · intro u hu; simp at hu; subst hu; rfl
  · simp only [maxLen]; omega
  · have : (xs.length + 1) * bytes ≤ (xs.length + 1) * 16 := Nat.mul_le_mul_left _ hby
    omega
  · intro v' w' hown' hgrow _
    refine h v' w' ?_ ?_
    · simpa [Own, nums] using hown'
    · refine (Below.refl B w).grown hgrow hB (fun g' hg' => ?_)
      exact (Own.ownBlock hown g' hg').1

/-- the end of a function whose result lies in memory; the value is what the run says -/
theorem bodyPost_ret_at {P : Program} {fn : Func} {R : Ending → World → Prop} {a : Act} {w : World} {v : Value}
    (hr : (results fn a.tmps).run P w = .ok v w) (hd : a.defers = []) (hR : R (.returned v) w) : bodyPost P fn R .ret a w := ⟨hd, v, hr, hR⟩

/-- the same where the number is reckoned as an integer -/
theorem wpList_pushz {P : Program} {w : World} {ops : Array Oper} {rest : List Oper} {o : Oper} {a : Act} {Q : Exit → Act → World → Prop} (hgd : o.guard = none) (s x : Operand) (t : TypeId)
    (ho : o.op = .call { callee := .builtin .append, args := #[s, x], argTypes := #[t, t] })
    (e : TypeId) (k : IntKind) (bytes : Nat) (ht : P.underlying t = some (.slice e)) (hi : (P.info? e).map (fun i => (i.zero, i.size, i.bytes)) = some (some (.int k 0), 1, bytes)) (hby : bytes ≤ 16)
    (B : Nat) (v : Value) (xs : List Nat) (n : Nat) (z : Int) (hz : z = (n : Int)) (hs : a.eval s = v) (hown : Own k e w B v xs)
    (g : Nat) (hx : a.eval x = .slice (some ⟨g, 0, none⟩) 1 1) (hg : w.cell? ⟨g, 0, none⟩ = some (.int k z))
    (hlen : xs.length ≤ 100000000) (hB : B ≤ w.heap.size)
    (h : ∀ v' w', Own k e w' B v' (xs ++ [n]) → Below B w w' → wpList P ops Q rest (a.put o.dst v') w') : wpList P ops Q (o :: rest) a w := by
  subst hz
  exact wpList_push hgd s x t ho e k bytes ht hi hby B v xs n hs hown g hx hg hlen hB h

/-- a value that is no number -/
def notInt : Value → Bool
  | .int _ _ => false
  | _ => true

/-- no cell of a block holds a number: so a list of numbers does not lie there -/
def NoInt (w : World) (b : Nat) : Prop := ∀ o u, w.cell? ⟨b, o, none⟩ = some u → notInt u = true

theorem cell?_set (w : World) (b o c q : Nat) (u : Value) : (w.setCell ⟨b, o, none⟩ u).cell? ⟨c, q, none⟩ = if c = b ∧ q = o then (w.cell? ⟨c, q, none⟩).map (fun _ => u) else w.cell? ⟨c, q, none⟩ := by
  simp only [World.cell?, World.setCell, Array.getElem?_modify]
  by_cases hc : c = b
  · subst hc
    simp only [true_and, if_true]
    cases hh : w.heap[c]? with
    | none => simp
    | some ob =>
      cases ob <;> simp
      rename_i cs t f
      by_cases hq : q = o
      · subst hq
        simp only [if_true]
        rw [Array.getElem?_setIfInBounds]
        simp only [if_true]
        split
        · rename_i hlt; rw [Array.getElem?_eq_getElem hlt]; rfl
        · rename_i hlt; rw [Array.getElem?_eq_none (by omega)]; rfl
      · rw [Array.getElem?_setIfInBounds_ne (fun e => hq e.symm), if_neg hq]
  · simp only [hc, false_and, if_false]
    rw [if_neg (fun e => hc e.symm)]

theorem NoInt.set {w : World} {b : Nat} (h : NoInt w b) (o c : Nat) {u : Value} (hu : notInt u = true) : NoInt (w.setCell ⟨c, o, none⟩ u) b := by
  intro q x hx
  rw [cell?_set] at hx
  split at hx
  · cases hw : w.cell? ⟨b, q, none⟩ with
    | none => rw [hw] at hx; cases hx
    | some y => rw [hw] at hx; simp at hx; subst hx; exact hu
  · exact h q x hx

theorem heap_size_set (w : World) (a : Addr) (u : Value) : (w.setCell a u).heap.size = w.heap.size := by simp [World.setCell]

/-- a store into a block without numbers leaves a list of numbers as it is -/
theorem Sl.set {k : IntKind} {w : World} {v : Value} {xs : List Nat} (h : Sl k w v xs) {b : Nat} (hb : NoInt w b) (o : Nat) (u : Value) : Sl k (w.setCell ⟨b, o, none⟩ u) v xs := by
  obtain ⟨ao, cap, hv, hc, hx⟩ := h
  refine ⟨ao, cap, hv, hc, fun i hi => ?_⟩
  obtain ⟨c, off, h1, h2, h3⟩ := hx i hi
  refine ⟨c, off, h1, by rw [heap_size_set]; exact h2, ?_⟩
  rw [cell?_set, if_neg]
  · exact h3
  · rintro ⟨rfl, _⟩
    have := hb _ _ h3
    cases this

/-- a block of two cells -/
def Box2 (w : World) (b : Nat) (u v : Value) (t : TypeId) : Prop := w.heap[b]? = some (.cells #[u, v] t (0, 0))
theorem Box2.cells {w : World} {b : Nat} {u v : Value} {t : TypeId} (h : Box2 w b u v t) :
    w.cell? ⟨b, 0, none⟩ = some u ∧ w.cell? ⟨b, 1, none⟩ = some v ∧ w.frozen? ⟨b, 0, none⟩ = false ∧ w.frozen? ⟨b, 1, none⟩ = false := by
  unfold Box2 at h
  simp [World.cell?, World.frozen?, h]
theorem Box2.noInt {w : World} {b : Nat} {u v : Value} {t : TypeId} (h : Box2 w b u v t) (hu : notInt u = true) (hv : notInt v = true) : NoInt w b := by
  intro o x hx
  unfold Box2 at h
  simp only [World.cell?, h, Option.isSome_none, Bool.false_eq_true, if_false] at hx
  match o, hx with
  | 0, hx => simp at hx; subst hx; exact hu
  | 1, hx => simp at hx; subst hx; exact hv
  | (n + 2), hx => simp at hx
theorem Box2.later {w w' : World} {b : Nat} {u v : Value} {t : TypeId} {B : Nat} (h : Box2 w b u v t) (hb : Below B w w') (hB : b < B) : Box2 w' b u v t := by
  unfold Box2 at *; rw [hb.block b hB]; exact h
theorem Box2.alloc {w : World} {b : Nat} {u v : Value} {t : TypeId} (h : Box2 w b u v t) (o : Obj) : Box2 (w.alloc o) b u v t :=
  h.later ((Below.refl w.heap.size w).alloc (Nat.le_refl _) o) (lt_of_block h)
theorem Box2.drewN {w : World} {b : Nat} {u v : Value} {t : TypeId} (h : Box2 w b u v t) (n : Nat) : Box2 (w.drewN n) b u v t := h
theorem Box2.made (w : World) (u v : Value) (t : TypeId) : Box2 (w.alloc (.cells #[u, v] t)) w.heap.size u v t := by
  show (w.heap.push _)[_]? = _
  simp

end Go.Proofs.YtjpbmagpieonoaaDoor
