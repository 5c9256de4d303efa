import Derived.Test.YtjpbmagpieonoaaDoorZof
namespace Go.Proofs.YtjpbmagpieonoaaDoor
open Go Go.RowKit

/-- the value of the model's type of a fraction of any size in lowest terms -/
def IsQ (w : World) (v : Value) (q : Rat) : Prop := ∃ s1 s2, v = .agg #[.bool (decide (q.num < 0)), s1, .bool false, s2] ∧ Sl .i64 w s1 (dig 10000 q.num.natAbs) ∧ Sl .i64 w s2 (dig 10000 q.den)

theorem IsQ.later {w w' : World} {v : Value} {q : Rat} {B : Nat} (h : IsQ w v q) (hb : Below B w w') (hB : w.heap.size ≤ B) : IsQ w' v q := by
  obtain ⟨s1, s2, h1, h2, h3⟩ := h; exact ⟨s1, s2, h1, h2.later hb hB, h3.later hb hB⟩

theorem IsQ.open {w : World} {v : Value} {q : Rat} (h : IsQ w v q) : ∃ a1 n1 c1 a2 n2 c2, v = .agg #[.bool (decide (q.num < 0)), .slice a1 n1 c1, .bool false, .slice a2 n2 c2] ∧
    n1 = (dig 10000 q.num.natAbs).length ∧ n2 = (dig 10000 q.den).length ∧ Sl .i64 w (.slice a1 n1 c1) (dig 10000 q.num.natAbs) ∧ Sl .i64 w (.slice a2 n2 c2) (dig 10000 q.den) := by
  obtain ⟨s1, s2, h1, h2, h3⟩ := h
  obtain ⟨a1, c1, e1, r1⟩ := h2
  obtain ⟨a2, c2, e2, r2⟩ := h3
  exact ⟨a1, _, c1, a2, _, c2, by rw [h1, e1, e2], rfl, rfl, ⟨a1, c1, rfl, r1⟩, ⟨a2, c2, rfl, r2⟩⟩

/-- a block of four cells -/
def Box4 (w : World) (b : Nat) (x0 x1 x2 x3 : Value) (t : TypeId) : Prop := w.heap[b]? = some (.cells #[x0, x1, x2, x3] t (0, 0))
theorem Box4.cells {w : World} {b : Nat} {x0 x1 x2 x3 : Value} {t : TypeId} (h : Box4 w b x0 x1 x2 x3 t) :
    (w.cell? ⟨b, 0, none⟩ = some x0 ∧ w.cell? ⟨b, 1, none⟩ = some x1 ∧ w.cell? ⟨b, 2, none⟩ = some x2 ∧ w.cell? ⟨b, 3, none⟩ = some x3) ∧
    (w.frozen? ⟨b, 0, none⟩ = false ∧ w.frozen? ⟨b, 1, none⟩ = false ∧ w.frozen? ⟨b, 2, none⟩ = false ∧ w.frozen? ⟨b, 3, none⟩ = false) := by
  unfold Box4 at h
  simp [World.cell?, World.frozen?, h]
theorem Box4.later {w w' : World} {b : Nat} {x0 x1 x2 x3 : Value} {t : TypeId} {B : Nat} (h : Box4 w b x0 x1 x2 x3 t) (hb : Below B w w') (hB : b < B) : Box4 w' b x0 x1 x2 x3 t := by
  unfold Box4 at *; rw [hb.block b hB]; exact h
theorem Box4.made (w : World) (x0 x1 x2 x3 : Value) (t : TypeId) : Box4 (w.alloc (.cells #[x0, x1, x2, x3] t)) w.heap.size x0 x1 x2 x3 t := by
  show (w.heap.push _)[_]? = _
  simp
theorem Box4.noInt {w : World} {b : Nat} {x0 x1 x2 x3 : Value} {t : TypeId} (h : Box4 w b x0 x1 x2 x3 t) (h0 : notInt x0 = true) (h1 : notInt x1 = true) (h2 : notInt x2 = true) (h3 : notInt x3 = true) : NoInt w b := by
  intro o x hx
  unfold Box4 at h
  simp only [World.cell?, h, Option.isSome_none, Bool.false_eq_true, if_false] at hx
  match o, hx with
  | 0, hx => simp at hx; subst hx; exact h0
  | 1, hx => simp at hx; subst hx; exact h1
  | 2, hx => simp at hx; subst hx; exact h2
  | 3, hx => simp at hx; subst hx; exact h3
  | (n + 4), hx => simp at hx

set_option maxRecDepth 100000 in
theorem int_any (n : Int) (w : World) (h1 : -9223372036854775807 - 1 ≤ n) (h2 : n ≤ 9223372036854775807) (R : Ending → World → Prop)
    (hR : ∀ v w', IsQ w' v (n : Rat) → Below w.heap.size w w' → R (.returned v) w') :
    Calls Tryd.prog 35 #[.int .i64 n] w R := by
  have HR := Lib.hid hR; clear hR
  obtain ⟨B, hB⟩ : ∃ B, B = w.heap.size := ⟨_, rfl⟩
  have hbox := Box4.made w (.bool false) (.slice none 0 0) (.bool false) (.slice none 0 0) 51
  go_enter Tryd.func35, Tryd.ntmps35
  go_wp2_with fail
  refine zof_any n _ h1 h2 _ ?_
  intro v1 w1 hz1 hb1
  have hbox1 := hbox.later hb1 (by simp)
  clear hbox
  dsimp only
  go_wp2_with fail
  refine zof_any 1 _ (by omega) (by omega) _ ?_
  intro v2 w2 hz2 hb2
  have hbox2 := hbox1.later hb2 (lt_of_block hbox1)
  have hz1' := hz1.later hb2 (Nat.le_refl _)
  obtain ⟨a1, n1, c1, rfl, e1, hs1⟩ := hz1'.open
  obtain ⟨a2, n2, c2, rfl, e2, hs2⟩ := hz2.open
  have E1 := Lib.hid e1
  have E2 := Lib.hid e2
  obtain ⟨⟨hA, hB, hC, hD⟩, hA', hB', hC', hD'⟩ := hbox2.cells
  have hni := hbox2.noInt rfl rfl rfl rfl
  clear e1 e2 hbox1 hz1 hz1' hz2
  dsimp only
  go_wp2
  refine bodyPost_ret_at (by simp [results, Tryd.results35, go_sem, hA, hB, hC, hD, hA', hB', hC', hD'] <;> rfl) rfl ?_
  have hbz : Below w.heap.size w w2 := ((Below.refl _ _).alloc (Nat.le_refl _) _).trans ((hb1.mono (by simp)).trans (hb2.mono (by have := hb1.size; simp at this; omega)))
  refine HR.out _ _ ⟨_, _, ?_, ((((hs1.set hni 0 _).set (hni.set 0 _ rfl) 1 _).set ((hni.set 0 _ rfl).set 1 _ rfl) 2 _).set (((hni.set 0 _ rfl).set 1 _ rfl).set 2 _ rfl) 3 _), ((((hs2.set hni 0 _).set (hni.set 0 _ rfl) 1 _).set ((hni.set 0 _ rfl).set 1 _ rfl) 2 _).set (((hni.set 0 _ rfl).set 1 _ rfl).set 2 _ rfl) 3 _)⟩ ((((hbz.setCell (by simp) _).setCell (by simp) _).setCell (by simp) _).setCell (by simp) _)
  simp <;> exact decide_eq_decide.2 Iff.rfl

set_option maxRecDepth 100000 in
theorem integerQ_any (v : Value) (q : Rat) (w : World) (hq : IsQ w v q) (hlen : (dig 10000 q.den).length ≤ 1000000000) (R : Ending → World → Prop)
    (hR : ∀ w', Below w.heap.size w w' → R (.returned (.bool (decide (q.den = 1)))) w') :
    Calls Tryd.prog 29 #[v] w R := by
  have HR := Lib.hid hR; clear hR
  obtain ⟨a1, n1, c1, a2, n2, c2, rfl, e1, e2, hs1, hs2⟩ := hq.open
  rw [← e2] at hlen
  by_cases hone : n2 = 1
  · subst hone
    rcases hs2.cases with ⟨h0, _⟩ | ⟨h0, b, off, cap, he, hcap, hb, hc⟩
    · rw [h0] at e2; cases e2
    · simp only [Value.slice.injEq] at he
      obtain ⟨rfl, he3, rfl⟩ := he; clear he3
      have hcell := hc 0 (by omega)
      rw [Nat.add_zero] at hcell
      obtain ⟨x, hx⟩ : ∃ x, x = (dig 10000 q.den).getD 0 0 := ⟨_, rfl⟩
      rw [← hx] at hcell
      have hxd : decide (q.den = 1) = decide (x = 1) := by
        have h1 : dig 10000 q.den = [x] := by
          obtain ⟨y, hd⟩ := List.length_eq_one_iff.1 e2.symm
          rw [hd] at hx; simp at hx; rw [hd, hx]
        have h2 := val_dig (B := 10000) (by omega) q.den
        rw [h1] at h2; simp [val] at h2
        rw [← h2]
      rw [hxd] at HR
      have E2 := Lib.hid e2
      have HX := Lib.hid hx
      clear hc hcap h0 hs1 hs2 e1 e2 hx hxd hq
      by_cases hx1 : x = 1
      · subst hx1
        go_enter Tryd.func29, Tryd.ntmps29
        go_wp2
        first | go_ret | skip
        exact HR.out _ ((Below.refl _ _).alloc (Nat.le_refl _) _)
      · have e : (((x : Nat) : Int) == 1) = false := by simp; omega
        rw [decide_eq_false hx1] at HR
        go_enter Tryd.func29, Tryd.ntmps29
        go_wp2
        first | go_ret | skip
        exact HR.out _ ((Below.refl _ _).alloc (Nat.le_refl _) _)
  · have hxd : q.den ≠ 1 := by
      intro h; rw [h, dig_small (by omega) (by omega)] at e2; exact hone e2
    rw [decide_eq_false hxd] at HR
    have e : (((n2 : Nat) : Int) == 1) = false := by simp; omega
    clear hs1 hs2 e1 e2 hq hxd
    go_enter Tryd.func29, Tryd.ntmps29
    go_wp2
    first | go_ret | skip
    exact HR.out _ ((Below.refl _ _).alloc (Nat.le_refl _) _)
end Go.Proofs.YtjpbmagpieonoaaDoor
