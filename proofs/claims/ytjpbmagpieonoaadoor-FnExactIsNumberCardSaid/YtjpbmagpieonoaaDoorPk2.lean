/- Contracts of functions of the program and of the model: Nat, But, Half, Div64, AddP, TakeP, TimesP, DivS, Minus, Shift. -/
import Derived.Test.YtjpbmagpieonoaaDoorPk1
import Derived.Laws.Externs
import Derived.Shelf.Spec.BitsCarry
import Derived.Deep.CutBlock
import Derived.Deep.DeepCutAuto
import Derived.Laws.CopyOwn
namespace Go.Proofs.YtjpbmagpieonoaaDoor
open Go Go.RowKit

/-- how many values a limb has -/
def W64 : Nat := 18446744073709551616
theorem W64_eq : W64 = 18446744073709551616 := rfl
theorem W64_two : 2 ≤ W64 := by rw [W64_eq]; omega

/-- a value of the program's type of natural numbers -/
def IsN (w : World) (v : Value) (n : Nat) : Prop := Sl .u64 w v (dig W64 n)

theorem IsN.later {w w' : World} {v : Value} {n : Nat} {B : Nat} (h : IsN w v n) (hb : Below B w w') (hB : w.heap.size ≤ B) : IsN w' v n := Sl.later h hb hB

theorem IsN.open {w : World} {v : Value} {n : Nat} (h : IsN w v n) : ∃ ao k cap, v = .slice ao k cap ∧ k = (dig W64 n).length ∧ IsN w (.slice ao k cap) n := by
  obtain ⟨ao, cap, rfl, h2⟩ := h
  exact ⟨ao, _, cap, rfl, rfl, ao, cap, rfl, h2⟩

theorem IsN.drewN {w : World} {v : Value} {n : Nat} (h : IsN w v n) (k : Nat) : IsN (w.drewN k) v n := h

theorem info_u64 : (Tryd.prog.info? 63).map (fun i => (i.zero, i.size, i.bytes)) = some (some (.int .u64 0), 1, 8) := by kernel_rfl

theorem limb_lt (n : Nat) : ∀ d ∈ dig W64 n, d < W64 := dig_lt W64_two n

set_option maxRecDepth 100000 in
theorem nzero_any (v : Value) (n : Nat) (w : World) (h : IsN w v n) (R : Ending → World → Prop) (hR : R (.returned (.bool (decide (n = 0)))) w) :
    Calls Tryd.prog 39 #[v] w R := by
  have HR := Lib.hid hR; clear hR
  obtain ⟨ao, k, cap, rfl, hk, _⟩ := h.open
  clear h
  by_cases h0 : n = 0
  · subst h0
    rw [dig_zero] at hk
    have hk0 : k = 0 := hk
    clear hk
    subst hk0
    rw [decide_eq_true rfl] at HR
    go_enter Tryd.func39, Tryd.ntmps39
    go_wp2
    first | go_ret | skip
    exact HR.out
  · have hk0 : k ≠ 0 := fun e => h0 ((dig_eq_nil W64_two).1 (List.length_eq_zero_iff.1 (hk.symm.trans e)))
    have e : ((k : Int) == 0) = false := by simp; omega
    rw [decide_eq_false h0] at HR
    clear hk
    go_enter Tryd.func39, Tryd.ntmps39
    go_wp2
    first | go_ret | skip
    exact HR.out

theorem dig_one {B : Nat} (hB : 2 ≤ B) (n x : Nat) (h : dig B n = [x]) : n = x := by
  have := val_dig hB n
  rw [h] at this
  simpa [val] using this.symm

set_option maxRecDepth 100000 in
theorem none_any (v : Value) (n : Nat) (w : World) (h : IsN w v n) (R : Ending → World → Prop) (hR : R (.returned (.bool (decide (n = 1)))) w) :
    Calls Tryd.prog 57 #[v] w R := by
  have HR := Lib.hid hR; clear hR
  obtain ⟨ao, k, cap, rfl, hk, hs⟩ := h.open
  by_cases h1 : k = 1
  · subst h1
    obtain ⟨x, hx⟩ := List.length_eq_one_iff.1 hk.symm
    have hnx := dig_one W64_two n x hx
    obtain ⟨b, off, rfl, hb, hc⟩ := Sl.at hs 0 (by omega)
    rw [hx, Nat.add_zero] at hc
    have hc2 : w.cell? ⟨b, off, none⟩ = some (.int .u64 (x : Int)) := hc
    rw [hnx] at HR
    clear hx hc hk hnx h hs
    by_cases hx1 : x = 1
    · subst hx1
      rw [decide_eq_true rfl] at HR
      go_enter Tryd.func57, Tryd.ntmps57
      go_wp2
      first | go_ret | skip
      exact HR.out
    · have e : ((x : Int) == 1) = false := by simp; omega
      rw [decide_eq_false hx1] at HR
      go_enter Tryd.func57, Tryd.ntmps57
      go_wp2
      first | go_ret | skip
      exact HR.out
  · have hn : n ≠ 1 := by
      intro e
      subst e
      rw [dig_small (by omega) (by rw [W64_eq]; omega)] at hk
      exact h1 hk
    have e : ((k : Int) == 1) = false := by simp; omega
    rw [decide_eq_false hn] at HR
    clear hk hs h
    go_enter Tryd.func57, Tryd.ntmps57
    go_wp2
    first | go_ret | skip
    exact HR.out

/-- the block that a slice lies in -/
def blk : Value → Option Nat
  | .slice (some a) _ _ => some a.block
  | _ => none

set_option maxRecDepth 100000 in
/-- limbs without the zeros at their end -/
theorem trimmed_any (v : Value) (xs : List Nat) (w : World) (hs : Sl .u64 w v xs) (hd : ∀ d ∈ xs, d < W64) (hlen : xs.length ≤ 1000000000) (R : Ending → World → Prop)
    (hR : ∀ v', IsN w v' (val W64 xs) → blk v' = blk v → R (.returned v') w) :
    Calls Tryd.prog 95 #[v] w R := by
  have HR := Lib.hid hR; clear hR
  rcases hs.cases with ⟨rfl, ao2, cap2, rfl⟩ | ⟨h0, b, off, cap2, rfl, hcap, hb, hc⟩
  · go_enter Tryd.func95, Tryd.ntmps95
    go_wp2
    go_loop [0] (fun v => v = .slice ao2 0 cap2) (fun _ => 0)
    case atStart => rfl
    case round =>
      subst hrel
      go_wp2
      first | go_ret | skip
      refine HR.out _ ?_ rfl
      show Sl _ _ _ (dig W64 0)
      rw [dig_zero]; exact hs
  · obtain ⟨len, hl⟩ : ∃ len, len = xs.length := ⟨_, rfl⟩
    have HC := Lib.hid (take_cut W64_two xs hd)
    have hcm : len ≤ 1000000000 := by omega
    rw [← hl] at h0 hc hcap
    have Hl := Lib.hid hl
    rw [← hl]
    clear hl hlen hd hs
    have hcm2 : len ≤ cap2 := hcap
    go_enter Tryd.func95, Tryd.ntmps95
    go_wp2
    go_loop [0] (fun v => ∃ k : Nat, k ≤ len ∧ v = .slice (some ⟨b, off, none⟩) k cap2 ∧ cutLen xs k = cutLen xs len) (fun v => match v with | .slice _ n _ => n | _ => 0)
    case atStart => exact ⟨len, Nat.le_refl _, rfl, rfl⟩
    case round =>
      obtain ⟨k, hk, rfl, hcut⟩ := hrel
      have Hcut := Lib.hid hcut; clear hcut
      have hfin : cutLen xs k = k → R (.returned (.slice (some ⟨b, off, none⟩) k cap2)) w := by
        intro e
        refine HR.out _ ?_ rfl
        show Sl _ _ _ (dig W64 (val W64 xs))
        rw [← HC.out, ← Hl.out, ← Hcut.out, e]
        exact Sl.take k (by rw [← Hl.out]; exact hk) (by rw [← Hl.out]; exact hcm2) hb (fun i hi => hc i (by rw [Hl.out]; exact hi))
      have HF := Lib.hid hfin
      clear hfin
      by_cases hk0 : 0 < k
      · obtain ⟨j, rfl⟩ : ∃ j, k = j + 1 := ⟨k - 1, by omega⟩
        have hcell := hc j (by omega)
        obtain ⟨x, hx⟩ : ∃ x, x = xs.getD j 0 := ⟨_, rfl⟩
        rw [← hx] at hcell
        have Hx := Lib.hid hx; clear hx
        have hjc : j ≤ cap2 := by omega
        by_cases hz : x = 0
        · subst hz
          clear hc
          go_wp2
          go_round
          case rel => exact ⟨j, by omega, rfl, by have := Hcut.out; rw [← this, cutLen, if_pos Hx.out.symm]⟩
          case measure => simp
        · have e : (((x : Nat) : Int) == 0) = false := by simp; omega
          have hce : cutLen xs (j + 1) = j + 1 := by rw [cutLen, if_neg (by rw [← Hx.out]; exact hz)]
          have hr := HF.out hce
          clear hce hc
          have HRR := Lib.hid hr
          clear hr
          go_wp2
          first | go_ret | skip
          exact HRR.out
      · obtain rfl : k = 0 := by omega
        have HRR := Lib.hid (HF.out rfl)
        clear hc
        go_wp2
        first | go_ret | skip
        exact HRR.out
end Go.Proofs.YtjpbmagpieonoaaDoor

namespace Go.Proofs.YtjpbmagpieonoaaDoor
open Go Go.RowKit

/-- of what there was, nothing but block g has turned -/
structure But (g : Nat) (w w' : World) : Prop where
  os : w'.os = w.os
  tape : w'.tape = w.tape
  output : w'.output = w.output
  size : w.heap.size ≤ w'.heap.size
  block : ∀ k, k < w.heap.size → k ≠ g → w'.heap[k]? = w.heap[k]?

theorem But.refl (g : Nat) (w : World) : But g w w := ⟨rfl, rfl, rfl, Nat.le_refl _, fun _ _ _ => rfl⟩
theorem But.trans {g : Nat} {a b c : World} (h : But g a b) (k : But g b c) : But g a c :=
  ⟨k.os.trans h.os, k.tape.trans h.tape, k.output.trans h.output, Nat.le_trans h.size k.size, fun i hi hg => (k.block i (Nat.lt_of_lt_of_le hi h.size) hg).trans (h.block i hi hg)⟩
theorem But.setCell {g : Nat} {a w : World} (h : But g a w) (i : Nat) (u : Value) : But g a (w.setCell ⟨g, i, none⟩ u) :=
  h.trans ⟨rfl, rfl, rfl, by simp [World.setCell], fun _ _ hg => Below.heap_setCell _ _ _ _ hg⟩
theorem But.alloc {g : Nat} {a w : World} (h : But g a w) (o : Obj) : But g a (w.alloc o) :=
  h.trans ⟨rfl, rfl, rfl, by simp, fun _ hi _ => Below.heap_alloc _ _ _ hi⟩
theorem But.drew {g : Nat} {a w : World} (h : But g a w) : But g a w.drew := ⟨h.os, h.tape, h.output, h.size, h.block⟩
theorem But.ofBelow {g : Nat} {w w' : World} (h : Below w.heap.size w w') : But g w w' := ⟨h.os, h.tape, h.output, h.size, fun k hk _ => h.block k hk⟩
/-- a block of the call's own -/
theorem But.below {g B : Nat} {w w' : World} (h : But g w w') (hg : B ≤ g) (hB : B ≤ w.heap.size) : Below B w w' :=
  ⟨h.os, h.tape, h.output, h.size, fun k hk => h.block k (by omega) (by omega)⟩

theorem But.cell {g : Nat} {w w' : World} (h : But g w w') {b o : Nat} (hb : b < w.heap.size) (hg : b ≠ g) : w'.cell? ⟨b, o, none⟩ = w.cell? ⟨b, o, none⟩ :=
  World.cell?_of_block (w := w) (h.block b hb hg)

theorem Arr.but {k : IntKind} {e : TypeId} {w w' : World} {g g' : Nat} {xs : List Nat} (h : Arr k e w g xs) (hb : But g' w w') (hg : g ≠ g') : Arr k e w' g xs := by
  unfold Arr at *; rw [hb.block g (lt_of_block h) hg]; exact h

/-- a slice that does not lie in block g reads as before -/
theorem Sl.but {k : IntKind} {w w' : World} {v : Value} {xs : List Nat} {g : Nat} (h : Sl k w v xs) (hb : But g w w') (hg : 0 < xs.length → blk v ≠ some g) : Sl k w' v xs := by
  obtain ⟨ao, cap, hv, hc, hx⟩ := h
  refine ⟨ao, cap, hv, hc, fun i hi => ?_⟩
  obtain ⟨b, off, h1, h2, h3⟩ := hx i hi
  have hbg : b ≠ g := by
    intro e
    apply hg (by omega)
    rw [hv, h1, ← e]; rfl
  exact ⟨b, off, h1, Nat.lt_of_lt_of_le h2 hb.size, by rw [hb.cell h2 hbg]; exact h3⟩

/-- a slice that was there does not lie in a new block -/
theorem Sl.off {k : IntKind} {w : World} {v : Value} {xs : List Nat} (h : Sl k w v xs) {g : Nat} (hg : w.heap.size ≤ g) : 0 < xs.length → blk v ≠ some g := by
  intro h0
  rcases h.cases with ⟨rfl, _⟩ | ⟨_, b, off, cap, rfl, _, hb, _⟩
  · simp at h0
  · intro e
    simp [blk] at e
    omega

theorem Sl.blk_lt {k : IntKind} {w : World} {v : Value} {xs : List Nat} (h : Sl k w v xs) (hne : xs ≠ []) : ∃ b, blk v = some b ∧ b < w.heap.size := by
  rcases h.cases with ⟨rfl, _⟩ | ⟨_, b, off, cap, rfl, _, hb, _⟩
  · exact absurd rfl hne
  · exact ⟨b, rfl, hb⟩

theorem Sl.drw {k : IntKind} {w : World} {v : Value} {xs : List Nat} (h : Sl k w v xs) : Sl k w.drew v xs := h
theorem wrapu (z : Int) (h0 : 0 ≤ z) (h1 : z ≤ 18446744073709551615) : IntKind.u64.wrap z = z := by rw [IntKind.wrap_u64]; omega

/-- Add64 at this program -/
theorem add64_at (x y c : Nat) (hc : c ≤ 1) (s m : Nat) (hs : s = (x + y + c) % W64) (hm : m = (x + y + c) / W64) (w : World) :
    (callFunc 118 #[.int .u64 x, .int .u64 y, .int .u64 c]).run Tryd.prog w = .ok (.value (.tuple #[.int .u64 s, .int .u64 m])) w := by
  subst hs hm
  rw [run_callFunc_extern Tryd.func118 (by kernel_rfl) (by kernel_rfl) (by kernel_rfl) (e := add64Entry) (by kernel_rfl), run_add64 x y c (by omega) (by omega) (by omega) (by omega)]
  simp only [Result.andThen, W64]
  congr 5 <;> omega

theorem add64_0 (x y : Nat) (s m : Nat) (hs : s = (x + y) % W64) (hm : m = (x + y) / W64) (w : World) :
    (callFunc 118 #[.int .u64 x, .int .u64 y, .int .u64 0]).run Tryd.prog w = .ok (.value (.tuple #[.int .u64 s, .int .u64 m])) w :=
  add64_at x y 0 (by omega) s m hs hm w

theorem sub64_at (x y c : Nat) (hc : c ≤ 1) (s m : Nat) (hs : s = (x + W64 - y - c) % W64) (hm : m = if x < y + c then 1 else 0) (w : World) :
    (callFunc 119 #[.int .u64 x, .int .u64 y, .int .u64 c]).run Tryd.prog w = .ok (.value (.tuple #[.int .u64 s, .int .u64 m])) w := by
  subst hs hm
  rw [run_callFunc_extern Tryd.func119 (by kernel_rfl) (by kernel_rfl) (by kernel_rfl) (e := sub64Entry) (by kernel_rfl), run_sub64 x y c hc]
  rfl

theorem sub64_0 (x y : Nat) (s m : Nat) (hs : s = (x + W64 - y) % W64) (hm : m = if x < y then 1 else 0) (w : World) :
    (callFunc 119 #[.int .u64 x, .int .u64 y, .int .u64 0]).run Tryd.prog w = .ok (.value (.tuple #[.int .u64 s, .int .u64 m])) w :=
  sub64_at x y 0 (by omega) s m hs hm w

end Go.Proofs.YtjpbmagpieonoaaDoor

namespace Go.Proofs.YtjpbmagpieonoaaDoor
/-- a half step of a long division: the quotient is at most the guess -/
theorem half_start (b D y1 y0 u n q r : Nat) (hD : D = y1 * b + y0) (hy0 : y0 < b) (hb : b ≤ 2 * y1) (hu : u < D) (hn : n < b) (h : u = q * y1 + r) (hr : r < y1) : (u * b + n) / D ≤ q ∧ q ≤ b + 1 ∧ (u * b + n) / D < b := by
  have hb0 : 0 < b := by omega
  have hy1 : 0 < y1 := by omega
  have hD0 : 0 < D := by omega
  refine ⟨?_, ?_, ?_⟩
  · have h1 : u * b + n < (q + 1) * (y1 * b) := by
      have : u + 1 ≤ (q + 1) * y1 := by rw [h, Nat.add_mul, Nat.one_mul]; omega
      have h2 : (u + 1) * b ≤ (q + 1) * y1 * b := Nat.mul_le_mul_right _ this
      rw [Nat.add_mul, Nat.one_mul, Nat.mul_assoc] at h2
      omega
    have h2 : (q + 1) * (y1 * b) ≤ (q + 1) * D := Nat.mul_le_mul_left _ (by omega)
    have := (Nat.div_lt_iff_lt_mul hD0).2 (show u * b + n < (q + 1) * D by omega)
    omega
  · rcases Nat.lt_or_ge q (b + 2) with hq | hq
    · omega
    · exfalso
      have h1 : (b + 2) * y1 ≤ q * y1 := Nat.mul_le_mul_right _ hq
      have e : (b + 2) * y1 = y1 * b + 2 * y1 := by rw [Nat.add_mul, Nat.mul_comm b]
      omega
  · rw [Nat.div_lt_iff_lt_mul hD0]
    have : (u + 1) * b ≤ D * b := Nat.mul_le_mul_right _ hu
    rw [Nat.add_mul, Nat.mul_comm D] at this
    omega

theorem half_val (b D y1 y0 u q r : Nat) (hD : D = y1 * b + y0) (h : u = q * y1 + r) : q * D + r * b = u * b + q * y0 := by
  rw [hD, h]; grind

/-- the guess is too great -/
theorem half_dec (b D y1 y0 u n q r : Nat) (hD : D = y1 * b + y0) (hD0 : 0 < D) (h : u = q * y1 + r) (hQb : (u * b + n) / D < b) (hq : (u * b + n) / D ≤ q) (hc : b ≤ q ∨ b * r + n < q * y0) :
    1 ≤ q ∧ (u * b + n) / D ≤ q - 1 ∧ u = (q - 1) * y1 + (r + y1) := by
  have hlt : (u * b + n) / D < q := by
    rcases hc with hc | hc
    · omega
    · rw [Nat.div_lt_iff_lt_mul hD0]
      have := half_val b D y1 y0 u q r hD h
      rw [Nat.mul_comm r] at this
      omega
  generalize (u * b + n) / D = Q at *
  refine ⟨by omega, by omega, ?_⟩
  obtain ⟨p, rfl⟩ : ∃ p, q = p + 1 := ⟨q - 1, by omega⟩
  rw [h, Nat.add_sub_cancel, Nat.add_mul, Nat.one_mul]; omega

/-- the guess is right -/
theorem half_stop (b D y1 y0 u n q r : Nat) (hD : D = y1 * b + y0) (hD0 : 0 < D) (h : u = q * y1 + r) (hq : (u * b + n) / D ≤ q) (hc : q * y0 ≤ b * r + n) : q = (u * b + n) / D := by
  have := half_val b D y1 y0 u q r hD h
  rw [Nat.mul_comm r] at this
  have h2 := (Nat.le_div_iff_mul_le hD0).2 (show q * D ≤ u * b + n by omega)
  omega

theorem half_break (b D y1 y0 u n q r : Nat) (hD : D = y1 * b + y0) (hD0 : 0 < D) (hy0 : y0 < b) (h : u = q * y1 + r) (hq : (u * b + n) / D ≤ q) (hqb : q ≤ b) (hr : b ≤ r) : q = (u * b + n) / D := by
  refine half_stop b D y1 y0 u n q r hD hD0 h hq ?_
  have h1 : q * y0 ≤ b * y0 := Nat.mul_le_mul_right _ hqb
  have h2 : b * y0 ≤ b * r := Nat.mul_le_mul_left _ (by omega)
  omega

/-- two half steps make a step -/
theorem two_halves (b D u n1 n0 : Nat) (hD : 0 < D) : (u * (b * b) + (n1 * b + n0)) / D = (u * b + n1) / D * b + ((u * b + n1) % D * b + n0) / D ∧ (u * (b * b) + (n1 * b + n0)) % D = ((u * b + n1) % D * b + n0) % D := by
  have e : u * (b * b) + (n1 * b + n0) = ((u * b + n1) % D * b + n0) + D * ((u * b + n1) / D * b) := by
    have := Nat.div_add_mod (u * b + n1) D
    generalize (u * b + n1) / D = q at *
    generalize (u * b + n1) % D = r at *
    grind
  rw [e]
  refine ⟨?_, ?_⟩
  · rw [Nat.add_mul_div_left _ _ hD]; omega
  · rw [Nat.add_mul_mod_self_left]

/-- what is left of a subtraction that wraps -/
theorem sub_wrap (A P : Int) (N D : Nat) (M : Int) (q : Nat) (hA : A % M = (N : Int) % M) (hP : P % M = ((q * D : Nat) : Int) % M) (hq : q = N / D) (hD : ((D : Nat) : Int) ≤ M) (hD0 : 0 < D) : (A - P) % M = ((N % D : Nat) : Int) := by
  have h1 : (A - P) % M = (((N : Int)) - ((q * D : Nat) : Int)) % M := by rw [Int.sub_emod, hA, hP, ← Int.sub_emod]
  have h2 := Nat.div_add_mod N D
  have h3 := Nat.mod_lt N hD0
  rw [h1, hq]
  have e : (N : Int) - ((N / D * D : Nat) : Int) = ((N % D : Nat) : Int) := by
    rw [Nat.mul_comm (N / D) D]
    omega
  rw [e, Int.emod_eq_of_lt (by omega) (by omega)]

/-- shifting a number and a divisor alike -/
theorem shift_div (N D p : Nat) (hp : 0 < p) : N * p / (D * p) = N / D ∧ N * p % (D * p) / p = N % D := by
  refine ⟨Nat.mul_div_mul_right _ _ hp, ?_⟩
  rw [Nat.mul_mod_mul_right, Nat.mul_div_cancel _ hp]
end Go.Proofs.YtjpbmagpieonoaaDoor

namespace Go.Proofs.YtjpbmagpieonoaaDoor
open Go Go.RowKit

set_option maxRecDepth 100000 in
set_option maxHeartbeats 1000000 in
theorem div64_small (lo y : Nat) (w : World) (hlo : lo < W64) (hlt : 0 < y) (R : Ending → World → Prop)
    (hR : ∀ n, R (.returned (.tuple #[.int .u64 ((lo / y : Nat) : Int), .int .u64 ((lo % y : Nat) : Int)])) (w.drewN n)) :
    Calls Tryd.prog 86 #[.int .u64 0, .int .u64 ((lo : Nat) : Int), .int .u64 ((y : Nat) : Int)] w R := by
  have HR := Lib.hid hR; clear hR
  have e1 : ((y : Int) == 0) = false := by simp; omega
  have e2 : ¬ ((y : Int) ≤ 0) := by omega
  have hq1 : (0 : Int) ≤ (lo : Int) := by omega
  have hq2 : (1 : Int) ≤ (y : Int) := by omega
  have HLO := Lib.hid hlo
  clear hlo
  go_enter Tryd.func86, Tryd.ntmps86
  go_wp2
  go_quiet (fail)
  go_wp2
  first | go_ret | skip
  have hb : (lo : Int) / (y : Int) ≤ 18446744073709551615 := by
    have := Nat.div_le_self lo y
    have hlo := HLO.out
    rw [W64_eq] at hlo
    rw [← Int.natCast_ediv]
    generalize lo / y = z at *
    omega
  have := HR.out nq
  rw [wrapu _ (by rw [← Int.natCast_ediv]; exact Int.natCast_nonneg _) hb]
  simpa using this

theorem bitLenAux_spec : ∀ (f x : Nat), x < 2 ^ f → 0 < x → 1 ≤ Lib.bitLenAux f x ∧ Lib.bitLenAux f x ≤ f ∧ 2 ^ (Lib.bitLenAux f x - 1) ≤ x ∧ x < 2 ^ Lib.bitLenAux f x := by
  intro f
  induction f with
  | zero => intro x hx h0; simp at hx; omega
  | succ f ih =>
    intro x hx h0
    rw [Lib.bitLenAux, if_neg (by omega)]
    by_cases h1 : x / 2 = 0
    · have : x = 1 := by omega
      subst this
      have e : Lib.bitLenAux f (1 / 2) = 0 := by
        show Lib.bitLenAux f 0 = 0
        cases f <;> simp [Lib.bitLenAux]
      rw [e]; simp
    · obtain ⟨a1, a2, a3, a4⟩ := ih (x / 2) (by rw [Nat.pow_succ] at hx; omega) (by omega)
      generalize Lib.bitLenAux f (x / 2) = n at *
      refine ⟨by omega, by omega, ?_, ?_⟩
      · rw [show 1 + n - 1 = (n - 1) + 1 by omega, Nat.pow_succ]; omega
      · rw [Nat.add_comm, Nat.pow_succ]; omega

/-- how far a limb is shifted until its highest bit is 1 -/
theorem lead_spec (y : Nat) (h0 : 0 < y) (hy : y < W64) : ∃ s : Nat, s < 64 ∧ (64 - (Lib.bitLen (y : Int).toNat : Int)) = (s : Int) ∧ 9223372036854775808 ≤ y * 2 ^ s ∧ y * 2 ^ s < W64 := by
  have h64 : (2 : Nat) ^ 64 = W64 := rfl
  obtain ⟨a1, a2, a3, a4⟩ := bitLenAux_spec 64 y (by rw [h64]; exact hy) h0
  rw [Int.toNat_natCast]
  unfold Lib.bitLen
  generalize Lib.bitLenAux 64 y = n at *
  refine ⟨64 - n, by omega, by omega, ?_, ?_⟩
  · have : 2 ^ (n - 1) * 2 ^ (64 - n) ≤ y * 2 ^ (64 - n) := Nat.mul_le_mul_right _ a3
    rw [← Nat.pow_add, show n - 1 + (64 - n) = 63 by omega] at this
    exact this
  · have : y * 2 ^ (64 - n) < 2 ^ n * 2 ^ (64 - n) := Nat.mul_lt_mul_of_pos_right a4 (Nat.pow_pos (by omega))
    rw [← Nat.pow_add, show n + (64 - n) = 64 by omega, h64] at this
    exact this

/-- the parts of a division by a divisor that is shifted -/
theorem wrap_rest (u n D Q v : Nat) (hQ : Q = (u * 4294967296 + n) / D) (hv : v = (u * 4294967296 + n) % D) (hD : D < 18446744073709551616) (hD0 : 0 < D) :
    IntKind.u64.wrap (IntKind.u64.wrap (IntKind.u64.wrap ((u : Int) * 4294967296) + (n : Int)) - IntKind.u64.wrap ((Q : Int) * (D : Int))) = (v : Int) := by
  rw [IntKind.wrap_u64, IntKind.wrap_u64, IntKind.wrap_u64, IntKind.wrap_u64, hv]
  refine sub_wrap _ _ (u * 4294967296 + n) D 18446744073709551616 Q ?_ ?_ hQ (by omega) hD0
  · omega
  · rw [Int.natCast_mul]; exact Int.emod_emod_of_dvd _ (Int.dvd_refl _)

theorem div_norm (hi lo y s : Nat) (hlo : lo < W64) (hlt : hi < y) (hs : s < 64) (h1 : 9223372036854775808 ≤ y * 2 ^ s) (h2 : y * 2 ^ s < W64) :
    ∃ D u n1 n0 y1 y0 : Nat, IntKind.u64.wrap ((y : Int) * 2 ^ s) = (D : Int) ∧ D = y * 2 ^ s ∧ (D : Int) / 4294967296 = (y1 : Int) ∧ bits .and .u64 (D : Int) 4294967295 = (y0 : Int) ∧
      (∃ H : Nat, IntKind.u64.wrap ((hi : Int) * 2 ^ s) = (H : Int) ∧ bits .or .u64 (H : Int) ((lo : Int) / 2 ^ (64 - s)) = (u : Int)) ∧ True ∧
      (∃ L : Nat, IntKind.u64.wrap ((lo : Int) * 2 ^ s) = (L : Int) ∧ (L : Int) / 4294967296 = (n1 : Int) ∧ bits .and .u64 (L : Int) 4294967295 = (n0 : Int)) ∧ True ∧ True ∧
      D = y1 * 4294967296 + y0 ∧ D < 18446744073709551616 ∧ y0 < 4294967296 ∧ 4294967296 ≤ 2 * y1 ∧ u < D ∧ n1 < 4294967296 ∧ n0 < 4294967296 ∧
      (hi * W64 + lo) * 2 ^ s = u * (4294967296 * 4294967296) + (n1 * 4294967296 + n0) := by
  have hp : 0 < 2 ^ s := Nat.pow_pos (by omega)
  have hq : 0 < 2 ^ (64 - s) := Nat.pow_pos (by omega)
  have hpq : 2 ^ s * 2 ^ (64 - s) = W64 := by rw [← Nat.pow_add, show s + (64 - s) = 64 by omega]; rfl
  have hsh : hi * 2 ^ s < W64 := Nat.lt_of_le_of_lt (Nat.mul_le_mul_right _ (Nat.le_of_lt hlt)) h2
  have hlq : lo / 2 ^ (64 - s) < 2 ^ s := by rw [Nat.div_lt_iff_lt_mul hq, hpq]; exact hlo
  have hand : ∀ a : Nat, a < W64 → bits .and .u64 (a : Int) 4294967295 = ((a % 4294967296 : Nat) : Int) := fun a ha => Mul64.maskN a ha
  have hc : ∀ a : Nat, ((a : Int) * 2 ^ s) = ((a * 2 ^ s : Nat) : Int) := fun a => by rw [Int.natCast_mul, Int.natCast_pow]; rfl
  have hdv : (lo : Int) / 2 ^ (64 - s) = ((lo / 2 ^ (64 - s) : Nat) : Int) := by rw [Int.natCast_ediv, Int.natCast_pow]; rfl
  have hor : hi * 2 ^ s ||| lo / 2 ^ (64 - s) = hi * 2 ^ s + lo / 2 ^ (64 - s) := by
    rw [Nat.or_comm, or_add _ _ _ hlq, Nat.add_comm]
  have hpt := shl_parts W64 (2 ^ s) (2 ^ (64 - s)) lo hpq.symm hp
  have hL : lo * 2 ^ s % W64 < W64 := Nat.mod_lt _ (by rw [W64_eq]; omega)
  have hdm := Nat.div_add_mod (lo * 2 ^ s) W64
  rw [hpt.2] at hdm
  have hle : (hi + 1) * 2 ^ s ≤ y * 2 ^ s := Nat.mul_le_mul_right _ hlt
  rw [Nat.add_mul, Nat.one_mul] at hle
  have hlw : lo / 2 ^ (64 - s) < W64 := by omega
  have hmulN : (hi * W64 + lo) * 2 ^ s = hi * 2 ^ s * W64 + lo * 2 ^ s := by rw [Nat.add_mul, Nat.mul_right_comm]
  refine ⟨y * 2 ^ s, hi * 2 ^ s + lo / 2 ^ (64 - s), lo * 2 ^ s % W64 / 4294967296, lo * 2 ^ s % W64 % 4294967296, y * 2 ^ s / 4294967296, y * 2 ^ s % 4294967296, ?_, rfl, ?_, hand _ h2, ⟨hi * 2 ^ s, ?_, ?_⟩, trivial, ⟨lo * 2 ^ s % W64, ?_, ?_, hand _ hL⟩, trivial, trivial, ?_⟩
  · rw [hc]; exact Mul64.wrapN _ h2
  · rw [Mul64.divN]
  · rw [hc]; exact Mul64.wrapN _ hsh
  · rw [hdv]
    have := bits_or_u64_nat (hi * 2 ^ s) (lo / 2 ^ (64 - s)) hsh hlw
    rw [this, hor]
  · rw [hc]; exact Mul64.wrapM _
  · rw [Mul64.divN]
  · rw [hmulN]
    generalize hi * 2 ^ s = H at *
    generalize y * 2 ^ s = D at *
    generalize lo * 2 ^ s = L at *
    generalize lo / 2 ^ (64 - s) = c at *
    generalize 2 ^ s = P at *
    rw [W64_eq] at *
    refine ⟨by omega, by omega, by omega, by omega, by omega, by omega, by omega, by omega⟩

set_option maxRecDepth 100000 in
set_option maxHeartbeats 1000000 in
theorem div64_main (hi lo y : Nat) (w : World) (hh : 0 < hi) (hlo : lo < W64) (hy : y < W64) (hlt : hi < y) (R : Ending → World → Prop)
    (hR : R (.returned (.tuple #[.int .u64 (((hi * W64 + lo) / y : Nat) : Int), .int .u64 (((hi * W64 + lo) % y : Nat) : Int)])) w) :
    Calls Tryd.prog 86 #[.int .u64 ((hi : Nat) : Int), .int .u64 ((lo : Nat) : Int), .int .u64 ((y : Nat) : Int)] w R := by
  have HR := Lib.hid hR; clear hR
  have e1 : ((y : Int) == 0) = false := by simp; omega
  have e2 : ¬ ((y : Int) ≤ (hi : Int)) := by omega
  have e3 : ((hi : Int) == 0) = false := by simp; omega
  obtain ⟨s, hs64, hs, hn1, hn2⟩ := lead_spec y (by omega) hy
  have HS := Lib.hid hs
  have hy2 : (y : Int) ≤ 18446744073709551615 := by rw [W64_eq] at hy; omega
  have hlo2 : (lo : Int) ≤ 18446744073709551615 := by rw [W64_eq] at hlo; omega
  have hhi2 : (hi : Int) ≤ 18446744073709551615 := by omega
  obtain ⟨D, u, n1, n0, y1, y0, hD1, hD2, hy1, hy0, hU1, hU2, hL1, hL2, hL3, hDe, hDle, hy0l, hbn, hul, hn1l, hn0l, hfin⟩ := div_norm hi lo y s hlo hlt hs64 hn1 hn2
  obtain ⟨H, hH1, hH2⟩ := hU1
  obtain ⟨L, hL4, hL5, hL6⟩ := hL1
  have HFIN := Lib.hid hfin
  have HD2 := Lib.hid hD2
  clear hD2 hU2 hL2 hL3
  have HDE := Lib.hid hDe
  have HBN := Lib.hid hbn
  have HUL := Lib.hid hul
  have hy1p : 1 ≤ y1 := by omega
  have hDpos : 0 < D := by omega
  have hub : (u : Int) ≤ 18446744073709551615 := by omega
  have hDb : (D : Int) ≤ 18446744073709551615 := by omega
  obtain ⟨q, hq⟩ : ∃ q, q = u / y1 := ⟨_, rfl⟩
  obtain ⟨r, hr⟩ : ∃ r, r = u % y1 := ⟨_, rfl⟩
  have hqr : u = q * y1 + r := by rw [hq, hr, Nat.mul_comm]; exact (Nat.div_add_mod u y1).symm
  have hrl : r < y1 := by rw [hr]; exact Nat.mod_lt _ hy1p
  have hst := half_start 4294967296 D y1 y0 u n1 q r hDe hy0l hbn hul hn1l hqr hrl
  have hqe : (u : Int) / (y1 : Int) = (q : Int) := by rw [hq]; exact (Int.natCast_ediv u y1).symm
  obtain ⟨p, hp⟩ : ∃ p, p = q * y1 := ⟨_, rfl⟩
  have hpe : (q : Int) * (y1 : Int) = (p : Int) := by rw [hp]; exact (Int.natCast_mul q y1).symm
  have hpu : (p : Int) + (r : Int) = (u : Int) := by omega
  have hre : (u : Int) - (p : Int) = (r : Int) := by omega
  have hqb : (q : Int) ≤ 4294967297 := by omega
  have HQR := Lib.hid hqr
  have HST := Lib.hid hst
  have HRL := Lib.hid hrl
  have hy1b : (y1 : Int) ≤ 4294967295 := by omega
  have hy0b : (y0 : Int) ≤ 4294967295 := by omega
  have hn1b : (n1 : Int) ≤ 4294967295 := by omega
  have hn0b : (n0 : Int) ≤ 4294967295 := by omega
  have hy1i : (1 : Int) ≤ (y1 : Int) := by omega
  have hrb : (r : Int) ≤ 4294967295 := by omega
  have hpb : (p : Int) ≤ (u : Int) := by omega
  clear hlo hy hs hn1 hn2 hDe hDle hy0l hbn hul hn1l hn0l hfin hq hr hqr hst hp hpu hrl hy1p
  go_enter Tryd.func86, Tryd.ntmps86
  go_wp2_with fail
  refine (Tryd.bits_LeadingZeros64 (y : Int) _ (by omega) hy2).mono ?_
  rintro e w1 ⟨rfl, rfl⟩
  rw [HS.out]
  dsimp only
  have hs0 : (0 : Int) ≤ (s : Int) := by omega
  have hs65 : (s : Int) < 64 := by omega
  go_upto_block 0 with fail
  clear e1 e3 hH1 hH2 hL4 hL5 hL6 hD1 hy1 hy0 hqe hpe hre hpb
  obtain ⟨Q, hQ⟩ : ∃ Q, Q = (u * 4294967296 + n1) / D := ⟨_, rfl⟩
  have HQ := Lib.hid hQ
  have hst2 := HST.out
  rw [← hQ] at hst2
  obtain ⟨hq1, hq2, hq3⟩ := hst2
  have hy0n : y0 < 4294967296 := by omega
  clear hQ
  go_cut [15] (fun a wx => a = .int .u64 ((Q : Nat) : Int) ∧ wx = w1)
  case first =>
    go_wp2_with fail
    go_loop [15, 16] (fun a b => ∃ q r : Nat, a = .int .u64 ((q : Nat) : Int) ∧ b = .int .u64 ((r : Nat) : Int) ∧ u = q * y1 + r ∧ Q ≤ q ∧ q ≤ 4294967297 ∧ r < 4294967296) (fun a _ => (intOf a).toNat)
    case atStart => exact ⟨q, r, rfl, rfl, HQR.out, hq1, hq2, by have := HRL.out; omega⟩
    case round =>
      clear hq1 hq2 hqb hrb
      clear HQR HST HRL
      obtain ⟨q, r, rfl, rfl, hqr, hq1, hq2, hr⟩ := hrel
      have HQR := Lib.hid hqr
      clear hqr
      by_cases hbig : 4294967296 ≤ q
      · obtain ⟨hp1, hp2, hp3⟩ := half_dec 4294967296 D y1 y0 u n1 q r HDE.out hDpos HQR.out (by rw [← HQ.out]; exact hq3) (by rw [← HQ.out]; exact hq1) (.inl hbig)
        rw [← HQ.out] at hp2
        have HP3 := Lib.hid hp3
        clear hp3
        have hq5 : (1 : Int) ≤ (q : Int) := by omega
        have hq6 : (q : Int) ≤ 4294967297 := by omega
        have hbigi : (4294967296 : Int) ≤ (q : Int) := by omega
        have HBIG := Lib.hid hbig
        clear hbig
        by_cases hr2 : 4294967296 ≤ r + y1
        · have hr3 : (4294967296 : Int) ≤ (r : Int) + (y1 : Int) := by omega
          have HR2 := Lib.hid hr2
          clear hr2
          go_wp2_with fail
          go_meet
          have hr2 := HR2.out
          have := half_break 4294967296 D y1 y0 u n1 (q - 1) (r + y1) HDE.out hDpos hy0n HP3.out (by rw [← HQ.out]; exact hp2) (by omega) hr2
          rw [← HQ.out] at this
          exact ⟨congrArg (Value.int .u64) (by omega), rfl⟩
        · have hr3 : ¬ (4294967296 : Int) ≤ (r : Int) + (y1 : Int) := by omega
          go_wp2
          go_round
          case rel => exact ⟨q - 1, r + y1, congrArg (Value.int .u64) (by omega), congrArg (Value.int .u64) (by omega), HP3.out, hp2, by omega, by omega⟩
          case measure => simp [intOf]; omega
      · obtain ⟨a, ha⟩ : ∃ a, a = q * y0 := ⟨_, rfl⟩
        have hae : (q : Int) * (y0 : Int) = (a : Int) := by rw [ha]; exact (Int.natCast_mul q y0).symm
        have hal : a ≤ 18446744065119617025 := by rw [ha]; exact Nat.mul_le_mul (by omega : q ≤ 4294967295) (by omega : y0 ≤ 4294967295)
        have hali : (a : Int) ≤ 18446744065119617025 := by omega
        have hqs : ¬ (4294967296 : Int) ≤ (q : Int) := by omega
        have hrs : (r : Int) ≤ 4294967295 := by omega
        have HA := Lib.hid ha
        clear ha
        by_cases hc : 4294967296 * r + n1 < a
        · obtain ⟨hp1, hp2, hp3⟩ := half_dec 4294967296 D y1 y0 u n1 q r HDE.out hDpos HQR.out (by rw [← HQ.out]; exact hq3) (by rw [← HQ.out]; exact hq1) (.inr (by rw [← HA.out]; exact hc))
          rw [← HQ.out] at hp2
          have HP3 := Lib.hid hp3
          clear hp3
          have hci : 4294967296 * (r : Int) + (n1 : Int) < (a : Int) := by omega
          have hq5 : (1 : Int) ≤ (q : Int) := by omega
          by_cases hr2 : 4294967296 ≤ r + y1
          · have hr3 : (4294967296 : Int) ≤ (r : Int) + (y1 : Int) := by omega
            go_wp2_with fail
            go_meet
            have := half_break 4294967296 D y1 y0 u n1 (q - 1) (r + y1) HDE.out hDpos hy0n HP3.out (by rw [← HQ.out]; exact hp2) (by omega) hr2
            rw [← HQ.out] at this
            exact ⟨congrArg (Value.int .u64) (by omega), rfl⟩
          · have hr3 : ¬ (4294967296 : Int) ≤ (r : Int) + (y1 : Int) := by omega
            go_wp2
            go_round
            case rel => exact ⟨q - 1, r + y1, congrArg (Value.int .u64) (by omega), congrArg (Value.int .u64) (by omega), HP3.out, hp2, by omega, by omega⟩
            case measure => simp [intOf]; omega
        · have hci : ¬ 4294967296 * (r : Int) + (n1 : Int) < (a : Int) := by omega
          have := half_stop 4294967296 D y1 y0 u n1 q r HDE.out hDpos HQR.out (by rw [← HQ.out]; exact hq1) (by rw [← HA.out]; omega)
          rw [← HQ.out] at this
          subst this
          go_wp2_with fail
          go_meet
          exact ⟨rfl, rfl⟩
  case rest =>
    obtain ⟨rfl, rfl⟩ := hcut
    clear HQR HST HRL hq1 hq2 hqb hrb
    obtain ⟨v, hv⟩ : ∃ v, v = (u * 4294967296 + n1) % D := ⟨_, rfl⟩
    have hve := wrap_rest u n1 D Q v HQ.out hv (by omega) hDpos
    have hvl : v < D := by rw [hv]; exact Nat.mod_lt _ hDpos
    have HV := Lib.hid hv
    obtain ⟨q', hq⟩ : ∃ q, q = v / y1 := ⟨_, rfl⟩
    obtain ⟨r', hr⟩ : ∃ r, r = v % y1 := ⟨_, rfl⟩
    have hy1p : 1 ≤ y1 := by omega
    have hqr : v = q' * y1 + r' := by rw [hq, hr, Nat.mul_comm]; exact (Nat.div_add_mod v y1).symm
    have hrl : r' < y1 := by rw [hr]; exact Nat.mod_lt _ hy1p
    have hst := half_start 4294967296 D y1 y0 v n0 q' r' HDE.out hy0n HBN.out hvl (by omega) hqr hrl
    have hqe : (v : Int) / (y1 : Int) = (q' : Int) := by rw [hq]; exact (Int.natCast_ediv v y1).symm
    obtain ⟨p', hp⟩ : ∃ p, p = q' * y1 := ⟨_, rfl⟩
    have hpe : (q' : Int) * (y1 : Int) = (p' : Int) := by rw [hp]; exact (Int.natCast_mul q' y1).symm
    have hpu : (p' : Int) + (r' : Int) = (v : Int) := by omega
    have hre : (v : Int) - (p' : Int) = (r' : Int) := by omega
    have hqb' : (q' : Int) ≤ 4294967297 := by omega
    have hrb' : (r' : Int) ≤ 4294967295 := by omega
    have hpb : (p' : Int) ≤ (v : Int) := by omega
    have hvb : (v : Int) ≤ 18446744073709551615 := by omega
    have HQR2 := Lib.hid hqr
    have HRL2 := Lib.hid hrl
    obtain ⟨Q0, hQ⟩ : ∃ Q, Q = (v * 4294967296 + n0) / D := ⟨_, rfl⟩
    have HQ0 := Lib.hid hQ
    rw [← hQ] at hst
    obtain ⟨hq1', hq2', hq3'⟩ := hst
    clear hv hq hr hqr hrl hp hpu hQ hy1p hvl
    go_upto_block 2 with fail
    clear hve hqe hpe hre hpb
    go_cut [18] (fun a wx => a = .int .u64 ((Q0 : Nat) : Int) ∧ wx = wc)
    case first =>
      go_wp2_with fail
      go_loop [18, 16] (fun a b => ∃ q r : Nat, a = .int .u64 ((q : Nat) : Int) ∧ b = .int .u64 ((r : Nat) : Int) ∧ v = q * y1 + r ∧ Q0 ≤ q ∧ q ≤ 4294967297 ∧ r < 4294967296) (fun a _ => (intOf a).toNat)
      case atStart => exact ⟨q', r', rfl, rfl, HQR2.out, hq1', hq2', by have := HRL2.out; omega⟩
      case round =>
        clear hq1' hq2' hqb' hrb'
        clear HQR2 HRL2
        obtain ⟨q, r, rfl, rfl, hqr, hq1, hq2, hr⟩ := hrel
        have HQR := Lib.hid hqr
        clear hqr
        by_cases hbig : 4294967296 ≤ q
        · obtain ⟨hp1, hp2, hp3⟩ := half_dec 4294967296 D y1 y0 v n0 q r HDE.out hDpos HQR.out (by rw [← HQ0.out]; exact hq3') (by rw [← HQ0.out]; exact hq1) (.inl hbig)
          rw [← HQ0.out] at hp2
          have HP3 := Lib.hid hp3
          clear hp3
          have hq5 : (1 : Int) ≤ (q : Int) := by omega
          have hq6 : (q : Int) ≤ 4294967297 := by omega
          have hbigi : (4294967296 : Int) ≤ (q : Int) := by omega
          have HBIG := Lib.hid hbig
          clear hbig
          by_cases hr2 : 4294967296 ≤ r + y1
          · have hr3 : (4294967296 : Int) ≤ (r : Int) + (y1 : Int) := by omega
            have HR2 := Lib.hid hr2
            clear hr2
            go_wp2_with fail
            go_meet
            have hr2 := HR2.out
            have := half_break 4294967296 D y1 y0 v n0 (q - 1) (r + y1) HDE.out hDpos hy0n HP3.out (by rw [← HQ0.out]; exact hp2) (by omega) hr2
            rw [← HQ0.out] at this
            exact ⟨congrArg (Value.int .u64) (by omega), rfl⟩
          · have hr3 : ¬ (4294967296 : Int) ≤ (r : Int) + (y1 : Int) := by omega
            go_wp2
            go_round
            case rel => exact ⟨q - 1, r + y1, congrArg (Value.int .u64) (by omega), congrArg (Value.int .u64) (by omega), HP3.out, hp2, by omega, by omega⟩
            case measure => simp [intOf]; omega
        · obtain ⟨a, ha⟩ : ∃ a, a = q * y0 := ⟨_, rfl⟩
          have hae : (q : Int) * (y0 : Int) = (a : Int) := by rw [ha]; exact (Int.natCast_mul q y0).symm
          have hal : a ≤ 18446744065119617025 := by rw [ha]; exact Nat.mul_le_mul (by omega : q ≤ 4294967295) (by omega : y0 ≤ 4294967295)
          have hali : (a : Int) ≤ 18446744065119617025 := by omega
          have hqs : ¬ (4294967296 : Int) ≤ (q : Int) := by omega
          have hrs : (r : Int) ≤ 4294967295 := by omega
          have HA := Lib.hid ha
          clear ha
          by_cases hc : 4294967296 * r + n0 < a
          · obtain ⟨hp1, hp2, hp3⟩ := half_dec 4294967296 D y1 y0 v n0 q r HDE.out hDpos HQR.out (by rw [← HQ0.out]; exact hq3') (by rw [← HQ0.out]; exact hq1) (.inr (by rw [← HA.out]; exact hc))
            rw [← HQ0.out] at hp2
            have HP3 := Lib.hid hp3
            clear hp3
            have hci : 4294967296 * (r : Int) + (n0 : Int) < (a : Int) := by omega
            have hq5 : (1 : Int) ≤ (q : Int) := by omega
            by_cases hr2 : 4294967296 ≤ r + y1
            · have hr3 : (4294967296 : Int) ≤ (r : Int) + (y1 : Int) := by omega
              go_wp2_with fail
              go_meet
              have := half_break 4294967296 D y1 y0 v n0 (q - 1) (r + y1) HDE.out hDpos hy0n HP3.out (by rw [← HQ0.out]; exact hp2) (by omega) hr2
              rw [← HQ0.out] at this
              exact ⟨congrArg (Value.int .u64) (by omega), rfl⟩
            · have hr3 : ¬ (4294967296 : Int) ≤ (r : Int) + (y1 : Int) := by omega
              go_wp2
              go_round
              case rel => exact ⟨q - 1, r + y1, congrArg (Value.int .u64) (by omega), congrArg (Value.int .u64) (by omega), HP3.out, hp2, by omega, by omega⟩
              case measure => simp [intOf]; omega
          · have hci : ¬ 4294967296 * (r : Int) + (n0 : Int) < (a : Int) := by omega
            have := half_stop 4294967296 D y1 y0 v n0 q r HDE.out hDpos HQR.out (by rw [← HQ0.out]; exact hq1) (by rw [← HA.out]; omega)
            rw [← HQ0.out] at this
            subst this
            go_wp2_with fail
            go_meet
            exact ⟨rfl, rfl⟩
    case rest =>
      obtain ⟨rfl, rfl⟩ := hcut
      clear HQR2 HRL2 hq1' hq2' hqb' hrb'
      obtain ⟨v2, hv2⟩ : ∃ v2, v2 = (v * 4294967296 + n0) % D := ⟨_, rfl⟩
      have hve := wrap_rest v n0 D Q0 v2 HQ0.out hv2 (by omega) hDpos
      have hq4 : (Q : Int) ≤ 4294967295 := by omega
      have hq5 : (Q0 : Int) ≤ 4294967295 := by omega
      have HV2 := Lib.hid hv2
      have hvb2 : (v2 : Int) ≤ 18446744073709551615 := by
        have := Nat.mod_lt (v * 4294967296 + n0) hDpos
        rw [← hv2] at this; omega
      clear hv2 hq3 hq3'
      go_wp2
      first | go_ret | skip
      have hA : Q * 4294967296 + Q0 = (hi * W64 + lo) / y ∧ v2 / 2 ^ s = (hi * W64 + lo) % y := by
        have h1 := two_halves 4294967296 D u n1 n0 hDpos
        rw [← HV.out, ← HQ.out, ← HQ0.out, ← HV2.out, ← HFIN.out, HD2.out] at h1
        have h2 := shift_div (hi * W64 + lo) y (2 ^ s) (Nat.pow_pos (by omega))
        exact ⟨by rw [← h1.1, h2.1], by rw [← h1.2, h2.2]⟩
      have hB : (v2 : Int) / 2 ^ s = ((v2 / 2 ^ s : Nat) : Int) := by rw [Int.natCast_ediv, Int.natCast_pow]; rfl
      show R (.returned (.tuple #[.int .u64 ((Q : Int) * 4294967296 + (Q0 : Int)), .int .u64 ((v2 : Int) / 2 ^ s)])) _
      rw [hB, hA.2, show (Q : Int) * 4294967296 + (Q0 : Int) = ((Q * 4294967296 + Q0 : Nat) : Int) by omega, hA.1]
      exact HR.out
theorem div64_any (hi lo y : Nat) (w : World) (hlo : lo < W64) (hy : y < W64) (hlt : hi < y) (q r : Nat) (hq : q = (hi * W64 + lo) / y) (hr : r = (hi * W64 + lo) % y) (R : Ending → World → Prop)
    (hR : ∀ n, R (.returned (.tuple #[.int .u64 ((q : Nat) : Int), .int .u64 ((r : Nat) : Int)])) (w.drewN n)) :
    Calls Tryd.prog 86 #[.int .u64 ((hi : Nat) : Int), .int .u64 ((lo : Nat) : Int), .int .u64 ((y : Nat) : Int)] w R := by
  by_cases h0 : hi = 0
  · subst h0
    refine div64_small lo y w hlo hlt R fun n => ?_
    have := hR n
    rw [hq, hr, Nat.zero_mul, Nat.zero_add] at this
    exact this
  · refine div64_main hi lo y w (by omega) hlo hy hlt R ?_
    have := hR 0
    rw [hq, hr] at this
    exact this

end Go.Proofs.YtjpbmagpieonoaaDoor

namespace Go.Proofs.YtjpbmagpieonoaaDoor
open Go Go.RowKit

theorem take_set_out (xs : List Nat) (off i z : Nat) (h : off ≤ i) : (xs.set i z).take off = xs.take off := by
  rw [List.take_set_of_le h]
theorem drop_set_out (xs : List Nat) (m i z : Nat) (h : i < m) : (xs.set i z).drop m = xs.drop m := by
  rw [List.drop_set_of_lt h]
theorem set_ltN {B : Nat} (xs : List Nat) (i z : Nat) (h : ∀ d ∈ xs, d < B) (hz : z < B) : ∀ d ∈ xs.set i z, d < B := by
  intro d hd
  rcases List.mem_or_eq_of_mem_set hd with h1 | h1
  · exact h d h1
  · rw [h1]; exact hz

def AddPRel (w : World) (g off : Nat) (rs ys : List Nat) (f : Nat) (cv iv : Value) (wr : World) : Prop :=
  ∃ (k c : Nat) (cur : List Nat), iv = .int .i64 k ∧ cv = .int .u64 c ∧ k ≤ ys.length ∧ c < W64 ∧ Arr .u64 63 wr g cur ∧ cur.length = rs.length ∧ (∀ d ∈ cur, d < W64) ∧
    cur.take off = rs.take off ∧ cur.drop (off + k) = rs.drop (off + k) ∧ val W64 cur + W64 ^ (off + k) * c = val W64 rs + W64 ^ off * (f * val W64 (ys.take k)) ∧ But g w wr ∧ wr.heap.size = w.heap.size

theorem addp_rel (w wr : World) (g off : Nat) (rs ys cur : List Nat) (f k c y x z c' : Nat) (zc : Int) (hk : k < ys.length) (hoff : off + ys.length ≤ rs.length) (hA : Arr .u64 63 wr g cur)
    (hl : cur.length = rs.length) (hlt : ∀ d ∈ cur, d < W64) (ht : cur.take off = rs.take off) (hd : cur.drop (off + k) = rs.drop (off + k))
    (hv : val W64 cur + W64 ^ (off + k) * c = val W64 rs + W64 ^ off * (f * val W64 (ys.take k))) (hb : But g w wr) (hs : wr.heap.size = w.heap.size)
    (hx : x = cur.getD (off + k) 0) (hy : y = ys.getD k 0) (hz : z + W64 * c' = x + y * f + c) (hzl : z < W64) (hcl : c' < W64) (hzc : zc = (c' : Int)) :
    AddPRel w g off rs ys f (.int .u64 zc) (.int .i64 ((k + 1 : Nat) : Int)) (wr.setCell ⟨g, off + k, none⟩ (.int .u64 z)) := by
  subst hzc
  refine ⟨k + 1, c', cur.set (off + k) z, rfl, rfl, by omega, hcl, hA.set _ _, by simp [hl], set_ltN _ _ _ hlt hzl, by rw [take_set_out _ _ _ _ (by omega)]; exact ht, ?_, ?_, hb.setCell _ _, by simp [hs]⟩
  · rw [drop_set_out _ _ _ _ (by omega)]
    have h2 := congrArg (List.drop 1) hd
    rw [List.drop_drop, List.drop_drop] at h2
    rw [← Nat.add_assoc]; exact h2
  · exact addp_step W64 cur rs ys off k f c z c' hk (by omega) (by rw [← hx, ← hy]; exact hz) hv

set_option maxRecDepth 100000 in
set_option maxHeartbeats 1000000 in
theorem addp_any (g off nl cap : Nat) (rs ys : List Nat) (bv : Value) (f : Nat) (w : World) (hA : Arr .u64 63 w g rs) (hb : Sl .u64 w bv ys) (hne : 0 < ys.length → blk bv ≠ some g) (hoff : off + ys.length ≤ rs.length)
    (hnl : ys.length ≤ nl) (hrs : ∀ d ∈ rs, d < W64) (hys : ∀ d ∈ ys, d < W64) (hf : f < W64) (hlen : rs.length ≤ 1000000000) (R : Ending → World → Prop)
    (hR : ∀ zs c w', Arr .u64 63 w' g zs → zs.length = rs.length → (∀ d ∈ zs, d < W64) → zs.take off = rs.take off → zs.drop (off + ys.length) = rs.drop (off + ys.length) →
      val W64 zs + W64 ^ (off + ys.length) * c = val W64 rs + W64 ^ off * (f * val W64 ys) → c < W64 → But g w w' → w'.heap.size = w.heap.size → R (.returned (.int .u64 ((c : Nat) : Int))) w') :
    Calls Tryd.prog 106 #[.slice (some ⟨g, off, none⟩) nl cap, bv, .int .u64 ((f : Nat) : Int)] w R := by
  have HR := Lib.hid hR; clear hR
  obtain ⟨ao, capb, hbv, hcb, hcell⟩ := hb
  subst hbv
  obtain ⟨n, hn⟩ : ∃ n, n = ys.length := ⟨_, rfl⟩
  have HN := Lib.hid hn
  have hnl2 : n ≤ nl := by omega
  have hn9 : n ≤ 1000000000 := by omega
  have HRS := Lib.hid hrs
  have HYS := Lib.hid hys
  have HOFF := Lib.hid hoff
  have HLEN := Lib.hid hlen
  have HCELL := Lib.hid hcell
  have HNE := Lib.hid hne
  rw [← hn]
  have hf2 : f < 18446744073709551616 := by rw [← W64_eq]; exact hf
  have HF := Lib.hid hf
  have hstart : AddPRel w g off rs ys f (.int .u64 0) (.int .i64 0) w :=
    ⟨0, 0, rs, rfl, rfl, Nat.zero_le _, by rw [W64_eq]; omega, hA, rfl, hrs, rfl, rfl, by simp [val], But.refl _ _, rfl⟩
  have HST := Lib.hid hstart
  clear hn hrs hys hoff hlen hcell hne hcb hf hstart hA hnl
  go_enter Tryd.func106, Tryd.ntmps106
  go_wp2
  go_loopw [7, 15] (fun c i wr => AddPRel w g off rs ys f c i wr) (fun _ i _ => n - (intOf i).toNat)
  case atStart => exact HST.out
  case round =>
    obtain ⟨k, c, cur, rfl, rfl, hk, hc, hA, hl, hlt, ht, hd, hv, hbut, hsz⟩ := hrel
    have HHL := Lib.hid hl
    have HLT := Lib.hid hlt
    have HT := Lib.hid ht
    have HD := Lib.hid hd
    have HV := Lib.hid hv
    have HSZ := Lib.hid hsz
    have HK := Lib.hid hk
    have HC := Lib.hid hc
    clear hl hlt ht hd hv hsz hk hc
    by_cases hkn : k < n
    · have hky : k < ys.length := by rw [← HN.out]; exact hkn
      obtain ⟨b, o, rfl, hb1, hc1⟩ := HCELL.out k hky
      have hbg : b ≠ g := fun e => HNE.out (by omega) (by rw [e]; rfl)
      rw [← hbut.cell (o := o + k) hb1 hbg] at hc1
      have hik : off + k < cur.length := by rw [HHL.out]; have := HOFF.out; omega
      have hc2 := hA.cell (off + k) hik
      have hc3 := hA.frozen (off + k)
      obtain ⟨y, hy⟩ : ∃ y, y = ys.getD k 0 := ⟨_, rfl⟩
      obtain ⟨x, hx⟩ : ∃ x, x = cur.getD (off + k) 0 := ⟨_, rfl⟩
      rw [← hy] at hc1
      rw [← hx] at hc2
      have hyl : y < W64 := by rw [hy]; exact getD_lt (by rw [W64_eq]; omega) _ HYS.out _
      have hxl : x < W64 := by rw [hx]; exact getD_lt (by rw [W64_eq]; omega) _ HLT.out _
      obtain ⟨hmc1, hmc2⟩ := mul_carry2 hyl HF.out HC.out hxl
      obtain ⟨hmd1, _⟩ := mul_carry hyl HF.out HC.out
      obtain ⟨hi, hhi⟩ : ∃ hi, hi = y * f / W64 := ⟨_, rfl⟩
      obtain ⟨lo, hlo⟩ : ∃ lo, lo = y * f % W64 := ⟨_, rfl⟩
      rw [← hhi, ← hlo] at hmc1 hmc2 hmd1
      obtain ⟨s1, hs1⟩ : ∃ s, s = (lo + c) % W64 := ⟨_, rfl⟩
      obtain ⟨m1, hm1⟩ : ∃ s, s = (lo + c) / W64 := ⟨_, rfl⟩
      rw [← hm1] at hmd1
      rw [← hs1, ← hm1] at hmc1 hmc2
      obtain ⟨s2, hs2⟩ : ∃ s, s = (x + s1) % W64 := ⟨_, rfl⟩
      obtain ⟨m2, hm2⟩ : ∃ s, s = (x + s1) / W64 := ⟨_, rfl⟩
      rw [← hm2] at hmc1
      rw [← hs2, ← hm2] at hmc2
      have ea1 := add64_0 lo c s1 m1 hs1 hm1
      have ea2 := add64_0 x s1 s2 m2 hs2 hm2
      have em := Lib.hid (Tryd.bits_Mul64 y f (by rw [← W64_eq]; exact hyl) (by rw [← W64_eq]; exact HF.out))
      have hs2l : s2 < W64 := by rw [hs2]; exact Nat.mod_lt _ (by rw [W64_eq]; omega)
      have hw1 : (hi : Int) + (m1 : Int) ≤ 18446744073709551615 := by rw [W64_eq] at hmd1; omega
      have hw2 : (hi : Int) + (m1 : Int) + (m2 : Int) ≤ 18446744073709551615 := by rw [W64_eq] at hmc1; omega
      have hyl2 : y < 18446744073709551616 := by rw [← W64_eq]; exact hyl
      have hkl : k < nl := by omega
      have HREL := Lib.hid (addp_rel w wr g off rs ys cur f k c y x s2 (hi + m1 + m2) ((hi : Int) + (m1 : Int) + (m2 : Int)) hky HOFF.out hA HHL.out HLT.out HT.out HD.out HV.out hbut HSZ.out hx hy hmc2 hs2l hmc1 (by omega))
      have hhi' := Lib.hid (show y * f / 18446744073709551616 = hi from hhi.symm)
      have hlo' := Lib.hid (show y * f % 18446744073709551616 = lo from hlo.symm)
      clear hhi hlo hs1 hm1 hs2 hm2 hmc1 hmc2 hmd1 hs2l hx hy hyl hxl hA hbut
      go_wp2_with fail
      refine (em.out _).mono ?_
      rintro e w1 ⟨rfl, rfl⟩
      rw [hhi'.out, hlo'.out]
      dsimp only
      go_wp2_with (first | simp only [ea1] | simp only [ea2])
      go_roundw
      case rel => exact HREL.out
      case measure => simp [intOf]; omega
    · obtain rfl : k = n := by have := HK.out; rw [← HN.out] at this; omega
      have HV2 := HV
      go_wp2
      first | go_ret | skip
      refine HR.out cur c wr hA HHL.out HLT.out HT.out (by rw [← HN.out]; exact HD.out) ?_ HC.out hbut HSZ.out
      have := HV.out
      rw [HN.out, List.take_length] at this
      exact this
end Go.Proofs.YtjpbmagpieonoaaDoor

namespace Go.Proofs.YtjpbmagpieonoaaDoor
open Go Go.RowKit

theorem borrow_parts (x s1 s2 m2 W : Nat) (hx : x < W) (hs : s1 < W) (hs2 : s2 = (x + W - s1) % W) (hm2 : m2 = if x < s1 then 1 else 0) : s2 + s1 = x + W * m2 ∧ m2 ≤ 1 ∧ s2 < W := by
  by_cases h : x < s1
  · rw [if_pos h] at hm2
    rw [Nat.mod_eq_of_lt (by omega)] at hs2
    subst hm2; omega
  · rw [if_neg h] at hm2
    rw [show x + W - s1 = (x - s1) + W by omega, Nat.add_mod_right, Nat.mod_eq_of_lt (by omega)] at hs2
    subst hm2; omega

def TakePRel (w : World) (g off : Nat) (rs ys : List Nat) (f : Nat) (cv iv : Value) (wr : World) : Prop :=
  ∃ (k c : Nat) (cur : List Nat), iv = .int .i64 k ∧ cv = .int .u64 c ∧ k ≤ ys.length ∧ c < W64 ∧ Arr .u64 63 wr g cur ∧ cur.length = rs.length ∧ (∀ d ∈ cur, d < W64) ∧
    cur.take off = rs.take off ∧ cur.drop (off + k) = rs.drop (off + k) ∧ val W64 cur + W64 ^ off * (f * val W64 (ys.take k)) = val W64 rs + W64 ^ (off + k) * c ∧ But g w wr ∧ wr.heap.size = w.heap.size

theorem takep_rel (w wr : World) (g off : Nat) (rs ys cur : List Nat) (f k c y x z c' : Nat) (zc : Int) (hk : k < ys.length) (hoff : off + ys.length ≤ rs.length) (hA : Arr .u64 63 wr g cur)
    (hl : cur.length = rs.length) (hlt : ∀ d ∈ cur, d < W64) (ht : cur.take off = rs.take off) (hd : cur.drop (off + k) = rs.drop (off + k))
    (hv : val W64 cur + W64 ^ off * (f * val W64 (ys.take k)) = val W64 rs + W64 ^ (off + k) * c) (hb : But g w wr) (hs : wr.heap.size = w.heap.size)
    (hx : x = cur.getD (off + k) 0) (hy : y = ys.getD k 0) (hz : z + y * f + c = x + W64 * c') (hzl : z < W64) (hcl : c' < W64) (hzc : zc = (c' : Int)) :
    TakePRel w g off rs ys f (.int .u64 zc) (.int .i64 ((k + 1 : Nat) : Int)) (wr.setCell ⟨g, off + k, none⟩ (.int .u64 z)) := by
  subst hzc
  refine ⟨k + 1, c', cur.set (off + k) z, rfl, rfl, by omega, hcl, hA.set _ _, by simp [hl], set_ltN _ _ _ hlt hzl, by rw [take_set_out _ _ _ _ (by omega)]; exact ht, ?_, ?_, hb.setCell _ _, by simp [hs]⟩
  · rw [drop_set_out _ _ _ _ (by omega)]
    have h2 := congrArg (List.drop 1) hd
    rw [List.drop_drop, List.drop_drop] at h2
    rw [← Nat.add_assoc]; exact h2
  · exact takep_step W64 cur rs ys off k f c z c' hk (by omega) (by rw [← hx, ← hy]; exact hz) hv

set_option maxRecDepth 100000 in
set_option maxHeartbeats 1000000 in
theorem takep_any (g off nl cap : Nat) (rs ys : List Nat) (bv : Value) (f : Nat) (w : World) (hA : Arr .u64 63 w g rs) (hb : Sl .u64 w bv ys) (hne : 0 < ys.length → blk bv ≠ some g) (hoff : off + ys.length ≤ rs.length)
    (hnl : ys.length ≤ nl) (hrs : ∀ d ∈ rs, d < W64) (hys : ∀ d ∈ ys, d < W64) (hf : f < W64) (hlen : rs.length ≤ 1000000000) (R : Ending → World → Prop)
    (hR : ∀ zs c w', Arr .u64 63 w' g zs → zs.length = rs.length → (∀ d ∈ zs, d < W64) → zs.take off = rs.take off → zs.drop (off + ys.length) = rs.drop (off + ys.length) →
      val W64 zs + W64 ^ off * (f * val W64 ys) = val W64 rs + W64 ^ (off + ys.length) * c → c < W64 → But g w w' → w'.heap.size = w.heap.size → R (.returned (.int .u64 ((c : Nat) : Int))) w') :
    Calls Tryd.prog 120 #[.slice (some ⟨g, off, none⟩) nl cap, bv, .int .u64 ((f : Nat) : Int)] w R := by
  have HR := Lib.hid hR; clear hR
  obtain ⟨ao, capb, hbv, hcb, hcell⟩ := hb
  subst hbv
  obtain ⟨n, hn⟩ : ∃ n, n = ys.length := ⟨_, rfl⟩
  have HN := Lib.hid hn
  have hnl2 : n ≤ nl := by omega
  have hn9 : n ≤ 1000000000 := by omega
  have HRS := Lib.hid hrs
  have HYS := Lib.hid hys
  have HOFF := Lib.hid hoff
  have HLEN := Lib.hid hlen
  have HCELL := Lib.hid hcell
  have HNE := Lib.hid hne
  rw [← hn]
  have hf2 : f < 18446744073709551616 := by rw [← W64_eq]; exact hf
  have HF := Lib.hid hf
  have hstart : TakePRel w g off rs ys f (.int .u64 0) (.int .i64 0) w :=
    ⟨0, 0, rs, rfl, rfl, Nat.zero_le _, by rw [W64_eq]; omega, hA, rfl, hrs, rfl, rfl, by simp [val], But.refl _ _, rfl⟩
  have HST := Lib.hid hstart
  clear hn hrs hys hoff hlen hcell hne hcb hf hstart hA hnl
  go_enter Tryd.func120, Tryd.ntmps120
  go_wp2
  go_loopw [7, 15] (fun c i wr => TakePRel w g off rs ys f c i wr) (fun _ i _ => n - (intOf i).toNat)
  case atStart => exact HST.out
  case round =>
    obtain ⟨k, c, cur, rfl, rfl, hk, hc, hA, hl, hlt, ht, hd, hv, hbut, hsz⟩ := hrel
    have HHL := Lib.hid hl
    have HLT := Lib.hid hlt
    have HT := Lib.hid ht
    have HD := Lib.hid hd
    have HV := Lib.hid hv
    have HSZ := Lib.hid hsz
    have HK := Lib.hid hk
    have HC := Lib.hid hc
    clear hl hlt ht hd hv hsz hk hc
    by_cases hkn : k < n
    · have hky : k < ys.length := by rw [← HN.out]; exact hkn
      obtain ⟨b, o, rfl, hb1, hc1⟩ := HCELL.out k hky
      have hbg : b ≠ g := fun e => HNE.out (by omega) (by rw [e]; rfl)
      rw [← hbut.cell (o := o + k) hb1 hbg] at hc1
      have hik : off + k < cur.length := by rw [HHL.out]; have := HOFF.out; omega
      have hc2 := hA.cell (off + k) hik
      have hc3 := hA.frozen (off + k)
      obtain ⟨y, hy⟩ : ∃ y, y = ys.getD k 0 := ⟨_, rfl⟩
      obtain ⟨x, hx⟩ : ∃ x, x = cur.getD (off + k) 0 := ⟨_, rfl⟩
      rw [← hy] at hc1
      rw [← hx] at hc2
      have hyl : y < W64 := by rw [hy]; exact getD_lt (by rw [W64_eq]; omega) _ HYS.out _
      have hxl : x < W64 := by rw [hx]; exact getD_lt (by rw [W64_eq]; omega) _ HLT.out _
      have htb := take_borrow hyl HF.out HC.out hxl
      obtain ⟨hmd1, hmd2⟩ := mul_carry hyl HF.out HC.out
      obtain ⟨hi, hhi⟩ : ∃ hi, hi = y * f / W64 := ⟨_, rfl⟩
      obtain ⟨lo, hlo⟩ : ∃ lo, lo = y * f % W64 := ⟨_, rfl⟩
      rw [← hhi, ← hlo] at htb hmd1 hmd2
      obtain ⟨s1, hs1⟩ : ∃ s, s = (lo + c) % W64 := ⟨_, rfl⟩
      obtain ⟨m1, hm1⟩ : ∃ s, s = (lo + c) / W64 := ⟨_, rfl⟩
      have hs1l : s1 < W64 := by rw [hs1]; exact Nat.mod_lt _ (by rw [W64_eq]; omega)
      rw [← hs1, ← hm1] at htb hmd2
      rw [← hm1] at hmd1
      obtain ⟨s2, hs2⟩ : ∃ s, s = (x + W64 - s1) % W64 := ⟨_, rfl⟩
      obtain ⟨m2, hm2⟩ : ∃ s, s = if x < s1 then 1 else 0 := ⟨_, rfl⟩
      obtain ⟨hb1', hb2', hs2l⟩ := borrow_parts x s1 s2 m2 W64 hxl hs1l hs2 hm2
      have hmc1 : hi + m1 + m2 < W64 := by
        by_cases h : x < s1
        · rw [if_pos h] at htb; omega
        · rw [if_neg h] at hm2; omega
      have hmc2 : s2 + y * f + c = x + W64 * (hi + m1 + m2) := by
        rw [Nat.mul_add W64 (hi + m1)]; omega
      have ea1 := add64_0 lo c s1 m1 hs1 hm1
      have ea2 := sub64_0 x s1 s2 m2 hs2 hm2
      have em := Lib.hid (Tryd.bits_Mul64 y f (by rw [← W64_eq]; exact hyl) (by rw [← W64_eq]; exact HF.out))
      have hw1 : (hi : Int) + (m1 : Int) ≤ 18446744073709551615 := by rw [W64_eq] at hmd1; omega
      have hw2 : (hi : Int) + (m1 : Int) + (m2 : Int) ≤ 18446744073709551615 := by rw [W64_eq] at hmc1; omega
      have hyl2 : y < 18446744073709551616 := by rw [← W64_eq]; exact hyl
      have hkl : k < nl := by omega
      have HREL := Lib.hid (takep_rel w wr g off rs ys cur f k c y x s2 (hi + m1 + m2) ((hi : Int) + (m1 : Int) + (m2 : Int)) hky HOFF.out hA HHL.out HLT.out HT.out HD.out HV.out hbut HSZ.out hx hy hmc2 hs2l hmc1 (by omega))
      have hhi' := Lib.hid (show y * f / 18446744073709551616 = hi from hhi.symm)
      have hlo' := Lib.hid (show y * f % 18446744073709551616 = lo from hlo.symm)
      clear hhi hlo hs1 hm1 hs2 hm2 hmc1 hmc2 hmd1 hmd2 hs2l hx hy hyl hxl hA hbut htb hs1l hb1' hb2'
      go_wp2_with fail
      refine (em.out _).mono ?_
      rintro e w1 ⟨rfl, rfl⟩
      rw [hhi'.out, hlo'.out]
      dsimp only
      go_wp2_with (first | simp only [ea1] | simp only [ea2])
      go_roundw
      case rel => exact HREL.out
      case measure => simp [intOf]; omega
    · obtain rfl : k = n := by have := HK.out; rw [← HN.out] at this; omega
      have HV2 := HV
      go_wp2
      first | go_ret | skip
      refine HR.out cur c wr hA HHL.out HLT.out HT.out (by rw [← HN.out]; exact HD.out) ?_ HC.out hbut HSZ.out
      have := HV.out
      rw [HN.out, List.take_length] at this
      exact this
end Go.Proofs.YtjpbmagpieonoaaDoor

namespace Go.Proofs.YtjpbmagpieonoaaDoor
open Go Go.RowKit

theorem Arr.drew {k : IntKind} {e : TypeId} {w : World} {g : Nat} {xs : List Nat} (h : Arr k e w g xs) : Arr k e w.drew g xs := h
theorem But.ofDrew {g : Nat} {w w' : World} (h : But g w.drew w') : But g w w' := ⟨h.os, h.tape, h.output, h.size, h.block⟩

theorem val_zeros (B n : Nat) : val B (List.replicate n 0) = 0 := by
  induction n with
  | zero => rfl
  | succ n ih => rw [List.replicate_succ, val, ih]; simp
theorem zeros_lt {B : Nat} (hB : 2 ≤ B) (n : Nat) : ∀ d ∈ List.replicate n 0, d < B := by
  intro d hd
  rw [(List.mem_replicate.1 hd).2]; omega
theorem getD_zeros (n i : Nat) : (List.replicate n 0).getD i 0 = 0 := by
  simp only [List.getD, List.getElem?_replicate]
  split <;> rfl

/-- limbs of the call's own with a value -/
def Limbs (w : World) (g len V : Nat) (wx : World) : Prop :=
  ∃ zs, Arr .u64 63 wx g zs ∧ zs.length = len ∧ (∀ d ∈ zs, d < W64) ∧ val W64 zs = V ∧ Below w.heap.size w wx ∧ wx.heap.size = w.heap.size + 1

theorem timesp_end (w W w1 : World) (n a f e c : Nat) (zs : List Nat) (hz : zs.length = n + 1) (hzl : ∀ d ∈ zs, d < W64) (hd : zs.drop n = ((List.replicate (n + 1) 0).set 0 e).drop n) (he : e < W64)
    (hv : val W64 zs + W64 ^ n * c = val W64 ((List.replicate (n + 1) 0).set 0 e) + (f * a)) (hc : c < W64) (hA : Arr .u64 63 w1 w.heap.size zs) (hb : But w.heap.size W w1) (hbW : Below w.heap.size w W) (hs : w1.heap.size = W.heap.size) (hsW : W.heap.size = w.heap.size + 1)
    (x : Nat) (hx : x = ((List.replicate (n + 1) 0).set 0 e).getD n 0) (hna : n = 0 → a = 0) : x + c < W64 ∧ zs.getD n 0 = x ∧
      Limbs w w.heap.size (n + 1) (a * f + e) (w1.setCell ⟨w.heap.size, n, none⟩ (.int .u64 ((x : Int) + (c : Int)))) := by
  have hv0 : val W64 ((List.replicate (n + 1) 0).set 0 e) = e := by
    have := val_setN W64 (List.replicate (n + 1) 0) 0 e (by simp)
    rw [val_zeros, getD_zeros] at this
    simpa using this
  have hzx : zs.getD n 0 = x := by
    have h1 := congrArg (fun l => l.getD 0 0) hd
    simp only [List.getD_eq_getElem?_getD, List.getElem?_drop, Nat.add_zero] at h1
    rw [hx]; simpa [List.getD_eq_getElem?_getD] using h1
  have hxc : x + c < W64 := by
    by_cases h0 : n = 0
    · subst h0
      have ha := hna rfl
      subst ha
      rw [hv0] at hv
      have hx0 : x = e := by rw [hx]; simp
      have : zs = [x] := by
        obtain ⟨y, rfl⟩ := List.length_eq_one_iff.1 hz
        simp at hzx; rw [hzx]
      rw [this] at hv
      simp [val] at hv
      omega
    · have hx0 : x = 0 := by
        rw [hx]
        simp only [List.getD_eq_getElem?_getD]
        rw [List.getElem?_set_ne (by omega)]
        simpa [List.getD_eq_getElem?_getD] using getD_zeros (n + 1) n
      omega
  refine ⟨hxc, hzx, zs.set n (x + c), hA.setz _ _ _ (by omega), by simp [hz], set_ltN _ _ _ hzl hxc, ?_, (hbW.trans (hb.below (by omega) (by omega))).setCell (by simp) _, by simp [hs, hsW]⟩
  have := val_setN W64 zs n (x + c) (by omega)
  rw [hzx, Nat.mul_add] at this
  rw [hv0] at hv
  have e1 : f * a = a * f := Nat.mul_comm _ _
  omega

set_option maxRecDepth 100000 in
set_option maxHeartbeats 1000000 in
theorem timesp_any (v : Value) (a f e : Nat) (w : World) (h : IsN w v a) (hf : f < W64) (he : e < W64) (hlen : (dig W64 a).length ≤ 100000000) (R : Ending → World → Prop)
    (hR : ∀ v' w', IsN w' v' (a * f + e) → Below w.heap.size w w' → (∀ b, blk v' = some b → w.heap.size ≤ b) → R (.returned v') w') :
    Calls Tryd.prog 88 #[v, .int .u64 ((f : Nat) : Int), .int .u64 ((e : Nat) : Int)] w R := by
  have HR := Lib.hid hR; clear hR
  obtain ⟨ao, n, cap, rfl, hn, hs⟩ := h.open
  have hna : n = 0 → a = 0 := by
    intro h0
    exact (dig_eq_nil W64_two).1 (List.length_eq_zero_iff.1 (hn.symm.trans h0))
  rw [← hn] at hlen
  have HN := Lib.hid hn
  have HNA := Lib.hid hna
  have HF := Lib.hid hf
  have HE := Lib.hid he
  have HS := Lib.hid hs
  have hblk := Sl.off hs (Nat.le_refl w.heap.size)
  have HBLK := Lib.hid hblk
  clear h hn hna hf he hs hblk
  go_enter Tryd.func88, Tryd.ntmps88
  go_wp2_with (at_make; go_must (refine wpList_makez _ rfl (.tmp 10) 36 rfl 63 .u64 8 Tryd.underlying36 info_u64 (by omega) .i64 _ (n + 1) rfl (by omega) (by omega) ?_))
  intro W hA hbW hsW
  have hfz := hA.frozen 0
  have hcz := hA.cell 0 (by simp)
  go_wp2
  obtain ⟨L, hL⟩ : ∃ L, L = W.setCell ⟨w.heap.size, 0, none⟩ (.int .u64 (e : Int)) := ⟨_, rfl⟩
  have hA2 : Arr .u64 63 L w.heap.size ((List.replicate (n + 1) 0).set 0 e) := by rw [hL]; exact hA.set _ _
  have hbL : Below w.heap.size w L := by rw [hL]; exact hbW.setCell (by simp) _
  have hsL : L.heap.size = w.heap.size + 1 := by rw [hL]; simp [hsW]
  have hsl : Sl .u64 L (.slice ao n cap) (dig W64 a) := HS.out.later hbL (Nat.le_refl _)
  rw [← hL]
  clear hA hbW hfz hcz hL hsW
  obtain ⟨x, hx⟩ : ∃ x, x = ((List.replicate (n + 1) 0).set 0 e).getD n 0 := ⟨_, rfl⟩
  have hcx := hA2.cell n (by simp)
  have hfx := hA2.frozen n
  rw [← hx] at hcx
  have hrsl : ∀ d ∈ ((List.replicate (n + 1) 0).set 0 e), d < W64 := set_ltN _ _ _ (zeros_lt W64_two _) HE.out
  have HRS := Lib.hid hrsl
  have HX := Lib.hid hx
  have HSL := Lib.hid hsL
  have hnn : (0 : Int) ≤ (n : Int) := by omega
  have hnn2 : (n : Int) < (n : Int) + 1 := by omega
  clear hrsl hx hsL
  go_cut [] (fun wx => Limbs w w.heap.size (n + 1) (a * f + e) wx)
  case first =>
    go_region_law (go_simp; go_at_call 106; refine addp_any w.heap.size 0 (n + 1) (n + 1) ((List.replicate (n + 1) 0).set 0 e) (dig W64 a) _ f _ hA2.drew (Sl.drw hsl) HBLK.out (by rw [← HN.out]; simp) (by rw [← HN.out]; omega) HRS.out (limb_lt _) HF.out (by simp; omega) _ ?_; intro zs c w1 hz1 hz2 hz3 hz4 hz5 hz6 hz7 hz8 hz9; rw [← HN.out, Nat.zero_add] at hz5 hz6; rw [Nat.pow_zero, Nat.one_mul, val_dig W64_two] at hz6; obtain ⟨ht1, ht2, ht3⟩ := timesp_end w L w1 n a f e c zs (by rw [hz2]; simp) hz3 hz5 HE.out hz6 hz7 hz1 hz8.ofDrew hbL hz9 HSL.out x HX.out HNA.out; have hcy := hz1.cell n (by rw [hz2]; simp); rw [ht2] at hcy; have hfy := hz1.frozen n; have hxc : (x : Int) + (c : Int) ≤ 18446744073709551615 := (by rw [W64_eq] at ht1; omega); have hwr := wrapu ((x : Int) + (c : Int)) (by omega) hxc; have HT3 := Lib.hid ht3; clear hz1 hz2 hz3 hz4 hz5 hz6 hz7 hz8 hz9 ht1 ht2 ht3; dsimp only)
    all_goals (go_wp2_with fail; go_meet; exact HT3.out)
  case rest =>
    clear hcx hfx hA2 hsl hbL
    obtain ⟨zs, hz1, hz2, hz3, hz4, hz5, hz6⟩ := hcut
    have HZ4 := Lib.hid hz4
    have HZ6 := Lib.hid hz6
    have HZ5 := Lib.hid hz5
    have hz2' := Lib.hid hz2
    clear hz4 hz6 hz5 hz2
    go_wp2_with fail
    refine trimmed_any _ zs _ (hz1.sl _ _ (by rw [hz2'.out]) (Nat.le_refl _)) hz3 (by rw [hz2'.out]; omega) _ ?_
    intro v' hv' hb'
    rw [HZ4.out] at hv'
    dsimp only
    go_wp2
    first | go_ret | skip
    refine HR.out _ _ hv' HZ5.out ?_
    intro b hb
    have hb2 : blk v' = some b := hb
    rw [hb'] at hb2
    simp [blk] at hb2
    omega
end Go.Proofs.YtjpbmagpieonoaaDoor

namespace Go.Proofs.YtjpbmagpieonoaaDoor
open Go Go.RowKit

theorem rem_step (m x W v r : Nat) (hr : r = v % m) : (r * W + x) % m = (x + W * v) % m := by
  rw [hr, Nat.add_comm, Nat.mul_comm, Nat.add_mod, Nat.mul_mod, Nat.mod_mod, ← Nat.mul_mod, ← Nat.add_mod]

set_option maxRecDepth 100000 in
set_option maxHeartbeats 1000000 in
theorem rems_any (v : Value) (a m : Nat) (w : World) (h : IsN w v a) (hm : 0 < m) (hmw : m < W64) (hlen : (dig W64 a).length ≤ 1000000000) (R : Ending → World → Prop)
    (hR : ∀ w', Below w.heap.size w w' → w'.heap.size = w.heap.size → R (.returned (.int .u64 ((a % m : Nat) : Int))) w') :
    Calls Tryd.prog 67 #[v, .int .u64 ((m : Nat) : Int)] w R := by
  have HR := Lib.hid hR; clear hR
  obtain ⟨ao, n, cap, rfl, hn, hs⟩ := h.open
  obtain ⟨xs, hxs⟩ : ∃ xs, xs = dig W64 a := ⟨_, rfl⟩
  have hvx : val W64 xs = a := by rw [hxs]; exact val_dig W64_two _
  have hx : ∀ d ∈ xs, d < W64 := by rw [hxs]; exact limb_lt _
  unfold IsN at hs
  rw [← hn] at hlen
  rw [← hxs] at hs hn
  have HN := Lib.hid hn
  have HVX := Lib.hid hvx
  have HX := Lib.hid hx
  have HS := Lib.hid hs
  have HMW := Lib.hid hmw
  clear h hn hxs hvx hx hs hmw
  go_enter Tryd.func67, Tryd.ntmps67
  go_wp2
  go_loopw [5, 6] (fun r i wr => ∃ k z : Nat, i = .int .i64 ((k : Int) - 1) ∧ k ≤ n ∧ r = .int .u64 ((z : Nat) : Int) ∧ z = val W64 (xs.drop k) % m ∧ Below w.heap.size w wr ∧ wr.heap.size = w.heap.size) (fun _ i _ => (intOf i + 1).toNat)
  case atStart => exact ⟨n, 0, rfl, Nat.le_refl _, rfl, by rw [HN.out, List.drop_length]; simp [val], Below.refl _ _, rfl⟩
  case round =>
    obtain ⟨k, z, rfl, hk, rfl, hz, hbel, hsz⟩ := hrel
    have HZ := Lib.hid hz
    have HSZ := Lib.hid hsz
    clear hz hsz
    by_cases hk0 : k = 0
    · subst hk0
      have hfin : z = a % m := by rw [HZ.out, List.drop_zero, HVX.out]
      have HF := Lib.hid hfin
      have HB := Lib.hid hbel
      clear hfin hbel
      go_wp2
      first | go_ret | skip
      have := HR.out _ HB.out HSZ.out
      rw [← HF.out] at this
      exact this
    · obtain ⟨j, rfl⟩ : ∃ j, k = j + 1 := ⟨k - 1, by omega⟩
      obtain ⟨b, o, rfl, hb1, hc1⟩ := Sl.at HS.out j (by omega)
      rw [← hbel.cell (p := ⟨b, o + j, none⟩) hb1] at hc1
      obtain ⟨x, hxe⟩ : ∃ x, x = xs.getD j 0 := ⟨_, rfl⟩
      rw [← hxe] at hc1
      have hxl : x < W64 := by rw [hxe]; exact getD_lt (by rw [W64_eq]; omega) _ HX.out _
      have es : ((j + 1 : Nat) : Int) - 1 = (j : Int) := by omega
      rw [es]
      have hzm : z < m := by rw [HZ.out]; exact Nat.mod_lt _ hm
      have hstep : (z * W64 + x) % m = val W64 (xs.drop j) % m := by
        rw [rem_step m x W64 (val W64 (xs.drop (j + 1))) z HZ.out, hxe, ← val_drop W64 xs j (by rw [← HN.out]; omega)]
      have HST := Lib.hid hstep
      have HXL := Lib.hid hxl
      have HB := Lib.hid hbel
      have hjn : (j : Int) < (n : Int) := by omega
      clear hxe hxl es hstep hbel
      go_wp2_with fail
      refine div64_any z x m _ HXL.out HMW.out hzm _ _ rfl rfl _ ?_
      intro nd
      rw [HST.out]
      dsimp only
      go_wp2
      go_roundw
      case rel => exact ⟨j, _, rfl, by omega, rfl, rfl, below_draws HB.out _, HSZ.out⟩
      case measure => simp [intOf]

def DivSRel (w : World) (g n m : Nat) (xs : List Nat) (rv iv : Value) (wr : World) : Prop :=
  ∃ (k z : Nat) (qs : List Nat), iv = .int .i64 ((k : Int) - 1) ∧ k ≤ n ∧ rv = .int .u64 ((z : Nat) : Int) ∧ z < m ∧ Arr .u64 63 wr g qs ∧ qs.length = n ∧ (∀ d ∈ qs, d < W64) ∧
    val W64 (qs.drop k) * m + z = val W64 (xs.drop k) ∧ Below w.heap.size w wr ∧ wr.heap.size = w.heap.size + 1

theorem drop_set_at (xs : List Nat) (i z : Nat) (h : i < xs.length) : (xs.set i z).drop i = z :: xs.drop (i + 1) := by
  rw [List.drop_eq_getElem_cons (by simpa using h), List.getElem_set_self, drop_set_out _ _ _ _ (by omega)]

theorem divs_rel (w wr : World) (g n m j z x q r : Nat) (xs qs : List Nat) (hj : j < n) (hxn : n = xs.length) (hA : Arr .u64 63 wr g qs) (hl : qs.length = n) (hlt : ∀ d ∈ qs, d < W64)
    (hv : val W64 (qs.drop (j + 1)) * m + z = val W64 (xs.drop (j + 1))) (hb : Below w.heap.size w wr) (hs : wr.heap.size = w.heap.size + 1) (hg : w.heap.size ≤ g) (hx : x = xs.getD j 0)
    (hm : 0 < m) (hzm : z < m) (hxl : x < W64) (hq : q = (z * W64 + x) / m) (hr : r = (z * W64 + x) % m) (nd : Nat) :
    DivSRel w g n m xs (.int .u64 ((r : Nat) : Int)) (.int .i64 ((j : Int) - 1)) ((wr.drewN nd).setCell ⟨g, j, none⟩ (.int .u64 ((q : Nat) : Int))) := by
  have hql : q < W64 := by
    rw [hq, Nat.div_lt_iff_lt_mul hm]
    have : (z + 1) * W64 ≤ m * W64 := Nat.mul_le_mul_right _ hzm
    rw [Nat.add_mul, Nat.one_mul] at this
    rw [Nat.mul_comm W64]
    omega
  refine ⟨j, r, qs.set j q, rfl, by omega, rfl, by rw [hr]; exact Nat.mod_lt _ hm, (hA.drewN nd).set _ _, by simp [hl], set_ltN _ _ _ hlt hql, ?_, (below_draws hb nd).setCell hg _, by simp [hs]⟩
  rw [drop_set_at _ _ _ (by omega), val_cons_pos, val_drop W64 xs j (by omega), ← hx]
  have hdm := Nat.div_add_mod (z * W64 + x) m
  rw [← hq, ← hr] at hdm
  generalize val W64 (qs.drop (j + 1)) = A at *
  generalize val W64 (xs.drop (j + 1)) = X at *
  grind

set_option maxRecDepth 100000 in
set_option maxHeartbeats 1000000 in
theorem divs_any (v : Value) (a m : Nat) (w : World) (h : IsN w v a) (hm : 0 < m) (hmw : m < W64) (hlen : (dig W64 a).length ≤ 100000000) (R : Ending → World → Prop)
    (hR : ∀ v' w', IsN w' v' (a / m) → Below w.heap.size w w' → R (.returned (.tuple #[v', .int .u64 ((a % m : Nat) : Int)])) w') :
    Calls Tryd.prog 111 #[v, .int .u64 ((m : Nat) : Int)] w R := by
  have HR := Lib.hid hR; clear hR
  obtain ⟨ao, n, cap, rfl, hn, hs⟩ := h.open
  obtain ⟨xs, hxs⟩ : ∃ xs, xs = dig W64 a := ⟨_, rfl⟩
  have hvx : val W64 xs = a := by rw [hxs]; exact val_dig W64_two _
  have hx : ∀ d ∈ xs, d < W64 := by rw [hxs]; exact limb_lt _
  unfold IsN at hs
  rw [← hn] at hlen
  rw [← hxs] at hs hn
  have HN := Lib.hid hn
  have HVX := Lib.hid hvx
  have HX := Lib.hid hx
  have HS := Lib.hid hs
  have HMW := Lib.hid hmw
  clear h hn hxs hvx hx hs hmw
  go_enter Tryd.func111, Tryd.ntmps111
  go_wp2_with (at_make; go_must (refine wpList_makez _ rfl (.tmp 10) 36 rfl 63 .u64 8 Tryd.underlying36 info_u64 (by omega) .i64 _ n rfl (by omega) (by omega) ?_))
  intro W hA hbW hsW
  have hst : DivSRel w w.heap.size n m xs (.int .u64 0) (.int .i64 ((n : Int) - 1)) W :=
    ⟨n, 0, _, rfl, Nat.le_refl _, rfl, hm, hA, by simp, zeros_lt W64_two _, by rw [List.drop_eq_nil_of_le (by simp), HN.out, List.drop_length]; simp [val], hbW, hsW⟩
  have HST := Lib.hid hst
  clear hA hbW hsW hst
  go_wp2
  go_loopw [7, 8] (fun r i wr => DivSRel w w.heap.size n m xs r i wr) (fun _ i _ => (intOf i + 1).toNat)
  case atStart => exact HST.out
  case round =>
    clear HST
    obtain ⟨k, z, qs, rfl, hk, rfl, hzm, hA, hl, hlt, hv, hbel, hsz⟩ := hrel
    have HL := Lib.hid hl
    have HLT := Lib.hid hlt
    have HV := Lib.hid hv
    have HSZ := Lib.hid hsz
    have HB := Lib.hid hbel
    clear hl hlt hv hsz
    by_cases hk0 : k = 0
    · subst hk0
      have hv0 := HV.out
      rw [List.drop_zero, List.drop_zero, HVX.out] at hv0
      have hq : val W64 qs = a / m ∧ z = a % m := by
        have h1 : a / m = val W64 qs := by
          rw [← hv0, Nat.mul_comm, Nat.mul_add_div hm, Nat.div_eq_of_lt hzm, Nat.add_zero]
        have h2 : a % m = z := by
          rw [← hv0, Nat.mul_comm, Nat.mul_add_mod, Nat.mod_eq_of_lt hzm]
        exact ⟨h1.symm, h2.symm⟩
      have HQ := Lib.hid hq
      clear hv0 hq hbel
      go_wp2_with fail
      refine trimmed_any _ qs _ (hA.sl _ _ (by rw [HL.out]) (Nat.le_refl _)) HLT.out (by rw [HL.out]; omega) _ ?_
      intro v' hv' _
      rw [HQ.out.1] at hv'
      dsimp only
      go_wp2
      first | go_ret | skip
      have := HR.out _ _ hv' HB.out
      rw [← HQ.out.2] at this
      exact this
    · obtain ⟨j, rfl⟩ : ∃ j, k = j + 1 := ⟨k - 1, by omega⟩
      obtain ⟨b, o, rfl, hb1, hc1⟩ := Sl.at HS.out j (by omega)
      rw [← hbel.cell (p := ⟨b, o + j, none⟩) hb1] at hc1
      obtain ⟨x, hxe⟩ : ∃ x, x = xs.getD j 0 := ⟨_, rfl⟩
      rw [← hxe] at hc1
      have hxl : x < W64 := by rw [hxe]; exact getD_lt (by rw [W64_eq]; omega) _ HX.out _
      have es : ((j + 1 : Nat) : Int) - 1 = (j : Int) := by omega
      rw [es]
      obtain ⟨q, hq⟩ : ∃ q, q = (z * W64 + x) / m := ⟨_, rfl⟩
      obtain ⟨r, hr⟩ : ∃ r, r = (z * W64 + x) % m := ⟨_, rfl⟩
      have HREL := Lib.hid (divs_rel w wr w.heap.size n m j z x q r xs qs (by omega) HN.out hA HL.out HLT.out HV.out HB.out HSZ.out (Nat.le_refl _) hxe hm hzm hxl hq hr)
      have HQ := Lib.hid hq
      have HRR := Lib.hid hr
      have HXL := Lib.hid hxl
      have hcj := hA.cell j (by rw [HL.out]; omega)
      have hfj := hA.frozen j
      have hjn : (j : Int) < (n : Int) := by omega
      clear hxe hxl es hbel hq hr hA
      go_wp2_with fail
      refine div64_any z x m _ HXL.out HMW.out hzm q r HQ.out HRR.out _ ?_
      intro nd
      dsimp only
      go_wp2
      go_roundw
      case rel => exact HREL.out nd
      case measure => simp [intOf]
end Go.Proofs.YtjpbmagpieonoaaDoor

namespace Go.Proofs.YtjpbmagpieonoaaDoor
open Go Go.RowKit

/-- copy of numbers to the head of a block that is known whole -/
theorem wpList_copy_nums {P : Program} {w : World} {ops : Array Oper} {rest : List Oper} {o : Oper} {a : Act} {Q : Exit → Act → World → Prop} (hgd : o.guard = none) (d s : Operand) (dT sT : TypeId)
    (ho : o.op = .call { callee := .builtin .copy, args := #[d, s], argTypes := #[dT, sT] }) (elem : TypeId) (hu : P.underlying dT = some (.slice elem)) (hsz : (P.info? elem).map (·.size) = some 1)
    (k : IntKind) (e : TypeId) (g dl dcap : Nat) (rs ys : List Nat) (hA : Arr k e w g rs) (hd : a.eval d = .slice (some ⟨g, 0, none⟩) dl dcap) (sv : Value) (hs : a.eval s = sv) (hS : Sl k w sv ys)
    (hle : ys.length ≤ dl) (hdl : dl ≤ rs.length)
    (h : ∀ w', Arr k e w' g (ys ++ rs.drop ys.length) → But g w w' → w'.heap.size = w.heap.size → wpList P ops Q rest (a.put o.dst (goInt ys.length)) w') :
    wpList P ops Q (o :: rest) a w := by
  obtain ⟨ao, cap, rfl, hc, hx⟩ := hS
  by_cases h0 : ys.length = 0
  · obtain rfl : ys = [] := List.eq_nil_of_length_eq_zero h0
    refine wpList_copy_nothing hgd d s dT sT ho elem hu hsz _ ao dl dcap _ cap hd hs (by simp [Nat.min_def]) ?_
    exact h w (by simpa using hA) (But.refl _ _) rfl
  · obtain ⟨b, off, rfl, _, _⟩ := hx 0 (by omega)
    have hcs : ∀ j v, (nums k ys)[j]? = some v → w.cell? ((⟨b, off, none⟩ : Addr).add j) = some v := by
      intro j v hj
      have hjl : j < ys.length := by
        have := (List.getElem?_eq_some_iff.1 hj).1
        simpa [nums] using this
      obtain ⟨b2, off2, e2, _, h3⟩ := hx j hjl
      cases e2
      rw [nums_get k ys j hjl] at hj
      rw [← Option.some.inj hj]
      have ea : (⟨b, off, none⟩ : Addr).add j = ⟨b, off + j, none⟩ := by
        by_cases hj0 : j = 0
        · subst hj0; rfl
        · simp [Addr.add, hj0]
      rw [ea]; exact h3
    refine wpList_copy_own hgd d s dT sT ho elem hu hsz g 0 dl dcap ⟨b, off, none⟩ ys.length cap hd hs (nums k rs).toArray e hA (nums k ys) (by rw [nums_length]; exact (Nat.min_eq_left hle).symm) hcs (by rw [nums_length]; simp [nums_length]; omega)
      (by intro v hv; obtain ⟨x, _, rfl⟩ := List.mem_map.1 hv; rfl) ?_
    rw [nums_length]
    refine h _ ?_ ⟨rfl, rfl, rfl, by simp [World.setRow], fun i hi hg => setRow_other w g i _ hg⟩ (by simp [World.setRow])
    unfold Arr
    rw [setRow_heap w g _ _ e _ hA]
    simp [nums, List.map_drop]

/-- a round of a difference -/
theorem minus_step (W : Nat) (cur xs ys : List Nat) (k x y c s m : Nat) (hk : k < cur.length) (hx : cur.getD k 0 = x) (hy : y = ys.getD k 0) (hs : s + y + c = x + W * m)
    (hv : val W cur + val W (ys.take k) = val W xs + W ^ k * c) : val W (cur.set k s) + val W (ys.take (k + 1)) = val W xs + W ^ (k + 1) * m := by
  have h1 := val_setN W cur k s hk
  rw [hx] at h1
  have h2 : val W (ys.take (k + 1)) = val W (ys.take k) + W ^ k * y := by
    by_cases h : k < ys.length
    · rw [val_take_succ W ys k h, hy]
    · rw [List.take_of_length_le (by omega), List.take_of_length_le (by omega), hy]
      simp [List.getD, List.getElem?_eq_none (by omega : ys.length ≤ k)]
  rw [h2, Nat.pow_succ]
  generalize val W (cur.set k s) = A at *
  generalize W ^ k = P at *
  grind

def MinusRel (w : World) (g n : Nat) (xs ys : List Nat) (cv iv : Value) (wr : World) : Prop :=
  ∃ (k c : Nat) (cur : List Nat), iv = .int .i64 ((k : Nat) : Int) ∧ cv = .int .u64 ((c : Nat) : Int) ∧ k ≤ n ∧ c ≤ 1 ∧ Arr .u64 63 wr g cur ∧ cur.length = n ∧ (∀ d ∈ cur, d < W64) ∧
    cur.drop k = xs.drop k ∧ val W64 cur + val W64 (ys.take k) = val W64 xs + W64 ^ k * c ∧ Below w.heap.size w wr ∧ wr.heap.size = w.heap.size + 1

theorem sub_parts (x y c s m : Nat) (hx : x < W64) (hy : y < W64) (hc : c ≤ 1) (hs : s = (x + W64 - y - c) % W64) (hm : m = if x < y + c then 1 else 0) : s + y + c = x + W64 * m ∧ m ≤ 1 ∧ s < W64 := by
  rw [W64_eq] at *
  by_cases h : x < y + c
  · rw [if_pos h] at hm; subst hm; omega
  · rw [if_neg h] at hm; subst hm; omega

theorem minus_rel (w wr : World) (g n k c x y s m : Nat) (xs ys cur : List Nat) (hk : k < n) (hxl : xs.length = n) (hA : Arr .u64 63 wr g cur) (hl : cur.length = n) (hlt : ∀ d ∈ cur, d < W64)
    (hd : cur.drop k = xs.drop k) (hv : val W64 cur + val W64 (ys.take k) = val W64 xs + W64 ^ k * c) (hb : Below w.heap.size w wr) (hs : wr.heap.size = w.heap.size + 1) (hg : w.heap.size ≤ g)
    (hx : cur.getD k 0 = x) (hy : y = ys.getD k 0) (hsm : s + y + c = x + W64 * m) (hm : m ≤ 1) (hsl : s < W64) :
    MinusRel w g n xs ys (.int .u64 ((m : Nat) : Int)) (.int .i64 ((k + 1 : Nat) : Int)) (wr.setCell ⟨g, k, none⟩ (.int .u64 ((s : Nat) : Int))) := by
  refine ⟨k + 1, m, cur.set k s, rfl, rfl, by omega, hm, hA.set _ _, by simp [hl], set_ltN _ _ _ hlt hsl, ?_, minus_step W64 cur xs ys k x y c s m (by omega) hx hy hsm hv, hb.setCell hg _, by simp [hs]⟩
  rw [drop_set_out _ _ _ _ (by omega)]
  have h2 := congrArg (List.drop 1) hd
  rw [List.drop_drop, List.drop_drop] at h2
  exact h2

set_option maxRecDepth 100000 in
set_option maxHeartbeats 1000000 in
theorem minus_any (va vb : Value) (a b : Nat) (w : World) (ha : IsN w va a) (hb : IsN w vb b) (hle : b ≤ a) (hlen : (dig W64 a).length ≤ 100000000) (R : Ending → World → Prop)
    (hR : ∀ v' w', IsN w' v' (a - b) → Below w.heap.size w w' → R (.returned v') w') :
    Calls Tryd.prog 110 #[va, vb] w R := by
  have HR := Lib.hid hR; clear hR
  obtain ⟨ao, n, cap, rfl, hn, hsa⟩ := ha.open
  obtain ⟨bo, nb, capb, rfl, hnb, hsb⟩ := hb.open
  have hnn : nb ≤ n := by
    rw [hn, hnb]
    exact dig_length_le W64_two _ _ (Nat.lt_of_le_of_lt hle (lt_pow_dig W64_two a))
  obtain ⟨xs, hxs⟩ : ∃ xs, xs = dig W64 a := ⟨_, rfl⟩
  obtain ⟨ys, hys⟩ : ∃ ys, ys = dig W64 b := ⟨_, rfl⟩
  have hvx : val W64 xs = a := by rw [hxs]; exact val_dig W64_two _
  have hvy : val W64 ys = b := by rw [hys]; exact val_dig W64_two _
  have hx : ∀ d ∈ xs, d < W64 := by rw [hxs]; exact limb_lt _
  have hy : ∀ d ∈ ys, d < W64 := by rw [hys]; exact limb_lt _
  unfold IsN at hsa hsb
  rw [← hn] at hlen
  rw [← hxs] at hsa hn
  rw [← hys] at hsb hnb
  have HN := Lib.hid hn
  have HNB := Lib.hid hnb
  have HVX := Lib.hid hvx
  have HVY := Lib.hid hvy
  have HX := Lib.hid hx
  have HY := Lib.hid hy
  have HSA := Lib.hid hsa
  have HSB := Lib.hid hsb
  have HLE := Lib.hid hle
  clear ha hb hn hnb hxs hys hvx hvy hx hy hsa hsb hle
  go_enter Tryd.func110, Tryd.ntmps110
  go_wp2_with (at_make; go_must (refine wpList_makez _ rfl (.tmp 10) 36 rfl 63 .u64 8 Tryd.underlying36 info_u64 (by omega) .i64 _ n rfl (by omega) (by omega) ?_))
  intro W hA hbW hsW
  go_wp2_with (with_reducible refine wpList_copy_nums rfl (.tmp 12) (.tmp 13) 36 37 rfl 63 Tryd.underlying36 (by kernel_rfl) .u64 63 w.heap.size n n (List.replicate n 0) xs hA rfl (.slice ao n cap) rfl (HSA.out.later hbW (Nat.le_refl _)) (by rw [← HN.out]; exact Nat.le_refl _) (by simp) ?_)
  intro W2 hA2 hbut2 hsz2
  have hst : MinusRel w w.heap.size n xs ys (.int .u64 0) (.int .i64 0) W2 := by
    refine ⟨0, 0, xs, rfl, rfl, Nat.zero_le _, Nat.zero_le _, ?_, HN.out.symm, HX.out, rfl, by simp [val], hbW.trans (hbut2.below (Nat.le_refl _) (by omega)), by omega⟩
    have := hA2
    rwa [← HN.out, Nat.sub_self, List.replicate_zero, List.append_nil] at this
  have HST := Lib.hid hst
  clear hst hA hbW hsW hA2 hbut2 hsz2
  go_wp2
  go_loopw [6, 17] (fun c i wr => MinusRel w w.heap.size n xs ys c i wr) (fun _ i _ => n - (intOf i).toNat)
  case atStart => exact HST.out
  case round =>
    clear HST
    obtain ⟨k, c, cur, rfl, rfl, hk, hc, hA, hl, hlt, hd, hv, hbel, hsz⟩ := hrel
    have HL := Lib.hid hl
    have HLT := Lib.hid hlt
    have HD := Lib.hid hd
    have HV := Lib.hid hv
    have HB := Lib.hid hbel
    have HSZ := Lib.hid hsz
    clear hl hlt hd hv hsz
    by_cases hkn : k < n
    · obtain ⟨x, hx⟩ : ∃ x, x = cur.getD k 0 := ⟨_, rfl⟩
      obtain ⟨y, hy⟩ : ∃ y, y = ys.getD k 0 := ⟨_, rfl⟩
      have hck := hA.cell k (by rw [HL.out]; exact hkn)
      have hfk := hA.frozen k
      rw [← hx] at hck
      have hxl : x < W64 := by rw [hx]; exact getD_lt (by rw [W64_eq]; omega) _ HLT.out _
      have hyl : y < W64 := by rw [hy]; exact getD_lt (by rw [W64_eq]; omega) _ HY.out _
      obtain ⟨s, hs⟩ : ∃ s, s = (x + W64 - y - c) % W64 := ⟨_, rfl⟩
      obtain ⟨m, hm⟩ : ∃ m, m = if x < y + c then 1 else 0 := ⟨_, rfl⟩
      obtain ⟨h1, h2, h3⟩ := sub_parts x y c s m hxl hyl hc hs hm
      have HREL := Lib.hid (minus_rel w wr w.heap.size n k c x y s m xs ys cur hkn HN.out.symm hA HL.out HLT.out HD.out HV.out HB.out HSZ.out (Nat.le_refl _) hx.symm hy h1 h2 h3)
      have ea := sub64_at x y c hc s m hs hm
      have Hy := Lib.hid hy
      have hkn2 : (k : Int) < (n : Int) := by omega
      clear hx hy hxl hyl hs hm h1 h2 h3 hA
      by_cases hkb : k < nb
      · obtain ⟨b, o, rfl, hb1, hc1⟩ := Sl.at HSB.out k hkb
        rw [← hbel.cell (p := ⟨b, o + k, none⟩) hb1, ← Hy.out] at hc1
        have hkb2 : (k : Int) < (nb : Int) := by omega
        clear hbel
        go_wp2_with (simp only [ea])
        go_roundw
        case rel => exact HREL.out
        case measure => simp [intOf]; omega
      · have hkb2 : ¬ (k : Int) < (nb : Int) := by omega
        have hy0 : y = 0 := by rw [Hy.out]; simp [List.getD, List.getElem?_eq_none (by rw [← HNB.out]; omega : ys.length ≤ k)]
        clear hbel
        subst hy0
        have ea0 := ea
        rw [show ((0 : Nat) : Int) = 0 from rfl] at ea0
        clear ea
        go_wp2_with (simp only [ea0])
        go_roundw
        case rel => exact HREL.out
        case measure => simp [intOf]; omega
    · obtain rfl : k = n := by omega
      have hfin : val W64 cur = a - b := by
        have h1 := HV.out
        rw [List.take_of_length_le (by rw [← HNB.out]; exact hnn), HVX.out, HVY.out] at h1
        have h2 := val_lt cur HLT.out
        rw [HL.out] at h2
        have h3 := HLE.out
        rcases (by omega : c = 0 ∨ c = 1) with h | h
        · rw [h, Nat.mul_zero] at h1; omega
        · rw [h, Nat.mul_one] at h1; omega
      have HF := Lib.hid hfin
      clear hfin hbel
      go_wp2_with fail
      refine trimmed_any _ cur _ (hA.sl _ _ (by rw [HL.out]) (Nat.le_refl _)) HLT.out (by rw [HL.out]; omega) _ ?_
      intro v' hv' _
      rw [HF.out] at hv'
      dsimp only
      go_wp2
      first | go_ret | skip
      exact HR.out _ _ hv' HB.out
end Go.Proofs.YtjpbmagpieonoaaDoor

namespace Go.Proofs.YtjpbmagpieonoaaDoor
open Go Go.RowKit

theorem pow_split (s : Nat) (h : s ≤ 64) : 2 ^ s * 2 ^ (64 - s) = W64 := by
  rw [← Nat.pow_add, show s + (64 - s) = 64 by omega]; rfl

theorem or_lt (p q c a : Nat) (hpq : p * q = W64) (hc : c < p) (hp : 0 < q) : c + a % q * p < W64 := by
  have h1 : a % q + 1 ≤ q := Nat.mod_lt _ hp
  have h2 : (a % q + 1) * p ≤ q * p := Nat.mul_le_mul_right _ h1
  rw [Nat.add_mul, Nat.one_mul, Nat.mul_comm q p, hpq] at h2
  omega

/-- a limb that is shifted up by t bits, laid to c -/
theorem shl_or (x c t : Nat) (ht : t ≤ 64) (hx : x < W64) (hc : c < 2 ^ t) : ∃ h : Nat, IntKind.u64.wrap ((x : Int) * 2 ^ t) = (h : Int) ∧ bits .or .u64 (c : Int) (h : Int) = ((c + x % 2 ^ (64 - t) * 2 ^ t : Nat) : Int) ∧ c + x % 2 ^ (64 - t) * 2 ^ t < W64 := by
  have hp : 0 < 2 ^ t := Nat.pow_pos (by omega)
  have hq : 0 < 2 ^ (64 - t) := Nat.pow_pos (by omega)
  have hpq := pow_split t ht
  have hpt := shl_parts W64 (2 ^ t) (2 ^ (64 - t)) x hpq.symm hp
  have hlt := or_lt (2 ^ t) (2 ^ (64 - t)) c x hpq hc hq
  have hcw : c < W64 := by omega
  have hhw : x * 2 ^ t % W64 < W64 := Nat.mod_lt _ (by rw [W64_eq]; omega)
  refine ⟨x * 2 ^ t % W64, ?_, ?_, hlt⟩
  · rw [show ((x : Int) * 2 ^ t) = ((x * 2 ^ t : Nat) : Int) by rw [Int.natCast_mul, Int.natCast_pow]; rfl]
    exact Mul64.wrapM _
  · have := bits_or_u64_nat c (x * 2 ^ t % W64) hcw hhw
    rw [this, hpt.1, or_add _ _ _ hc]

theorem shr_nat (x t : Nat) : (x : Int) / 2 ^ t = ((x / 2 ^ t : Nat) : Int) := by rw [Int.natCast_ediv, Int.natCast_pow]; rfl

theorem shr_lt (x s : Nat) (hs : s ≤ 64) (hx : x < W64) : x / 2 ^ (64 - s) < 2 ^ s := by
  rw [Nat.div_lt_iff_lt_mul (Nat.pow_pos (by omega)), pow_split s hs]; exact hx
theorem shr_lt2 (x s : Nat) (hs : s ≤ 64) (hx : x < W64) : x / 2 ^ s < 2 ^ (64 - s) := by
  rw [Nat.div_lt_iff_lt_mul (Nat.pow_pos (by omega)), Nat.mul_comm, pow_split s hs]; exact hx

def UpRel (w : World) (g n s : Nat) (xs : List Nat) (iv : Value) (wr : World) : Prop :=
  ∃ (k : Nat) (cur : List Nat), iv = .int .i64 ((k : Nat) : Int) ∧ k ≤ n ∧ Arr .u64 63 wr g cur ∧ cur.length = n + 1 ∧ (∀ d ∈ cur, d < W64) ∧ cur.getD k 0 < 2 ^ s ∧ (∀ i, k < i → cur.getD i 0 = 0) ∧
    val W64 cur = 2 ^ s * val W64 (xs.take k) ∧ Below w.heap.size w wr ∧ wr.heap.size = w.heap.size + 1

theorem getD_set_ne (xs : List Nat) (i j z : Nat) (h : i ≠ j) : (xs.set i z).getD j 0 = xs.getD j 0 := by
  simp only [List.getD_eq_getElem?_getD]
  rw [List.getElem?_set_ne h]
theorem getD_set_eq (xs : List Nat) (i z : Nat) (h : i < xs.length) : (xs.set i z).getD i 0 = z := by
  simp only [List.getD_eq_getElem?_getD]
  rw [List.getElem?_set_self h]; rfl

theorem up_rel (w wr : World) (g n s k x c : Nat) (xs cur : List Nat) (hk : k < n) (hxl : n = xs.length) (hs : s ≤ 64) (hA : Arr .u64 63 wr g cur) (hl : cur.length = n + 1) (hlt : ∀ d ∈ cur, d < W64)
    (hz : ∀ i, k < i → cur.getD i 0 = 0) (hv : val W64 cur = 2 ^ s * val W64 (xs.take k)) (hb : Below w.heap.size w wr) (hsz : wr.heap.size = w.heap.size + 1) (hg : w.heap.size ≤ g) (hx : x = xs.getD k 0) (hc : c = cur.getD k 0)
    (hxw : x < W64) (z : Nat) (hzz : z = c + x % 2 ^ (64 - s) * 2 ^ s) (d : Nat) (hdd : d = x / 2 ^ (64 - s)) (hh : z < W64) :
    UpRel w g n s xs (.int .i64 ((k + 1 : Nat) : Int)) (((wr.setCell ⟨g, k, none⟩ (.int .u64 ((z : Nat) : Int))).drew).setCell ⟨g, k + 1, none⟩ (.int .u64 ((d : Nat) : Int))) := by
  subst hzz hdd
  have hd := shr_lt x s hs hxw
  have hp : 2 ^ s ≤ W64 := by rw [← pow_split s hs]; exact Nat.le_mul_of_pos_right _ (Nat.pow_pos (by omega))
  refine ⟨k + 1, _, rfl, by omega, (hA.set k _).drew.set (k + 1) _, by simp [hl], set_ltN _ _ _ (set_ltN _ _ _ hlt hh) (by omega), ?_, ?_, ?_, (hb.setCell hg _).drew.setCell hg _, by simp [hsz]⟩
  · rw [getD_set_eq _ _ _ (by simp; omega)]; exact hd
  · intro i hi
    rw [getD_set_ne _ _ _ _ (by omega), getD_set_ne _ _ _ _ (by omega)]
    exact hz i (by omega)
  · have := up_step W64 (2 ^ s) (2 ^ (64 - s)) cur xs k (pow_split s hs).symm (Nat.pow_pos (by omega)) (by omega) (by omega) (hz (k + 1) (by omega)) hv
    rw [← hx, ← hc] at this
    exact this

set_option maxRecDepth 100000 in
set_option maxHeartbeats 1000000 in
theorem up_any (v : Value) (a s : Nat) (w : World) (h : IsN w v a) (hs64 : s < 64) (hlen : (dig W64 a).length ≤ 100000000) (R : Ending → World → Prop)
    (hR : ∀ cur w', Arr .u64 63 w' w.heap.size cur → cur.length = (dig W64 a).length + 1 → (∀ d ∈ cur, d < W64) → val W64 cur = 2 ^ s * a → Below w.heap.size w w' → w'.heap.size = w.heap.size + 1 →
      R (.returned (.slice (some ⟨w.heap.size, 0, none⟩) ((dig W64 a).length + 1) ((dig W64 a).length + 1))) w') :
    Calls Tryd.prog 112 #[v, .int .i64 ((s : Nat) : Int)] w R := by
  have HR := Lib.hid hR; clear hR
  obtain ⟨ao, n, cap, rfl, hn, hsl⟩ := h.open
  obtain ⟨xs, hxs⟩ : ∃ xs, xs = dig W64 a := ⟨_, rfl⟩
  have hvx : val W64 xs = a := by rw [hxs]; exact val_dig W64_two _
  have hx : ∀ d ∈ xs, d < W64 := by rw [hxs]; exact limb_lt _
  unfold IsN at hsl
  rw [← hn] at hlen HR
  rw [← hxs] at hsl hn
  have HN := Lib.hid hn
  have HVX := Lib.hid hvx
  have HX := Lib.hid hx
  have HS := Lib.hid hsl
  have hs0 : (0 : Int) ≤ (s : Int) := by omega
  have hs65 : (s : Int) < 64 := by omega
  clear h hn hxs hvx hx hsl
  go_enter Tryd.func112, Tryd.ntmps112
  go_wp2_with (at_make; go_must (refine wpList_makez _ rfl (.tmp 10) 36 rfl 63 .u64 8 Tryd.underlying36 info_u64 (by omega) .i64 _ (n + 1) rfl (by omega) (by omega) ?_))
  intro W hA hbW hsW
  have hst : UpRel w w.heap.size n s xs (.int .i64 0) W :=
    ⟨0, _, rfl, Nat.zero_le _, hA, by simp, zeros_lt W64_two _, by rw [getD_zeros]; exact Nat.pow_pos (by omega), fun i _ => getD_zeros _ _, by rw [val_zeros]; simp [val], hbW, hsW⟩
  have HST := Lib.hid hst
  clear hst hA hbW hsW
  go_wp2
  go_loopw [14] (fun i wr => UpRel w w.heap.size n s xs i wr) (fun i _ => n - (intOf i).toNat)
  case atStart => exact HST.out
  case round =>
    clear HST
    obtain ⟨k, cur, rfl, hk, hA, hl, hlt, hck, hz, hv, hbel, hsz⟩ := hrel
    have HL := Lib.hid hl
    have HLT := Lib.hid hlt
    have HCK := Lib.hid hck
    have HZ := Lib.hid hz
    have HV := Lib.hid hv
    have HB := Lib.hid hbel
    have HSZ := Lib.hid hsz
    clear hl hlt hck hz hv hsz
    by_cases hkn : k < n
    · obtain ⟨b, o, rfl, hb1, hc1⟩ := Sl.at HS.out k hkn
      rw [← hbel.cell (p := ⟨b, o + k, none⟩) hb1] at hc1
      obtain ⟨x, hx⟩ : ∃ x, x = xs.getD k 0 := ⟨_, rfl⟩
      rw [← hx] at hc1
      obtain ⟨c, hc⟩ : ∃ c, c = cur.getD k 0 := ⟨_, rfl⟩
      have hcl : c < 2 ^ s := by rw [hc]; exact HCK.out
      have hc2 := hA.cell k (by rw [HL.out]; omega)
      have hf2 := hA.frozen k
      have hf3 := hA.frozen (k + 1)
      have hc3 := hA.cell (k + 1) (by rw [HL.out]; omega)
      rw [← hc] at hc2
      rw [HZ.out (k + 1) (by omega)] at hc3
      have hxl : x < W64 := by rw [hx]; exact getD_lt (by rw [W64_eq]; omega) _ HX.out _
      obtain ⟨h, hh1, hh2, hh3⟩ := shl_or x c s (by omega) hxl hcl
      obtain ⟨z, hzz⟩ : ∃ z, z = c + x % 2 ^ (64 - s) * 2 ^ s := ⟨_, rfl⟩
      obtain ⟨d, hdd⟩ : ∃ d, d = x / 2 ^ (64 - s) := ⟨_, rfl⟩
      have hsr := shr_nat x (64 - s)
      rw [← hdd] at hsr
      rw [← hzz] at hh2 hh3
      have hcn : (0 : Int) ≤ 64 - (s : Int) := by omega
      have hcn2 : ¬ (64 - (s : Int) < 0) := by omega
      have hcn3 : (64 - (s : Int)).toNat = 64 - s := by omega
      have hkn2 : (k : Int) < (n : Int) := by omega
      have hki : (0 : Int) ≤ (k : Int) := by omega
      have hkn3 : (k : Int) < (n : Int) + 1 := by omega
      have HXL := Lib.hid hxl
      have HXE := Lib.hid hx
      have HCE := Lib.hid hc
      have HH3 := Lib.hid hh3
      have HREL := Lib.hid (up_rel w wr w.heap.size n s k x c xs cur hkn HN.out (by omega) hA HL.out HLT.out HZ.out HV.out HB.out HSZ.out (Nat.le_refl _) hx hc hxl z hzz d hdd hh3)
      clear hx hc hcl hbel hxl hh3 hA hzz hdd
      go_wp2
      go_region
      all_goals
        go_wp2
        go_roundw
        case rel => exact HREL.out
        case measure => simp [intOf]; omega
    · obtain rfl : k = n := by omega
      clear hbel
      go_wp2
      first | go_ret | skip
      refine HR.out cur wr hA HL.out HLT.out ?_ HB.out HSZ.out
      rw [HV.out, List.take_of_length_le (by rw [← HN.out]; exact Nat.le_refl _), HVX.out]
end Go.Proofs.YtjpbmagpieonoaaDoor
