import Derived.Test.YtjpbmagpieonoaaDoorProg
import Derived.Test.YtjpbmagpieonoaaDoorKit
namespace Go.Proofs.YtjpbmagpieonoaaDoor
open Go Go.RowKit

/-- the value of the model's type of an integer of any size -/
def IsZ (w : World) (v : Value) (z : Int) : Prop := ∃ s, v = .agg #[.bool (decide (z < 0)), s] ∧ Sl .i64 w s (dig 10000 z.natAbs)

theorem IsZ.open {w : World} {v : Value} {z : Int} (h : IsZ w v z) : ∃ ao n cap, v = .agg #[.bool (decide (z < 0)), .slice ao n cap] ∧ n = (dig 10000 z.natAbs).length ∧ Sl .i64 w (.slice ao n cap) (dig 10000 z.natAbs) := by
  obtain ⟨s, h1, h2⟩ := h
  obtain ⟨ao, cap, h3, h4⟩ := h2
  exact ⟨ao, _, cap, by rw [h1, h3], rfl, ao, cap, rfl, h4⟩

theorem IsZ.later {w w' : World} {v : Value} {z : Int} {B : Nat} (h : IsZ w v z) (hb : Below B w w') (hB : w.heap.size ≤ B) : IsZ w' v z := by
  obtain ⟨s, h1, h2⟩ := h; exact ⟨s, h1, h2.later hb hB⟩

set_option maxRecDepth 100000 in
theorem cut_core (neg : Bool) (ao : Option Addr) (n cap : Nat) (xs : List Nat) (w : World) (hs : Sl .i64 w (.slice ao n cap) xs) (hlen : xs.length ≤ 1000000000) (R : Ending → World → Prop)
    (hR : ∀ n' w', Sl .i64 w' (.slice ao n' cap) (xs.take (cutLen xs xs.length)) → Below w.heap.size w w' → R (.returned (.agg #[.bool (neg && decide (0 < cutLen xs xs.length)), .slice ao n' cap])) w') :
    Calls Tryd.prog 56 #[.bool neg, .slice ao n cap] w R := by
  have HR := Lib.hid hR; clear hR
  rcases hs.cases with ⟨rfl, ao2, cap2, he⟩ | ⟨h0, b, off, cap2, he, hcap, hb, hc⟩ <;> (simp only [Value.slice.injEq] at he; obtain ⟨rfl, rfl, rfl⟩ := he)
  · go_enter Tryd.func56, Tryd.ntmps56
    go_wp2
    go_loop [5] (fun n => n = .int .i64 0) (fun _ => 0)
    case atStart => rfl
    case round =>
      subst hrel
      cases neg
      · go_wp2
        refine bodyPost_ret (v := .agg #[.bool false, .slice ao 0 cap]) (by simp [results, Tryd.results56, go_sem]) rfl ?_
        exact HR.out _ _ (Sl.nil _ _ _ _) ((Below.refl _ _).alloc (Nat.le_refl _) _)
      · go_wp2
        refine bodyPost_ret (v := .agg #[.bool false, .slice ao 0 cap]) (by simp [results, Tryd.results56, go_sem]) rfl ?_
        exact HR.out _ _ (Sl.nil _ _ _ _) ((Below.refl _ _).alloc (Nat.le_refl _) _)
  · obtain ⟨len, hlen'⟩ : ∃ len, len = xs.length := ⟨_, rfl⟩
    rw [← hlen'] at h0 hc hlen hcap HR ⊢
    have Hl := Lib.hid hlen'; clear hlen'
    go_enter Tryd.func56, Tryd.ntmps56
    go_wp2
    go_loop [5] (fun n => ∃ k : Nat, k ≤ len ∧ n = .int .i64 k ∧ cutLen xs k = cutLen xs len) (fun n => (intOf n).toNat)
    case atStart => exact ⟨len, Nat.le_refl _, rfl, rfl⟩
    case round =>
      obtain ⟨k, hk, rfl, hcut⟩ := hrel
      have Hcut := Lib.hid hcut; clear hcut
      by_cases hk0 : 0 < k
      · obtain ⟨j, rfl⟩ : ∃ j, k = j + 1 := ⟨k - 1, by omega⟩
        have hcell := hc j (by omega)
        obtain ⟨x, hx⟩ : ∃ x, x = xs.getD j 0 := ⟨_, rfl⟩
        rw [← hx] at hcell
        have Hx := Lib.hid hx; clear hx
        by_cases hz : x = 0
        · subst hz
          go_wp2
          go_round
          case rel => exact ⟨j, by omega, by go_num, by have := Hcut.out; rw [← this, cutLen, if_pos Hx.out.symm]⟩
          case measure => simp [intOf]
        · have e : (((x : Nat) : Int) == 0) = false := by simp; omega
          have hce : cutLen xs len = j + 1 := by have := Hcut.out; rw [← this, cutLen, if_neg (by rw [← Hx.out]; exact hz)]
          have HC := Lib.hid hce; clear hce
          have HS := fun w' (hb' : Below w.heap.size w w') => (Sl.take (j + 1) (by rw [← Hl.out]; exact hk) (by rw [← Hl.out]; exact hcap) (Nat.lt_of_lt_of_le hb hb'.size) (fun i hi => by rw [hb'.cell (by exact hb)]; exact hc i (by rw [Hl.out]; exact hi)) : Sl .i64 w' (.slice (some ⟨b, off, none⟩) (j + 1) cap) (xs.take (j + 1)))
          rw [HC.out] at HR
          have HS := Lib.hid HS
          clear hc
          cases neg
          all_goals
            go_wp2
            refine bodyPost_ret_at (by simp [results, Tryd.results56, go_sem] <;> rfl) rfl ?_
            exact HR.out _ _ (HS.out _ ((Below.refl _ _).alloc (Nat.le_refl _) _)) ((Below.refl _ _).alloc (Nat.le_refl _) _)
      · obtain rfl : k = 0 := by omega
        have hce : cutLen xs len = 0 := by have := Hcut.out; rw [← this]; rfl
        rw [hce] at HR
        clear hce
        cases neg
        all_goals
          go_wp2
          refine bodyPost_ret_at (by simp [results, Tryd.results56, go_sem] <;> rfl) rfl ?_
          exact HR.out _ _ (Sl.nil _ _ _ _) ((Below.refl _ _).alloc (Nat.le_refl _) _)
/-- the digits at the beginning, without zeros at the end -/
theorem cut_at (neg : Bool) (ao : Option Addr) (n cap : Nat) (xs : List Nat) (w : World) (hs : Sl .i64 w (.slice ao n cap) xs) (hd : ∀ d ∈ xs, d < 10000) (hlen : xs.length ≤ 1000000000) (R : Ending → World → Prop)
    (hR : ∀ n' w', Sl .i64 w' (.slice ao n' cap) (dig 10000 (val 10000 xs)) → Below w.heap.size w w' → R (.returned (.agg #[.bool (neg && decide (0 < val 10000 xs)), .slice ao n' cap])) w') :
    Calls Tryd.prog 56 #[.bool neg, .slice ao n cap] w R := by
  refine cut_core neg ao n cap xs w hs hlen R fun n' w' h1 h2 => ?_
  have hpos : decide (0 < cutLen xs xs.length) = decide (0 < val 10000 xs) := by
    rw [cutLen_eq (by omega : 2 ≤ 10000) xs hd]
    by_cases h0 : val 10000 xs = 0
    · rw [h0, dig_zero]; rfl
    · have : (dig 10000 (val 10000 xs)).length ≠ 0 := fun e => h0 ((dig_eq_nil (by omega)).1 (List.length_eq_zero_iff.1 e))
      rw [decide_eq_true (by omega), decide_eq_true (by omega)]
  rw [take_cut (by omega : 2 ≤ 10000) xs hd] at h1
  rw [hpos]
  exact hR n' w' h1 h2

theorem cut_any (neg : Bool) (s : Value) (xs : List Nat) (w : World) (hs : Sl .i64 w s xs) (hd : ∀ d ∈ xs, d < 10000) (hlen : xs.length ≤ 1000000000) (R : Ending → World → Prop)
    (hR : ∀ s' w', Sl .i64 w' s' (dig 10000 (val 10000 xs)) → Below w.heap.size w w' → R (.returned (.agg #[.bool (neg && decide (0 < val 10000 xs)), s'])) w') :
    Calls Tryd.prog 56 #[.bool neg, s] w R := by
  obtain ⟨ao, cap, rfl, hc⟩ := hs
  exact cut_at neg ao _ cap xs w ⟨ao, cap, rfl, hc⟩ hd hlen R fun n' w' h1 h2 => hR _ w' h1 h2

/-- an integer from its sign and digits that may end in zeros -/
theorem cut_z (neg : Bool) (s : Value) (xs : List Nat) (w : World) (hs : Sl .i64 w s xs) (hd : ∀ d ∈ xs, d < 10000) (hlen : xs.length ≤ 1000000000) (z : Int) (hz : z = if neg then -(val 10000 xs : Int) else val 10000 xs) (R : Ending → World → Prop)
    (hR : ∀ v' w', IsZ w' v' z → Below w.heap.size w w' → R (.returned v') w') :
    Calls Tryd.prog 56 #[.bool neg, s] w R := by
  refine cut_any neg s xs w hs hd hlen R fun s' w' h1 h2 => hR _ w' ⟨s', ?_, ?_⟩ h2
  · have : (neg && decide (0 < val 10000 xs)) = decide (z < 0) := by
      cases neg
      · rw [hz]; simp
      · rw [hz]; simp
    rw [this]
  · have : z.natAbs = val 10000 xs := by rw [hz]; split <;> omega
    rw [this]; exact h1
end Go.Proofs.YtjpbmagpieonoaaDoor
