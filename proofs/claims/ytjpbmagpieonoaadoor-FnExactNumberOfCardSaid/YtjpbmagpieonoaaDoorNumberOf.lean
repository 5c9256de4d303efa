import Derived.Test.YtjpbmagpieonoaaDoorText
import Derived.Test.YtjpbmagpieonoaaDoorShelf
import Derived.Lib.AppendIntMem
import Derived.Lib.LaidTab
import Derived.WalkSmall
namespace Go.Proofs.YtjpbmagpieonoaaDoor
open Go Go.RowKit

theorem decDigits_decs (n : Nat) : Lib.decDigits n = decs n := by
  induction n using Nat.strongRecOn with
  | _ n ih =>
    rw [Lib.decDigits]
    by_cases h : n < 10
    · rw [dif_pos h]
      by_cases h0 : n = 0
      · subst h0; rfl
      · rw [decs, if_neg h0, dig_small h0 h]; rfl
    · rw [dif_neg h, ih (n / 10) (by omega), decs, decs, if_neg (by omega), if_neg (by omega), dig_pos (by omega) (by omega : n ≠ 0)]
      simp [chr]

theorem itoa_textQ (n : Int) : Lib.itoa n = textQ (n : Rat) := by
  have h1 : ((n : Rat)).num = n := rfl
  have h2 : ((n : Rat)).den = 1 := rfl
  rw [Lib.itoa, textQ, h1, h2, decDigits_decs, decDigits_decs]
  by_cases h : n < 0
  · rw [if_pos h, if_pos h]; simp
  · rw [if_neg h, if_neg h]
    have : n.toNat = n.natAbs := by omega
    rw [this]; simp

theorem var?_later {P : Program} {W W' : World} {n : String} {cs : Array Value} (h : Below W.heap.size W W') (hv : W.var? P n = some cs) : W'.var? P n = some cs := by
  have hv' := hv
  unfold World.var? at hv'
  cases hg : P.globalNamed n with
  | none => rw [hg] at hv'; simp at hv'
  | some g =>
    refine var?_below h hg ?_ hv
    rw [hg] at hv'
    simp only [Option.bind_some] at hv'
    rcases Nat.lt_or_ge g W.heap.size with h | h
    · exact h
    · rw [Array.getElem?_eq_none (by omega)] at hv'; simp at hv'

set_option maxRecDepth 100000 in
theorem spec_numberOf (n : Int) (w : World) (h1 : -9223372036854775807 - 1 ≤ n) (h2 : n ≤ 9223372036854775807) (R : Ending → World → Prop)
    (hR : ∀ w', Below w.heap.size w w' → R (.returned (.string ⟨(textQ (n : Rat)).toArray⟩)) w') :
    Calls Tryd.prog 19 #[.int .i64 n] w R := by
  have HR := Lib.hid hR; clear hR
  go_enter Tryd.func19, Tryd.ntmps19
  go_wp2_with fail
  refine int_any n _ h1 h2 _ ?_
  intro v w1 hq hb1
  have hv := hq.open
  obtain ⟨a1, n1, c1, a2, n2, c2, rfl, e1, e2, _, _⟩ := hv
  clear e1 e2
  dsimp only
  go_wp2_with fail
  refine text_any _ _ _ hq (Nat.le_trans (dig_length_ten (e := 20) (by omega) (by show n.natAbs < _; omega)) (by omega)) (by show (dig 10000 1).length ≤ _; rw [dig_small (by omega) (by omega)]; simp) _ ?_
  intro w2 hb2
  have HB := Lib.hid (hb1.trans (hb2.mono hb1.size))
  clear hb1 hb2 hq
  dsimp only
  go_wp2
  first | go_ret | skip
  exact HR.out _ HB.out

set_option maxRecDepth 100000 in
theorem impl_numberOf (n : Int) (w : World) (h1 : -9223372036854775808 ≤ n) (h2 : n ≤ 9223372036854775807) (htab : Lib.TabIs Tryd.prog w "internal/strconv.uint64pow10" .u64 Lib.pow10Tab) (R : Ending → World → Prop)
    (hR : ∀ w', Below w.heap.size w w' → R (.returned (.string ⟨(textQ (n : Rat)).toArray⟩)) w') :
    Calls Tryd.prog 20 #[.int .i64 n] w R := by
  have HR := Lib.hid hR; clear hR
  have HT := Lib.hid htab; clear htab
  have H1 := Lib.hid h1
  have H2 := Lib.hid h2
  clear h1 h2
  go_enter Tryd.func20, Tryd.ntmps20
  go_wp2_with fail
  refine (Tryd.strconv_FormatInt_10 n H1.out H2.out _ HT.out).mono ?_
  rintro e w1 ⟨rfl, k, os, rfl⟩
  rw [itoa_textQ]
  have HB := Lib.hid (Lib.below_grow w.heap.size w (Nat.le_refl _) k os)
  dsimp only
  go_wp2
  first | go_ret | skip
  exact HR.out _ HB.out

set_option maxRecDepth 100000 in
theorem law_numberOf (n : Int) (w : World) (h1 : -9223372036854775808 ≤ n) (h2 : n ≤ 9223372036854775807) (htab : Lib.TabIs Tryd.prog w "internal/strconv.uint64pow10" .u64 Lib.pow10Tab) (R : Ending → World → Prop)
    (hR : ∀ w', Below w.heap.size w w' → R (.returned (.bool true)) w') :
    Calls Tryd.prog 6 #[.int .i64 n] w R := by
  have HR := Lib.hid hR; clear hR
  have HT := Lib.hid htab; clear htab
  have H1 := Lib.hid h1
  have H2 := Lib.hid h2
  clear h1 h2
  go_enter Tryd.func6, Tryd.ntmps6
  go_wp2_with fail
  refine spec_numberOf n _ (by have := H1.out; omega) H2.out _ ?_
  intro w1 hb1
  have htab1 := HT.out
  dsimp only
  go_wp2_with fail
  refine impl_numberOf n _ H1.out H2.out ?_ _ ?_
  · exact var?_later hb1 htab1
  · intro w2 hb2
    have HB := Lib.hid (hb1.trans (hb2.mono hb1.size))
    obtain ⟨T, hT⟩ : ∃ T, T = textQ (n : Rat) := ⟨_, rfl⟩
    rw [← hT]
    clear hb1 hb2 hT htab1
    dsimp only
    go_wp2
    first | go_ret | skip
    exact HR.out _ HB.out
end Go.Proofs.YtjpbmagpieonoaaDoor
