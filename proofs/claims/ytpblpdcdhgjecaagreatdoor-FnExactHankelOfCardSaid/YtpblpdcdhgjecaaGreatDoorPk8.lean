/- Contracts of functions of the program and of the model: RowKit, EnvLaidT, LawAdd, LawSub. -/
import Derived.Test.YtpblpdcdhgjecaaGreatDoorPk7
import Derived.SliceStrings
import Derived.Carry
import Derived.Lib.LaidTab
set_option linter.all false
set_option linter.unusedVariables false
set_option linter.unusedSimpArgs false
set_option linter.unnecessarySimpa false
set_option linter.deprecated false
namespace Go.Proofs.YtpblpdcdhgjecaaGreatDoor.EnvLaid
open Go Go.ChangeShapes Go.WideShapes Go.ChangeAt Go.RowKit

theorem laidOut : laidOutB Tryz.prog = true := by kernel_rfl
theorem cellsStr : Tryz.prog.cellsOf 9 = 1 := by kernel_rfl

theorem wf_i64 {n : Int} (h : (Lit.int .i64 n).wf = true) : -9223372036854775807 - 1 ≤ n ∧ n ≤ 9223372036854775807 := by
  have e1 : IntKind.i64.min = -9223372036854775807 - 1 := rfl
  have e2 : IntKind.i64.max = 9223372036854775807 := rfl
  simp [Lit.wf, e1, e2] at h
  omega

theorem var?_after {P : Program} {W W' : World} {n : String} {cs : Array Value} (h : Below W.heap.size W W') (hv : W.var? P n = some cs) : W'.var? P n = some cs := by
  have hv' := hv
  unfold World.var? at hv'
  cases hg : P.globalNamed n with
  | none => rw [hg] at hv'; simp at hv'
  | some g =>
    refine var?_below h hg ?_ hv
    rw [hg] at hv'
    simp only [Option.bind_some] at hv'
    rcases Nat.lt_or_ge g W.heap.size with h | h
    · exact h
    · rw [Array.getElem?_eq_none (by omega)] at hv'; simp at hv'

/-- a list of texts among the cells that came in -/
theorem open_textsC {H : Type} {enc : TypeId × Value → H} {W : World} {x : Value} {fuel : Nat} {y : DataW H × List MemPlace}
    (hf : DataW.trod enc Tryz.prog W 0 (fun _ => true) true fuel 25 [x] = some y) :
    ∃ L, TxL W x L ∧ L.length ≤ maxLen ∧ ∀ s ∈ L, s.size ≤ maxLen := by
  rcases open_strings Tryz.underlying25 Tryz.underlying9 cellsStr hf with ⟨hcs, hx⟩ | ⟨a, len, cap, ss, hcs, _, hl, hm, hz, hx, hcell, hsz⟩
  · simp at hcs
    subst hcs
    exact ⟨[], SlE.nil _ _ _, Nat.zero_le _, by simp⟩
  · simp at hcs
    subst hcs
    simp only [if_true] at hz
    obtain ⟨b, off, spot⟩ := a
    by_cases h0 : len = 0
    · subst h0
      exact ⟨[], SlE.nil _ _ _, Nat.zero_le _, by simp⟩
    · have hspot : spot = none := by simpa [Addr.add] using World.cell?_spot (hcell 0 (by omega))
      subst hspot
      refine ⟨ss.take len, TxL.mk (by simp; omega) hl (by have := hcell 0 (by omega); rw [Addr.add_lit] at this; exact lt_of_cell this) (fun i s hi => ?_), by simp; omega, fun s hs => hsz s (List.mem_of_mem_take hs)⟩
      have hi' : i < len := by
        have := (List.getElem?_eq_some_iff.1 hi).1
        simp at this
        omega
      have e : ss.getD i ByteArray.empty = s := by
        rw [List.getElem?_take_of_lt hi'] at hi
        simp [List.getD, hi]
      have := hcell i (by omega)
      rw [Addr.add_lit, e] at this
      exact this

/-- a list of texts that came in -/
theorem open_texts {H : Type} {enc : TypeId × Value → H} {W : World} {a0 : Option Addr} {len cap : Nat} {d : DataW H} {ps : List MemPlace}
    (h : DataW.Trod enc Tryz.prog W 0 (fun _ => true) true 25 (.slice a0 len cap) d ps) :
    ∃ L, TxL W (.slice a0 len cap) L ∧ L.length ≤ maxLen ∧ ∀ s ∈ L, s.size ≤ maxLen := by
  obtain ⟨fuel, hf⟩ := h
  exact open_textsC (y := (d, ps)) (by simpa [Value.cells] using hf)
end Go.Proofs.YtpblpdcdhgjecaaGreatDoor.EnvLaid

namespace Go.Proofs.YtpblpdcdhgjecaaGreatDoor.EnvLaid
open Go Go.ChangeShapes Go.WideShapes Go.ChangeAt Go.RowKit

theorem gPow : Tryz.prog.globalNamed "internal/strconv.uint64pow10" = some 6 := by kernel_rfl
theorem tPow : (Tryz.prog.globals[6]?).map (·.type) = some 226 := by kernel_rfl

/-- what a row's condition gives -/
theorem env_ofT {W : World} (h : laidMetH Tryz.prog [("math/bits.deBruijn32tab", Rows.laid_math_bits_deBruijn32tab), ("math/bits.deBruijn64tab", Rows.laid_math_bits_deBruijn64tab), ("internal/strconv.uint64pow10", Rows.laid_internal_strconv_uint64pow10), ("errors.errorType", Rows.laid_errors_errorType), ("loop.example/g01120/impl.errForm", Rows.laid_loop_example_g01120_impl_errForm), ("loop.example/g01120/impl.errSize", Rows.laid_loop_example_g01120_impl_errSize)] W) :
    Env W ∧ (∃ a, W.var? Tryz.prog "loop.example/g01120/impl.errForm" = some #[.iface 232 (.pointer (some a))]) ∧ (∃ a, W.var? Tryz.prog "loop.example/g01120/impl.errSize" = some #[.iface 232 (.pointer (some a))]) ∧
      Lib.TabIs Tryz.prog W "internal/strconv.uint64pow10" .u64 Lib.pow10Tab := by
  have h' : laidMet Tryz.prog [("math/bits.deBruijn32tab", Rows.laid_math_bits_deBruijn32tab), ("math/bits.deBruijn64tab", Rows.laid_math_bits_deBruijn64tab), ("internal/strconv.uint64pow10", Rows.laid_internal_strconv_uint64pow10), ("loop.example/g01120/impl.errForm", Rows.laid_loop_example_g01120_impl_errForm), ("loop.example/g01120/impl.errSize", Rows.laid_loop_example_g01120_impl_errSize)] W ∧ handlesMet Tryz.prog [("errors.errorType", Rows.laid_errors_errorType)] W := h
  have h3 := laidMet.tail (laidMet.tail h'.1)
  have h4 := laidMet.tail h3
  obtain ⟨a1, s1, hv1, hc1, _, _⟩ := laid_sentinel h4 gForm tForm Tryz.underlying76 rowPtr Tryz.underlying232 Tryz.underlying252 rfl rfl Tryz.underlying9 cells190 cells9
  obtain ⟨a2, s2, hv2, hc2, _, _⟩ := laid_sentinel (laidMet.tail h4) gSize tSize Tryz.underlying76 rowPtr Tryz.underlying232 Tryz.underlying252 rfl rfl Tryz.underlying9 cells190 cells9
  exact ⟨⟨⟨a1, by simpa using World.var?_cell gForm hv1 0⟩, ⟨a2, by simpa using World.var?_cell gSize hv2 0⟩, handle_of h'.2⟩, ⟨a1, hv1⟩, ⟨a2, hv2⟩,
    Lib.tabIs_of_head gPow tPow Tryz.underlying226 Tryz.underlying122 (by kernel_rfl) (by kernel_rfl) h3⟩
end Go.Proofs.YtpblpdcdhgjecaaGreatDoor.EnvLaid

namespace Go.Proofs.YtpblpdcdhgjecaaGreatDoor
open Go Go.RowKit

set_option maxRecDepth 100000 in
set_option maxHeartbeats 2000000 in
theorem combAdd_any (s t : ByteArray) (w : World) (hE : Env w) (htab : Lib.TabIs Tryz.prog w "internal/strconv.uint64pow10" .u64 Lib.pow10Tab) (R : Ending → World → Prop)
    (hR : ∀ w', Below w.heap.size w w' → R (.returned (.tuple #[.string (outS (combO (· + ·) s.data.toList t.data.toList)), .bool (outB (combO (· + ·) s.data.toList t.data.toList))])) w') :
    Calls Tryz.prog 53 #[.string s, .string t, .func (Fn.func 54) #[] #[]] w R := by
  have HR := Lib.hid hR; clear hR
  have HE := Lib.hid hE; clear hE
  have HTAB := Lib.hid htab; clear htab
  go_enter Tryz.func53, Tryz.ntmps53
  go_wp2_with fail
  refine read2_any s t _ HE.out _ ?_ ?_
  · intro va vb a b w1 ha hb hva hvb hb1
    rw [combO_some ha hb] at HR
    obtain ⟨na, a1, n1, c1, a2, n2, c2, hna, rfl, hn1, hn2⟩ := hva.parts
    obtain ⟨nb, a3, n3, c3, a4, n4, c4, hnb, rfl, hn3, hn4⟩ := hvb.parts
    obtain ⟨L, hL⟩ : ∃ L, L = (w1.alloc (.cells #[.bool na, .slice a1 n1 c1, .slice a2 n2 c2] 72)).alloc (.cells #[.bool nb, .slice a3 n3 c3, .slice a4 n4 c4] 72) := ⟨_, rfl⟩
    have hb2 : Below (w1.heap.size + 1) (w1.alloc (.cells #[.bool na, .slice a1 n1 c1, .slice a2 n2 c2] 72)) L := by rw [hL]; exact (Below.refl _ _).alloc (by simp) _
    have B0 : Box3 L w1.heap.size (.bool na) (.slice a1 n1 c1) (.slice a2 n2 c2) 72 := (Box3.made w1 _ _ _ _).later hb2 (by omega)
    have B1 : Box3 L (w1.heap.size + 1) (.bool nb) (.slice a3 n3 c3) (.slice a4 n4 c4) 72 := by
      have := Box3.made (w1.alloc (.cells #[.bool na, .slice a1 n1 c1, .slice a2 n2 c2] 72)) (.bool nb) (.slice a3 n3 c3) (.slice a4 n4 c4) 72
      rw [World.size_alloc, ← hL] at this; exact this
    have hw1 : Below w1.heap.size w1 L := by rw [hL]; exact ((Below.refl w1.heap.size w1).alloc (Nat.le_refl _) _).alloc (by simp) _
    have HL := Lib.hid hL
    have HA := Lib.hid (hva.later hw1 (Nat.le_refl _))
    have HB := Lib.hid (hvb.later hw1 (Nat.le_refl _))
    have HEX := Lib.hid (hb1.trans (hw1.mono hb1.size))
    have HLA := Lib.hid (few_len (numO_few ha) (B := W64) (by rw [W64_eq]; omega))
    have HLB := Lib.hid (few_len (numO_few hb) (B := W64) (by rw [W64_eq]; omega))
    obtain ⟨⟨hA, hB, hC⟩, _, _, _⟩ := B0.cells
    obtain ⟨⟨hD, hF, hG⟩, _, _, _⟩ := B1.cells
    rw [hL] at hA hB hC hD hF hG
    clear ha hb hva hvb hb1 hna hnb hn1 hn2 hn3 hn4 hL hb2 B0 B1 hw1
    dsimp only
    go_wp2_with fail
    rw [← HL.out]
    refine rplus_any _ _ a b _ HA.out HB.out (Nat.le_trans HLA.out.1 (by omega)) (Nat.le_trans HLA.out.2 (by omega)) (Nat.le_trans HLB.out.1 (by omega)) (Nat.le_trans HLB.out.2 (by omega)) _ ?_
    intro vr w2 hr hb2
    obtain ⟨q, hq⟩ : ∃ q : Rat, q = a + b := ⟨_, rfl⟩
    rw [← hq] at HR
    rw [← hq] at hr
    obtain ⟨nr, a5, n5, c5, a6, n6, c6, hnr, rfl, _, _⟩ := hr.parts
    have HR2 := Lib.hid hr
    have HB2 := Lib.hid (HEX.out.trans (hb2.mono HEX.out.size))
    clear hr hb2 hnr hq hA hB hC hD hF hG
    dsimp only
    go_wp2_with fail
    refine rtext_o _ q _ HR2.out (tab_later HTAB.out HB2.out (Nat.le_refl _)) _ ?_
    intro w3 hb3
    have HB3 := Lib.hid (HB2.out.trans (hb3.mono HB2.out.size))
    obtain ⟨S, hS⟩ : ∃ S, S = outS (some q) := ⟨_, rfl⟩
    obtain ⟨B, hB⟩ : ∃ B, B = outB (some q) := ⟨_, rfl⟩
    rw [← hS, ← hB] at HR ⊢
    clear hS hB hb3
    dsimp only
    go_wp2
    first | go_ret | skip
    exact HR.out _ HB3.out
  · intro e w1 hn he hb1
    rw [combO_none hn] at HR
    obtain ⟨t', p, rfl⟩ := he
    have HB := Lib.hid hb1
    clear hb1 hn
    unfold zeroR
    dsimp only
    go_wp2
    first | go_ret | skip
    exact HR.out _ ((HB.out.alloc HB.out.size _).alloc (by simp; have := HB.out.size; omega) _)

set_option maxRecDepth 100000 in
set_option maxHeartbeats 2000000 in
theorem impl_addNumbers (s t : ByteArray) (w : World) (hE : Env w) (htab : Lib.TabIs Tryz.prog w "internal/strconv.uint64pow10" .u64 Lib.pow10Tab) (R : Ending → World → Prop)
    (hR : ∀ w', Below w.heap.size w w' → R (.returned (.tuple #[.string (outS (combO (· + ·) s.data.toList t.data.toList)), .bool (outB (combO (· + ·) s.data.toList t.data.toList))])) w') :
    Calls Tryz.prog 15 #[.string s, .string t] w R := by
  have HR := Lib.hid hR; clear hR
  have HE := Lib.hid hE; clear hE
  have HTAB := Lib.hid htab; clear htab
  go_enter Tryz.func15, Tryz.ntmps15
  go_wp2_with fail
  refine combAdd_any s t _ HE.out HTAB.out _ ?_
  intro w1 hb1
  have HB1 := Lib.hid hb1
  obtain ⟨S, hS⟩ : ∃ S, S = outS (combO (· + ·) s.data.toList t.data.toList) := ⟨_, rfl⟩
  obtain ⟨B, hB⟩ : ∃ B, B = outB (combO (· + ·) s.data.toList t.data.toList) := ⟨_, rfl⟩
  rw [← hS, ← hB] at HR ⊢
  clear hS hB hb1
  dsimp only
  go_wp2
  first | go_ret | skip
  exact HR.out _ HB1.out

set_option maxRecDepth 100000 in
set_option maxHeartbeats 2000000 in
theorem spec_addNumbers (s t : ByteArray) (w : World) (hs : s.size ≤ 1100000) (ht : t.size ≤ 1100000) (R : Ending → World → Prop)
    (hR : ∀ w', Below w.heap.size w w' → R (.returned (.tuple #[.string (outS (combO (· + ·) s.data.toList t.data.toList)), .bool (outB (combO (· + ·) s.data.toList t.data.toList))])) w') :
    Calls Tryz.prog 14 #[.string s, .string t] w R := by
  have HR := Lib.hid hR; clear hR
  have HS := Lib.hid (And.intro hs ht)
  clear hs ht
  go_enter Tryz.func14, Tryz.ntmps14
  go_wp2_with fail
  refine isq_any s _ HS.out.1 _ ?_
  intro w1 hb1
  have HB1 := Lib.hid hb1
  clear hb1
  cases ha : numO s.data.toList with
  | none =>
    rw [combO_none (.inl ha)] at HR
    rw [Option.isSome_none]
    clear ha
    dsimp only
    go_wp2
    first | go_ret | skip
    exact HR.out _ HB1.out
  | some a =>
    have HA := Lib.hid ha
    rw [Option.isSome_some]
    clear ha
    dsimp only
    go_wp2_with fail
    refine isq_any t _ HS.out.2 _ ?_
    intro w2 hb2
    have HB2 := Lib.hid (HB1.out.trans (hb2.mono HB1.out.size))
    clear hb2
    cases hb : numO t.data.toList with
    | none =>
      rw [combO_none (.inr hb)] at HR
      rw [Option.isSome_none]
      clear hb
      dsimp only
      go_wp2
      first | go_ret | skip
      exact HR.out _ HB2.out
    | some b =>
      have HBB := Lib.hid hb
      rw [combO_some HA.out hb] at HR
      rw [Option.isSome_some]
      have HLA := Lib.hid (few_len (numO_few HA.out) (B := 10000) (by omega))
      have HLB := Lib.hid (few_len (numO_few hb) (B := 10000) (by omega))
      clear hb
      dsimp only
      go_wp2_with fail
      refine ofq_any s a _ HA.out _ ?_
      intro va w3 hqa hb3
      obtain ⟨na, a1, n1, c1, a2, n2, c2, rfl, _, _⟩ := hqa.parts
      have HQA := Lib.hid hqa
      have HB3 := Lib.hid (HB2.out.trans (hb3.mono HB2.out.size))
      clear hqa hb3
      dsimp only
      go_wp2_with fail
      refine ofq_any t b _ HBB.out _ ?_
      intro vb w4 hqb hb4
      obtain ⟨nb, a3, n3, c3, a4, n4, c4, rfl, _, _⟩ := hqb.parts
      have HQB := Lib.hid hqb
      have HQA' := Lib.hid (HQA.out.later hb4 (Nat.le_refl _))
      have HB4 := Lib.hid (HB3.out.trans (hb4.mono HB3.out.size))
      clear hqb hb4
      dsimp only
      go_wp2_with fail
      refine addQ_any _ _ a b _ HQA'.out HQB.out (Nat.le_trans HLA.out.1 (by omega)) (Nat.le_trans HLA.out.2 (by omega)) (Nat.le_trans HLB.out.1 (by omega)) (Nat.le_trans HLB.out.2 (by omega)) _ ?_
      intro vr w5 hr hb5
      have HLQ : Hid ((dig 10000 (a + b).num.natAbs).length ≤ 1000000000 ∧ (dig 10000 (a + b).den).length ≤ 1000000000) := Lib.hid (by
        have hbd := ((Bd.of (numO_few HA.out)).add (Bd.of (numO_few HBB.out))).len (B := 10000) (by omega)
        exact ⟨Nat.le_trans hbd.1 (by omega), Nat.le_trans hbd.2 (by omega)⟩)
      obtain ⟨q, hq⟩ : ∃ q : Rat, q = a + b := ⟨_, rfl⟩
      rw [← hq] at HR
      rw [← hq] at hr HLQ
      obtain ⟨nr, a5, n5, c5, a6, n6, c6, rfl, _, _⟩ := hr.parts
      have HQR := Lib.hid hr
      have HB5 := Lib.hid (HB4.out.trans (hb5.mono HB4.out.size))
      clear hr hb5 hq
      dsimp only
      go_wp2_with fail
      refine give_o _ q _ HQR.out HLQ.out.1 HLQ.out.2 _ ?_
      intro w6 hb6
      have HB6 := Lib.hid (HB5.out.trans (hb6.mono HB5.out.size))
      obtain ⟨S, hS⟩ : ∃ S, S = outS (some q) := ⟨_, rfl⟩
      obtain ⟨B, hB⟩ : ∃ B, B = outB (some q) := ⟨_, rfl⟩
      rw [← hS, ← hB] at HR ⊢
      clear hS hB hb6
      dsimp only
      go_wp2
      first | go_ret | skip
      exact HR.out _ HB6.out

set_option maxRecDepth 100000 in
set_option maxHeartbeats 1000000 in
theorem law_addNumbers (s t : ByteArray) (w : World) (hE : Env w) (htab : Lib.TabIs Tryz.prog w "internal/strconv.uint64pow10" .u64 Lib.pow10Tab) (R : Ending → World → Prop)
    (hR : ∀ w', Below w.heap.size w w' → R (.returned (.bool true)) w') :
    Calls Tryz.prog 3 #[.string s, .string t] w R := by
  have HR := Lib.hid hR; clear hR
  have HE := Lib.hid hE; clear hE
  have HTAB := Lib.hid htab; clear htab
  by_cases hs : s.size ≤ 1048576
  · have hsi : ¬ (1048576 : Int) < (s.size : Int) := by omega
    by_cases ht : t.size ≤ 1048576
    · have hti : ¬ (1048576 : Int) < (t.size : Int) := by omega
      have HS := Lib.hid (And.intro hs ht)
      clear hs ht
      go_enter Tryz.func3, Tryz.ntmps3
      go_wp2_with fail
      refine spec_addNumbers s t _ (by have := HS.out; omega) (by have := HS.out; omega) _ ?_
      intro w1 hb1
      have HB1 := Lib.hid hb1
      obtain ⟨S, hS⟩ : ∃ S, S = outS (combO (· + ·) s.data.toList t.data.toList) := ⟨_, rfl⟩
      obtain ⟨B, hB⟩ : ∃ B, B = outB (combO (· + ·) s.data.toList t.data.toList) := ⟨_, rfl⟩
      rw [← hS, ← hB]
      have HSS := Lib.hid hS
      have HBB := Lib.hid hB
      clear hb1 hS hB
      dsimp only
      go_wp2_with fail
      refine impl_addNumbers s t _ (HE.out.later HB1.out (Nat.le_refl _)) (tab_later HTAB.out HB1.out (Nat.le_refl _)) _ ?_
      intro w2 hb2
      rw [← HSS.out, ← HBB.out]
      have HB2 := Lib.hid (HB1.out.trans (hb2.mono HB1.out.size))
      clear hb2
      dsimp only
      cases B <;>
      · go_wp2
        first | go_ret | skip
        exact HR.out _ HB2.out
    · have hti : (1048576 : Int) < (t.size : Int) := by omega
      clear ht hs
      go_enter Tryz.func3, Tryz.ntmps3
      go_wp2
      first | go_ret | skip
      exact HR.out _ (Below.refl _ _)
  · have hsi : (1048576 : Int) < (s.size : Int) := by omega
    clear hs
    go_enter Tryz.func3, Tryz.ntmps3
    go_wp2
    first | go_ret | skip
    exact HR.out _ (Below.refl _ _)
end Go.Proofs.YtpblpdcdhgjecaaGreatDoor

namespace Go.Proofs.YtpblpdcdhgjecaaGreatDoor
open Go Go.RowKit

set_option maxRecDepth 100000 in
set_option maxHeartbeats 2000000 in
theorem combSub_any (s t : ByteArray) (w : World) (hE : Env w) (htab : Lib.TabIs Tryz.prog w "internal/strconv.uint64pow10" .u64 Lib.pow10Tab) (R : Ending → World → Prop)
    (hR : ∀ w', Below w.heap.size w w' → R (.returned (.tuple #[.string (outS (combO (· - ·) s.data.toList t.data.toList)), .bool (outB (combO (· - ·) s.data.toList t.data.toList))])) w') :
    Calls Tryz.prog 53 #[.string s, .string t, .func (Fn.func 56) #[] #[]] w R := by
  have HR := Lib.hid hR; clear hR
  have HE := Lib.hid hE; clear hE
  have HTAB := Lib.hid htab; clear htab
  go_enter Tryz.func53, Tryz.ntmps53
  go_wp2_with fail
  refine read2_any s t _ HE.out _ ?_ ?_
  · intro va vb a b w1 ha hb hva hvb hb1
    rw [combO_some ha hb] at HR
    obtain ⟨na, a1, n1, c1, a2, n2, c2, hna, rfl, hn1, hn2⟩ := hva.parts
    obtain ⟨nb, a3, n3, c3, a4, n4, c4, hnb, rfl, hn3, hn4⟩ := hvb.parts
    obtain ⟨L, hL⟩ : ∃ L, L = (w1.alloc (.cells #[.bool na, .slice a1 n1 c1, .slice a2 n2 c2] 72)).alloc (.cells #[.bool nb, .slice a3 n3 c3, .slice a4 n4 c4] 72) := ⟨_, rfl⟩
    have hb2 : Below (w1.heap.size + 1) (w1.alloc (.cells #[.bool na, .slice a1 n1 c1, .slice a2 n2 c2] 72)) L := by rw [hL]; exact (Below.refl _ _).alloc (by simp) _
    have B0 : Box3 L w1.heap.size (.bool na) (.slice a1 n1 c1) (.slice a2 n2 c2) 72 := (Box3.made w1 _ _ _ _).later hb2 (by omega)
    have B1 : Box3 L (w1.heap.size + 1) (.bool nb) (.slice a3 n3 c3) (.slice a4 n4 c4) 72 := by
      have := Box3.made (w1.alloc (.cells #[.bool na, .slice a1 n1 c1, .slice a2 n2 c2] 72)) (.bool nb) (.slice a3 n3 c3) (.slice a4 n4 c4) 72
      rw [World.size_alloc, ← hL] at this; exact this
    have hw1 : Below w1.heap.size w1 L := by rw [hL]; exact ((Below.refl w1.heap.size w1).alloc (Nat.le_refl _) _).alloc (by simp) _
    have HL := Lib.hid hL
    have HA := Lib.hid (hva.later hw1 (Nat.le_refl _))
    have HB := Lib.hid (hvb.later hw1 (Nat.le_refl _))
    have HEX := Lib.hid (hb1.trans (hw1.mono hb1.size))
    have HLA := Lib.hid (few_len (numO_few ha) (B := W64) (by rw [W64_eq]; omega))
    have HLB := Lib.hid (few_len (numO_few hb) (B := W64) (by rw [W64_eq]; omega))
    obtain ⟨⟨hA, hB, hC⟩, _, _, _⟩ := B0.cells
    obtain ⟨⟨hD, hF, hG⟩, _, _, _⟩ := B1.cells
    rw [hL] at hA hB hC hD hF hG
    clear ha hb hva hvb hb1 hna hnb hn1 hn2 hn3 hn4 hL hb2 B0 B1 hw1
    dsimp only
    go_wp2_with fail
    rw [← HL.out]
    refine rminus_any _ _ a b _ HA.out HB.out (Nat.le_trans HLA.out.1 (by omega)) (Nat.le_trans HLA.out.2 (by omega)) (Nat.le_trans HLB.out.1 (by omega)) (Nat.le_trans HLB.out.2 (by omega)) _ ?_
    intro vr w2 hr hb2
    obtain ⟨q, hq⟩ : ∃ q : Rat, q = a - b := ⟨_, rfl⟩
    rw [← hq] at HR
    rw [← hq] at hr
    obtain ⟨nr, a5, n5, c5, a6, n6, c6, hnr, rfl, _, _⟩ := hr.parts
    have HR2 := Lib.hid hr
    have HB2 := Lib.hid (HEX.out.trans (hb2.mono HEX.out.size))
    clear hr hb2 hnr hq hA hB hC hD hF hG
    dsimp only
    go_wp2_with fail
    refine rtext_o _ q _ HR2.out (tab_later HTAB.out HB2.out (Nat.le_refl _)) _ ?_
    intro w3 hb3
    have HB3 := Lib.hid (HB2.out.trans (hb3.mono HB2.out.size))
    obtain ⟨S, hS⟩ : ∃ S, S = outS (some q) := ⟨_, rfl⟩
    obtain ⟨B, hB⟩ : ∃ B, B = outB (some q) := ⟨_, rfl⟩
    rw [← hS, ← hB] at HR ⊢
    clear hS hB hb3
    dsimp only
    go_wp2
    first | go_ret | skip
    exact HR.out _ HB3.out
  · intro e w1 hn he hb1
    rw [combO_none hn] at HR
    obtain ⟨t', p, rfl⟩ := he
    have HB := Lib.hid hb1
    clear hb1 hn
    unfold zeroR
    dsimp only
    go_wp2
    first | go_ret | skip
    exact HR.out _ ((HB.out.alloc HB.out.size _).alloc (by simp; have := HB.out.size; omega) _)

set_option maxRecDepth 100000 in
set_option maxHeartbeats 2000000 in
theorem impl_subNumbers (s t : ByteArray) (w : World) (hE : Env w) (htab : Lib.TabIs Tryz.prog w "internal/strconv.uint64pow10" .u64 Lib.pow10Tab) (R : Ending → World → Prop)
    (hR : ∀ w', Below w.heap.size w w' → R (.returned (.tuple #[.string (outS (combO (· - ·) s.data.toList t.data.toList)), .bool (outB (combO (· - ·) s.data.toList t.data.toList))])) w') :
    Calls Tryz.prog 17 #[.string s, .string t] w R := by
  have HR := Lib.hid hR; clear hR
  have HE := Lib.hid hE; clear hE
  have HTAB := Lib.hid htab; clear htab
  go_enter Tryz.func17, Tryz.ntmps17
  go_wp2_with fail
  refine combSub_any s t _ HE.out HTAB.out _ ?_
  intro w1 hb1
  have HB1 := Lib.hid hb1
  obtain ⟨S, hS⟩ : ∃ S, S = outS (combO (· - ·) s.data.toList t.data.toList) := ⟨_, rfl⟩
  obtain ⟨B, hB⟩ : ∃ B, B = outB (combO (· - ·) s.data.toList t.data.toList) := ⟨_, rfl⟩
  rw [← hS, ← hB] at HR ⊢
  clear hS hB hb1
  dsimp only
  go_wp2
  first | go_ret | skip
  exact HR.out _ HB1.out

set_option maxRecDepth 100000 in
set_option maxHeartbeats 2000000 in
theorem spec_subNumbers (s t : ByteArray) (w : World) (hs : s.size ≤ 1100000) (ht : t.size ≤ 1100000) (R : Ending → World → Prop)
    (hR : ∀ w', Below w.heap.size w w' → R (.returned (.tuple #[.string (outS (combO (· - ·) s.data.toList t.data.toList)), .bool (outB (combO (· - ·) s.data.toList t.data.toList))])) w') :
    Calls Tryz.prog 16 #[.string s, .string t] w R := by
  have HR := Lib.hid hR; clear hR
  have HS := Lib.hid (And.intro hs ht)
  clear hs ht
  go_enter Tryz.func16, Tryz.ntmps16
  go_wp2_with fail
  refine isq_any s _ HS.out.1 _ ?_
  intro w1 hb1
  have HB1 := Lib.hid hb1
  clear hb1
  cases ha : numO s.data.toList with
  | none =>
    rw [combO_none (.inl ha)] at HR
    rw [Option.isSome_none]
    clear ha
    dsimp only
    go_wp2
    first | go_ret | skip
    exact HR.out _ HB1.out
  | some a =>
    have HA := Lib.hid ha
    rw [Option.isSome_some]
    clear ha
    dsimp only
    go_wp2_with fail
    refine isq_any t _ HS.out.2 _ ?_
    intro w2 hb2
    have HB2 := Lib.hid (HB1.out.trans (hb2.mono HB1.out.size))
    clear hb2
    cases hb : numO t.data.toList with
    | none =>
      rw [combO_none (.inr hb)] at HR
      rw [Option.isSome_none]
      clear hb
      dsimp only
      go_wp2
      first | go_ret | skip
      exact HR.out _ HB2.out
    | some b =>
      have HBB := Lib.hid hb
      rw [combO_some HA.out hb] at HR
      rw [Option.isSome_some]
      have HLA := Lib.hid (few_len (numO_few HA.out) (B := 10000) (by omega))
      have HLB := Lib.hid (few_len (numO_few hb) (B := 10000) (by omega))
      clear hb
      dsimp only
      go_wp2_with fail
      refine ofq_any s a _ HA.out _ ?_
      intro va w3 hqa hb3
      obtain ⟨na, a1, n1, c1, a2, n2, c2, rfl, _, _⟩ := hqa.parts
      have HQA := Lib.hid hqa
      have HB3 := Lib.hid (HB2.out.trans (hb3.mono HB2.out.size))
      clear hqa hb3
      dsimp only
      go_wp2_with fail
      refine ofq_any t b _ HBB.out _ ?_
      intro vb w4 hqb hb4
      obtain ⟨nb, a3, n3, c3, a4, n4, c4, rfl, _, _⟩ := hqb.parts
      have HQB := Lib.hid hqb
      have HQA' := Lib.hid (HQA.out.later hb4 (Nat.le_refl _))
      have HB4 := Lib.hid (HB3.out.trans (hb4.mono HB3.out.size))
      clear hqb hb4
      dsimp only
      go_wp2_with fail
      refine subQ_any _ _ a b _ HQA'.out HQB.out (Nat.le_trans HLA.out.1 (by omega)) (Nat.le_trans HLA.out.2 (by omega)) (Nat.le_trans HLB.out.1 (by omega)) (Nat.le_trans HLB.out.2 (by omega)) _ ?_
      intro vr w5 hr hb5
      have HLQ : Hid ((dig 10000 (a - b).num.natAbs).length ≤ 1000000000 ∧ (dig 10000 (a - b).den).length ≤ 1000000000) := Lib.hid (by
        have hbd := (sub_bd (Bd.of (numO_few HA.out)) (Bd.of (numO_few HBB.out))).len (B := 10000) (by omega)
        exact ⟨Nat.le_trans hbd.1 (by omega), Nat.le_trans hbd.2 (by omega)⟩)
      obtain ⟨q, hq⟩ : ∃ q : Rat, q = a - b := ⟨_, rfl⟩
      rw [← hq] at HR
      rw [← hq] at hr HLQ
      obtain ⟨nr, a5, n5, c5, a6, n6, c6, rfl, _, _⟩ := hr.parts
      have HQR := Lib.hid hr
      have HB5 := Lib.hid (HB4.out.trans (hb5.mono HB4.out.size))
      clear hr hb5 hq
      dsimp only
      go_wp2_with fail
      refine give_o _ q _ HQR.out HLQ.out.1 HLQ.out.2 _ ?_
      intro w6 hb6
      have HB6 := Lib.hid (HB5.out.trans (hb6.mono HB5.out.size))
      obtain ⟨S, hS⟩ : ∃ S, S = outS (some q) := ⟨_, rfl⟩
      obtain ⟨B, hB⟩ : ∃ B, B = outB (some q) := ⟨_, rfl⟩
      rw [← hS, ← hB] at HR ⊢
      clear hS hB hb6
      dsimp only
      go_wp2
      first | go_ret | skip
      exact HR.out _ HB6.out

set_option maxRecDepth 100000 in
set_option maxHeartbeats 1000000 in
theorem law_subNumbers (s t : ByteArray) (w : World) (hE : Env w) (htab : Lib.TabIs Tryz.prog w "internal/strconv.uint64pow10" .u64 Lib.pow10Tab) (R : Ending → World → Prop)
    (hR : ∀ w', Below w.heap.size w w' → R (.returned (.bool true)) w') :
    Calls Tryz.prog 4 #[.string s, .string t] w R := by
  have HR := Lib.hid hR; clear hR
  have HE := Lib.hid hE; clear hE
  have HTAB := Lib.hid htab; clear htab
  by_cases hs : s.size ≤ 1048576
  · have hsi : ¬ (1048576 : Int) < (s.size : Int) := by omega
    by_cases ht : t.size ≤ 1048576
    · have hti : ¬ (1048576 : Int) < (t.size : Int) := by omega
      have HS := Lib.hid (And.intro hs ht)
      clear hs ht
      go_enter Tryz.func4, Tryz.ntmps4
      go_wp2_with fail
      refine spec_subNumbers s t _ (by have := HS.out; omega) (by have := HS.out; omega) _ ?_
      intro w1 hb1
      have HB1 := Lib.hid hb1
      obtain ⟨S, hS⟩ : ∃ S, S = outS (combO (· - ·) s.data.toList t.data.toList) := ⟨_, rfl⟩
      obtain ⟨B, hB⟩ : ∃ B, B = outB (combO (· - ·) s.data.toList t.data.toList) := ⟨_, rfl⟩
      rw [← hS, ← hB]
      have HSS := Lib.hid hS
      have HBB := Lib.hid hB
      clear hb1 hS hB
      dsimp only
      go_wp2_with fail
      refine impl_subNumbers s t _ (HE.out.later HB1.out (Nat.le_refl _)) (tab_later HTAB.out HB1.out (Nat.le_refl _)) _ ?_
      intro w2 hb2
      rw [← HSS.out, ← HBB.out]
      have HB2 := Lib.hid (HB1.out.trans (hb2.mono HB1.out.size))
      clear hb2
      dsimp only
      cases B <;>
      · go_wp2
        first | go_ret | skip
        exact HR.out _ HB2.out
    · have hti : (1048576 : Int) < (t.size : Int) := by omega
      clear ht hs
      go_enter Tryz.func4, Tryz.ntmps4
      go_wp2
      first | go_ret | skip
      exact HR.out _ (Below.refl _ _)
  · have hsi : (1048576 : Int) < (s.size : Int) := by omega
    clear hs
    go_enter Tryz.func4, Tryz.ntmps4
    go_wp2
    first | go_ret | skip
    exact HR.out _ (Below.refl _ _)
end Go.Proofs.YtpblpdcdhgjecaaGreatDoor
