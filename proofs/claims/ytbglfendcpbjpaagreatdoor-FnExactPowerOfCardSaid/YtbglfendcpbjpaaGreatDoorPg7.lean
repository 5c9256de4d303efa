/- Contracts of functions of the program and of the model: EnvLaid, RowKit, EnvLaidT, Out, LawGcd. -/
import Derived.Test.YtbglfendcpbjpaaGreatDoorPk6
import Derived.Test.YtbglfendcpbjpaaGreatDoorTie
import Derived.Test.YtbglfendcpbjpaaGreatDoorCards
import Derived.ProofKit
import Derived.LaidMore
import Derived.LaidHandle
import Derived.OpenShut
import Derived.ChangeVars
import Derived.ChangeMaps5
import Derived.Stop.Joined
import Derived.Stop.JoinedAt
import Derived.Stop.Texts
import Derived.Stop.ErrReads
import Derived.Stop.LaidErr
import Derived.SevenTiedAt
import Derived.SliceStrings
import Derived.Carry
import Derived.Lib.LaidTab
set_option linter.all false
set_option linter.unusedVariables false
set_option linter.unusedSimpArgs false
set_option linter.unnecessarySimpa false
set_option linter.deprecated false
namespace Go.Proofs.YtbglfendcpbjpaaGreatDoor.EnvLaid
open Go Go.ChangeShapes Go.WideShapes Go.ChangeAt Go.RowKit

theorem own : ownKnob Tryz.prog.godebug = none := by kernel_rfl
theorem gForm : Tryz.prog.globalNamed "loop.example/g01120/impl.errForm" = some 1 := by kernel_rfl
theorem gSize : Tryz.prog.globalNamed "loop.example/g01120/impl.errSize" = some 0 := by kernel_rfl
theorem gType : Tryz.prog.globalNamed "errors.errorType" = some 2 := by kernel_rfl
theorem tForm : (Tryz.prog.globals[1]?).map (·.type) = some 55 := by kernel_rfl
theorem tSize : (Tryz.prog.globals[0]?).map (·.type) = some 55 := by kernel_rfl
theorem rt : (Tryz.prog.cutTypes.find? (·.1 == "internal/reflectlite.rtype")).map (·.2) = some 163 := by kernel_rfl
theorem size : Tryz.prog.types.size = 225 := by kernel_rfl
theorem oneRow : ((List.range 225).filter fun t => Tryz.prog.rowNamed t [101, 114, 114, 111, 114]) = [55] := by kernel_rfl
theorem star : "*" ++ "errors.errorString" = "*errors.errorString" := by decide
theorem rowPtr (u : TypeId) (h : Tryz.prog.typeName? 3 u = some "*errors.errorString") : u = 195 :=
  typeName_ptr_named (nm := "errors.errorString") (by rw [star]; kernel_rfl) (by kernel_rfl) (by decide) u (by rw [star]; exact h)
theorem cells190 : Tryz.prog.cellsOf 213 = 1 := by kernel_rfl
theorem cells9 : Tryz.prog.cellsOf 9 = 1 := by kernel_rfl

theorem handle_of {W : World} (h : handlesMet Tryz.prog [("errors.errorType", Rows.laid_errors_errorType)] W) :
    W.cell? ⟨2, 0, none⟩ = some (.iface 163 (.agg #[.pointer (some ⟨9, 55, none⟩)])) := by
  obtain ⟨name, u, ty, e1, e2, e3, e4, e5⟩ := h _ (List.mem_singleton.2 rfl)
  have en : name = [101, 114, 114, 111, 114] := (Option.some.inj e1).symm
  subst en
  obtain rfl := Option.some.inj (rt.symm.trans e2)
  have hm : ty ∈ (List.range 225).filter fun t => Tryz.prog.rowNamed t [101, 114, 114, 111, 114] := List.mem_filter.2 ⟨List.mem_range.2 (by rw [← size]; exact e3), e4⟩
  rw [oneRow] at hm
  obtain rfl := List.mem_singleton.1 hm
  have hh : typeHandle Tryz.prog 55 = .pointer (some ⟨9, 55, none⟩) := by kernel_rfl
  rw [hh] at e5
  simpa using World.var?_cell gType e5 0

/-- what a row's condition gives -/
theorem env_of {W : World} (h : laidMetH Tryz.prog [("errors.errorType", Rows.laid_errors_errorType), ("loop.example/g01120/impl.errForm", Rows.laid_loop_example_g01120_impl_errForm), ("loop.example/g01120/impl.errSize", Rows.laid_loop_example_g01120_impl_errSize)] W) :
    Env W ∧ (∃ a, W.var? Tryz.prog "loop.example/g01120/impl.errForm" = some #[.iface 195 (.pointer (some a))]) ∧ (∃ a, W.var? Tryz.prog "loop.example/g01120/impl.errSize" = some #[.iface 195 (.pointer (some a))]) := by
  have h' : laidMet Tryz.prog [("loop.example/g01120/impl.errForm", Rows.laid_loop_example_g01120_impl_errForm), ("loop.example/g01120/impl.errSize", Rows.laid_loop_example_g01120_impl_errSize)] W ∧ handlesMet Tryz.prog [("errors.errorType", Rows.laid_errors_errorType)] W := h
  obtain ⟨a1, s1, hv1, hc1, _, _⟩ := laid_sentinel h'.1 gForm tForm Tryz.underlying55 rowPtr Tryz.underlying195 Tryz.underlying213 rfl rfl Tryz.underlying9 cells190 cells9
  obtain ⟨a2, s2, hv2, hc2, _, _⟩ := laid_sentinel (laidMet.tail h'.1) gSize tSize Tryz.underlying55 rowPtr Tryz.underlying195 Tryz.underlying213 rfl rfl Tryz.underlying9 cells190 cells9
  exact ⟨⟨⟨a1, by simpa using World.var?_cell gForm hv1 0⟩, ⟨a2, by simpa using World.var?_cell gSize hv2 0⟩, handle_of h'.2⟩, ⟨a1, hv1⟩, ⟨a2, hv2⟩⟩
end Go.Proofs.YtbglfendcpbjpaaGreatDoor.EnvLaid

namespace Go.Proofs.YtbglfendcpbjpaaGreatDoor.EnvLaid
open Go Go.ChangeShapes Go.WideShapes Go.ChangeAt Go.RowKit

theorem laidOut : laidOutB Tryz.prog = true := by kernel_rfl
theorem cellsStr : Tryz.prog.cellsOf 9 = 1 := by kernel_rfl

theorem wf_i64 {n : Int} (h : (Lit.int .i64 n).wf = true) : -9223372036854775807 - 1 ≤ n ∧ n ≤ 9223372036854775807 := by
  have e1 : IntKind.i64.min = -9223372036854775807 - 1 := rfl
  have e2 : IntKind.i64.max = 9223372036854775807 := rfl
  simp [Lit.wf, e1, e2] at h
  omega

theorem var?_after {P : Program} {W W' : World} {n : String} {cs : Array Value} (h : Below W.heap.size W W') (hv : W.var? P n = some cs) : W'.var? P n = some cs := by
  have hv' := hv
  unfold World.var? at hv'
  cases hg : P.globalNamed n with
  | none => rw [hg] at hv'; simp at hv'
  | some g =>
    refine var?_below h hg ?_ hv
    rw [hg] at hv'
    simp only [Option.bind_some] at hv'
    rcases Nat.lt_or_ge g W.heap.size with h | h
    · exact h
    · rw [Array.getElem?_eq_none (by omega)] at hv'; simp at hv'

/-- a list of texts among the cells that came in -/
theorem open_textsC {H : Type} {enc : TypeId × Value → H} {W : World} {x : Value} {fuel : Nat} {y : DataW H × List MemPlace}
    (hf : DataW.trod enc Tryz.prog W 0 (fun _ => true) true fuel 29 [x] = some y) :
    ∃ L, TxL W x L ∧ L.length ≤ maxLen ∧ ∀ s ∈ L, s.size ≤ maxLen := by
  rcases open_strings Tryz.underlying29 Tryz.underlying9 cellsStr hf with ⟨hcs, hx⟩ | ⟨a, len, cap, ss, hcs, _, hl, hm, hz, hx, hcell, hsz⟩
  · simp at hcs
    subst hcs
    exact ⟨[], SlE.nil _ _ _, Nat.zero_le _, by simp⟩
  · simp at hcs
    subst hcs
    simp only [if_true] at hz
    obtain ⟨b, off, spot⟩ := a
    by_cases h0 : len = 0
    · subst h0
      exact ⟨[], SlE.nil _ _ _, Nat.zero_le _, by simp⟩
    · have hspot : spot = none := by simpa [Addr.add] using World.cell?_spot (hcell 0 (by omega))
      subst hspot
      refine ⟨ss.take len, TxL.mk (by simp; omega) hl (by have := hcell 0 (by omega); rw [Addr.add_lit] at this; exact lt_of_cell this) (fun i s hi => ?_), by simp; omega, fun s hs => hsz s (List.mem_of_mem_take hs)⟩
      have hi' : i < len := by
        have := (List.getElem?_eq_some_iff.1 hi).1
        simp at this
        omega
      have e : ss.getD i ByteArray.empty = s := by
        rw [List.getElem?_take_of_lt hi'] at hi
        simp [List.getD, hi]
      have := hcell i (by omega)
      rw [Addr.add_lit, e] at this
      exact this

/-- a list of texts that came in -/
theorem open_texts {H : Type} {enc : TypeId × Value → H} {W : World} {a0 : Option Addr} {len cap : Nat} {d : DataW H} {ps : List MemPlace}
    (h : DataW.Trod enc Tryz.prog W 0 (fun _ => true) true 29 (.slice a0 len cap) d ps) :
    ∃ L, TxL W (.slice a0 len cap) L ∧ L.length ≤ maxLen ∧ ∀ s ∈ L, s.size ≤ maxLen := by
  obtain ⟨fuel, hf⟩ := h
  exact open_textsC (y := (d, ps)) (by simpa [Value.cells] using hf)
end Go.Proofs.YtbglfendcpbjpaaGreatDoor.EnvLaid

namespace Go.Proofs.YtbglfendcpbjpaaGreatDoor.EnvLaid
open Go Go.ChangeShapes Go.WideShapes Go.ChangeAt Go.RowKit

theorem gPow : Tryz.prog.globalNamed "internal/strconv.uint64pow10" = some 6 := by kernel_rfl
theorem tPow : (Tryz.prog.globals[6]?).map (·.type) = some 189 := by kernel_rfl

/-- what a row's condition gives -/
theorem env_ofT {W : World} (h : laidMetH Tryz.prog [("math/bits.deBruijn32tab", Rows.laid_math_bits_deBruijn32tab), ("math/bits.deBruijn64tab", Rows.laid_math_bits_deBruijn64tab), ("internal/strconv.uint64pow10", Rows.laid_internal_strconv_uint64pow10), ("errors.errorType", Rows.laid_errors_errorType), ("loop.example/g01120/impl.errForm", Rows.laid_loop_example_g01120_impl_errForm), ("loop.example/g01120/impl.errSize", Rows.laid_loop_example_g01120_impl_errSize)] W) :
    Env W ∧ (∃ a, W.var? Tryz.prog "loop.example/g01120/impl.errForm" = some #[.iface 195 (.pointer (some a))]) ∧ (∃ a, W.var? Tryz.prog "loop.example/g01120/impl.errSize" = some #[.iface 195 (.pointer (some a))]) ∧
      Lib.TabIs Tryz.prog W "internal/strconv.uint64pow10" .u64 Lib.pow10Tab := by
  have h' : laidMet Tryz.prog [("math/bits.deBruijn32tab", Rows.laid_math_bits_deBruijn32tab), ("math/bits.deBruijn64tab", Rows.laid_math_bits_deBruijn64tab), ("internal/strconv.uint64pow10", Rows.laid_internal_strconv_uint64pow10), ("loop.example/g01120/impl.errForm", Rows.laid_loop_example_g01120_impl_errForm), ("loop.example/g01120/impl.errSize", Rows.laid_loop_example_g01120_impl_errSize)] W ∧ handlesMet Tryz.prog [("errors.errorType", Rows.laid_errors_errorType)] W := h
  have h3 := laidMet.tail (laidMet.tail h'.1)
  have h4 := laidMet.tail h3
  obtain ⟨a1, s1, hv1, hc1, _, _⟩ := laid_sentinel h4 gForm tForm Tryz.underlying55 rowPtr Tryz.underlying195 Tryz.underlying213 rfl rfl Tryz.underlying9 cells190 cells9
  obtain ⟨a2, s2, hv2, hc2, _, _⟩ := laid_sentinel (laidMet.tail h4) gSize tSize Tryz.underlying55 rowPtr Tryz.underlying195 Tryz.underlying213 rfl rfl Tryz.underlying9 cells190 cells9
  exact ⟨⟨⟨a1, by simpa using World.var?_cell gForm hv1 0⟩, ⟨a2, by simpa using World.var?_cell gSize hv2 0⟩, handle_of h'.2⟩, ⟨a1, hv1⟩, ⟨a2, hv2⟩,
    Lib.tabIs_of_head gPow tPow Tryz.underlying189 Tryz.underlying110 (by kernel_rfl) (by kernel_rfl) h3⟩
end Go.Proofs.YtbglfendcpbjpaaGreatDoor.EnvLaid

namespace Go.Proofs.YtbglfendcpbjpaaGreatDoor
open Go Go.RowKit

instance (q : Rat) : Decidable (few q) := by unfold few; infer_instance
/-- the text that is returned -/
def outS (o : Option Rat) : ByteArray := match o with
  | some q => if few q then ⟨(textQ q).toArray⟩ else ⟨#[]⟩
  | none => ⟨#[]⟩
/-- whether there is one -/
def outB (o : Option Rat) : Bool := match o with
  | some q => decide (few q)
  | none => false

theorem give_o (v : Value) (q : Rat) (w : World) (hq : IsQ w v q) (hl1 : (dig 10000 q.num.natAbs).length ≤ 1000000000) (hl2 : (dig 10000 q.den).length ≤ 1000000000) (R : Ending → World → Prop)
    (hR : ∀ w', Below w.heap.size w w' → R (.returned (.tuple #[.string (outS (some q)), .bool (outB (some q))])) w') :
    Calls Tryz.prog 37 #[v] w R :=
  give_any v q w hq hl1 hl2 R (fun w' hf hb => by have := hR w' hb; simp only [outS, outB, if_pos hf, decide_eq_true hf] at this; exact this)
    (fun w' hf hb => by have := hR w' hb; simp only [outS, outB, if_neg hf, decide_eq_false hf] at this; exact this)

theorem rtext_o (v : Value) (q : Rat) (w : World) (h : IsR w v q) (htab : Lib.TabIs Tryz.prog w "internal/strconv.uint64pow10" .u64 Lib.pow10Tab) (R : Ending → World → Prop)
    (hR : ∀ w', Below w.heap.size w w' → R (.returned (.tuple #[.string (outS (some q)), .bool (outB (some q))])) w') :
    Calls Tryz.prog 51 #[v] w R :=
  rtext_any v q w h htab R (fun w' hf hb => by have := hR w' hb; simp only [outS, outB, if_pos hf, decide_eq_true hf] at this; exact this)
    (fun w' hf hb => by have := hR w' hb; simp only [outS, outB, if_neg hf, decide_eq_false hf] at this; exact this)
end Go.Proofs.YtbglfendcpbjpaaGreatDoor

namespace Go.Proofs.YtbglfendcpbjpaaGreatDoor
open Go Go.RowKit

/-- the integer that a text is -/
noncomputable def intO (L : List UInt8) : Option Int := match numO L with
  | some q => if q.den = 1 then some q.num else none
  | none => none
theorem intO_some {L : List UInt8} {q : Rat} (h : numO L = some q) (h1 : q.den = 1) : intO L = some q.num := by
  unfold intO; rw [h]; simp [h1]
theorem intO_none {L : List UInt8} (h : ∀ q, numO L = some q → q.den ≠ 1) : intO L = none := by
  unfold intO
  cases hn : numO L with
  | none => rfl
  | some q => simp [h q hn]
/-- the common divisor of the integers that two texts are -/
noncomputable def gcdO (s t : List UInt8) : Option Rat := match intO s, intO t with
  | some a, some b => some (((Nat.gcd a.natAbs b.natAbs : Nat) : Int) : Rat)
  | _, _ => none

set_option maxRecDepth 100000 in
set_option maxHeartbeats 2000000 in
theorem impl_gcdOf (s t : ByteArray) (w : World) (hE : Env w) (htab : Lib.TabIs Tryz.prog w "internal/strconv.uint64pow10" .u64 Lib.pow10Tab) (R : Ending → World → Prop)
    (hR : ∀ w', Below w.heap.size w w' → R (.returned (.tuple #[.string (outS (gcdO s.data.toList t.data.toList)), .bool (outB (gcdO s.data.toList t.data.toList))])) w') :
    Calls Tryz.prog 26 #[.string s, .string t] w R := by
  have HR := Lib.hid hR; clear hR
  have HE := Lib.hid hE; clear hE
  have HTAB := Lib.hid htab; clear htab
  go_enter Tryz.func26, Tryz.ntmps26
  go_wp2_with fail
  refine readi_any s _ HE.out _ ?_ ?_
  · intro v a w1 ha hda hv hb1
    obtain ⟨sa, rfl, hna⟩ := hv
    obtain ⟨a1, n1, c1, rfl, hna'⟩ := hna.op
    obtain ⟨ng, hng⟩ : ∃ ng, ng = decide (a.num < 0) := ⟨_, rfl⟩
    rw [← hng]
    obtain ⟨L1, hL1⟩ : ∃ L, L = w1.alloc (.cells #[.bool ng, .slice a1 n1 c1] 50) := ⟨_, rfl⟩
    have HL1 := Lib.hid hL1
    have HB1 : Hid (Below w.heap.size w L1) := Lib.hid (by rw [hL1]; exact hb1.alloc hb1.size _)
    have HW1 : Hid (Below w1.heap.size w1 L1) := Lib.hid (by rw [hL1]; exact (Below.refl _ _).alloc (Nat.le_refl _) _)
    have B1 : Hid (Box2 L1 w1.heap.size (.bool ng) (.slice a1 n1 c1) 50) := Lib.hid (by rw [hL1]; exact Box2.made w1 _ _ _)
    have HLT1 : Hid (w1.heap.size < L1.heap.size) := Lib.hid (by rw [hL1]; simp)
    have HN1 := Lib.hid (hna'.later HW1.out (Nat.le_refl _))
    have HA := Lib.hid (intO_some ha hda)
    have HFA := Lib.hid (numO_few ha)
    clear hng hL1 hb1 hna hna' ha hda
    dsimp only
    go_wp2_with fail
    rw [← HL1.out]
    refine readi_any t _ (HE.out.later HB1.out (Nat.le_refl _)) _ ?_ ?_
    · intro v2 b w2 hb hdb hv2 hb2
      obtain ⟨sb, rfl, hnb⟩ := hv2
      obtain ⟨a2, n2, c2, rfl, hnb'⟩ := hnb.op
      obtain ⟨mg, hmg⟩ : ∃ mg, mg = decide (b.num < 0) := ⟨_, rfl⟩
      rw [← hmg]
      obtain ⟨L2, hL2⟩ : ∃ L, L = w2.alloc (.cells #[.bool mg, .slice a2 n2 c2] 50) := ⟨_, rfl⟩
      have HL2 := Lib.hid hL2
      have HW2 : Hid (Below L1.heap.size L1 L2) := Lib.hid (by rw [hL2]; exact hb2.alloc hb2.size _)
      have HB2 := Lib.hid (HB1.out.trans (HW2.out.mono HB1.out.size))
      have hw2 : Below w2.heap.size w2 L2 := by rw [hL2]; exact (Below.refl _ _).alloc (Nat.le_refl _) _
      have HN1' := Lib.hid (HN1.out.later HW2.out (Nat.le_refl _))
      have HN2 := Lib.hid (hnb'.later hw2 (Nat.le_refl _))
      have k1 := B1.out.later HW2.out HLT1.out
      have k2 : Box2 L2 w2.heap.size (.bool mg) (.slice a2 n2 c2) 50 := by rw [hL2]; exact Box2.made w2 _ _ _
      obtain ⟨hA, hB, _, _⟩ := k1.cells
      obtain ⟨hC, hD, _, _⟩ := k2.cells
      rw [hL2] at hA hB hC hD
      have HG : Hid (gcdO s.data.toList t.data.toList = some (((Nat.gcd a.num.natAbs b.num.natAbs : Nat) : Int) : Rat)) := Lib.hid (by unfold gcdO; rw [HA.out, intO_some hb hdb])
      have HFB := Lib.hid (numO_few hb)
      rw [HG.out] at HR
      have hl1 : (dig W64 a.num.natAbs).length ≤ 60 := (few_len HFA.out (by rw [W64_eq]; omega)).1
      have hl2 : (dig W64 b.num.natAbs).length ≤ 60 := (few_len HFB.out (by rw [W64_eq]; omega)).1
      have HLL := Lib.hid (And.intro hl1 hl2)
      clear hmg hL2 hb2 hnb hnb' hb hdb hw2 k1 k2 hl1 hl2
      dsimp only
      go_wp2_with fail
      rw [← HL2.out]
      refine gcdn_any _ _ a.num.natAbs b.num.natAbs _ HN1'.out HN2.out (by have := HLL.out.1; omega) (by have := HLL.out.2; omega) _ ?_
      obtain ⟨g, hg0⟩ : ∃ g, g = Nat.gcd a.num.natAbs b.num.natAbs := ⟨_, rfl⟩
      rw [← hg0] at HR ⊢
      intro vg w3 hg hb3
      obtain ⟨a3, n3, c3, rfl, hg'⟩ := hg.op
      have HG3 := Lib.hid hg'
      have HB3 := Lib.hid (HB2.out.trans (hb3.mono HB2.out.size))
      clear hg hg' hb3 hA hB hC hD hg0
      dsimp only
      go_wp2_with fail
      refine integerOf_z false _ g _ HG3.out _ ?_
      intro vi w4 hi hb4
      rw [show sgn false g = (g : Int) from rfl] at hi
      obtain ⟨si, rfl, hsi⟩ := hi
      obtain ⟨a4, n4, c4, rfl, hsi'⟩ := hsi.op
      obtain ⟨kg, hkg⟩ : ∃ kg, kg = decide (((g : Nat) : Int) < 0) := ⟨_, rfl⟩
      rw [← hkg]
      have HI4 : Hid (IsI w4 (.agg #[.bool kg, .slice a4 n4 c4]) ((g : Nat) : Int)) := Lib.hid ⟨_, by rw [hkg], hsi'⟩
      have HB4 := Lib.hid (HB3.out.trans (hb4.mono HB3.out.size))
      clear hsi hsi' hb4 hkg
      dsimp only
      go_wp2_with fail
      refine ratioOf_any _ ((g : Nat) : Int) _ HI4.out _ ?_
      intro vr w5 hr hb5
      obtain ⟨q, hq⟩ : ∃ q : Rat, q = (((g : Nat) : Int) : Rat) := ⟨_, rfl⟩
      rw [← hq] at HR hr
      obtain ⟨nr, a5, n5, c5, a6, n6, c6, hnr, rfl, _, _⟩ := hr.parts
      have HR5 := Lib.hid hr
      have HB5 := Lib.hid (HB4.out.trans (hb5.mono HB4.out.size))
      clear hr hb5 hnr hq
      dsimp only
      go_wp2_with fail
      refine rtext_o _ q _ HR5.out (tab_later HTAB.out HB5.out (Nat.le_refl _)) _ ?_
      intro w6 hb6
      have HB6 := Lib.hid (HB5.out.trans (hb6.mono HB5.out.size))
      obtain ⟨S, hS⟩ : ∃ S, S = outS (some q) := ⟨_, rfl⟩
      obtain ⟨B, hB⟩ : ∃ B, B = outB (some q) := ⟨_, rfl⟩
      rw [← hS, ← hB] at HR ⊢
      clear hS hB hb6
      dsimp only
      go_wp2
      first | go_ret | skip
      exact HR.out _ HB6.out
    · intro e w2 hn he hb2
      rw [show gcdO s.data.toList t.data.toList = none by unfold gcdO; rw [intO_none (L := t.data.toList) hn]; cases intO s.data.toList <;> rfl] at HR
      obtain ⟨t', p, rfl⟩ := he
      have HB2 := Lib.hid (HB1.out.trans (hb2.mono HB1.out.size))
      clear hb2 hn
      unfold zeroI
      dsimp only
      go_wp2
      first | go_ret | skip
      exact HR.out _ (HB2.out.alloc HB2.out.size _)
  · intro e w1 hn he hb
    rw [show gcdO s.data.toList t.data.toList = none by unfold gcdO; rw [intO_none hn]] at HR
    obtain ⟨t', p, rfl⟩ := he
    have HB := Lib.hid hb
    clear hb hn
    unfold zeroI
    dsimp only
    go_wp2
    first | go_ret | skip
    exact HR.out _ (HB.out.alloc HB.out.size _)

theorem field_n (x0 x1 x2 x3 : Value) (W : World) : (Instr.field 41 (.agg #[x0, x1, x2, x3]) 0).run Tryz.prog W = .ok (.agg #[x0, x1]) W := by kernel_rfl

theorem IsQ.ofZ {w : World} {b1 b2 : Bool} {a1 a2 : Option Addr} {n1 c1 n2 c2 : Nat} {z : Int} (h1 : IsZ w (.agg #[.bool b1, .slice a1 n1 c1]) z) (h2 : IsZ w (.agg #[.bool b2, .slice a2 n2 c2]) 1) :
    IsQ w (.agg #[.bool b1, .slice a1 n1 c1, .bool b2, .slice a2 n2 c2]) (z : Rat) := by
  obtain ⟨s1, e1, k1⟩ := h1
  obtain ⟨s2, e2, k2⟩ := h2
  have f1 : b1 = decide (z < 0) ∧ Value.slice a1 n1 c1 = s1 := by simpa using e1
  have f2 : b2 = false ∧ Value.slice a2 n2 c2 = s2 := by simpa using e2
  refine ⟨s1, s2, ?_, ?_, ?_⟩
  · rw [f1.1, f1.2, f2.1, f2.2, Rat.num_intCast]
  · rw [Rat.num_intCast]; exact k1
  · rw [Rat.den_intCast]; exact k2

theorem dig_gcd {B a b : Nat} (hB : 2 ≤ B) (h1 : (dig B a).length ≤ 60) (h2 : (dig B b).length ≤ 60) : (dig B (Nat.gcd a b)).length ≤ 60 := by
  by_cases h0 : a = 0
  · subst h0; rw [Nat.gcd_zero_left]; exact h2
  · refine dig_length_le hB 60 _ ?_
    have h3 := Nat.lt_of_lt_of_le (lt_pow_dig hB a) (Nat.pow_le_pow_right (by omega) h1)
    exact Nat.lt_of_le_of_lt (Nat.gcd_le_left b (by omega)) h3

set_option maxRecDepth 100000 in
set_option maxHeartbeats 2000000 in
theorem spec_gcdOf (s t : ByteArray) (w : World) (hs : s.size ≤ 1100000) (ht : t.size ≤ 1100000) (R : Ending → World → Prop)
    (hR : ∀ w', Below w.heap.size w w' → R (.returned (.tuple #[.string (outS (gcdO s.data.toList t.data.toList)), .bool (outB (gcdO s.data.toList t.data.toList))])) w') :
    Calls Tryz.prog 25 #[.string s, .string t] w R := by
  have HR := Lib.hid hR; clear hR
  have HS := Lib.hid (And.intro hs ht)
  clear hs ht
  go_enter Tryz.func25, Tryz.ntmps25
  go_wp2_with fail
  refine spec_isInteger s _ HS.out.1 _ ?_
  intro w1 hb1
  have HB1 := Lib.hid hb1
  clear hb1
  cases hA : (numO s.data.toList).any fun q => decide (q.den = 1) with
  | false =>
    rw [show gcdO s.data.toList t.data.toList = none by
      unfold gcdO; rw [intO_none (fun q hq => by rw [hq, Option.any_some] at hA; exact of_decide_eq_false hA)]] at HR
    clear hA
    dsimp only
    go_wp2
    first | go_ret | skip
    exact HR.out _ HB1.out
  | true =>
    obtain ⟨a, ha, hda⟩ : ∃ a, numO s.data.toList = some a ∧ a.den = 1 := by
      cases h : numO s.data.toList with
      | none => rw [h] at hA; cases hA
      | some q => rw [h, Option.any_some] at hA; exact ⟨q, rfl, of_decide_eq_true hA⟩
    have HA := Lib.hid ha
    have HDA := Lib.hid hda
    clear hA ha hda
    dsimp only
    go_wp2_with fail
    refine spec_isInteger t _ HS.out.2 _ ?_
    intro w2 hb2
    have HB2 := Lib.hid (HB1.out.trans (hb2.mono HB1.out.size))
    clear hb2
    cases hB : (numO t.data.toList).any fun q => decide (q.den = 1) with
    | false =>
      rw [show gcdO s.data.toList t.data.toList = none by
        unfold gcdO; rw [intO_none (L := t.data.toList) (fun q hq => by rw [hq, Option.any_some] at hB; exact of_decide_eq_false hB)]; cases intO s.data.toList <;> rfl] at HR
      clear hB
      dsimp only
      go_wp2
      first | go_ret | skip
      exact HR.out _ HB2.out
    | true =>
      obtain ⟨b, hb, hdb⟩ : ∃ a, numO t.data.toList = some a ∧ a.den = 1 := by
        cases h : numO t.data.toList with
        | none => rw [h] at hB; cases hB
        | some q => rw [h, Option.any_some] at hB; exact ⟨q, rfl, of_decide_eq_true hB⟩
      have HBB := Lib.hid hb
      have HG : Hid (gcdO s.data.toList t.data.toList = some (((Nat.gcd a.num.natAbs b.num.natAbs : Nat) : Int) : Rat)) := Lib.hid (by unfold gcdO; rw [intO_some HA.out HDA.out, intO_some hb hdb])
      rw [HG.out] at HR
      have HLA : Hid ((dig 10000 a.num.natAbs).length ≤ 60) := Lib.hid (few_len (numO_few HA.out) (by omega)).1
      have HLB : Hid ((dig 10000 b.num.natAbs).length ≤ 60) := Lib.hid (few_len (numO_few hb) (by omega)).1
      clear hB hb hdb
      dsimp only
      go_wp2_with fail
      refine ofq_any s a _ HA.out _ ?_
      intro va w3 hqa hb3
      have hfn := field_n
      obtain ⟨na, a1, n1, c1, a2, n2, c2, rfl, hz1, hz2⟩ := hqa.parts
      have HZ1 := Lib.hid hz1
      have HB3 := Lib.hid (HB2.out.trans (hb3.mono HB2.out.size))
      clear hqa hz1 hz2 hb3
      dsimp only
      go_wp2_with fail
      refine ofq_any t b _ HBB.out _ ?_
      intro vb w4 hqb hb4
      obtain ⟨nb, a3, n3, c3, a4, n4, c4, rfl, hz3, hz4⟩ := hqb.parts
      have HZ3 := Lib.hid hz3
      have HZ1' := Lib.hid (HZ1.out.later hb4 (Nat.le_refl _))
      have HB4 := Lib.hid (HB3.out.trans (hb4.mono HB3.out.size))
      clear hqb hz3 hz4 hb4
      dsimp only
      go_wp2_with fail
      refine zgcd_any _ _ a.num b.num _ HZ1'.out HZ3.out (by have := HLA.out; omega) (by have := HLB.out; omega) _ ?_
      have HLG : Hid ((dig 10000 (Nat.gcd a.num.natAbs b.num.natAbs)).length ≤ 60) := Lib.hid (dig_gcd (by omega) HLA.out HLB.out)
      obtain ⟨g, hg0⟩ : ∃ g, g = Nat.gcd a.num.natAbs b.num.natAbs := ⟨_, rfl⟩
      rw [← hg0] at HR HLG ⊢
      intro vg w5 hg hb5
      obtain ⟨ng, a5, n5, c5, rfl, hg'⟩ := hg.openB
      have HG5 := Lib.hid hg'
      have HB5 := Lib.hid (HB4.out.trans (hb5.mono HB4.out.size))
      clear hg hg' hb5 hg0
      dsimp only
      go_wp2_with fail
      refine zof_any 1 _ (by omega) (by omega) _ ?_
      intro vo w6 ho hb6
      obtain ⟨no, a6, n6, c6, rfl, ho'⟩ := ho.openB
      have HQ : Hid (IsQ w6 (.agg #[.bool ng, .slice a5 n5 c5, .bool no, .slice a6 n6 c6]) (((g : Nat) : Int) : Rat)) := Lib.hid (IsQ.ofZ (HG5.out.later hb6 (Nat.le_refl _)) ho')
      have HB6 := Lib.hid (HB5.out.trans (hb6.mono HB5.out.size))
      have HL1 : Hid ((dig 10000 (((g : Nat) : Int) : Rat).num.natAbs).length ≤ 1000000000 ∧ (dig 10000 (((g : Nat) : Int) : Rat).den).length ≤ 1000000000) := Lib.hid (by
        rw [Rat.num_intCast, Rat.den_intCast, Int.natAbs_natCast]
        refine ⟨by have := HLG.out; omega, ?_⟩
        have : (dig 10000 1).length ≤ 1 := dig_length_le (by omega) 1 1 (by omega)
        omega)
      obtain ⟨q, hq⟩ : ∃ q : Rat, q = (((g : Nat) : Int) : Rat) := ⟨_, rfl⟩
      rw [← hq] at HR HQ HL1
      clear ho ho' hb6 hq
      dsimp only
      go_wp2_with fail
      refine give_o _ q _ HQ.out HL1.out.1 HL1.out.2 _ ?_
      intro w7 hb7
      have HB7 := Lib.hid (HB6.out.trans (hb7.mono HB6.out.size))
      obtain ⟨S, hS⟩ : ∃ S, S = outS (some q) := ⟨_, rfl⟩
      obtain ⟨B, hB⟩ : ∃ B, B = outB (some q) := ⟨_, rfl⟩
      rw [← hS, ← hB] at HR ⊢
      clear hS hB hb7
      dsimp only
      go_wp2
      first | go_ret | skip
      exact HR.out _ HB7.out

set_option maxRecDepth 100000 in
set_option maxHeartbeats 1000000 in
theorem law_gcdOf (s t : ByteArray) (w : World) (hE : Env w) (htab : Lib.TabIs Tryz.prog w "internal/strconv.uint64pow10" .u64 Lib.pow10Tab) (R : Ending → World → Prop)
    (hR : ∀ w', Below w.heap.size w w' → R (.returned (.bool true)) w') :
    Calls Tryz.prog 9 #[.string s, .string t] w R := by
  have HR := Lib.hid hR; clear hR
  have HE := Lib.hid hE; clear hE
  have HTAB := Lib.hid htab; clear htab
  by_cases hs : s.size ≤ 1048576
  · have hsi : ¬ (1048576 : Int) < (s.size : Int) := by omega
    by_cases ht : t.size ≤ 1048576
    · have hti : ¬ (1048576 : Int) < (t.size : Int) := by omega
      have HS := Lib.hid (And.intro hs ht)
      clear hs ht
      go_enter Tryz.func9, Tryz.ntmps9
      go_wp2_with fail
      refine spec_gcdOf s t _ (by have := HS.out; omega) (by have := HS.out; omega) _ ?_
      intro w1 hb1
      have HB1 := Lib.hid hb1
      obtain ⟨S, hS⟩ : ∃ S, S = outS (gcdO s.data.toList t.data.toList) := ⟨_, rfl⟩
      obtain ⟨B, hB⟩ : ∃ B, B = outB (gcdO s.data.toList t.data.toList) := ⟨_, rfl⟩
      rw [← hS, ← hB]
      have HSS := Lib.hid hS
      have HBB := Lib.hid hB
      clear hb1 hS hB
      dsimp only
      go_wp2_with fail
      refine impl_gcdOf s t _ (HE.out.later HB1.out (Nat.le_refl _)) (tab_later HTAB.out HB1.out (Nat.le_refl _)) _ ?_
      intro w2 hb2
      rw [← HSS.out, ← HBB.out]
      have HB2 := Lib.hid (HB1.out.trans (hb2.mono HB1.out.size))
      clear hb2
      dsimp only
      cases B <;>
      · go_wp2
        first | go_ret | skip
        exact HR.out _ HB2.out
    · have hti : (1048576 : Int) < (t.size : Int) := by omega
      clear ht hs
      go_enter Tryz.func9, Tryz.ntmps9
      go_wp2
      first | go_ret | skip
      exact HR.out _ (Below.refl _ _)
  · have hsi : (1048576 : Int) < (s.size : Int) := by omega
    clear hs
    go_enter Tryz.func9, Tryz.ntmps9
    go_wp2
    first | go_ret | skip
    exact HR.out _ (Below.refl _ _)
end Go.Proofs.YtbglfendcpbjpaaGreatDoor
