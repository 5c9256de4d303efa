/- Contracts of functions of the program and of the model: EnvLaid, RowKit, RowRec. -/
import Derived.Test.YtnfehccicnpbpaaGreatDoorPk8
import Derived.Test.YtnfehccicnpbpaaGreatDoorTie
import Derived.Test.YtnfehccicnpbpaaGreatDoorCards
import Derived.ProofKit
import Derived.LaidMore
import Derived.LaidHandle
import Derived.OpenShut
import Derived.ChangeVars
import Derived.ChangeMaps5
import Derived.Stop.Joined
import Derived.Stop.JoinedAt
import Derived.Stop.Texts
import Derived.Stop.ErrReads
import Derived.Stop.LaidErr
import Derived.SevenTiedAt
import Derived.SliceStrings
import Derived.Carry
set_option linter.all false
set_option linter.unusedVariables false
set_option linter.unusedSimpArgs false
set_option linter.unnecessarySimpa false
set_option linter.deprecated false
namespace Go.Proofs.YtnfehccicnpbpaaGreatDoor.EnvLaid
open Go Go.ChangeShapes Go.WideShapes Go.ChangeAt Go.RowKit

theorem own : ownKnob Tryz.prog.godebug = none := by kernel_rfl
theorem gForm : Tryz.prog.globalNamed "loop.example/g01120/impl.errForm" = some 1 := by kernel_rfl
theorem gSize : Tryz.prog.globalNamed "loop.example/g01120/impl.errSize" = some 0 := by kernel_rfl
theorem gType : Tryz.prog.globalNamed "errors.errorType" = some 2 := by kernel_rfl
theorem tForm : (Tryz.prog.globals[1]?).map (·.type) = some 67 := by kernel_rfl
theorem tSize : (Tryz.prog.globals[0]?).map (·.type) = some 67 := by kernel_rfl
theorem rt : (Tryz.prog.cutTypes.find? (·.1 == "internal/reflectlite.rtype")).map (·.2) = some 262 := by kernel_rfl
theorem size : Tryz.prog.types.size = 317 := by kernel_rfl
theorem oneRow : ((List.range 317).filter fun t => Tryz.prog.rowNamed t [101, 114, 114, 111, 114]) = [67] := by kernel_rfl
theorem star : "*" ++ "errors.errorString" = "*errors.errorString" := by decide
theorem rowPtr (u : TypeId) (h : Tryz.prog.typeName? 3 u = some "*errors.errorString") : u = 286 :=
  typeName_ptr_named (nm := "errors.errorString") (by rw [star]; kernel_rfl) (by kernel_rfl) (by decide) u (by rw [star]; exact h)
theorem cells190 : Tryz.prog.cellsOf 305 = 1 := by kernel_rfl
theorem cells9 : Tryz.prog.cellsOf 9 = 1 := by kernel_rfl

theorem handle_of {W : World} (h : handlesMet Tryz.prog [("errors.errorType", Rows.laid_errors_errorType)] W) :
    W.cell? ⟨2, 0, none⟩ = some (.iface 262 (.agg #[.pointer (some ⟨9, 67, none⟩)])) := by
  obtain ⟨name, u, ty, e1, e2, e3, e4, e5⟩ := h _ (List.mem_singleton.2 rfl)
  have en : name = [101, 114, 114, 111, 114] := (Option.some.inj e1).symm
  subst en
  obtain rfl := Option.some.inj (rt.symm.trans e2)
  have hm : ty ∈ (List.range 317).filter fun t => Tryz.prog.rowNamed t [101, 114, 114, 111, 114] := List.mem_filter.2 ⟨List.mem_range.2 (by rw [← size]; exact e3), e4⟩
  rw [oneRow] at hm
  obtain rfl := List.mem_singleton.1 hm
  have hh : typeHandle Tryz.prog 67 = .pointer (some ⟨9, 67, none⟩) := by kernel_rfl
  rw [hh] at e5
  simpa using World.var?_cell gType e5 0

/-- what a row's condition gives -/
theorem env_of {W : World} (h : laidMetH Tryz.prog [("errors.errorType", Rows.laid_errors_errorType), ("loop.example/g01120/impl.errForm", Rows.laid_loop_example_g01120_impl_errForm), ("loop.example/g01120/impl.errSize", Rows.laid_loop_example_g01120_impl_errSize)] W) :
    Env W ∧ (∃ a, W.var? Tryz.prog "loop.example/g01120/impl.errForm" = some #[.iface 286 (.pointer (some a))]) ∧ (∃ a, W.var? Tryz.prog "loop.example/g01120/impl.errSize" = some #[.iface 286 (.pointer (some a))]) := by
  have h' : laidMet Tryz.prog [("loop.example/g01120/impl.errForm", Rows.laid_loop_example_g01120_impl_errForm), ("loop.example/g01120/impl.errSize", Rows.laid_loop_example_g01120_impl_errSize)] W ∧ handlesMet Tryz.prog [("errors.errorType", Rows.laid_errors_errorType)] W := h
  obtain ⟨a1, s1, hv1, hc1, _, _⟩ := laid_sentinel h'.1 gForm tForm Tryz.underlying67 rowPtr Tryz.underlying286 Tryz.underlying305 rfl rfl Tryz.underlying9 cells190 cells9
  obtain ⟨a2, s2, hv2, hc2, _, _⟩ := laid_sentinel (laidMet.tail h'.1) gSize tSize Tryz.underlying67 rowPtr Tryz.underlying286 Tryz.underlying305 rfl rfl Tryz.underlying9 cells190 cells9
  exact ⟨⟨⟨a1, by simpa using World.var?_cell gForm hv1 0⟩, ⟨a2, by simpa using World.var?_cell gSize hv2 0⟩, handle_of h'.2⟩, ⟨a1, hv1⟩, ⟨a2, hv2⟩⟩
end Go.Proofs.YtnfehccicnpbpaaGreatDoor.EnvLaid

namespace Go.Proofs.YtnfehccicnpbpaaGreatDoor.EnvLaid
open Go Go.ChangeShapes Go.WideShapes Go.ChangeAt Go.RowKit

theorem laidOut : laidOutB Tryz.prog = true := by kernel_rfl
theorem cellsStr : Tryz.prog.cellsOf 9 = 1 := by kernel_rfl

theorem wf_i64 {n : Int} (h : (Lit.int .i64 n).wf = true) : -9223372036854775807 - 1 ≤ n ∧ n ≤ 9223372036854775807 := by
  have e1 : IntKind.i64.min = -9223372036854775807 - 1 := rfl
  have e2 : IntKind.i64.max = 9223372036854775807 := rfl
  simp [Lit.wf, e1, e2] at h
  omega

theorem var?_after {P : Program} {W W' : World} {n : String} {cs : Array Value} (h : Below W.heap.size W W') (hv : W.var? P n = some cs) : W'.var? P n = some cs := by
  have hv' := hv
  unfold World.var? at hv'
  cases hg : P.globalNamed n with
  | none => rw [hg] at hv'; simp at hv'
  | some g =>
    refine var?_below h hg ?_ hv
    rw [hg] at hv'
    simp only [Option.bind_some] at hv'
    rcases Nat.lt_or_ge g W.heap.size with h | h
    · exact h
    · rw [Array.getElem?_eq_none (by omega)] at hv'; simp at hv'

/-- a list of texts among the cells that came in -/
theorem open_textsC {H : Type} {enc : TypeId × Value → H} {W : World} {x : Value} {fuel : Nat} {y : DataW H × List MemPlace}
    (hf : DataW.trod enc Tryz.prog W 0 (fun _ => true) true fuel 22 [x] = some y) :
    ∃ L, TxL W x L ∧ L.length ≤ maxLen ∧ ∀ s ∈ L, s.size ≤ maxLen := by
  rcases open_strings Tryz.underlying22 Tryz.underlying9 cellsStr hf with ⟨hcs, hx⟩ | ⟨a, len, cap, ss, hcs, _, hl, hm, hz, hx, hcell, hsz⟩
  · simp at hcs
    subst hcs
    exact ⟨[], SlE.nil _ _ _, Nat.zero_le _, by simp⟩
  · simp at hcs
    subst hcs
    simp only [if_true] at hz
    obtain ⟨b, off, spot⟩ := a
    by_cases h0 : len = 0
    · subst h0
      exact ⟨[], SlE.nil _ _ _, Nat.zero_le _, by simp⟩
    · have hspot : spot = none := by simpa [Addr.add] using World.cell?_spot (hcell 0 (by omega))
      subst hspot
      refine ⟨ss.take len, TxL.mk (by simp; omega) hl (by have := hcell 0 (by omega); rw [Addr.add_lit] at this; exact lt_of_cell this) (fun i s hi => ?_), by simp; omega, fun s hs => hsz s (List.mem_of_mem_take hs)⟩
      have hi' : i < len := by
        have := (List.getElem?_eq_some_iff.1 hi).1
        simp at this
        omega
      have e : ss.getD i ByteArray.empty = s := by
        rw [List.getElem?_take_of_lt hi'] at hi
        simp [List.getD, hi]
      have := hcell i (by omega)
      rw [Addr.add_lit, e] at this
      exact this

/-- a list of texts that came in -/
theorem open_texts {H : Type} {enc : TypeId × Value → H} {W : World} {a0 : Option Addr} {len cap : Nat} {d : DataW H} {ps : List MemPlace}
    (h : DataW.Trod enc Tryz.prog W 0 (fun _ => true) true 22 (.slice a0 len cap) d ps) :
    ∃ L, TxL W (.slice a0 len cap) L ∧ L.length ≤ maxLen ∧ ∀ s ∈ L, s.size ≤ maxLen := by
  obtain ⟨fuel, hf⟩ := h
  exact open_textsC (y := (d, ps)) (by simpa [Value.cells] using hf)
end Go.Proofs.YtnfehccicnpbpaaGreatDoor.EnvLaid

namespace Go.Proofs.YtnfehccicnpbpaaGreatDoor.EnvLaid
open Go Go.ChangeShapes Go.WideShapes Go.ChangeAt Go.RowKit

theorem cellsRec : Tryz.prog.cellsOf 24 = 2 := by kernel_rfl

set_option maxRecDepth 100000 in
/-- a recurrence that came in -/
theorem open_rec {H : Type} {enc : TypeId × Value → H} {W : World} {r : Reach} {b0 : Nat} {v : Value} {d : DataW H} {ps : List MemPlace}
    (hval : Value.okWide Tryz.prog W r b0 24 v) (h : DataW.Trod enc Tryz.prog W 0 (fun _ => true) true 24 v d ps) :
    ∃ L1 L2, IsRec W v L1 L2 ∧ L1.length ≤ maxLen ∧ (∀ s ∈ L1, s.size ≤ maxLen) ∧ L2.length ≤ maxLen ∧ ∀ s ∈ L2, s.size ≤ maxLen := by
  obtain ⟨cs, rfl, hsz⟩ := okWide_struct Tryz.underlying24 hval
  rw [cellsRec] at hsz
  obtain ⟨x0, x1, rfl⟩ : ∃ x0 x1, cs = #[x0, x1] := by
    obtain ⟨l⟩ := cs
    match l, hsz with
    | [x0, x1], _ => exact ⟨x0, x1, rfl⟩
  obtain ⟨fuel, hf⟩ := h
  obtain ⟨y0, y1, n, _, _, h0, h1⟩ := trod_struct2 Tryz.underlying24 hf
  obtain ⟨L1, p1, p2, p3⟩ := open_textsC (y := y0) (x := x0) (by simpa [Value.cells, cellsStr, show Tryz.prog.cellsOf 22 = 1 by kernel_rfl] using h0)
  obtain ⟨L2, q1, q2, q3⟩ := open_textsC (y := y1) (x := x1) (by simpa [Value.cells, cellsStr, show Tryz.prog.cellsOf 22 = 1 by kernel_rfl] using h1)
  exact ⟨L1, L2, ⟨x0, x1, rfl, p1, q1⟩, p2, p3, q2, q3⟩
end Go.Proofs.YtnfehccicnpbpaaGreatDoor.EnvLaid
