/- Contracts of functions of the program and of the model: EnvLaid, RowKit, RowAut, AutI, AutJ, CofI, PutS, DefP, Sint, Set4, AtS, MulQ, L2Sum, DerS, DerI, AutK, AutM, LawValidAutomaton. -/
import Derived.Test.YtdkjcdfkoahfkaaGreatDoorPv11
import Derived.Test.YtdkjcdfkoahfkaaGreatDoorTie
import Derived.Test.YtdkjcdfkoahfkaaGreatDoorCards
import Derived.ProofKit
import Derived.LaidMore
import Derived.LaidHandle
import Derived.OpenShut
import Derived.ChangeVars
import Derived.ChangeMaps5
import Derived.Stop.Joined
import Derived.Stop.JoinedAt
import Derived.Stop.Texts
import Derived.Stop.ErrReads
import Derived.Stop.LaidErr
import Derived.SevenTiedAt
import Derived.SliceStrings
import Derived.Carry
import Derived.Deep.Strs
import Derived.RegionTactic
import Derived.ChangeAlike
import Derived.Deep.RegionLaw
set_option linter.all false
set_option linter.unusedVariables false
set_option linter.unusedSimpArgs false
set_option linter.unnecessarySimpa false
set_option linter.deprecated false
namespace Go.Proofs.YtdkjcdfkoahfkaaGreatDoor.EnvLaid
open Go Go.ChangeShapes Go.WideShapes Go.ChangeAt Go.RowKit

theorem own : ownKnob Tryz.prog.godebug = none := by kernel_rfl
theorem gForm : Tryz.prog.globalNamed "loop.example/g01120/impl.errForm" = some 1 := by kernel_rfl
theorem gSize : Tryz.prog.globalNamed "loop.example/g01120/impl.errSize" = some 0 := by kernel_rfl
theorem gType : Tryz.prog.globalNamed "errors.errorType" = some 2 := by kernel_rfl
theorem tForm : (Tryz.prog.globals[1]?).map (·.type) = some 87 := by kernel_rfl
theorem tSize : (Tryz.prog.globals[0]?).map (·.type) = some 87 := by kernel_rfl
theorem rt : (Tryz.prog.cutTypes.find? (·.1 == "internal/reflectlite.rtype")).map (·.2) = some 256 := by kernel_rfl
theorem size : Tryz.prog.types.size = 328 := by kernel_rfl
theorem oneRow : ((List.range 328).filter fun t => Tryz.prog.rowNamed t [101, 114, 114, 111, 114]) = [87] := by kernel_rfl
theorem star : "*" ++ "errors.errorString" = "*errors.errorString" := by decide
theorem rowPtr (u : TypeId) (h : Tryz.prog.typeName? 3 u = some "*errors.errorString") : u = 299 :=
  typeName_ptr_named (nm := "errors.errorString") (by rw [star]; kernel_rfl) (by kernel_rfl) (by decide) u (by rw [star]; exact h)
theorem cells190 : Tryz.prog.cellsOf 301 = 1 := by kernel_rfl
theorem cells9 : Tryz.prog.cellsOf 9 = 1 := by kernel_rfl

theorem handle_of {W : World} (h : handlesMet Tryz.prog [("errors.errorType", Rows.laid_errors_errorType)] W) :
    W.cell? ⟨2, 0, none⟩ = some (.iface 256 (.agg #[.pointer (some ⟨11, 87, none⟩)])) := by
  obtain ⟨name, u, ty, e1, e2, e3, e4, e5⟩ := h _ (List.mem_singleton.2 rfl)
  have en : name = [101, 114, 114, 111, 114] := (Option.some.inj e1).symm
  subst en
  obtain rfl := Option.some.inj (rt.symm.trans e2)
  have hm : ty ∈ (List.range 328).filter fun t => Tryz.prog.rowNamed t [101, 114, 114, 111, 114] := List.mem_filter.2 ⟨List.mem_range.2 (by rw [← size]; exact e3), e4⟩
  rw [oneRow] at hm
  obtain rfl := List.mem_singleton.1 hm
  have hh : typeHandle Tryz.prog 87 = .pointer (some ⟨11, 87, none⟩) := by kernel_rfl
  rw [hh] at e5
  simpa using World.var?_cell gType e5 0

/-- what a row's condition gives -/
theorem env_of {W : World} (h : laidMetH Tryz.prog [("errors.errorType", Rows.laid_errors_errorType), ("loop.example/g01120/impl.errForm", Rows.laid_loop_example_g01120_impl_errForm), ("loop.example/g01120/impl.errSize", Rows.laid_loop_example_g01120_impl_errSize)] W) :
    Env W ∧ (∃ a, W.var? Tryz.prog "loop.example/g01120/impl.errForm" = some #[.iface 299 (.pointer (some a))]) ∧ (∃ a, W.var? Tryz.prog "loop.example/g01120/impl.errSize" = some #[.iface 299 (.pointer (some a))]) := by
  have h' : laidMet Tryz.prog [("loop.example/g01120/impl.errForm", Rows.laid_loop_example_g01120_impl_errForm), ("loop.example/g01120/impl.errSize", Rows.laid_loop_example_g01120_impl_errSize)] W ∧ handlesMet Tryz.prog [("errors.errorType", Rows.laid_errors_errorType)] W := h
  obtain ⟨a1, s1, hv1, hc1, _, _⟩ := laid_sentinel h'.1 gForm tForm Tryz.underlying87 rowPtr Tryz.underlying299 Tryz.underlying301 rfl rfl Tryz.underlying9 cells190 cells9
  obtain ⟨a2, s2, hv2, hc2, _, _⟩ := laid_sentinel (laidMet.tail h'.1) gSize tSize Tryz.underlying87 rowPtr Tryz.underlying299 Tryz.underlying301 rfl rfl Tryz.underlying9 cells190 cells9
  exact ⟨⟨⟨a1, by simpa using World.var?_cell gForm hv1 0⟩, ⟨a2, by simpa using World.var?_cell gSize hv2 0⟩, handle_of h'.2⟩, ⟨a1, hv1⟩, ⟨a2, hv2⟩⟩
end Go.Proofs.YtdkjcdfkoahfkaaGreatDoor.EnvLaid

namespace Go.Proofs.YtdkjcdfkoahfkaaGreatDoor.EnvLaid
open Go Go.ChangeShapes Go.WideShapes Go.ChangeAt Go.RowKit

theorem laidOut : laidOutB Tryz.prog = true := by kernel_rfl
theorem cellsStr : Tryz.prog.cellsOf 9 = 1 := by kernel_rfl

theorem wf_i64 {n : Int} (h : (Lit.int .i64 n).wf = true) : -9223372036854775807 - 1 ≤ n ∧ n ≤ 9223372036854775807 := by
  have e1 : IntKind.i64.min = -9223372036854775807 - 1 := rfl
  have e2 : IntKind.i64.max = 9223372036854775807 := rfl
  simp [Lit.wf, e1, e2] at h
  omega

theorem var?_after {P : Program} {W W' : World} {n : String} {cs : Array Value} (h : Below W.heap.size W W') (hv : W.var? P n = some cs) : W'.var? P n = some cs := by
  have hv' := hv
  unfold World.var? at hv'
  cases hg : P.globalNamed n with
  | none => rw [hg] at hv'; simp at hv'
  | some g =>
    refine var?_below h hg ?_ hv
    rw [hg] at hv'
    simp only [Option.bind_some] at hv'
    rcases Nat.lt_or_ge g W.heap.size with h | h
    · exact h
    · rw [Array.getElem?_eq_none (by omega)] at hv'; simp at hv'

/-- a list of texts among the cells that came in -/
theorem open_textsC {H : Type} {enc : TypeId × Value → H} {W : World} {x : Value} {fuel : Nat} {y : DataW H × List MemPlace}
    (hf : DataW.trod enc Tryz.prog W 0 (fun _ => true) true fuel 38 [x] = some y) :
    ∃ L, TxL W x L ∧ L.length ≤ maxLen ∧ ∀ s ∈ L, s.size ≤ maxLen := by
  rcases open_strings Tryz.underlying38 Tryz.underlying9 cellsStr hf with ⟨hcs, hx⟩ | ⟨a, len, cap, ss, hcs, _, hl, hm, hz, hx, hcell, hsz⟩
  · simp at hcs
    subst hcs
    exact ⟨[], SlE.nil _ _ _, Nat.zero_le _, by simp⟩
  · simp at hcs
    subst hcs
    simp only [if_true] at hz
    obtain ⟨b, off, spot⟩ := a
    by_cases h0 : len = 0
    · subst h0
      exact ⟨[], SlE.nil _ _ _, Nat.zero_le _, by simp⟩
    · have hspot : spot = none := by simpa [Addr.add] using World.cell?_spot (hcell 0 (by omega))
      subst hspot
      refine ⟨ss.take len, TxL.mk (by simp; omega) hl (by have := hcell 0 (by omega); rw [Addr.add_lit] at this; exact lt_of_cell this) (fun i s hi => ?_), by simp; omega, fun s hs => hsz s (List.mem_of_mem_take hs)⟩
      have hi' : i < len := by
        have := (List.getElem?_eq_some_iff.1 hi).1
        simp at this
        omega
      have e : ss.getD i ByteArray.empty = s := by
        rw [List.getElem?_take_of_lt hi'] at hi
        simp [List.getD, hi]
      have := hcell i (by omega)
      rw [Addr.add_lit, e] at this
      exact this

/-- a list of texts that came in -/
theorem open_texts {H : Type} {enc : TypeId × Value → H} {W : World} {a0 : Option Addr} {len cap : Nat} {d : DataW H} {ps : List MemPlace}
    (h : DataW.Trod enc Tryz.prog W 0 (fun _ => true) true 38 (.slice a0 len cap) d ps) :
    ∃ L, TxL W (.slice a0 len cap) L ∧ L.length ≤ maxLen ∧ ∀ s ∈ L, s.size ≤ maxLen := by
  obtain ⟨fuel, hf⟩ := h
  exact open_textsC (y := (d, ps)) (by simpa [Value.cells] using hf)
end Go.Proofs.YtdkjcdfkoahfkaaGreatDoor.EnvLaid

namespace Go.Proofs.YtdkjcdfkoahfkaaGreatDoor.EnvLaid
open Go Go.ChangeShapes Go.WideShapes Go.ChangeAt Go.RowKit

theorem cellsAut : Tryz.prog.cellsOf 54 = 3 := by kernel_rfl
theorem cellsS1 : Tryz.prog.cellsOf 38 = 1 := by kernel_rfl
theorem cellsS2 : Tryz.prog.cellsOf 137 = 1 := by kernel_rfl
theorem cellsS3 : Tryz.prog.cellsOf 52 = 1 := by kernel_rfl

theorem picked {α : Type} (Q : Nat → Value → α → Prop) : ∀ n : Nat, (∀ i, i < n → ∃ x a, Q i x a) → ∃ (vs : List Value) (xs : List α), vs.length = n ∧ xs.length = n ∧ ∀ i x a, vs[i]? = some x → xs[i]? = some a → Q i x a
  | 0, _ => ⟨[], [], rfl, rfl, fun i x a h => by simp at h⟩
  | n + 1, h => by
    obtain ⟨vs, xs, h1, h2, h3⟩ := picked Q n (fun i hi => h i (by omega))
    obtain ⟨x, a, hx⟩ := h n (by omega)
    refine ⟨vs ++ [x], xs ++ [a], by simp [h1], by simp [h2], fun i y b hy hb => ?_⟩
    rcases Nat.lt_or_ge i n with hi | hi
    · rw [List.getElem?_append_left (by omega)] at hy hb
      exact h3 i y b hy hb
    · have hl := (List.getElem?_eq_some_iff.1 hy).1
      rw [List.length_append] at hl
      simp at hl
      obtain rfl : i = n := by omega
      rw [List.getElem?_append_right (by omega), h1, Nat.sub_self] at hy
      rw [List.getElem?_append_right (by omega), h2, Nat.sub_self] at hb
      simp at hy hb
      subst hy
      subst hb
      exact hx

/-- cells that hold one slice that reads as P says -/
def Opens {H α : Type} (enc : TypeId × Value → H) (W : World) (t : TypeId) (P : World → Value → α → Prop) (Fine : α → Prop) : Prop :=
  ∀ (fuel : Nat) (cs : List Value) (y : DataW H × List MemPlace), DataW.trod enc Tryz.prog W 0 (fun _ => true) true fuel t cs = some y → ∃ q m c a, cs = [.slice q m c] ∧ P W (.slice q m c) a ∧ Fine a

theorem opens_texts {H : Type} (enc : TypeId × Value → H) (W : World) : Opens enc W 38 TxL FineSS := by
  intro fuel cs y hf
  obtain ⟨q, m, c, rfl⟩ : ∃ q m c, cs = [.slice q m c] := by
    rcases open_strings Tryz.underlying38 Tryz.underlying9 cellsStr hf with ⟨hcs, _⟩ | ⟨a, len, cap, ss, hcs, _⟩
    · exact ⟨_, _, _, hcs⟩
    · exact ⟨_, _, _, hcs⟩
  obtain ⟨L, h1, h2, h3⟩ := open_textsC hf
  exact ⟨q, m, c, L, rfl, h1, h2, h3⟩

theorem opens_lists {H α : Type} {enc : TypeId × Value → H} {W : World} {t e : TypeId} {P : World → Value → α → Prop} {Fine : α → Prop} (ht : Tryz.prog.underlying t = some (.slice e)) (hc : Tryz.prog.cellsOf e = 1) (he : Opens enc W e P Fine) :
    Opens enc W t (RdE P) (fun l => l.length ≤ maxLen ∧ ∀ a ∈ l, Fine a) := by
  intro fuel cs y hf
  rcases DataW.trod_slice ht hf with ⟨rfl, _⟩ | ⟨a, len, cap, elems, rest, n, _, rfl, _, _, hl, hm, hlen, hel, _, _⟩
  · exact ⟨_, _, _, [], rfl, RdE.nil _ _ _ _, Nat.zero_le _, fun a h => by simp at h⟩
  have each : ∀ i, i < len → ∃ x b, (∃ q m c, x = .slice q m c) ∧ W.cell? (a.add i) = some x ∧ P W x b ∧ Fine b := by
    intro i hi
    have h1 := hel i hi
    obtain ⟨z, hz⟩ : ∃ z, elems[i]? = some z := ⟨_, List.getElem?_eq_getElem (by omega)⟩
    rw [hz, Option.bind_eq_some_iff, hc, Nat.mul_one] at h1
    obtain ⟨cs', hcs, hy'⟩ := h1
    obtain ⟨q, m, c, b, rfl, h2, h3⟩ := he _ _ _ hy'
    exact ⟨_, b, ⟨q, m, c, rfl⟩, cell_of_cells?_one hcs, h2, h3⟩
  obtain ⟨vs, xs, v1, v2, v3⟩ := picked (fun i x b => (∃ q m c, x = .slice q m c) ∧ W.cell? (a.add i) = some x ∧ P W x b ∧ Fine b) len each
  obtain ⟨b, off, spot⟩ := a
  refine ⟨_, _, _, xs, rfl, ⟨vs, ⟨some ⟨b, off, spot⟩, cap, by rw [v1], by omega, fun i x hi => ?_⟩, by rw [v1, v2], fun i x a hx ha => (v3 i x a hx ha).2.2.1⟩, by rw [v2]; omega, fun x hx => ?_⟩
  · have hil : i < len := by rw [← v1]; exact (List.getElem?_eq_some_iff.1 hi).1
    obtain ⟨⟨q, m, c, rfl⟩, hcell, _⟩ := v3 i x _ hi (List.getElem?_eq_getElem (by omega))
    obtain ⟨_, _, _, hcell0, _⟩ := each 0 (by omega)
    have hspot : spot = none := by simpa [Addr.add] using World.cell?_spot hcell0
    subst hspot
    rw [Addr.add_lit] at hcell
    refine ⟨b, off, [.slice q m c], rfl, lt_of_cell hcell, fun j u hj => ?_, ⟨q, m, c, rfl, rfl⟩⟩
    match j, hj with
    | 0, hj => simp at hj; subst hj; rw [Nat.mul_one, Nat.add_zero]; exact hcell
  · obtain ⟨i, hi⟩ := List.getElem?_of_mem hx
    have hil : i < len := by rw [← v2]; exact (List.getElem?_eq_some_iff.1 hi).1
    exact (v3 i _ x (List.getElem?_eq_getElem (by omega)) hi).2.2.2

set_option maxRecDepth 100000 in
/-- an automaton that came in -/
theorem open_aut {H : Type} {enc : TypeId × Value → H} {W : World} {r : Reach} {b0 : Nat} {v : Value} {d : DataW H} {ps : List MemPlace}
    (hval : Value.okWide Tryz.prog W r b0 54 v) (h : DataW.Trod enc Tryz.prog W 0 (fun _ => true) true 54 v d ps) :
    ∃ S E M, IsAut W v S E M ∧ FineA S E M := by
  obtain ⟨cs, rfl, hsz⟩ := okWide_struct Tryz.underlying54 hval
  rw [cellsAut] at hsz
  obtain ⟨x0, x1, x2, rfl⟩ : ∃ x0 x1 x2, cs = #[x0, x1, x2] := by
    obtain ⟨l⟩ := cs
    match l, hsz with
    | [x0, x1, x2], _ => exact ⟨x0, x1, x2, rfl⟩
  obtain ⟨fuel, hf⟩ := h
  obtain ⟨y0, y1, y2, n, _, _, h0, h1, h2⟩ := Go.Deep.trod_struct3 Tryz.underlying54 hf
  have o1 := opens_texts enc W
  have o2 := opens_lists Tryz.underlying137 cellsS1 o1
  have o3 := opens_lists Tryz.underlying52 cellsS2 o2
  obtain ⟨q, m, c, S, e1, p1, f1⟩ := o1 _ [x0] y0 (by simpa [Value.cells, cellsS1, cellsS3] using h0)
  obtain ⟨q', m', c', E, e2, p2, f2⟩ := o1 _ [x1] y1 (by simpa [Value.cells, cellsS1, cellsS3] using h1)
  obtain ⟨q2, m2, c2, M, e3, p3, f3⟩ := o3 _ [x2] y2 (by simpa [Value.cells, cellsS1, cellsS3] using h2)
  simp at e1 e2 e3
  subst e1
  subst e2
  subst e3
  exact ⟨S, E, M, ⟨_, _, _, rfl, p1, p2, p3⟩, f1, f2, f3.1, f3.2⟩
end Go.Proofs.YtdkjcdfkoahfkaaGreatDoor.EnvLaid

namespace Go.Proofs.YtdkjcdfkoahfkaaGreatDoor
open Go Go.RowKit

/-- whether lists have as many elements as an automaton's with n states -/
def lenB (n : Nat) (L : List ByteArray) : Bool := decide (L.length = n)
def sqB (n : Nat) (LL : List (List ByteArray)) : Bool := decide (LL.length = n) && LL.all (lenB n)
def formB (S E : List ByteArray) (M : List (List (List ByteArray))) : Bool := decide (S.length ≤ 6) && (decide (E.length = S.length) && (decide (1 ≤ M.length ∧ M.length ≤ 3) && M.all (sqB S.length)))

set_option maxRecDepth 100000 in
set_option maxHeartbeats 1000000 in
theorem form1_any (v : Value) (L : List ByteArray) (p n : Nat) (w : World) (h : TxL w v L) (hp : w.cell? ⟨p, 0, none⟩ = some (.int .i64 (n : Int))) (R : Ending → World → Prop)
    (hR : R (.returned (.bool (!lenB n L))) w) :
    Calls Tryz.prog 214 #[v, .pointer (some ⟨p, 0, none⟩)] w R := by
  have HR := Lib.hid hR; clear hR
  obtain ⟨ao, m, cap, rfl, hm, u1, u2⟩ := h.open
  clear u1 u2
  have e : (!lenB n L) = ((m : Int) != (n : Int)) := by
    unfold lenB
    rw [← hm]
    by_cases hmn : m = n
    · subst hmn; simp
    · rw [decide_eq_false hmn]
      have : ((m : Int) != (n : Int)) = true := by rw [bne_iff_ne]; omega
      rw [this]; rfl
  rw [e] at HR
  clear h hm e
  go_enter Tryz.func214, Tryz.ntmps214
  go_wp2
  first | go_ret | skip
  exact HR.out

def IdsRel (w : World) (n m : Nat) (LL : List (List ByteArray)) (x : Value) (wr : World) : Prop :=
  ∃ k : Nat, x = .int .i64 (k : Int) ∧ k ≤ m ∧ (LL.take k).all (lenB n) = true ∧ Below w.heap.size w wr

set_option maxRecDepth 100000 in
set_option maxHeartbeats 2000000 in
theorem ids_any (v : Value) (LL : List (List ByteArray)) (p n : Nat) (w : World) (h : RdE TxL w v LL) (hn : LL.length ≤ 1048576) (hp : w.cell? ⟨p, 0, none⟩ = some (.int .i64 (n : Int))) (hpl : p < w.heap.size) (R : Ending → World → Prop)
    (hR : ∀ (z : Int) w', (z = -1 ∧ LL.all (lenB n) = true) ∨ (0 ≤ z ∧ LL.all (lenB n) = false) → Below w.heap.size w w' → R (.returned (.int .i64 z)) w') :
    Calls Tryz.prog 247 #[v, .func (.func 214) #[] #[.pointer (some ⟨p, 0, none⟩)]] w R := by
  have HR := Lib.hid hR; clear hR
  obtain ⟨ao, m, cap, rfl, hm, hh⟩ := h.open
  have HH := Lib.hid hh
  have HM := Lib.hid hm
  have HP := Lib.hid (And.intro hp hpl)
  rw [← hm] at hn
  have HST : Hid (IdsRel w n m LL (.int .i64 0) w) := Lib.hid ⟨0, rfl, Nat.zero_le _, by simp, Below.refl _ _⟩
  clear h hm hh hp hpl
  go_enter Tryz.func247, Tryz.ntmps247
  go_wp2
  go_loopw [8] (fun x wr => IdsRel w n m LL x wr) (fun x _ => m - (intOf x).toNat)
  case atStart => exact HST.out
  case round =>
    clear HST
    obtain ⟨k, rfl, hk, hall, hbel⟩ := hrel
    have HB := Lib.hid hbel
    have HALL := Lib.hid hall
    by_cases hkm : k = m
    · subst hkm
      have hL : LL.take k = LL := by rw [HM.out, List.take_length]
      rw [hL] at hall
      have HF := Lib.hid (HR.out (-1) wr (.inl ⟨rfl, hall⟩) hbel)
      have hkk : ¬ ((k : Int) < (k : Int)) := by omega
      clear hall hbel hL
      go_wp2
      first | go_ret | skip
      exact HF.out
    · have hkl : k < m := by omega
      obtain ⟨L, hL⟩ : ∃ L, LL[k]? = some L := ⟨_, List.getElem?_eq_getElem (by rw [← HM.out]; exact hkl)⟩
      have HLG := Lib.hid hL
      obtain ⟨b, off, q, mm, c, rfl, hb, hcell, hT⟩ := HH.out.at k L hL
      rw [← hbel.cell (p := ⟨b, off + k, none⟩) hb] at hcell
      have HT := Lib.hid (TxL.later hT hbel (Nat.le_refl _))
      have HPR : Hid (wr.cell? ⟨p, 0, none⟩ = some (.int .i64 (n : Int))) := Lib.hid (by rw [hbel.cell (p := ⟨p, 0, none⟩) HP.out.2]; exact HP.out.1)
      have hk1 : (k : Int) < (m : Int) := by omega
      have hk0 : (0 : Int) ≤ (k : Int) := by omega
      have hw1 : IntKind.i64.wrap ((k : Int) + 1) = ((k + 1 : Nat) : Int) := by rw [IntWalk.i64_in _ (by omega)]; omega
      have HKL := Lib.hid hkl
      clear hL hT hb hall hbel hk hkm
      go_wp2_with fail
      refine form1_any _ L p n wr HT.out HPR.out _ ?_
      dsimp only
      cases hx : lenB n L with
      | false =>
        have HF := Lib.hid (HR.out (k : Int) wr (.inr ⟨by omega, all_false HLG.out hx⟩) HB.out)
        clear hx
        go_wp2
        first | go_ret | skip
        exact HF.out
      | true =>
        have HREL : Hid (IdsRel w n m LL (.int .i64 ((k + 1 : Nat) : Int)) wr) := Lib.hid ⟨k + 1, rfl, HKL.out, by rw [all_succ HLG.out, HALL.out, hx]; rfl, HB.out⟩
        clear hx
        go_wp2
        go_roundw
        case rel => exact HREL.out
        case measure => simp [intOf]; have := HKL.out; omega

set_option maxRecDepth 100000 in
set_option maxHeartbeats 2000000 in
theorem cts_any (v : Value) (LL : List (List ByteArray)) (p n : Nat) (w : World) (h : RdE TxL w v LL) (hn : LL.length ≤ 1048576) (hp : w.cell? ⟨p, 0, none⟩ = some (.int .i64 (n : Int))) (hpl : p < w.heap.size) (R : Ending → World → Prop)
    (hR : ∀ w', Below w.heap.size w w' → R (.returned (.bool (!LL.all (lenB n)))) w') :
    Calls Tryz.prog 213 #[v, .func (.func 214) #[] #[.pointer (some ⟨p, 0, none⟩)]] w R := by
  have HR := Lib.hid hR; clear hR
  have HH := Lib.hid (And.intro h (And.intro hn (And.intro hp hpl)))
  obtain ⟨ao, m, cap, rfl, u1, u2⟩ := h.open
  clear h hn hp hpl u1 u2
  go_enter Tryz.func213, Tryz.ntmps213
  go_wp2_with fail
  refine ids_any _ LL p n w HH.out.1 HH.out.2.1 HH.out.2.2.1 HH.out.2.2.2 _ ?_
  intro z w3 hz hb3
  have HF := Lib.hid (HR.out w3 hb3)
  rcases hz with ⟨rfl, hx⟩ | ⟨hz0, hx⟩
  · rw [hx] at HF
    clear hx hb3
    dsimp only
    go_wp2
    first | go_ret | skip
    exact HF.out
  · rw [hx] at HF
    clear hx hb3
    dsimp only
    go_wp2
    first | go_ret | skip
    exact HF.out
end Go.Proofs.YtdkjcdfkoahfkaaGreatDoor

namespace Go.Proofs.YtdkjcdfkoahfkaaGreatDoor
open Go Go.RowKit

def FormRel (w : World) (n : Nat) (M : List (List (List ByteArray))) (x : Value) (wr : World) : Prop :=
  ∃ k : Nat, x = .int .i64 (k : Int) ∧ k ≤ M.length ∧ (M.take k).all (sqB n) = true ∧ Below w.heap.size w wr

set_option maxRecDepth 100000 in
set_option maxHeartbeats 4000000 in
theorem form_any (v1 v2 v3 : Value) (S E : List ByteArray) (M : List (List (List ByteArray))) (w : World) (h : IsAut w (.agg #[v1, v2, v3]) S E M) (hs : SizeA S E M) (R : Ending → World → Prop)
    (hR : ∀ w', Below w.heap.size w w' → R (.returned (.bool (formB S E M))) w') :
    Calls Tryz.prog 163 #[.agg #[v1, v2, v3]] w R := by
  have HR := Lib.hid hR; clear hR
  have HSZ := Lib.hid hs; clear hs
  obtain ⟨a1, n, c1, a2, n2, c2, a3, n3, c3, e0, u1, u2, u3, k1, k2, k3⟩ := h.parts
  simp at e0
  obtain ⟨rfl, rfl, rfl⟩ := e0
  have HN := Lib.hid (And.intro u1 (And.intro u2 u3))
  have K3 := Lib.hid k3
  have HNL := Lib.hid (show n ≤ 1048576 ∧ n2 ≤ 1048576 ∧ n3 ≤ 1048576 by have := HSZ.out.1.1; have := HSZ.out.2.1.1; have := HSZ.out.2.2.1; omega)
  obtain ⟨L, hL⟩ : ∃ L, L = (w.alloc (.cells #[.slice a1 n c1, .slice a2 n2 c2, .slice a3 n3 c3] 190)).alloc (.cells #[.int .i64 (n : Int)] 3) := ⟨_, rfl⟩
  have hb1 : Below (w.heap.size + 1) (w.alloc (.cells #[.slice a1 n c1, .slice a2 n2 c2, .slice a3 n3 c3] 190)) L := by rw [hL]; exact (Below.refl _ _).alloc (by simp) _
  have HBX : Hid (Box3 L w.heap.size (.slice a1 n c1) (.slice a2 n2 c2) (.slice a3 n3 c3) 190) := Lib.hid ((Box3.made w _ _ _ _).later hb1 (by omega))
  have HBL : Hid (Below w.heap.size w L) := Lib.hid (by rw [hL]; exact ((Below.refl w.heap.size w).alloc (Nat.le_refl _) _).alloc (by simp) _)
  have HPC : Hid (L.cell? ⟨w.heap.size + 1, 0, none⟩ = some (.int .i64 (n : Int))) := Lib.hid (by
    have e : L.heap[w.heap.size + 1]? = some (.cells #[.int .i64 (n : Int)] 3 (0, 0)) := by
      rw [hL]
      have h1 : (w.alloc (.cells #[.slice a1 n c1, .slice a2 n2 c2, .slice a3 n3 c3] 190)).heap.size = w.heap.size + 1 := by simp
      rw [← h1]
      show (Array.push _ _)[_]? = _
      rw [Array.getElem?_push, if_pos rfl]
    simp [World.cell?, e])
  have HLS : Hid (L.heap.size = w.heap.size + 2) := Lib.hid (by rw [hL]; simp)
  have HL := Lib.hid hL
  have HOFF : Hid (formB S E M = false → R (.returned (.bool false)) L) := Lib.hid (fun hf => by have := HR.out L HBL.out; rw [hf] at this; exact this)
  obtain ⟨⟨hA0, hA1, hA2⟩, _, _, _⟩ := HBX.out.cells
  have hA3 := HPC.out
  rw [hL] at hA0 hA1 hA2 hA3
  clear h k1 k2 k3 u1 u2 u3 hb1 hL
  by_cases h6 : 6 < n
  · have e1 : (6 : Int) < (n : Int) := by omega
    have HF := Lib.hid (HOFF.out (by unfold formB; rw [decide_eq_false (by have := HN.out.1; omega), Bool.false_and]))
    clear h6
    go_enter Tryz.func163, Tryz.ntmps163
    go_wp2
    rw [← HL.out]
    first | go_ret | skip
    exact HF.out
  have e1 : ¬ (6 : Int) < (n : Int) := by omega
  by_cases hne : ¬ n2 = n
  · have e2 : ((n2 : Int) != (n : Int)) = true := by rw [bne_iff_ne]; omega
    have HF := Lib.hid (HOFF.out (by unfold formB; rw [decide_eq_false (p := E.length = S.length) (by have := HN.out; omega), Bool.false_and, Bool.and_false]))
    clear h6 hne
    go_enter Tryz.func163, Tryz.ntmps163
    go_wp2
    rw [← HL.out]
    first | go_ret | skip
    exact HF.out
  have e2 : ((n2 : Int) != (n : Int)) = false := by rw [bne_eq_false_iff_eq]; have := Classical.not_not.1 hne; omega
  have HNN := Lib.hid (Classical.not_not.1 hne)
  clear hne
  by_cases h1 : n3 < 1
  · have e3 : (n3 : Int) < 1 := by omega
    have HF := Lib.hid (HOFF.out (by unfold formB; rw [decide_eq_false (p := 1 ≤ M.length ∧ M.length ≤ 3) (by have := HN.out.2.2; omega)]; simp))
    clear h6 h1
    go_enter Tryz.func163, Tryz.ntmps163
    go_wp2
    rw [← HL.out]
    first | go_ret | skip
    exact HF.out
  have e3 : ¬ (n3 : Int) < 1 := by omega
  by_cases h3 : 3 < n3
  · have e4 : (3 : Int) < (n3 : Int) := by omega
    have HF := Lib.hid (HOFF.out (by unfold formB; rw [decide_eq_false (p := 1 ≤ M.length ∧ M.length ≤ 3) (by have := HN.out.2.2; omega)]; simp))
    clear h6 h1 h3
    go_enter Tryz.func163, Tryz.ntmps163
    go_wp2
    rw [← HL.out]
    first | go_ret | skip
    exact HF.out
  have e4 : ¬ (3 : Int) < (n3 : Int) := by omega
  have HM3 := Lib.hid (show 1 ≤ n3 ∧ n3 ≤ 3 by omega)
  have HTR : Hid (formB S E M = M.all (sqB n)) := Lib.hid (by
    unfold formB
    rw [decide_eq_true (p := S.length ≤ 6) (by have := HN.out.1; omega), decide_eq_true (p := E.length = S.length) (by have := HN.out; have := HNN.out; omega), decide_eq_true (p := 1 ≤ M.length ∧ M.length ≤ 3) (by have := HN.out.2.2; omega), ← HN.out.1]
    simp)
  have HST : Hid (FormRel L n M (.int .i64 0) L) := Lib.hid ⟨0, rfl, Nat.zero_le _, by simp, Below.refl _ _⟩
  clear h6 h1 h3
  go_enter Tryz.func163, Tryz.ntmps163
  go_wp2
  rw [← HL.out]
  clear hA0 hA1 hA2 hA3 e1 e2 e3 e4
  go_loopw [33] (fun x wr => FormRel L n M x wr) (fun x _ => n3 - (intOf x).toNat)
  case atStart => exact HST.out
  case round =>
  clear HST
  obtain ⟨k, rfl, hk, hall, hbel⟩ := hrel
  have HB := Lib.hid hbel
  have HALL := Lib.hid hall
  have hA3 : wr.cell? ⟨w.heap.size + 1, 0, none⟩ = some (.int .i64 (n : Int)) := by rw [hbel.cell (p := ⟨w.heap.size + 1, 0, none⟩) (show w.heap.size + 1 < L.heap.size by have := HLS.out; omega)]; exact HPC.out
  have HA3 := Lib.hid hA3
  have HPL : Hid (w.heap.size + 1 < wr.heap.size) := Lib.hid (by have := HLS.out; have := hbel.size; omega)
  by_cases hkn : k = n3
  · subst hkn
    have hkk : ¬ ((k : Int) < (k : Int)) := by omega
    have hL2 : M.take k = M := by rw [HN.out.2.2, List.take_length]
    rw [hL2] at hall
    have hfin : formB S E M = true := by rw [HTR.out]; exact hall
    have HF := Lib.hid (HR.out wr (HBL.out.trans (HB.out.mono HBL.out.size)))
    rw [hfin] at HF
    clear hall hbel hfin hk hL2
    go_wp2
    first | go_ret | skip
    exact HF.out
  have hkl : k < n3 := by have := HN.out.2.2; omega
  obtain ⟨LL, hLL⟩ : ∃ LL, M[k]? = some LL := ⟨_, List.getElem?_eq_getElem (by have := HN.out.2.2; omega)⟩
  have HLLS := Lib.hid (HSZ.out.2.2.2 LL (List.mem_of_getElem? hLL))
  have HK3 := Lib.hid (stay_D (stay_D stay_T) _ _ _ _ K3.out (HBL.out.trans (HB.out.mono HBL.out.size)))
  obtain ⟨b3, o3, q, m, c, rfl, hb5, hcell, hP⟩ := HK3.out.at k LL hLL
  have HPP := Lib.hid hP
  obtain ⟨q', m', c', e5, e6, u7⟩ := hP.open
  simp only [Value.slice.injEq] at e5
  obtain ⟨rfl, rfl, rfl⟩ := e5
  have HML := Lib.hid e6
  have hk1 : (k : Int) < (n3 : Int) := by omega
  have hk0 : (0 : Int) ≤ (k : Int) := by omega
  have hw1 : IntKind.i64.wrap ((k : Int) + 1) = ((k + 1 : Nat) : Int) := by rw [IntWalk.i64_in _ (by have := HM3.out; omega)]; omega
  have HLLG := Lib.hid hLL
  have HKL := Lib.hid hkl
  clear hall hbel hk hkn hLL hP e6 hb5 hkl u7
  by_cases hmn : ¬ m = n
  · have e7 : ((m : Int) != (n : Int)) = true := by rw [bne_iff_ne]; omega
    have hf : formB S E M = false := by
      rw [HTR.out]
      exact all_false HLLG.out (by unfold sqB; rw [decide_eq_false (by have := HML.out; omega), Bool.false_and])
    have HF := Lib.hid (HR.out wr (HBL.out.trans (HB.out.mono HBL.out.size)))
    rw [hf] at HF
    clear hmn hf
    go_wp2
    first | go_ret | skip
    exact HF.out
  have e7 : ((m : Int) != (n : Int)) = false := by rw [bne_eq_false_iff_eq]; have := Classical.not_not.1 hmn; omega
  have HMN := Lib.hid (Classical.not_not.1 hmn)
  have hmf : ∀ (fn : Fn) (first cap : Array Value) (w : World), (Instr.makeFunc fn first cap).run Tryz.prog w = .ok (.func fn first cap) w := fun _ _ _ _ => rfl
  clear hmn
  go_wp2_with fail
  refine cts_any _ LL (w.heap.size + 1) n wr HPP.out HLLS.out.1 HA3.out HPL.out _ ?_
  intro w7 hb7
  have HB7 := Lib.hid (HB.out.trans (hb7.mono HB.out.size))
  clear hb7 hA3 hcell
  dsimp only
  cases hx : LL.all (lenB n) with
  | false =>
    have hf : formB S E M = false := by
      rw [HTR.out]
      exact all_false HLLG.out (by unfold sqB; rw [hx, Bool.and_false])
    have HF := Lib.hid (HR.out w7 (HBL.out.trans (HB7.out.mono HBL.out.size)))
    rw [hf] at HF
    clear hx hf
    go_wp2
    first | go_ret | skip
    exact HF.out
  | true =>
    have HREL : Hid (FormRel L n M (.int .i64 ((k + 1 : Nat) : Int)) w7) := Lib.hid ⟨k + 1, rfl, by have := HN.out.2.2; have := HKL.out; omega, by rw [all_succ HLLG.out, HALL.out]; unfold sqB; rw [hx, decide_eq_true (by have := HML.out; have := HMN.out; omega)]; rfl, HB7.out⟩
    clear hx
    go_wp2
    go_roundw
    case rel => exact HREL.out
    case measure => simp [intOf]; have := HKL.out; omega

theorem isR_set3 {w : World} {v : Value} {q : Rat} {b : Nat} (h : IsR w v q) (hb : NoInt w b) (y0 y1 y2 : Value) (h0 : notInt y0 = true) (h1 : notInt y1 = true) : IsR (((w.setCell ⟨b, 0, none⟩ y0).setCell ⟨b, 1, none⟩ y1).setCell ⟨b, 2, none⟩ y2).drew v q := by
  obtain ⟨s1, s2, e, i1, i2⟩ := h
  exact ⟨s1, s2, e, i1.set3 hb y0 y1 y2 h0 h1, i2.set3 hb y0 y1 y2 h0 h1⟩

set_option maxRecDepth 100000 in
set_option maxHeartbeats 2000000 in
theorem rda1_any (s : ByteArray) (w : World) (hE : Env w) (R : Ending → World → Prop)
    (hR : ∀ v w', isNum s = true → IsR w' v (qOf s) → Below w.heap.size w w' → R (.returned (.tuple #[v, .bool true])) w')
    (hR2 : ∀ w', isNum s = false → Below w.heap.size w w' → R (.returned (.tuple #[.agg #[.bool false, .slice none 0 0, .slice none 0 0], .bool false])) w') :
    Calls Tryz.prog 165 #[.string s] w R := by
  have HR := Lib.hid hR; clear hR
  have HR2 := Lib.hid hR2; clear hR2
  have HE := Lib.hid hE; clear hE
  obtain ⟨L, hL⟩ : ∃ L, L = w.alloc (.cells #[.bool false, .slice none 0 0, .slice none 0 0] 85) := ⟨_, rfl⟩
  have HBL : Hid (Below w.heap.size w L) := Lib.hid (by rw [hL]; exact (Below.refl _ _).alloc (Nat.le_refl _) _)
  have HBX : Hid (Box3 L w.heap.size (.bool false) (.slice none 0 0) (.slice none 0 0) 85) := Lib.hid (by rw [hL]; exact Box3.made _ _ _ _ _)
  have HL := Lib.hid hL
  have hlt : w.heap.size < L.heap.size := by rw [hL]; simp
  clear hL
  go_enter Tryz.func165, Tryz.ntmps165
  go_wp2_with fail
  rw [← HL.out]
  refine readq_any s L (HE.out.later HBL.out (Nat.le_refl _)) _ ?_ ?_
  · intro v q w2 hq hv hb2
    obtain ⟨m4, a5, n5, c5, a6, n6, c6, hm4, rfl, _, _⟩ := hv.parts
    have HX2 := Lib.hid (HBX.out.later hb2 hlt)
    have HV := Lib.hid hv
    have HQ := Lib.hid hq
    have HB2 := Lib.hid (HBL.out.trans (hb2.mono HBL.out.size))
    have HLT : Hid (w.heap.size < w2.heap.size) := Lib.hid (Nat.lt_of_lt_of_le hlt hb2.size)
    obtain ⟨V, hV⟩ : ∃ V, V = w2.alloc (.cells #[.bool m4, .slice a5 n5 c5, .slice a6 n6 c6] 85) := ⟨_, rfl⟩
    have HVV := Lib.hid hV
    have hbV : Below w2.heap.size w2 V := by rw [hV]; exact (Below.refl _ _).alloc (Nat.le_refl _) _
    have HXV := Lib.hid (HX2.out.later hbV HLT.out)
    have HYV : Hid (Box3 V w2.heap.size (.bool m4) (.slice a5 n5 c5) (.slice a6 n6 c6) 85) := Lib.hid (by rw [hV]; exact Box3.made _ _ _ _ _)
    obtain ⟨⟨hA0, hA1, hA2⟩, hF0, hF1, hF2⟩ := HXV.out.cells
    obtain ⟨⟨hC0, hC1, hC2⟩, _, _, _⟩ := HYV.out.cells
    clear hq hv hb2 hm4 hbV
    dsimp only
    have hz1 : isNum s = true := by unfold isNum; rw [HQ.out]; rfl
    have hz2 : qOf s = q := by unfold qOf; rw [HQ.out]; rfl
    have HF := Lib.hid (fun W hw hb => HR.out (.agg #[.bool m4, .slice a5 n5 c5, .slice a6 n6 c6]) W hz1 (by rw [hz2]; exact hw) hb)
    have HVT : Hid (IsR V (.agg #[.bool m4, .slice a5 n5 c5, .slice a6 n6 c6]) q) := Lib.hid (HV.out.later (by rw [hV]; exact (Below.refl _ _).alloc (Nat.le_refl _) _) (Nat.le_refl _))
    have HBV : Hid (Below w.heap.size w V) := Lib.hid (by rw [hV]; exact HB2.out.alloc HB2.out.size _)
    rw [hV] at hA0 hA1 hA2 hF0 hF1 hF2 hC0 hC1 hC2
    clear hz1 hz2 hV
    go_wp2
    rw [← HVV.out] at hA0 hA1 hA2 hF0 hF1 hF2 hC0 hC1 hC2 ⊢
    go_region
    all_goals
      go_wp2
      refine bodyPost_ret_at (by simp [results, Tryz.results165, go_sem, hA0, hA1, hA2, hF0, hF1, hF2] <;> rfl) rfl ?_
      exact HF.out _ (isR_set3 HVT.out (HXV.out.noInt rfl rfl rfl) _ _ _ rfl rfl) (below_set3 HBV.out (Nat.le_refl _) _ _ _).drew
  · intro e w2 hn he hb2
    obtain ⟨t, p, rfl⟩ := he
    have HX2 := Lib.hid (HBX.out.later hb2 hlt)
    have HB2 := Lib.hid (HBL.out.trans (hb2.mono HBL.out.size))
    have HLT : Hid (w.heap.size < w2.heap.size) := Lib.hid (Nat.lt_of_lt_of_le hlt hb2.size)
    obtain ⟨V, hV⟩ : ∃ V, V = w2.alloc (.cells #[.bool false, .slice none 0 0, .slice none 0 0] 85) := ⟨_, rfl⟩
    have HVV := Lib.hid hV
    have hbV : Below w2.heap.size w2 V := by rw [hV]; exact (Below.refl _ _).alloc (Nat.le_refl _) _
    have HXV := Lib.hid (HX2.out.later hbV HLT.out)
    have HYV : Hid (Box3 V w2.heap.size (.bool false) (.slice none 0 0) (.slice none 0 0) 85) := Lib.hid (by rw [hV]; exact Box3.made _ _ _ _ _)
    have HBV : Hid (Below w.heap.size w V) := Lib.hid (HB2.out.trans (hbV.mono HB2.out.size))
    obtain ⟨⟨hA0, hA1, hA2⟩, hF0, hF1, hF2⟩ := HXV.out.cells
    obtain ⟨⟨hC0, hC1, hC2⟩, _, _, _⟩ := HYV.out.cells
    have hz1 : isNum s = false := by unfold isNum; rw [hn]; rfl
    have HF := Lib.hid (fun W hb => HR2.out W hz1 hb)
    rw [hV] at hA0 hA1 hA2 hF0 hF1 hF2 hC0 hC1 hC2
    clear hn hb2 hbV hz1 hV
    unfold zeroR
    dsimp only
    go_wp2
    rw [← HVV.out] at hA0 hA1 hA2 hF0 hF1 hF2 hC0 hC1 hC2 ⊢
    go_region
    all_goals
      go_wp2
      refine bodyPost_ret_at (by simp [results, Tryz.results165, go_sem, hA0, hA1, hA2, hF0, hF1, hF2] <;> rfl) rfl ?_
      exact HF.out _ (below_set3 HBV.out (Nat.le_refl _) _ _ _).drew
end Go.Proofs.YtdkjcdfkoahfkaaGreatDoor

namespace Go.Proofs.YtdkjcdfkoahfkaaGreatDoor
open Go Go.RowKit

/-- whether a list of coefficients can be answered -/
def cofB (qs : List Rat) : Bool := decide (qs.length ≤ 13) && fitsQ qs
/-- the answer -/
def cofL (qs : List Rat) : List ByteArray := if cofB qs = true then textsQ qs else []
theorem cofL_true {qs : List Rat} (h : cofB qs = true) : cofL qs = textsQ qs := by unfold cofL; rw [if_pos h]
theorem cofL_false {qs : List Rat} (h : cofB qs = false) : cofL qs = [] := by unfold cofL; rw [if_neg (by rw [h]; decide)]
theorem cofL_len (qs : List Rat) : (cofL qs).length ≤ 13 := by
  cases h : cofB qs
  · rw [cofL_false h]; simp
  · rw [cofL_true h]
    unfold cofB at h
    rw [Bool.and_eq_true] at h
    unfold textsQ
    rw [List.length_map]; exact of_decide_eq_true h.1
theorem few_dec {q : Rat} (h : few q) : (decide ((decs q.num.natAbs).length ≤ 60) && decide ((decs q.den).length ≤ 60)) = true := by rw [decide_eq_true h.1, decide_eq_true h.2]; rfl
theorem few_not {q : Rat} (h : ¬ few q) : (decide ((decs q.num.natAbs).length ≤ 60) && decide ((decs q.den).length ≤ 60)) = false := by
  cases he : (decide ((decs q.num.natAbs).length ≤ 60) && decide ((decs q.den).length ≤ 60)) with
  | false => rfl
  | true => rw [Bool.and_eq_true] at he; exact absurd ⟨of_decide_eq_true he.1, of_decide_eq_true he.2⟩ h

def CofRel (w : World) (n : Nat) (qs : List Rat) (i : Value) (wr : World) : Prop :=
  ∃ k : Nat, i = .int .i64 (k : Int) ∧ k ≤ n ∧ fitsQ (qs.take k) = true ∧ TArr 9 wr w.heap.size (textsQ (qs.take k) ++ List.replicate (n - k) ByteArray.empty) ∧ Below w.heap.size w wr

theorem TArr.later {e : TypeId} {w w' : World} {g B : Nat} {L : List ByteArray} (h : TArr e w g L) (hb : Below B w w') (hg : g < B) : TArr e w' g L := by
  unfold TArr at *; rw [hb.block g hg]; exact h

set_option maxRecDepth 100000 in
set_option maxHeartbeats 2000000 in
theorem cof_any (v : Value) (qs : List Rat) (w : World) (htab : Lib.TabIs Tryz.prog w "internal/strconv.uint64pow10" .u64 Lib.pow10Tab) (h : RsL w v qs) (R : Ending → World → Prop)
    (hR : ∀ v' w', OwE 1 ET 9 w' w.heap.size v' (cofL qs) → Below w.heap.size w w' → R (.returned (.tuple #[v', .bool (cofB qs)])) w') :
    Calls Tryz.prog 97 #[v] w R := by
  have HR := Lib.hid hR; clear hR
  have HTAB := Lib.hid htab
  obtain ⟨ao, n, cap, rfl, hnl, hc, hh⟩ := SlE.open h
  have HH := Lib.hid hh
  have HN := Lib.hid hnl
  have HFAIL : Hid (∀ w', cofB qs = false → Below w.heap.size w w' → R (.returned (.tuple #[.slice none 0 0, .bool false])) w') := Lib.hid (fun w' hf hb => by
    have := HR.out (.slice none 0 0) w' (by rw [cofL_false hf]; exact OwE.nil _ _ _) hb
    rw [hf] at this; exact this)
  clear h hh hc hnl htab
  by_cases h13 : n ≤ 13
  · have e1 : ¬ ((13 : Int) < (n : Int)) := by omega
    have H13 := Lib.hid h13
    clear h13
    go_enter Tryz.func97, Tryz.ntmps97
    go_wp2_with (at_make; go_must (refine wpList_maket _ rfl _ 38 rfl 9 16 Tryz.underlying38 info_str (by omega) .i64 _ n rfl (by omega) (by have := H13.out; omega) ?_))
    intro W hA hbW hsW
    have HST : Hid (CofRel w n qs (.int .i64 0) W) := Lib.hid ⟨0, rfl, Nat.zero_le _, rfl, by simpa [textsQ] using hA, hbW⟩
    clear hA hbW hsW e1
    go_wp2
    go_loopw [17] (fun i wr => CofRel w n qs i wr) (fun i _ => n - (intOf i).toNat)
    case atStart => exact HST.out
    case round =>
      clear HST
      obtain ⟨k, rfl, hk, hfit, hA, hbel⟩ := hrel
      have HB := Lib.hid hbel
      have HFIT := Lib.hid hfit
      have HA := Lib.hid hA
      by_cases hkn : k = n
      · subst hkn
        have he : qs.take k = qs := by rw [HN.out, List.take_length]
        rw [he, Nat.sub_self, List.replicate_zero, List.append_nil] at hA
        rw [he] at hfit
        have hB : cofB qs = true := by unfold cofB; rw [hfit, decide_eq_true (by have := H13.out; have := HN.out; omega)]; rfl
        have hL : textsQ qs = cofL qs := (cofL_true hB).symm
        rw [hL] at hA
        have HT := Lib.hid (hA.own w.heap.size k (by rw [← hL]; unfold textsQ; rw [List.length_map]; exact HN.out) (Nat.le_refl _) (by have := H13.out; omega))
        have HF := Lib.hid (HR.out _ wr HT.out HB.out)
        rw [hB] at HF
        clear hA hbel hL hfit hB he
        go_wp2
        first | go_ret | skip
        exact HF.out
      · have hkl : k < n := by omega
        obtain ⟨q, hq⟩ : ∃ q, qs[k]? = some q := ⟨_, List.getElem?_eq_getElem (by rw [← HN.out]; exact hkl)⟩
        have HQ := Lib.hid hq
        obtain ⟨b, off, cs, rfl, hb, hcell, hE⟩ := HH.out.at k q hq
        obtain ⟨x1, y1, z1, x2, y2, z2, hcs, hi1, hi2⟩ := hE
        obtain ⟨ng, hng⟩ : ∃ ng, ng = decide (q.num < 0) := ⟨_, rfl⟩
        rw [← hng] at hcs
        have hd0 : wr.cell? ⟨b, off + k * 3, none⟩ = some (.bool ng) := by rw [hbel.cell (p := ⟨b, off + k * 3, none⟩) hb]; exact hcell 0 _ (by rw [hcs]; rfl)
        have hd1 : wr.cell? ⟨b, off + k * 3 + 1, none⟩ = some (.slice x1 y1 z1) := by rw [hbel.cell (p := ⟨b, off + k * 3 + 1, none⟩) hb]; exact hcell 1 _ (by rw [hcs]; rfl)
        have hd2 : wr.cell? ⟨b, off + k * 3 + 2, none⟩ = some (.slice x2 y2 z2) := by rw [hbel.cell (p := ⟨b, off + k * 3 + 2, none⟩) hb]; exact hcell 2 _ (by rw [hcs]; rfl)
        have HY := Lib.hid ((show IsR w (.agg #[.bool ng, .slice x1 y1 z1, .slice x2 y2 z2]) q from ⟨_, _, by rw [hng], hi1, hi2⟩).later hbel (Nat.le_refl _))
        have hw1 : IntKind.i64.wrap ((k : Int) + 1) = ((k + 1 : Nat) : Int) := by rw [IntWalk.i64_in _ (by have := H13.out; omega)]; omega
        have hk0 : (0 : Int) ≤ (k : Int) := by omega
        have hkn2 : (k : Int) < (n : Int) := by omega
        have HKL := Lib.hid hkl
        obtain ⟨V, hV⟩ : ∃ V, V = wr.alloc (.cells #[.bool ng, .slice x1 y1 z1, .slice x2 y2 z2] 85) := ⟨_, rfl⟩
        have hbV : Below wr.heap.size wr V := by rw [hV]; exact (Below.refl _ _).alloc (Nat.le_refl _) _
        have HBV : Hid (Below w.heap.size w V) := Lib.hid (HB.out.trans (hbV.mono HB.out.size))
        have HYV := Lib.hid (HY.out.later hbV (Nat.le_refl _))
        have HAV := Lib.hid (HA.out.later hbV hA.lt)
        have HV := Lib.hid hV
        have HGW : Hid (w.heap.size < V.heap.size) := Lib.hid HAV.out.lt
        clear hq hcell hcs hi1 hi2 hng hkn hA hfit hbel hb hV hbV
        go_wp2_with fail
        rw [← HV.out]
        refine rtext_any _ q _ HYV.out (tab_later HTAB.out HBV.out (Nat.le_refl _)) _ ?_ ?_
        · intro w1 hf hb1
          obtain ⟨T, hT⟩ : ∃ T : ByteArray, T = ⟨(textQ q).toArray⟩ := ⟨_, rfl⟩
          rw [← hT]
          have hfit2 : Hid (fitsQ (qs.take (k + 1)) = true) := Lib.hid (by
            have := HFIT.out
            unfold fitsQ at this ⊢
            rw [List.take_add_one, HQ.out, List.all_append, this]
            simp only [Option.toList_some, List.all_cons, List.all_nil, Bool.and_true, Bool.true_and]
            exact few_dec hf)
          have hA1 := HAV.out.later hb1 HGW.out
          have hlt : (textsQ (qs.take k)).length = k := by unfold textsQ; rw [List.length_map, List.length_take]; have := HN.out; omega
          have hc2 := hA1.cell k ByteArray.empty (by rw [List.getElem?_append_right (by omega), hlt, Nat.sub_self, List.getElem?_replicate, if_pos (by omega)])
          have hf2 := hA1.frozen k
          have hA2 := hA1.set k T
          have e9 : (textsQ (qs.take k) ++ List.replicate (n - k) ByteArray.empty).set k T = textsQ (qs.take (k + 1)) ++ List.replicate (n - (k + 1)) ByteArray.empty := by
            have e : n - k = (n - (k + 1)) + 1 := by omega
            rw [e, List.replicate_succ, List.set_append_right _ _ (by omega), hlt, Nat.sub_self, List.set_cons_zero, hT]
            unfold textsQ
            rw [List.take_add_one, HQ.out]
            simp
          rw [e9] at hA2
          have HA2 := Lib.hid hA2
          have HB1 := Lib.hid (HBV.out.trans (hb1.mono HBV.out.size))
          clear hf hb1 hT hA1 hA2 hlt e9 hd0 hd1 hd2
          dsimp only
          go_wp2
          go_roundw
          case rel => exact ⟨k + 1, by first | rfl | go_num, HKL.out, hfit2.out, HA2.out, HB1.out.setCell (Nat.le_refl _) _⟩
          case measure => simp [intOf]; have := HKL.out; omega
        · intro w1 hf hb1
          have hB : cofB qs = false := by unfold cofB; rw [fitsQ_not HQ.out (few_not hf), Bool.and_false]
          have HF := Lib.hid (HFAIL.out w1 hB (HBV.out.trans (hb1.mono HBV.out.size)))
          clear hf hb1 hB hd0 hd1 hd2
          dsimp only
          go_wp2
          first | go_ret | skip
          exact HF.out
  · have e1 : (13 : Int) < (n : Int) := by omega
    have HF := Lib.hid (HFAIL.out w (by unfold cofB; rw [decide_eq_false (by have := HN.out; omega)]; rfl) (Below.refl _ _))
    clear h13
    go_enter Tryz.func97, Tryz.ntmps97
    go_wp2
    first | go_ret | skip
    exact HF.out
end Go.Proofs.YtdkjcdfkoahfkaaGreatDoor

namespace Go.Proofs.YtdkjcdfkoahfkaaGreatDoor
open Go Go.RowKit

/-- whether a list of fractions can be answered -/
def putB (qs : List Rat) : Bool := decide ((trimQ qs).length ≤ 13) && fitsQ (trimQ qs)
/-- the answer -/
def putL (qs : List Rat) : List ByteArray := if putB qs = true then textsQ (trimQ qs) else []
theorem putL_true {qs : List Rat} (h : putB qs = true) : putL qs = textsQ (trimQ qs) := by unfold putL; rw [if_pos h]
theorem putL_false {qs : List Rat} (h : putB qs = false) : putL qs = [] := by unfold putL; rw [if_neg (by rw [h]; decide)]
theorem DigsQ.take {qs : List Rat} (h : DigsQ qs) (n : Nat) : DigsQ (qs.take n) := by
  intro i q hi
  have hin : i < n := by have := (List.getElem?_eq_some_iff.1 hi).1; rw [List.length_take] at this; omega
  rw [List.getElem?_take_of_lt hin] at hi
  exact h i q hi

end Go.Proofs.YtdkjcdfkoahfkaaGreatDoor

namespace Go.Proofs.YtdkjcdfkoahfkaaGreatDoor
open Go Go.RowKit

theorem polyB_nums {L : List ByteArray} (h : polyB L = true) : L.length ≤ 13 ∧ L.all isNum = true := by
  unfold polyB at h
  rw [Bool.and_eq_true, Bool.and_eq_true] at h
  exact ⟨of_decide_eq_true h.1, h.2.1⟩
theorem pair_all {L0 L1 : List ByteArray} (h : (polyB L0 && polyB L1) = true) : L0.length ≤ 60 ∧ L1.length ≤ 60 ∧ AllBd 60 (L0.map qOf) ∧ AllBd 60 (L1.map qOf) := by
  rw [Bool.and_eq_true] at h
  obtain ⟨k1, k2⟩ := polyB_nums h.1
  obtain ⟨k3, k4⟩ := polyB_nums h.2
  exact ⟨by omega, by omega, allBd_of k2, allBd_of k4⟩
theorem put_cofB (qs : List Rat) : putB (trimQ qs) = cofB (trimQ qs) := by unfold putB cofB; rw [trimQ_idem]
theorem put_cofL (qs : List Rat) : putL (trimQ qs) = cofL (trimQ qs) := by
  have h := put_cofB qs
  unfold putL cofL
  rw [h, trimQ_idem]
theorem DigsQ.of {N : Nat} {qs : List Rat} (h : AllBd N qs) (hN : N ≤ 1000000000) : DigsQ qs := fun i q hi => by
  have := (h i q hi).len (B := 10000) (by omega)
  exact ⟨Nat.le_trans this.1 hN, Nat.le_trans this.2 hN⟩
theorem AllBd.take {N : Nat} {qs : List Rat} (h : AllBd N qs) (n : Nat) : AllBd N (qs.take n) := fun i q hi => by
  have hin : i < n := by have := (List.getElem?_eq_some_iff.1 hi).1; rw [List.length_take] at this; omega
  rw [List.getElem?_take_of_lt hin] at hi
  exact h i q hi
theorem sumP_bd {us bs : List Rat} {y : Rat} (ha : AllBd 60 us) (hb : AllBd 60 bs) (hy : Bd 60 y) : AllBd 200 (sumP us bs y) := by
  intro i q hi
  have hl : i < max us.length bs.length := by rw [← sumP_len us bs y]; exact (List.getElem?_eq_some_iff.1 hi).1
  rw [sumP_at us bs y hl] at hi
  cases hi
  exact ((atQ_bd ha (by omega) i).add ((atQ_bd hb (by omega) i).mul hy)).mono (by omega)

/-- whether there is an answer -/
noncomputable def addpB (L0 L1 : List ByteArray) : Bool := if (polyB L0 && polyB L1) = true then cofB (trimQ (sumP (L0.map qOf) (L1.map qOf) 1)) else false
/-- the answer -/
noncomputable def addpL (L0 L1 : List ByteArray) : List ByteArray := if (polyB L0 && polyB L1) = true then cofL (trimQ (sumP (L0.map qOf) (L1.map qOf) 1)) else []
theorem addpB_eq {L0 L1 : List ByteArray} (h : (polyB L0 && polyB L1) = true) : addpB L0 L1 = cofB (trimQ (sumP (L0.map qOf) (L1.map qOf) 1)) := by unfold addpB; rw [if_pos h]
theorem addpL_eq {L0 L1 : List ByteArray} (h : (polyB L0 && polyB L1) = true) : addpL L0 L1 = cofL (trimQ (sumP (L0.map qOf) (L1.map qOf) 1)) := by unfold addpL; rw [if_pos h]
theorem addpB_none {L0 L1 : List ByteArray} (h : (polyB L0 && polyB L1) = false) : addpB L0 L1 = false := by unfold addpB; rw [if_neg (by rw [h]; decide)]
theorem addpL_none {L0 L1 : List ByteArray} (h : (polyB L0 && polyB L1) = false) : addpL L0 L1 = [] := by unfold addpL; rw [if_neg (by rw [h]; decide)]
theorem addp_small (L0 L1 : List ByteArray) : (addpL L0 L1).length ≤ 60 := by
  cases h : (polyB L0 && polyB L1)
  · rw [addpL_none h]; simp
  · rw [addpL_eq h]; exact Nat.le_trans (cofL_len _) (by omega)

/-- whether there is an answer -/
noncomputable def subpB (L0 L1 : List ByteArray) : Bool := if (polyB L0 && polyB L1) = true then cofB (trimQ (sumP (L0.map qOf) (L1.map qOf) (-1))) else false
/-- the answer -/
noncomputable def subpL (L0 L1 : List ByteArray) : List ByteArray := if (polyB L0 && polyB L1) = true then cofL (trimQ (sumP (L0.map qOf) (L1.map qOf) (-1))) else []
theorem subpB_eq {L0 L1 : List ByteArray} (h : (polyB L0 && polyB L1) = true) : subpB L0 L1 = cofB (trimQ (sumP (L0.map qOf) (L1.map qOf) (-1))) := by unfold subpB; rw [if_pos h]
theorem subpL_eq {L0 L1 : List ByteArray} (h : (polyB L0 && polyB L1) = true) : subpL L0 L1 = cofL (trimQ (sumP (L0.map qOf) (L1.map qOf) (-1))) := by unfold subpL; rw [if_pos h]
theorem subpB_none {L0 L1 : List ByteArray} (h : (polyB L0 && polyB L1) = false) : subpB L0 L1 = false := by unfold subpB; rw [if_neg (by rw [h]; decide)]
theorem subpL_none {L0 L1 : List ByteArray} (h : (polyB L0 && polyB L1) = false) : subpL L0 L1 = [] := by unfold subpL; rw [if_neg (by rw [h]; decide)]
theorem subp_small (L0 L1 : List ByteArray) : (subpL L0 L1).length ≤ 60 := by
  cases h : (polyB L0 && polyB L1)
  · rw [subpL_none h]; simp
  · rw [subpL_eq h]; exact Nat.le_trans (cofL_len _) (by omega)

/-- whether there is an answer -/
noncomputable def mulpB (L0 L1 : List ByteArray) : Bool := if (polyB L0 && polyB L1) = true then cofB (mulP (L0.map qOf) (L1.map qOf)) else false
/-- the answer -/
noncomputable def mulpL (L0 L1 : List ByteArray) : List ByteArray := if (polyB L0 && polyB L1) = true then cofL (mulP (L0.map qOf) (L1.map qOf)) else []
theorem mulpB_eq {L0 L1 : List ByteArray} (h : (polyB L0 && polyB L1) = true) : mulpB L0 L1 = cofB (mulP (L0.map qOf) (L1.map qOf)) := by unfold mulpB; rw [if_pos h]
theorem mulpL_eq {L0 L1 : List ByteArray} (h : (polyB L0 && polyB L1) = true) : mulpL L0 L1 = cofL (mulP (L0.map qOf) (L1.map qOf)) := by unfold mulpL; rw [if_pos h]
theorem mulpB_none {L0 L1 : List ByteArray} (h : (polyB L0 && polyB L1) = false) : mulpB L0 L1 = false := by unfold mulpB; rw [if_neg (by rw [h]; decide)]
theorem mulpL_none {L0 L1 : List ByteArray} (h : (polyB L0 && polyB L1) = false) : mulpL L0 L1 = [] := by unfold mulpL; rw [if_neg (by rw [h]; decide)]
theorem mulp_small (L0 L1 : List ByteArray) : (mulpL L0 L1).length ≤ 60 := by
  cases h : (polyB L0 && polyB L1)
  · rw [mulpL_none h]; simp
  · rw [mulpL_eq h]; exact Nat.le_trans (cofL_len _) (by omega)
end Go.Proofs.YtdkjcdfkoahfkaaGreatDoor

namespace Go.Proofs.YtdkjcdfkoahfkaaGreatDoor
open Go Go.RowKit

end Go.Proofs.YtdkjcdfkoahfkaaGreatDoor

namespace Go.Proofs.YtdkjcdfkoahfkaaGreatDoor
open Go Go.RowKit

theorem IsZ.set4 {w : World} {v : Value} {z : Int} (h : IsZ w v z) {b : Nat} (hb : NoInt w b) (y0 y1 y2 y3 : Value) (h0 : notInt y0 = true) (h1 : notInt y1 = true) (h2 : notInt y2 = true) :
    IsZ ((((w.setCell ⟨b, 0, none⟩ y0).setCell ⟨b, 1, none⟩ y1).setCell ⟨b, 2, none⟩ y2).setCell ⟨b, 3, none⟩ y3) v z := by
  obtain ⟨s, e, hs⟩ := h
  exact ⟨s, e, (((hs.set hb 0 y0).set (hb.set 0 _ h0) 1 y1).set ((hb.set 0 _ h0).set 1 _ h1) 2 y2).set (((hb.set 0 _ h0).set 1 _ h1).set 2 _ h2) 3 y3⟩

theorem IsQ.set4 {w : World} {v : Value} {q : Rat} (h : IsQ w v q) {b : Nat} (hb : NoInt w b) (y0 y1 y2 y3 : Value) (h0 : notInt y0 = true) (h1 : notInt y1 = true) (h2 : notInt y2 = true) :
    IsQ ((((w.setCell ⟨b, 0, none⟩ y0).setCell ⟨b, 1, none⟩ y1).setCell ⟨b, 2, none⟩ y2).setCell ⟨b, 3, none⟩ y3) v q := by
  obtain ⟨s1, s2, e, k1, k2⟩ := h
  exact ⟨s1, s2, e, (((k1.set hb 0 y0).set (hb.set 0 _ h0) 1 y1).set ((hb.set 0 _ h0).set 1 _ h1) 2 y2).set (((hb.set 0 _ h0).set 1 _ h1).set 2 _ h2) 3 y3,
    (((k2.set hb 0 y0).set (hb.set 0 _ h0) 1 y1).set ((hb.set 0 _ h0).set 1 _ h1) 2 y2).set (((hb.set 0 _ h0).set 1 _ h1).set 2 _ h2) 3 y3⟩

end Go.Proofs.YtdkjcdfkoahfkaaGreatDoor

namespace Go.Proofs.YtdkjcdfkoahfkaaGreatDoor
open Go Go.RowKit

end Go.Proofs.YtdkjcdfkoahfkaaGreatDoor

namespace Go.Proofs.YtdkjcdfkoahfkaaGreatDoor
open Go Go.RowKit

set_option maxRecDepth 100000 in
set_option maxHeartbeats 4000000 in
theorem mulQ_any (va vb : Value) (a b : Rat) (w : World) (ha : IsQ w va a) (hb : IsQ w vb b) (hla : (dig 10000 a.num.natAbs).length ≤ 400000) (hla2 : (dig 10000 a.den).length ≤ 400000)
    (hlb : (dig 10000 b.num.natAbs).length ≤ 400000) (hlb2 : (dig 10000 b.den).length ≤ 400000)
    (R : Ending → World → Prop) (hR : ∀ v w', IsQ w' v (a * b) → Below w.heap.size w w' → R (.returned v) w') :
    Calls Tryz.prog 124 #[va, vb] w R := by
  have HR := Lib.hid hR; clear hR
  obtain ⟨na, a1, n1, c1, a2, n2, c2, rfl, hz1, hz2⟩ := ha.parts
  obtain ⟨nb, a3, n3, c3, a4, n4, c4, rfl, hz3, hz4⟩ := hb.parts
  clear ha hb
  obtain ⟨L, hL⟩ : ∃ L, L = ((w.alloc (.cells #[.bool na, .slice a1 n1 c1, .bool false, .slice a2 n2 c2] 75)).alloc (.cells #[.bool nb, .slice a3 n3 c3, .bool false, .slice a4 n4 c4] 75)).alloc (.cells #[.bool false, .slice none 0 0, .bool false, .slice none 0 0] 75) := ⟨_, rfl⟩
  have hLs : L.heap.size = w.heap.size + 3 := by rw [hL]; simp
  have B0 : Box4 L w.heap.size (.bool na) (.slice a1 n1 c1) (.bool false) (.slice a2 n2 c2) 75 := by
    rw [hL]; exact ((Box4.made w _ _ _ _ _).later (B := w.heap.size + 1) ((Below.refl _ _).alloc (by simp) _) (by omega)).later (B := w.heap.size + 2) ((Below.refl _ _).alloc (by simp) _) (by omega)
  have B1 : Box4 L (w.heap.size + 1) (.bool nb) (.slice a3 n3 c3) (.bool false) (.slice a4 n4 c4) 75 := by
    rw [hL]; have := (Box4.made (w.alloc (.cells #[.bool na, .slice a1 n1 c1, .bool false, .slice a2 n2 c2] 75)) (.bool nb) (.slice a3 n3 c3) (.bool false) (.slice a4 n4 c4) 75).later (B := w.heap.size + 2) ((Below.refl _ _).alloc (by simp) (.cells #[.bool false, .slice none 0 0, .bool false, .slice none 0 0] 75)) (by simp); simpa using this
  have B2 : Box4 L (w.heap.size + 2) (.bool false) (.slice none 0 0) (.bool false) (.slice none 0 0) 75 := by
    rw [hL]; have := Box4.made ((w.alloc (.cells #[.bool na, .slice a1 n1 c1, .bool false, .slice a2 n2 c2] 75)).alloc (.cells #[.bool nb, .slice a3 n3 c3, .bool false, .slice a4 n4 c4] 75)) (.bool false) (.slice none 0 0) (.bool false) (.slice none 0 0) 75; simpa using this
  have HEXT : Below w.heap.size w L := by rw [hL]; exact (((Below.refl w.heap.size w).alloc (Nat.le_refl _) _).alloc (by simp) _).alloc (by simp; omega) _
  have HL := Lib.hid hL
  have y1 := (hz1.later HEXT (Nat.le_refl _))
  have y2 := (hz2.later HEXT (Nat.le_refl _))
  have y3 := (hz3.later HEXT (Nat.le_refl _))
  have y4 := (hz4.later HEXT (Nat.le_refl _))
  clear hL hz1 hz2 hz3 hz4
  go_enter Tryz.func124, Tryz.ntmps124
  go_wp2_with fail
  rw [← HL.out]
  obtain ⟨⟨hA0, hA1, hA2, hA3⟩, _, _, _, _⟩ := B0.cells
  obtain ⟨⟨hB0, hB1, hB2, hB3⟩, _, _, _, _⟩ := B1.cells
  have hk0 : w.heap.size < L.heap.size := by omega
  have hk1 : w.heap.size + 1 < L.heap.size := by omega
  have hk2 : w.heap.size + 2 < L.heap.size := by omega
  have hla' : (dig 10000 (a.num.natAbs)).length ≤ 10000000 := by omega
  have hlb' : (dig 10000 (b.num.natAbs)).length ≤ 10000000 := by omega
  have hla2' : (dig 10000 ((a.den : Int).natAbs)).length ≤ 10000000 := by rw [Int.natAbs_natCast]; omega
  have hlb2' : (dig 10000 ((b.den : Int).natAbs)).length ≤ 10000000 := by rw [Int.natAbs_natCast]; omega
  have hm1 : (dig 10000 ((a.num * b.num).natAbs)).length ≤ 1000000 := by rw [Int.natAbs_mul]; have := mul_len _ _ _ _ hla hlb; omega
  have hm2 : (dig 10000 (((a.den : Int) * (b.den : Int)).natAbs)).length ≤ 1000000 := by rw [Int.natAbs_mul, Int.natAbs_natCast, Int.natAbs_natCast]; have := mul_len _ _ _ _ hla2 hlb2; omega
  have hd0 : (a.den : Int) * (b.den : Int) ≠ 0 := by
    have h1 := a.den_pos; have h2 := b.den_pos
    have := Nat.mul_pos h1 h2
    intro h; rw [← Int.natCast_mul] at h; omega
  have HLN := Lib.hid (And.intro hla' (And.intro hlb' (And.intro hla2' (And.intro hlb2' (And.intro hm1 (And.intro hm2 hd0))))))
  clear hla hlb hla2 hlb2 hla' hlb' hla2' hlb2' hm1 hm2 hd0
  go_cut [] (fun wx => QBox w.heap.size w (w.heap.size + 1 + 1) (a * b) wx)
  case first =>
    go_region_law (first
      | (have hguard := hb2; go_simp; go_at_call 154; refine make_any v1 v2 (a.num * b.num) ((a.den : Int) * (b.den : Int)) _ (hv1.later hb2 (Nat.le_refl _)) hv2 HLN.out.2.2.2.2.1 HLN.out.2.2.2.2.2.1 HLN.out.2.2.2.2.2.2 _ ?_; intro v3 w3 hv3 hb3; obtain ⟨n5, a5, m5, c5, a6, m6, c6, rfl, hz5, hz6⟩ := hv3.parts; have bb : Below L.heap.size L w3 := (below_ofDrew hb1).trans ((hb2.mono hb1.size).trans (hb3.mono (Nat.le_trans hb1.size hb2.size))); have d2 := B2.later bb hk2; obtain ⟨⟨hR0, hR1, hR2, hR3⟩, hR4, hR5, hR6, hR7⟩ := d2.cells; clear hguard; dsimp only)
      | (have hguard := hb1; go_simp; go_at_call 176; refine zmul_any (.agg #[.bool false, .slice a2 n2 c2]) (.agg #[.bool false, .slice a4 n4 c4]) (a.den : Int) (b.den : Int) _ (y2.drew.later hb1 (Nat.le_refl _)) (y4.drew.later hb1 (Nat.le_refl _)) HLN.out.2.2.1 HLN.out.2.2.2.1 _ ?_; intro v2 w2 hv2 hb2; clear hguard; dsimp only)
      | (go_simp; go_at_call 176; refine zmul_any (.agg #[.bool na, .slice a1 n1 c1]) (.agg #[.bool nb, .slice a3 n3 c3]) a.num b.num _ y1.drew y3.drew HLN.out.1 HLN.out.2.1 _ ?_; intro v1 w1 hv1 hb1; have e0 := B0.later (below_ofDrew hb1) hk0; have e1 := B1.later (below_ofDrew hb1) hk1; obtain ⟨⟨hC0, hC1, hC2, hC3⟩, _, _, _, _⟩ := e0.cells; obtain ⟨⟨hD0, hD1, hD2, hD3⟩, _, _, _, _⟩ := e1.cells; dsimp only))
    all_goals (go_wp2_with fail; go_meet; exact q_end w L w3 w.heap.size _ _ _ _ _ _ _ _ _ d2 (by rw [← mul_divint]; exact hv3) HEXT bb (by omega))
  case rest =>
    clear hA0 hA1 hA2 hA3 hB0 hB1 hB2 hB3
    obtain ⟨b1, x1, x2, hbx, he, ht1, ht2, hbl⟩ := hcut
    obtain ⟨⟨hR0, hR1, hR2, hR3⟩, _, _, _, _⟩ := hbx.cells
    go_wp2
    refine bodyPost_ret_at (by simp [results, Tryz.results124, go_sem, hR0, hR1, hR2, hR3] <;> rfl) rfl ?_
    exact HR.out _ _ ⟨x1, x2, by rw [he], ht1, ht2⟩ hbl
end Go.Proofs.YtdkjcdfkoahfkaaGreatDoor

namespace Go.Proofs.YtdkjcdfkoahfkaaGreatDoor
open Go Go.RowKit

theorem EQ.of {w : World} {x0 x1 x2 x3 : Value} {q : Rat} (h : IsQ w (.agg #[x0, x1, x2, x3]) q) : EQ w [x0, x1, x2, x3] q := by
  obtain ⟨a1, n1, c1, a2, n2, c2, e, _, _⟩ := h.open
  simp only [Value.agg.injEq, Array.mk.injEq, List.cons.injEq, and_true] at e
  obtain ⟨rfl, rfl, rfl, rfl⟩ := e
  exact ⟨_, _, _, _, _, _, rfl, h⟩

def L2SumRel (w : World) (us bs : List Rat) (y : Rat) (v i : Value) (wr : World) : Prop :=
  ∃ k : Nat, i = .int .i64 (k : Int) ∧ k ≤ max us.length bs.length ∧ OwE 4 EQ 75 wr w.heap.size v ((sumP us bs y).take k) ∧ Below w.heap.size w wr

end Go.Proofs.YtdkjcdfkoahfkaaGreatDoor

namespace Go.Proofs.YtdkjcdfkoahfkaaGreatDoor
open Go Go.RowKit

def DerSRel (w : World) (us : List Rat) (v i : Value) (wr : World) : Prop :=
  ∃ k : Nat, i = .int .i64 (k : Int) ∧ 1 ≤ k ∧ (k ≤ us.length ∨ k = 1) ∧ OwE 4 EQ 75 wr w.heap.size v ((derP us).take (k - 1)) ∧ Below w.heap.size w wr

theorem int_bd {k : Nat} (h : k ≤ 100) : Bd 60 (((k : Nat) : Int) : Rat) := by
  have := Bd.int k 60 (Nat.lt_of_le_of_lt h (by decide)) (by omega)
  exact this

end Go.Proofs.YtdkjcdfkoahfkaaGreatDoor

namespace Go.Proofs.YtdkjcdfkoahfkaaGreatDoor
open Go Go.RowKit

theorem ER.of {w : World} {x0 x1 x2 : Value} {q : Rat} (h : IsR w (.agg #[x0, x1, x2]) q) : ER w [x0, x1, x2] q := by
  obtain ⟨na, a1, n1, c1, a2, n2, c2, hna, e, h1, h2⟩ := h.parts
  simp only [Value.agg.injEq, Array.mk.injEq, List.cons.injEq, and_true] at e
  obtain ⟨rfl, rfl, rfl⟩ := e
  exact ⟨_, _, _, _, _, _, by rw [hna], h1, h2⟩

def DerIRel (w : World) (us : List Rat) (v i : Value) (wr : World) : Prop :=
  ∃ k : Nat, i = .int .i64 (k : Int) ∧ k ≤ us.length ∧ OwE 3 ER 85 wr w.heap.size v ((derP us).take (k - 1)) ∧ Below w.heap.size w wr

end Go.Proofs.YtdkjcdfkoahfkaaGreatDoor

namespace Go.Proofs.YtdkjcdfkoahfkaaGreatDoor
open Go Go.RowKit

def cvV : Value := .func (.func 165) #[] #[]
def rowV (p : Nat) : Value := .func (.func 215) #[] #[.pointer (some ⟨p, 0, none⟩)]
def movV (p : Nat) : Value := .func (.func 217) #[] #[.pointer (some ⟨p, 0, none⟩)]
/-- the variables that the closures have -/
structure Cap1 (w : World) (p : Nat) : Prop where
  c1 : w.cell? ⟨p, 0, none⟩ = some cvV
  l1 : p < w.heap.size
structure Cap2 (w : World) (p p2 : Nat) : Prop where
  one : Cap1 w p
  c2 : w.cell? ⟨p2, 0, none⟩ = some (rowV p)
  l2 : p2 < w.heap.size
theorem Cap1.later {w w' : World} {p : Nat} (h : Cap1 w p) (hb : Below w.heap.size w w') : Cap1 w' p := ⟨by rw [hb.cell (p := ⟨p, 0, none⟩) h.l1]; exact h.c1, Nat.lt_of_lt_of_le h.l1 hb.size⟩
theorem Cap2.later {w w' : World} {p p2 : Nat} (h : Cap2 w p p2) (hb : Below w.heap.size w w') : Cap2 w' p p2 := ⟨h.one.later hb, by rw [hb.cell (p := ⟨p2, 0, none⟩) h.l2]; exact h.c2, Nat.lt_of_lt_of_le h.l2 hb.size⟩
noncomputable def allN (L : List ByteArray) : Bool := L.all isNum
noncomputable def allN2 (LL : List (List ByteArray)) : Bool := LL.all allN
noncomputable def allN3 (M : List (List (List ByteArray))) : Bool := M.all allN2
noncomputable def qs1 (L : List ByteArray) : List Rat := L.map qOf
noncomputable def qs2 (LL : List (List ByteArray)) : List (List Rat) := LL.map qs1
noncomputable def qs3 (M : List (List (List ByteArray))) : List (List (List Rat)) := M.map qs2
def OwQ1 (w : World) (B : Nat) (x : Value) (L : List Rat) : Prop := OwE 3 ER 85 w B x L
theorem fbQ1 : FbP OwQ1 := fbO elemR 85
def OwQ2 (w : World) (B : Nat) (x : Value) (LL : List (List Rat)) : Prop := OwL 110 OwQ1 w B x LL
theorem fbQ2 : FbP OwQ2 := fbL fbQ1 110
def OwQ3 (w : World) (B : Nat) (x : Value) (M : List (List (List Rat))) : Prop := OwL 244 OwQ2 w B x M
theorem fbQ3 : FbP OwQ3 := fbL fbQ2 244
theorem info_qs1 : (Tryz.prog.info? 110).map (fun i => (i.zero, i.size, i.bytes)) = some (some (.slice none 0 0), 1, 24) := by kernel_rfl
theorem info_qs2 : (Tryz.prog.info? 244).map (fun i => (i.zero, i.size, i.bytes)) = some (some (.slice none 0 0), 1, 24) := by kernel_rfl

def Cv1Rel (w : World) (n : Nat) (L : List ByteArray) (i : Value) (wr : World) : Prop :=
  ∃ k : Nat, i = .int .i64 (k : Int) ∧ k ≤ n ∧ (L.take k).all isNum = true ∧ Blk 3 ER zR 85 wr w.heap.size n ((L.take k).map qOf) ∧ Below w.heap.size w wr

set_option maxRecDepth 100000 in
set_option maxHeartbeats 4000000 in
theorem cl1_any (v : Value) (L : List ByteArray) (w : World) (hE : Env w) (h : TxL w v L) (hn : L.length ≤ 1048576) (R : Ending → World → Prop)
    (hR : ∀ v' w', allN L = true → OwQ1 w' w.heap.size v' (qs1 L) → Below w.heap.size w w' → R (.returned (.tuple #[v', .bool true])) w')
    (hR2 : ∀ w', allN L = false → Below w.heap.size w w' → R (.returned (.tuple #[.slice none 0 0, .bool false])) w') :
    Calls Tryz.prog 216 #[v, cvV] w R := by
  have HR := Lib.hid hR; clear hR
  have HR2 := Lib.hid hR2; clear hR2
  have HE := Lib.hid hE; clear hE
  obtain ⟨ao, n, cap, rfl, hnl, u1, hh⟩ := h.open
  have HH := Lib.hid hh
  have HN := Lib.hid hnl
  rw [← hnl] at hn
  clear h hnl hh u1
  unfold cvV
  go_enter Tryz.func216, Tryz.ntmps216
  go_wp2_with (at_make; go_must (refine wpList_makeE _ 3 ER rfl _ _ rfl zeroR zR rfl rfl zeroR_ints 85 56 Tryz.underlying110 info_ratio (by omega) .i64 _ n rfl (by omega) (by omega) ?_))
  intro W hA hbW hsW
  have HST : Hid (Cv1Rel w n L (.int .i64 0) W) := Lib.hid ⟨0, rfl, Nat.zero_le _, by simp, by simpa using hA, hbW⟩
  clear hA hbW hsW
  go_wp2
  go_loopw [16] (fun i wr => Cv1Rel w n L i wr) (fun i _ => n - (intOf i).toNat)
  case atStart => exact HST.out
  case round =>
    clear HST
    obtain ⟨k, rfl, hk, hall, hA, hbel⟩ := hrel
    have HB := Lib.hid hbel
    have HA := Lib.hid hA
    have HALL := Lib.hid hall
    by_cases hkn : k = n
    · subst hkn
      have hL : L.take k = L := by rw [HN.out, List.take_length]
      rw [hL] at hA hall
      have HF := Lib.hid (HR.out _ wr hall (hA.own (B := w.heap.size) (Nat.le_refl _) (by rw [List.length_map]; exact HN.out.symm) (by omega)) hbel)
      have hkk : ¬ ((k : Int) < (k : Int)) := by omega
      clear hA hbel hL hall
      go_wp2
      first | go_ret | skip
      exact HF.out
    · have hkl : k < n := by omega
      obtain ⟨s, hs⟩ : ∃ s, L[k]? = some s := ⟨_, List.getElem?_eq_getElem (by rw [← HN.out]; exact hkl)⟩
      have HSG := Lib.hid hs
      have HTK : Hid ((L.take (k + 1)).map qOf = (L.take k).map qOf ++ [qOf s]) := Lib.hid (by rw [List.take_add_one, hs]; simp)
      have HTL : Hid (k = ((L.take k).map qOf).length) := Lib.hid (by rw [List.length_map, List.length_take, ← HN.out]; omega)
      obtain ⟨b, off, rfl, hb, hcell⟩ := TxL.at HH.out k s hs
      rw [← hbel.cell (p := ⟨b, off + k, none⟩) hb] at hcell
      have hk1 : (k : Int) < (n : Int) := by omega
      have hk0 : (0 : Int) ≤ (k : Int) := by omega
      have hw1 : IntKind.i64.wrap ((k : Int) + 1) = ((k + 1 : Nat) : Int) := by rw [IntWalk.i64_in _ (by omega)]; omega
      have HKL := Lib.hid hkl
      have HGR : Hid (w.heap.size < wr.heap.size) := Lib.hid hA.lt
      clear hs hb hA hbel hkn hk hall
      go_wp2_with fail
      refine rda1_any s wr (HE.out.later HB.out (Nat.le_refl _)) _ ?_ ?_
      · intro v6 w6 hok hv6 hb6
        obtain ⟨m6, a10, n10, c10, a11, n11, c11, hm6, rfl, hi5, hi6⟩ := hv6.parts
        obtain ⟨V, hV⟩ : ∃ V, V = w6.alloc (.cells #[.bool m6, .slice a10 n10 c10, .slice a11 n11 c11] 85) := ⟨_, rfl⟩
        have hbV : Below w6.heap.size w6 V := by rw [hV]; exact (Below.refl _ _).alloc (Nat.le_refl _) _
        have HV := Lib.hid hV
        have HBV : Hid (Below w.heap.size w V) := Lib.hid ((HB.out.trans (hb6.mono HB.out.size)).trans (hbV.mono (Nat.le_trans HB.out.size hb6.size)))
        have HAV := Lib.hid ((HA.out.later elemR hb6 (Nat.le_refl _)).later elemR hbV (Nat.le_refl _))
        have HYV : Hid (Box3 V w6.heap.size (.bool m6) (.slice a10 n10 c10) (.slice a11 n11 c11) 85) := Lib.hid (by rw [hV]; exact Box3.made _ _ _ _ _)
        obtain ⟨s0, s1, s2, hs0, hs1, hs2, _, _⟩ := HAV.out.cells (i := k) (by have := HKL.out; omega)
        have hg0 := HAV.out.frozen (k * 3)
        have hg1 := HAV.out.frozen (k * 3 + 1)
        have hg2 := HAV.out.frozen (k * 3 + 2)
        obtain ⟨⟨hC0, hC1, hC2⟩, _, _, _⟩ := HYV.out.cells
        have HER : Hid (ER V [.bool m6, .slice a10 n10 c10, .slice a11 n11 c11] (qOf s)) := Lib.hid (ER.of (hv6.later hbV (Nat.le_refl _)))
        have HREL : Hid (Cv1Rel w n L (.int .i64 ((k + 1 : Nat) : Int)) (set3 V w.heap.size k (.bool m6) (.slice a10 n10 c10) (.slice a11 n11 c11))) := Lib.hid
            ⟨k + 1, rfl, HKL.out, by rw [all_succ HSG.out, HALL.out]; exact hok, by rw [HTK.out]; exact HAV.out.put elemR HTL.out HKL.out HER.out, set3_below HBV.out (Nat.le_refl _) _ _ _ _⟩
        unfold set3 at HREL
        rw [hV] at hs0 hs1 hs2 hg0 hg1 hg2 hC0 hC1 hC2
        rw [HV.out] at HREL
        clear hm6 hv6 hb6 hi5 hi6 hok hbV hV
        dsimp only
        go_wp2
        go_roundw
        case rel => exact HREL.out
        case measure => simp [intOf]; have := HKL.out; omega
      · intro w6 hok hb6
        have HB6 := Lib.hid (HB.out.trans (hb6.mono HB.out.size))
        have HF := Lib.hid (fun W hb => HR2.out W (all_false HSG.out hok) hb)
        clear hok hb6
        dsimp only
        go_wp2
        first | go_ret | skip
        exact HF.out _ (HB6.out.alloc HB6.out.size _)

set_option maxRecDepth 100000 in
set_option maxHeartbeats 2000000 in
theorem cvr_any (v : Value) (L : List ByteArray) (p : Nat) (w : World) (hE : Env w) (hp : Cap1 w p) (h : TxL w v L) (hs : L.length ≤ 1048576) (R : Ending → World → Prop)
    (hR : ∀ v' w', allN L = true → OwQ1 w' w.heap.size v' (qs1 L) → Below w.heap.size w w' → R (.returned (.tuple #[v', .bool true])) w')
    (hR2 : ∀ w', allN L = false → Below w.heap.size w w' → R (.returned (.tuple #[.slice none 0 0, .bool false])) w') :
    Calls Tryz.prog 215 #[v, .pointer (some ⟨p, 0, none⟩)] w R := by
  have HR := Lib.hid hR; clear hR
  have HR2 := Lib.hid hR2; clear hR2
  have HE := Lib.hid hE; clear hE
  have HP := Lib.hid hp
  have HH := Lib.hid (And.intro h hs)
  obtain ⟨ao, m, cap, rfl⟩ : ∃ ao m cap, v = .slice ao m cap := by
    obtain ⟨ao, m, cap, e, _⟩ := h.open
    exact ⟨ao, m, cap, e⟩
  have hc := hp.c1
  unfold cvV at hc
  clear h hs hp
  go_enter Tryz.func215, Tryz.ntmps215
  go_wp2_with fail
  refine cl1_any _ L w HE.out HH.out.1 HH.out.2 _ ?_ ?_
  · intro v3 w3 hok hv3 hb3
    obtain ⟨a3, n3, c3, rfl⟩ := fbQ1.2.1 _ _ _ _ hv3
    have HF := Lib.hid (HR.out _ w3 hok hv3 hb3)
    clear hok hv3 hb3
    dsimp only
    go_wp2
    first | go_ret | skip
    exact HF.out
  · intro w3 hok hb3
    have HF := Lib.hid (HR2.out w3 hok hb3)
    clear hok hb3
    dsimp only
    go_wp2
    first | go_ret | skip
    exact HF.out

def cl2Rel (w : World) (n : Nat) (LL : List (List ByteArray)) (i : Value) (wr : World) : Prop :=
  ∃ k : Nat, i = .int .i64 (k : Int) ∧ k ≤ n ∧ (LL.take k).all allN = true ∧ VB OwQ1 110 wr w.heap.size n ((LL.take k).map qs1) ∧ Below w.heap.size w wr

set_option maxRecDepth 100000 in
set_option maxHeartbeats 4000000 in
theorem cl2_any (v : Value) (LL : List (List ByteArray)) (p : Nat) (w : World) (hE : Env w) (hp : Cap1 w p) (h : RdE TxL w v LL) (hn : LL.length ≤ 1048576) (hs : ∀ a ∈ LL, SizeSS a) (R : Ending → World → Prop)
    (hR : ∀ v' w', LL.all allN = true → OwL 110 OwQ1 w' w.heap.size v' (LL.map qs1) → Below w.heap.size w w' → R (.returned (.tuple #[v', .bool true])) w')
    (hR2 : ∀ w', LL.all allN = false → Below w.heap.size w w' → R (.returned (.tuple #[.slice none 0 0, .bool false])) w') :
    Calls Tryz.prog 218 #[v, rowV p] w R := by
  have HR := Lib.hid hR; clear hR
  have HR2 := Lib.hid hR2; clear hR2
  have HE := Lib.hid hE; clear hE
  have HPP := Lib.hid hp; clear hp
  obtain ⟨ao, n, cap, rfl, hnl, hh⟩ := h.open
  have HH := Lib.hid hh
  have HN := Lib.hid hnl
  have HS := Lib.hid hs
  rw [← hnl] at hn
  clear h hnl hh hs
  unfold rowV
  go_enter Tryz.func218, Tryz.ntmps218
  go_wp2_with (at_make; go_must (refine wpList_makev _ rfl (.tmp 12) 244 rfl (.slice none 0 0) rfl 110 24 Tryz.underlying244 info_qs1 (by omega) .i64 _ n rfl (by omega) (by omega) ?_))
  intro W hA hbW hsW
  have HST : Hid (cl2Rel w n LL (.int .i64 0) W) := Lib.hid ⟨0, rfl, Nat.zero_le _, by simp, by simpa using VB.start OwQ1 hA, hbW⟩
  clear hA hbW hsW
  go_wp2
  go_loopw [16] (fun i wr => cl2Rel w n LL i wr) (fun i _ => n - (intOf i).toNat)
  case atStart => exact HST.out
  case round =>
    clear HST
    obtain ⟨k, rfl, hk, hall, hA, hbel⟩ := hrel
    have HB := Lib.hid hbel
    have HA := Lib.hid hA
    have HALL := Lib.hid hall
    by_cases hkn : k = n
    · subst hkn
      have hL : LL.take k = LL := by rw [HN.out, List.take_length]
      rw [hL] at hA hall
      have HF := Lib.hid (HR.out _ wr hall (hA.own fbQ1 (by rw [List.length_map]; exact HN.out.symm) (Nat.le_refl _) (by omega)) hbel)
      have hkk : ¬ ((k : Int) < (k : Int)) := by omega
      clear hA hbel hL hall
      go_wp2
      first | go_ret | skip
      exact HF.out
    · have hkl : k < n := by omega
      obtain ⟨L, hL⟩ : ∃ L, LL[k]? = some L := ⟨_, List.getElem?_eq_getElem (by rw [← HN.out]; exact hkl)⟩
      have HLS := Lib.hid (HS.out L (List.mem_of_getElem? hL))
      have HLG := Lib.hid hL
      have HTK : Hid ((LL.take (k + 1)).map qs1 = (LL.take k).map qs1 ++ [qs1 L]) := Lib.hid (by rw [List.take_add_one, hL]; simp)
      have HTL : Hid (((LL.take k).map qs1).length = k) := Lib.hid (by rw [List.length_map, List.length_take, ← HN.out]; omega)
      obtain ⟨b, off, q, m, c, rfl, hb, hcell, hP⟩ := HH.out.at k L hL
      rw [← hbel.cell (p := ⟨b, off + k, none⟩) hb] at hcell
      have HP := Lib.hid (stay_T _ _ _ _ hP hbel)
      have hk1 : (k : Int) < (n : Int) := by omega
      have hk0 : (0 : Int) ≤ (k : Int) := by omega
      have hw1 : IntKind.i64.wrap ((k : Int) + 1) = ((k + 1 : Nat) : Int) := by rw [IntWalk.i64_in _ (by omega)]; omega
      have HKL := Lib.hid hkl
      have HGR : Hid (w.heap.size < wr.heap.size) := Lib.hid hA.lt
      have HPW := Lib.hid (HPP.out.later hbel)
      clear hL hP hb hA hbel hkn hk hall
      go_wp2_with fail
      refine cvr_any _ L p wr (HE.out.later HB.out (Nat.le_refl _)) HPW.out HP.out HLS.out.1 _ ?_ ?_
      · intro v6 w6 hok hv6 hb6
        obtain ⟨a6, n6, c6, rfl⟩ := fbQ1.2.1 _ _ _ _ hv6
        have HA6 := Lib.hid (HA.out.later fbQ1 hb6)
        obtain ⟨u6, hu6⟩ := HA6.out.cell k HKL.out
        have hf6 := HA6.out.frozen k
        have HREL : Hid (cl2Rel w n LL (.int .i64 ((k + 1 : Nat) : Int)) (w6.setCell ⟨w.heap.size, k, none⟩ (.slice a6 n6 c6))) := Lib.hid ⟨k + 1, rfl, HKL.out, by rw [all_succ HLG.out, HALL.out]; exact hok, by
          rw [HTK.out]
          exact HA6.out.put fbQ1 HTL.out HKL.out (fbQ1.2.2 _ _ _ _ _ hv6 (by have := HGR.out; omega)), (HB.out.trans (hb6.mono HB.out.size)).setCell (Nat.le_refl _) _⟩
        clear hv6 hb6 hok
        dsimp only
        go_wp2
        go_roundw
        case rel => exact HREL.out
        case measure => simp [intOf]; have := HKL.out; omega
      · intro w6 hok hb6
        have HF := Lib.hid (HR2.out w6 (all_false HLG.out hok) (HB.out.trans (hb6.mono HB.out.size)))
        clear hok hb6
        dsimp only
        go_wp2
        first | go_ret | skip
        exact HF.out

set_option maxRecDepth 100000 in
set_option maxHeartbeats 2000000 in
theorem cvm_any (v : Value) (L : List (List ByteArray)) (p p2 : Nat) (w : World) (hE : Env w) (hp : Cap2 w p p2) (h : RdE TxL w v L) (hs : SizeSSS L) (R : Ending → World → Prop)
    (hR : ∀ v' w', allN2 L = true → OwQ2 w' w.heap.size v' (qs2 L) → Below w.heap.size w w' → R (.returned (.tuple #[v', .bool true])) w')
    (hR2 : ∀ w', allN2 L = false → Below w.heap.size w w' → R (.returned (.tuple #[.slice none 0 0, .bool false])) w') :
    Calls Tryz.prog 217 #[v, .pointer (some ⟨p2, 0, none⟩)] w R := by
  have HR := Lib.hid hR; clear hR
  have HR2 := Lib.hid hR2; clear hR2
  have HE := Lib.hid hE; clear hE
  have HP := Lib.hid hp
  have HH := Lib.hid (And.intro h hs)
  obtain ⟨ao, m, cap, rfl⟩ : ∃ ao m cap, v = .slice ao m cap := by
    obtain ⟨ao, m, cap, e, _⟩ := h.open
    exact ⟨ao, m, cap, e⟩
  have hc := hp.c2
  unfold rowV at hc
  clear h hs hp
  go_enter Tryz.func217, Tryz.ntmps217
  go_wp2_with fail
  refine cl2_any _ L p w HE.out HP.out.one HH.out.1 HH.out.2.1 HH.out.2.2 _ ?_ ?_
  · intro v3 w3 hok hv3 hb3
    obtain ⟨a3, n3, c3, rfl⟩ := fbQ2.2.1 _ _ _ _ hv3
    have HF := Lib.hid (HR.out _ w3 hok hv3 hb3)
    clear hok hv3 hb3
    dsimp only
    go_wp2
    first | go_ret | skip
    exact HF.out
  · intro w3 hok hb3
    have HF := Lib.hid (HR2.out w3 hok hb3)
    clear hok hb3
    dsimp only
    go_wp2
    first | go_ret | skip
    exact HF.out

def cl3Rel (w : World) (n : Nat) (LL : List (List (List ByteArray))) (i : Value) (wr : World) : Prop :=
  ∃ k : Nat, i = .int .i64 (k : Int) ∧ k ≤ n ∧ (LL.take k).all allN2 = true ∧ VB OwQ2 244 wr w.heap.size n ((LL.take k).map qs2) ∧ Below w.heap.size w wr

set_option maxRecDepth 100000 in
set_option maxHeartbeats 4000000 in
theorem cl3_any (v : Value) (LL : List (List (List ByteArray))) (p p2 : Nat) (w : World) (hE : Env w) (hp : Cap2 w p p2) (h : RdE (RdE TxL) w v LL) (hn : LL.length ≤ 1048576) (hs : ∀ a ∈ LL, SizeSSS a) (R : Ending → World → Prop)
    (hR : ∀ v' w', LL.all allN2 = true → OwL 244 OwQ2 w' w.heap.size v' (LL.map qs2) → Below w.heap.size w w' → R (.returned (.tuple #[v', .bool true])) w')
    (hR2 : ∀ w', LL.all allN2 = false → Below w.heap.size w w' → R (.returned (.tuple #[.slice none 0 0, .bool false])) w') :
    Calls Tryz.prog 219 #[v, movV p2] w R := by
  have HR := Lib.hid hR; clear hR
  have HR2 := Lib.hid hR2; clear hR2
  have HE := Lib.hid hE; clear hE
  have HPP := Lib.hid hp; clear hp
  obtain ⟨ao, n, cap, rfl, hnl, hh⟩ := h.open
  have HH := Lib.hid hh
  have HN := Lib.hid hnl
  have HS := Lib.hid hs
  rw [← hnl] at hn
  clear h hnl hh hs
  unfold movV
  go_enter Tryz.func219, Tryz.ntmps219
  go_wp2_with (at_make; go_must (refine wpList_makev _ rfl (.tmp 12) 130 rfl (.slice none 0 0) rfl 244 24 Tryz.underlying130 info_qs2 (by omega) .i64 _ n rfl (by omega) (by omega) ?_))
  intro W hA hbW hsW
  have HST : Hid (cl3Rel w n LL (.int .i64 0) W) := Lib.hid ⟨0, rfl, Nat.zero_le _, by simp, by simpa using VB.start OwQ2 hA, hbW⟩
  clear hA hbW hsW
  go_wp2
  go_loopw [16] (fun i wr => cl3Rel w n LL i wr) (fun i _ => n - (intOf i).toNat)
  case atStart => exact HST.out
  case round =>
    clear HST
    obtain ⟨k, rfl, hk, hall, hA, hbel⟩ := hrel
    have HB := Lib.hid hbel
    have HA := Lib.hid hA
    have HALL := Lib.hid hall
    by_cases hkn : k = n
    · subst hkn
      have hL : LL.take k = LL := by rw [HN.out, List.take_length]
      rw [hL] at hA hall
      have HF := Lib.hid (HR.out _ wr hall (hA.own fbQ2 (by rw [List.length_map]; exact HN.out.symm) (Nat.le_refl _) (by omega)) hbel)
      have hkk : ¬ ((k : Int) < (k : Int)) := by omega
      clear hA hbel hL hall
      go_wp2
      first | go_ret | skip
      exact HF.out
    · have hkl : k < n := by omega
      obtain ⟨L, hL⟩ : ∃ L, LL[k]? = some L := ⟨_, List.getElem?_eq_getElem (by rw [← HN.out]; exact hkl)⟩
      have HLS := Lib.hid (HS.out L (List.mem_of_getElem? hL))
      have HLG := Lib.hid hL
      have HTK : Hid ((LL.take (k + 1)).map qs2 = (LL.take k).map qs2 ++ [qs2 L]) := Lib.hid (by rw [List.take_add_one, hL]; simp)
      have HTL : Hid (((LL.take k).map qs2).length = k) := Lib.hid (by rw [List.length_map, List.length_take, ← HN.out]; omega)
      obtain ⟨b, off, q, m, c, rfl, hb, hcell, hP⟩ := HH.out.at k L hL
      rw [← hbel.cell (p := ⟨b, off + k, none⟩) hb] at hcell
      have HP := Lib.hid ((stay_D stay_T) _ _ _ _ hP hbel)
      have hk1 : (k : Int) < (n : Int) := by omega
      have hk0 : (0 : Int) ≤ (k : Int) := by omega
      have hw1 : IntKind.i64.wrap ((k : Int) + 1) = ((k + 1 : Nat) : Int) := by rw [IntWalk.i64_in _ (by omega)]; omega
      have HKL := Lib.hid hkl
      have HGR : Hid (w.heap.size < wr.heap.size) := Lib.hid hA.lt
      have HPW := Lib.hid (HPP.out.later hbel)
      clear hL hP hb hA hbel hkn hk hall
      go_wp2_with fail
      refine cvm_any _ L p p2 wr (HE.out.later HB.out (Nat.le_refl _)) HPW.out HP.out HLS.out _ ?_ ?_
      · intro v6 w6 hok hv6 hb6
        obtain ⟨a6, n6, c6, rfl⟩ := fbQ2.2.1 _ _ _ _ hv6
        have HA6 := Lib.hid (HA.out.later fbQ2 hb6)
        obtain ⟨u6, hu6⟩ := HA6.out.cell k HKL.out
        have hf6 := HA6.out.frozen k
        have HREL : Hid (cl3Rel w n LL (.int .i64 ((k + 1 : Nat) : Int)) (w6.setCell ⟨w.heap.size, k, none⟩ (.slice a6 n6 c6))) := Lib.hid ⟨k + 1, rfl, HKL.out, by rw [all_succ HLG.out, HALL.out]; exact hok, by
          rw [HTK.out]
          exact HA6.out.put fbQ2 HTL.out HKL.out (fbQ2.2.2 _ _ _ _ _ hv6 (by have := HGR.out; omega)), (HB.out.trans (hb6.mono HB.out.size)).setCell (Nat.le_refl _) _⟩
        clear hv6 hb6 hok
        dsimp only
        go_wp2
        go_roundw
        case rel => exact HREL.out
        case measure => simp [intOf]; have := HKL.out; omega
      · intro w6 hok hb6
        have HF := Lib.hid (HR2.out w6 (all_false HLG.out hok) (HB.out.trans (hb6.mono HB.out.size)))
        clear hok hb6
        dsimp only
        go_wp2
        first | go_ret | skip
        exact HF.out
end Go.Proofs.YtdkjcdfkoahfkaaGreatDoor

namespace Go.Proofs.YtdkjcdfkoahfkaaGreatDoor
open Go Go.RowKit

/-- an automaton of fractions whose lists a call owns -/
def AutQ (w : World) (B : Nat) (v : Value) (S E : List Rat) (M : List (List (List Rat))) : Prop :=
  ∃ s1 s2 s3, v = .agg #[s1, s2, s3] ∧ OwQ1 w B s1 S ∧ OwQ1 w B s2 E ∧ OwQ3 w B s3 M
theorem AutQ.fb {w w' : World} {B : Nat} {v : Value} {S E : List Rat} {M : List (List (List Rat))} (h : AutQ w B v S E M) (hf : Fb B w w') : AutQ w' B v S E M := by
  obtain ⟨s1, s2, s3, e, h1, h2, h3⟩ := h
  exact ⟨s1, s2, s3, e, fbQ1.1 _ _ _ _ _ h1 hf, fbQ1.1 _ _ _ _ _ h2 hf, fbQ3.1 _ _ _ _ _ h3 hf⟩
theorem AutQ.later {w w' : World} {B : Nat} {v : Value} {S E : List Rat} {M : List (List (List Rat))} (h : AutQ w B v S E M) (hb : Below w.heap.size w w') : AutQ w' B v S E M := h.fb (Fb.below hb)
theorem AutQ.mono {w : World} {B B' : Nat} {v : Value} {S E : List Rat} {M : List (List (List Rat))} (h : AutQ w B v S E M) (hB : B' ≤ B) : AutQ w B' v S E M := by
  obtain ⟨s1, s2, s3, e, h1, h2, h3⟩ := h
  exact ⟨s1, s2, s3, e, fbQ1.2.2 _ _ _ _ _ h1 hB, fbQ1.2.2 _ _ _ _ _ h2 hB, fbQ3.2.2 _ _ _ _ _ h3 hB⟩
def ShA (v : Value) : Prop := ∃ a1 n1 c1 a2 n2 c2 a3 n3 c3, v = .agg #[.slice a1 n1 c1, .slice a2 n2 c2, .slice a3 n3 c3]
noncomputable def okA (S E : List ByteArray) (M : List (List (List ByteArray))) : Bool := allN S && (allN E && allN3 M)
theorem all_both {α : Type} (f g h : α → Bool) (e : ∀ x, f x = (g x && h x)) : ∀ l : List α, l.all f = (l.all g && l.all h)
  | [] => rfl
  | x :: l => by
    simp only [List.all_cons]
    rw [e, all_both f g h e l]
    cases g x <;> cases h x <;> cases l.all g <;> simp
theorem aut_eq (S E : List ByteArray) (M : List (List (List ByteArray))) : autB S E M = (formB S E M && okA S E M) := by
  have h : M.all (matB S.length) = (M.all (sqB S.length) && M.all allN2) := all_both _ _ _ (fun LL => by
    unfold matB sqB allN2
    rw [all_both (rowB S.length) (lenB S.length) allN (fun L => rfl) LL, Bool.and_assoc]) M
  unfold autB formB okA allN3
  rw [h]
  unfold allN
  generalize decide (S.length ≤ 6) = a
  generalize decide (E.length = S.length) = b
  generalize S.all isNum = c
  generalize E.all isNum = d
  generalize decide (1 ≤ M.length ∧ M.length ≤ 3) = e
  generalize M.all (sqB S.length) = f
  generalize M.all allN2 = g
  revert a b c d e f g
  decide

/-- what converted lists are, whether the conversion failed or not -/
theorem cvr_two (v : Value) (L : List ByteArray) (p : Nat) (w : World) (hE : Env w) (hp : Cap1 w p) (h : TxL w v L) (hs : L.length ≤ 1048576) (R : Ending → World → Prop)
    (hR : ∀ q m c w', (allN L = true → OwQ1 w' w.heap.size (.slice q m c) (qs1 L)) → Below w.heap.size w w' → R (.returned (.tuple #[.slice q m c, .bool (allN L)])) w') :
    Calls Tryz.prog 215 #[v, .pointer (some ⟨p, 0, none⟩)] w R := by
  refine cvr_any v L p w hE hp h hs R (fun v' w' h1 h2 h3 => ?_) (fun w' h1 h2 => ?_)
  · obtain ⟨q, m, c, rfl⟩ := fbQ1.2.1 _ _ _ _ h2
    have := hR q m c w' (fun _ => h2) h3
    rw [h1] at this
    exact this
  · have := hR none 0 0 w' (fun h => by rw [h1] at h; cases h) h2
    rw [h1] at this
    exact this
theorem cl3_two (v : Value) (M : List (List (List ByteArray))) (p p2 : Nat) (w : World) (hE : Env w) (hp : Cap2 w p p2) (h : RdE (RdE TxL) w v M) (hn : M.length ≤ 1048576) (hs : ∀ a ∈ M, SizeSSS a) (R : Ending → World → Prop)
    (hR : ∀ q m c w', (allN3 M = true → OwQ3 w' w.heap.size (.slice q m c) (qs3 M)) → Below w.heap.size w w' → R (.returned (.tuple #[.slice q m c, .bool (allN3 M)])) w') :
    Calls Tryz.prog 219 #[v, movV p2] w R := by
  refine cl3_any v M p p2 w hE hp h hn hs R (fun v' w' h1 h2 h3 => ?_) (fun w' h1 h2 => ?_)
  · obtain ⟨q, m, c, rfl⟩ := fbQ3.2.1 _ _ _ _ h2
    have := hR q m c w' (fun _ => h2) h3
    rw [show allN3 M = true from h1] at this
    exact this
  · have := hR none 0 0 w' (fun h => by rw [show allN3 M = false from h1] at h; cases h) h2
    rw [show allN3 M = false from h1] at this
    exact this

theorem one_cell (w : World) (x : Value) (t : TypeId) : (w.alloc (.cells #[x] t)).cell? ⟨w.heap.size, 0, none⟩ = some x := by
  have e : (w.alloc (.cells #[x] t)).heap[w.heap.size]? = some (.cells #[x] t (0, 0)) := by
    show (Array.push _ _)[_]? = _
    rw [Array.getElem?_push, if_pos rfl]
  unfold World.cell?
  rw [e]
  rfl

set_option maxRecDepth 100000 in
set_option maxHeartbeats 4000000 in
theorem conv_any (v1 v2 v3 : Value) (S E : List ByteArray) (M : List (List (List ByteArray))) (w : World) (hE : Env w) (h : IsAut w (.agg #[v1, v2, v3]) S E M) (hs : SizeA S E M) (R : Ending → World → Prop)
    (hR : ∀ v' w', ShA v' → (okA S E M = true → AutQ w' w.heap.size v' (qs1 S) (qs1 E) (qs3 M)) → Below w.heap.size w w' → R (.returned (.tuple #[v', .bool (okA S E M)])) w') :
    Calls Tryz.prog 164 #[.agg #[v1, v2, v3], cvV] w R := by
  have HR := Lib.hid hR; clear hR
  have HSZ := Lib.hid hs; clear hs
  obtain ⟨a1, n, c1, a2, n2, c2, a3, n3, c3, e0, u1, u2, u3, k1, k2, k3⟩ := h.parts
  simp at e0
  obtain ⟨rfl, rfl, rfl⟩ := e0
  obtain ⟨L, hL⟩ : ∃ L, L = (((w.alloc (.cells #[.slice a1 n c1, .slice a2 n2 c2, .slice a3 n3 c3] 190)).alloc (.cells #[cvV] 192)).alloc (.cells #[.slice none 0 0, .slice none 0 0, .slice none 0 0] 132)).alloc (.cells #[rowV (w.heap.size + 1)] 243) := ⟨_, rfl⟩
  have HLS : Hid (L.heap.size = w.heap.size + 4) := Lib.hid (by rw [hL]; simp)
  have HBL : Hid (Below w.heap.size w L) := Lib.hid (by rw [hL]; exact ((((Below.refl w.heap.size w).alloc (Nat.le_refl _) _).alloc (by simp) _).alloc (by simp; omega) _).alloc (by simp; omega) _)
  have HBX : Hid (Box3 L w.heap.size (.slice a1 n c1) (.slice a2 n2 c2) (.slice a3 n3 c3) 190) := Lib.hid (by
    rw [hL]; exact (((Box3.made w _ _ _ _).later (B := w.heap.size + 1) ((Below.refl _ _).alloc (by simp) _) (by omega)).later (B := w.heap.size + 2) ((Below.refl _ _).alloc (by simp) _) (by omega)).later (B := w.heap.size + 3) ((Below.refl _ _).alloc (by simp) _) (by omega))
  have HBR : Hid (Box3 L (w.heap.size + 2) (.slice none 0 0) (.slice none 0 0) (.slice none 0 0) 132) := Lib.hid (by
    have := (Box3.made ((w.alloc (.cells #[.slice a1 n c1, .slice a2 n2 c2, .slice a3 n3 c3] 190)).alloc (.cells #[cvV] 192)) (.slice none 0 0) (.slice none 0 0) (.slice none 0 0) 132).later (B := w.heap.size + 3) ((Below.refl _ _).alloc (by simp) (.cells #[rowV (w.heap.size + 1)] 243)) (by simp)
    rw [World.size_alloc, World.size_alloc, ← hL] at this; exact this)
  have HC2 : Hid (Cap2 L (w.heap.size + 1) (w.heap.size + 3)) := Lib.hid (by
    have e1 := one_cell (w.alloc (.cells #[.slice a1 n c1, .slice a2 n2 c2, .slice a3 n3 c3] 190)) cvV 192
    have e2 := one_cell (((w.alloc (.cells #[.slice a1 n c1, .slice a2 n2 c2, .slice a3 n3 c3] 190)).alloc (.cells #[cvV] 192)).alloc (.cells #[.slice none 0 0, .slice none 0 0, .slice none 0 0] 132)) (rowV (w.heap.size + 1)) 243
    rw [World.size_alloc] at e1
    rw [World.size_alloc, World.size_alloc, World.size_alloc, ← hL] at e2
    refine ⟨⟨?_, by have := HLS.out; omega⟩, e2, by have := HLS.out; omega⟩
    rw [hL]
    have hb : Below (w.heap.size + 2) ((w.alloc (.cells #[.slice a1 n c1, .slice a2 n2 c2, .slice a3 n3 c3] 190)).alloc (.cells #[cvV] 192)) ((((w.alloc (.cells #[.slice a1 n c1, .slice a2 n2 c2, .slice a3 n3 c3] 190)).alloc (.cells #[cvV] 192)).alloc (.cells #[.slice none 0 0, .slice none 0 0, .slice none 0 0] 132)).alloc (.cells #[rowV (w.heap.size + 1)] 243)) :=
      ((Below.refl _ _).alloc (by simp) _).alloc (by simp) _
    rw [hb.cell (p := ⟨w.heap.size + 1, 0, none⟩) (by simp)]
    exact e1)
  have HE := Lib.hid (hE.later HBL.out (Nat.le_refl _))
  have HL := Lib.hid hL
  have K1 := Lib.hid (k1.later HBL.out (Nat.le_refl _))
  have K2 := Lib.hid (k2.later HBL.out (Nat.le_refl _))
  have K3 := Lib.hid (stay_D (stay_D stay_T) _ _ _ _ k3 HBL.out)
  have hmf : ∀ (fn : Fn) (first cap : Array Value) (w : World), (Instr.makeFunc fn first cap).run Tryz.prog w = .ok (.func fn first cap) w := fun _ _ _ _ => rfl
  have hsf : ∀ (a : Addr) (fn : Fn) (first cap : Array Value) (w : World), (store a (.func fn first cap)).run Tryz.prog w = stored Tryz.prog w a (.func fn first cap) .plain := fun a _ _ _ w => run_store Tryz.prog w a _ _ rfl
  obtain ⟨⟨hA0, hA1, hA2⟩, _, _, _⟩ := HBX.out.cells
  have hC := HC2.out.c2
  rw [hL] at hA0 hA1 hA2 hC
  unfold rowV at hC hA0 hA1 hA2 HL
  clear h k1 k2 k3 u1 u2 u3 hE hL
  unfold cvV at HL hC hA0 hA1 hA2 ⊢
  go_enter Tryz.func164, Tryz.ntmps164
  go_wp2_with fail
  rw [← HL.out] at hA0 hA1 hA2 hC ⊢
  refine cvr_two _ S _ L HE.out HC2.out.one K1.out HSZ.out.1.1 _ ?_
  intro q1 m1 d1 w1 hv1 hb1
  have HV1 := Lib.hid hv1
  have HB1 := Lib.hid hb1
  have X1 := Lib.hid (HBX.out.later hb1 (by have := HLS.out; omega))
  have CC1 := Lib.hid (HC2.out.later hb1)
  clear hA0 hA1 hA2 hC hv1 hb1
  obtain ⟨⟨hA0, hA1, hA2⟩, _, _, _⟩ := X1.out.cells
  have hC := CC1.out.c2
  unfold rowV at hC
  obtain ⟨b1, hb1⟩ : ∃ b, b = allN S := ⟨_, rfl⟩
  have HB1' := Lib.hid hb1
  rw [← hb1]
  clear hb1
  dsimp only
  go_wp2_with fail
  refine cvr_two _ E _ w1 (HE.out.later HB1.out (Nat.le_refl _)) CC1.out.one (K2.out.later HB1.out (Nat.le_refl _)) HSZ.out.2.1.1 _ ?_
  intro q2 m2 d2 w2 hv2 hb2
  have HV2 := Lib.hid hv2
  have HB2 := Lib.hid hb2
  have HB12 := Lib.hid (HB1.out.trans (hb2.mono HB1.out.size))
  have X2 := Lib.hid (X1.out.later hb2 (lt_of_block X1.out))
  have CC2 := Lib.hid (CC1.out.later hb2)
  clear hA0 hA1 hA2 hC hv2 hb2
  obtain ⟨⟨hA0, hA1, hA2⟩, _, _, _⟩ := X2.out.cells
  obtain ⟨b2, hb2⟩ : ∃ b, b = allN E := ⟨_, rfl⟩
  have HB2' := Lib.hid hb2
  rw [← hb2]
  clear hb2
  have hcl := cl3_two (.slice a3 n3 c3) M (w.heap.size + 1) (w.heap.size + 3) w2 (HE.out.later HB12.out (Nat.le_refl _)) CC2.out (stay_D (stay_D stay_T) _ _ _ _ K3.out HB12.out) HSZ.out.2.2.1 HSZ.out.2.2.2
  unfold movV at hcl
  have HCL := Lib.hid hcl
  clear hcl
  dsimp only
  go_wp2_with fail
  refine HCL.out _ ?_
  intro q3 m3 d3 w3 hv3 hb3
  have HV3 := Lib.hid hv3
  have HB3 := Lib.hid hb3
  have HB13 := Lib.hid (HB12.out.trans (hb3.mono HB12.out.size))
  have XR := Lib.hid (HBR.out.later HB13.out (by have := HLS.out; omega))
  have HBW := Lib.hid (HBL.out.trans (HB13.out.mono HBL.out.size))
  clear hA0 hA1 hA2 hv3 hb3
  obtain ⟨⟨hC0, hC1, hC2⟩, hF0, hF1, hF2⟩ := XR.out.cells
  obtain ⟨b3, hb3⟩ : ∃ b, b = allN3 M := ⟨_, rfl⟩
  have HB3' := Lib.hid hb3
  rw [← hb3]
  clear hb3
  have HOK : Hid (okA S E M = (b1 && (b2 && b3))) := Lib.hid (by unfold okA; rw [HB1'.out, HB2'.out, HB3'.out])
  have HFIN : Hid (∀ (y1 y2 y3 : Value) (v' : Value), v' = .agg #[y1, y2, y3] → ShA v' → (b1 = true → b2 = true → b3 = true → y1 = .slice q1 m1 d1 ∧ y2 = .slice q2 m2 d2 ∧ y3 = .slice q3 m3 d3) →
      R (.returned (.tuple #[v', .bool (b1 && (b2 && b3))])) (((w3.setCell ⟨w.heap.size + 2, 0, none⟩ y1).setCell ⟨w.heap.size + 2, 1, none⟩ y2).setCell ⟨w.heap.size + 2, 2, none⟩ y3)) := Lib.hid (fun y1 y2 y3 v' hv' hsh hy => by
    have n0 : NoInt w3 (w.heap.size + 2) := XR.out.noInt rfl rfl rfl
    obtain ⟨s1, r1, t1, s2, r2, t2, s3, r3, t3, e⟩ := hsh
    rw [hv'] at e
    simp at e
    obtain ⟨rfl, rfl, rfl⟩ := e
    have l2 : w.heap.size + 2 < L.heap.size := by have := HLS.out; omega
    have hle : w.heap.size ≤ L.heap.size := by omega
    have ff : ∀ w0, Fb L.heap.size w0 w3 → Fb L.heap.size w0 (((w3.setCell ⟨w.heap.size + 2, 0, none⟩ (.slice s1 r1 t1)).setCell ⟨w.heap.size + 2, 1, none⟩ (.slice s2 r2 t2)).setCell ⟨w.heap.size + 2, 2, none⟩ (.slice s3 r3 t3)) := fun w0 hf =>
      fb_set (fb_set (fb_set hf l2 n0) l2 (n0.set 0 _ rfl)) l2 ((n0.set 0 _ rfl).set 1 _ rfl)
    have := HR.out v' (((w3.setCell ⟨w.heap.size + 2, 0, none⟩ (.slice s1 r1 t1)).setCell ⟨w.heap.size + 2, 1, none⟩ (.slice s2 r2 t2)).setCell ⟨w.heap.size + 2, 2, none⟩ (.slice s3 r3 t3)) (by rw [hv']; exact ⟨_, _, _, _, _, _, _, _, _, rfl⟩) (fun hok => by
      rw [HOK.out] at hok
      have z1 : b1 = true := by cases b1 <;> simp_all
      have z2 : b2 = true := by cases b2 <;> simp_all
      have z3 : b3 = true := by cases b3 <;> simp_all
      obtain ⟨e1, e2, e3⟩ := hy z1 z2 z3
      rw [hv', e1, e2, e3]
      refine AutQ.mono (B := L.heap.size) ⟨_, _, _, rfl, ?_, ?_, ?_⟩ hle
      · rw [← e1, ← e2, ← e3]
        refine fbQ1.1 _ _ _ _ _ (by rw [e1]; exact HV1.out (by rw [← HB1'.out]; exact z1)) (ff _ (fb_later (Fb.below HB2.out) HB3.out))
      · rw [← e1, ← e2, ← e3]
        refine fbQ1.1 _ _ _ _ _ (by rw [e2]; exact fbQ1.2.2 _ _ _ _ _ (HV2.out (by rw [← HB2'.out]; exact z2)) HB1.out.size) (ff _ (Fb.below HB3.out))
      · rw [← e1, ← e2, ← e3]
        refine fbQ3.1 _ _ _ _ _ (by rw [e3]; exact fbQ3.2.2 _ _ _ _ _ (HV3.out (by rw [← HB3'.out]; exact z3)) HB12.out.size) (ff _ (Fb.refl _ _)))
      (((HBW.out.setCell (by simp) _).setCell (by simp) _).setCell (by simp) _)
    rw [HOK.out] at this
    exact this)
  clear HOK HV1 HV2 HV3 HB1' HB2' HB3'
  dsimp only
  rcases b1 with _ | _ <;> rcases b2 with _ | _ <;> rcases b3 with _ | _
  all_goals
    go_wp2
    refine bodyPost_ret_at (by simp [results, Tryz.results164, go_sem, hC0, hC1, hC2, hF0, hF1, hF2] <;> rfl) rfl ?_
    exact HFIN.out _ _ _ _ rfl ⟨_, _, _, _, _, _, _, _, _, rfl⟩ (by simp)

set_option maxRecDepth 100000 in
set_option maxHeartbeats 4000000 in
theorem readA_any (v : Value) (S E : List ByteArray) (M : List (List (List ByteArray))) (w : World) (hE : Env w) (h : IsAut w v S E M) (hs : SizeA S E M) (R : Ending → World → Prop)
    (hR : ∀ v' w', ShA v' → (autB S E M = true → AutQ w' w.heap.size v' (qs1 S) (qs1 E) (qs3 M)) → Below w.heap.size w w' → R (.returned (.tuple #[v', .bool (autB S E M)])) w') :
    Calls Tryz.prog 104 #[v] w R := by
  have HR := Lib.hid hR; clear hR
  have HSZ := Lib.hid hs; clear hs
  obtain ⟨a1, n, c1, a2, n2, c2, a3, n3, c3, rfl, u1, u2, u3, k1, k2, k3⟩ := h.parts
  obtain ⟨L, hL⟩ : ∃ L, L = ((w.alloc (.cells #[.slice a1 n c1, .slice a2 n2 c2, .slice a3 n3 c3] 57)).alloc (.cells #[.slice none 0 0, .slice none 0 0, .slice none 0 0] 132)).alloc (.cells #[.slice a1 n c1, .slice a2 n2 c2, .slice a3 n3 c3] 190) := ⟨_, rfl⟩
  have HLS : Hid (L.heap.size = w.heap.size + 3) := Lib.hid (by rw [hL]; simp)
  have HBL : Hid (Below w.heap.size w L) := Lib.hid (by rw [hL]; exact (((Below.refl w.heap.size w).alloc (Nat.le_refl _) _).alloc (by simp) _).alloc (by simp; omega) _)
  have HBR : Hid (Box3 L (w.heap.size + 1) (.slice none 0 0) (.slice none 0 0) (.slice none 0 0) 132) := Lib.hid (by
    have := (Box3.made (w.alloc (.cells #[.slice a1 n c1, .slice a2 n2 c2, .slice a3 n3 c3] 57)) (.slice none 0 0) (.slice none 0 0) (.slice none 0 0) 132).later (B := w.heap.size + 2) ((Below.refl _ _).alloc (by simp) (.cells #[.slice a1 n c1, .slice a2 n2 c2, .slice a3 n3 c3] 190)) (by simp)
    rw [World.size_alloc, ← hL] at this; exact this)
  have HBT : Hid (Box3 L (w.heap.size + 2) (.slice a1 n c1) (.slice a2 n2 c2) (.slice a3 n3 c3) 190) := Lib.hid (by
    have := Box3.made ((w.alloc (.cells #[.slice a1 n c1, .slice a2 n2 c2, .slice a3 n3 c3] 57)).alloc (.cells #[.slice none 0 0, .slice none 0 0, .slice none 0 0] 132)) (.slice a1 n c1) (.slice a2 n2 c2) (.slice a3 n3 c3) 190
    rw [World.size_alloc, World.size_alloc, ← hL] at this; exact this)
  have HBX : Hid (Box3 L w.heap.size (.slice a1 n c1) (.slice a2 n2 c2) (.slice a3 n3 c3) 57) := Lib.hid (by
    rw [hL]; exact ((Box3.made w _ _ _ _).later (B := w.heap.size + 1) ((Below.refl _ _).alloc (by simp) _) (by omega)).later (B := w.heap.size + 2) ((Below.refl _ _).alloc (by simp) _) (by omega))
  have HE := Lib.hid (hE.later HBL.out (Nat.le_refl _))
  have HA := Lib.hid (h.later HBL.out)
  have HL := Lib.hid hL
  have HAE := Lib.hid (aut_eq S E M)
  have HFIN : Hid (∀ (w3 : World) (y1 y2 y3 v' : Value), Below L.heap.size L w3 → v' = .agg #[y1, y2, y3] → ShA v' → (autB S E M = true → AutQ w3 L.heap.size v' (qs1 S) (qs1 E) (qs3 M)) →
      R (.returned (.tuple #[v', .bool (autB S E M)])) (((w3.setCell ⟨w.heap.size + 1, 0, none⟩ y1).setCell ⟨w.heap.size + 1, 1, none⟩ y2).setCell ⟨w.heap.size + 1, 2, none⟩ y3)) := Lib.hid (fun w3 y1 y2 y3 v' hb hv' hsh hq => by
    have n0 : NoInt w3 (w.heap.size + 1) := (HBR.out.later hb (by have := HLS.out; omega)).noInt rfl rfl rfl
    have hsh2 := hsh
    obtain ⟨s1, r1, t1, s2, r2, t2, s3, r3, t3, e⟩ := hsh
    rw [hv'] at e
    simp at e
    obtain ⟨rfl, rfl, rfl⟩ := e
    have l2 : w.heap.size + 1 < L.heap.size := by have := HLS.out; omega
    refine HR.out v' _ hsh2 (fun hok => AutQ.mono (B := L.heap.size) ((hq hok).fb (fb_set (fb_set (fb_set (Fb.refl _ _) l2 n0) l2 (n0.set 0 _ rfl)) l2 ((n0.set 0 _ rfl).set 1 _ rfl))) (by omega))
      ((((HBL.out.trans (hb.mono HBL.out.size)).setCell (by simp) _).setCell (by simp) _).setCell (by simp) _))
  obtain ⟨⟨hA0, hA1, hA2⟩, _, _, _⟩ := HBX.out.cells
  obtain ⟨⟨hD0, hD1, hD2⟩, _, _, _⟩ := HBT.out.cells
  rw [hL] at hA0 hA1 hA2 hD0 hD1 hD2
  clear h k1 k2 k3 u1 u2 u3 hE hL
  go_enter Tryz.func104, Tryz.ntmps104
  go_wp2_with fail
  rw [← HL.out] at hA0 hA1 hA2 hD0 hD1 hD2 ⊢
  refine form_any _ _ _ S E M L HA.out HSZ.out _ ?_
  intro w1 hb1
  have HB1 := Lib.hid hb1
  have X1 := Lib.hid (HBR.out.later hb1 (by have := HLS.out; omega))
  have T1 := Lib.hid (HBT.out.later hb1 (by have := HLS.out; omega))
  clear hA0 hA1 hA2 hD0 hD1 hD2 hb1
  dsimp only
  cases hf : formB S E M with
  | false =>
    obtain ⟨⟨hC0, hC1, hC2⟩, hF0, hF1, hF2⟩ := X1.out.cells
    have ha : autB S E M = false := by rw [HAE.out, hf, Bool.false_and]
    have HF := Lib.hid (HFIN.out w1 (.slice none 0 0) (.slice none 0 0) (.slice none 0 0) _ HB1.out rfl ⟨_, _, _, _, _, _, _, _, _, rfl⟩ (fun h => by rw [ha] at h; cases h))
    rw [ha] at HF
    clear hf ha
    go_wp2
    refine bodyPost_ret_at (by simp [results, Tryz.results104, go_sem, hC0, hC1, hC2, hF0, hF1, hF2] <;> rfl) rfl ?_
    exact HF.out
  | true =>
    obtain ⟨⟨hD0, hD1, hD2⟩, _, _, _⟩ := T1.out.cells
    have HAO : Hid (autB S E M = okA S E M) := Lib.hid (by rw [HAE.out, hf, Bool.true_and])
    clear hf
    go_wp2_with fail
    refine conv_any _ _ _ S E M w1 (HE.out.later HB1.out (Nat.le_refl _)) (HA.out.later HB1.out) HSZ.out _ ?_
    intro v2 w2 hsh hq hb2
    obtain ⟨s1, r1, t1, s2, r2, t2, s3, r3, t3, rfl⟩ := hsh
    have X2 := Lib.hid (X1.out.later hb2 (lt_of_block X1.out))
    clear hD0 hD1 hD2
    obtain ⟨⟨hC0, hC1, hC2⟩, hF0, hF1, hF2⟩ := X2.out.cells
    have HF := Lib.hid (HFIN.out w2 (.slice s1 r1 t1) (.slice s2 r2 t2) (.slice s3 r3 t3) _ (HB1.out.trans (hb2.mono HB1.out.size)) rfl ⟨_, _, _, _, _, _, _, _, _, rfl⟩ (fun h => AutQ.mono (hq (by rw [← HAO.out]; exact h)) HB1.out.size))
    rw [HAO.out] at HF
    clear hq hb2
    dsimp only
    go_wp2
    refine bodyPost_ret_at (by simp [results, Tryz.results104, go_sem, hC0, hC1, hC2, hF0, hF1, hF2] <;> rfl) rfl ?_
    exact HF.out

set_option maxRecDepth 100000 in
set_option maxHeartbeats 2000000 in
theorem impl_vaut (v : Value) (S E : List ByteArray) (M : List (List (List ByteArray))) (w : World) (hE : Env w) (h : IsAut w v S E M) (hs : SizeA S E M) (R : Ending → World → Prop)
    (hR : ∀ w', Below w.heap.size w w' → R (.returned (.bool (autB S E M))) w') :
    Calls Tryz.prog 46 #[v] w R := by
  have HR := Lib.hid hR; clear hR
  obtain ⟨a1, n1, c1, a2, n2, c2, a3, n3, c3, rfl, u1, u2, u3, _, _, _⟩ := h.parts
  obtain ⟨L, hL⟩ : ∃ L, L = w.alloc (.cells #[.slice a1 n1 c1, .slice a2 n2 c2, .slice a3 n3 c3] 57) := ⟨_, rfl⟩
  have HBL : Hid (Below w.heap.size w L) := Lib.hid (by rw [hL]; exact (Below.refl _ _).alloc (Nat.le_refl _) _)
  have HBX : Hid (Box3 L w.heap.size (.slice a1 n1 c1) (.slice a2 n2 c2) (.slice a3 n3 c3) 57) := Lib.hid (by rw [hL]; exact Box3.made _ _ _ _ _)
  have HL := Lib.hid hL
  have HA := Lib.hid (h.later HBL.out)
  have HE := Lib.hid (hE.later HBL.out (Nat.le_refl _))
  have HSZ := Lib.hid hs
  obtain ⟨⟨hA0, hA1, hA2⟩, _, _, _⟩ := HBX.out.cells
  rw [hL] at hA0 hA1 hA2
  clear h u1 u2 u3 hL hs hE
  go_enter Tryz.func46, Tryz.ntmps46
  go_wp2_with fail
  rw [← HL.out]
  refine readA_any _ S E M L HE.out HA.out HSZ.out _ ?_
  intro v2 w2 hsh hq hb2
  obtain ⟨s1, r1, t1, s2, r2, t2, s3, r3, t3, rfl⟩ := hsh
  obtain ⟨x, hx⟩ : ∃ x, x = autB S E M := ⟨_, rfl⟩
  have HF := Lib.hid (HR.out (w2.alloc (.cells #[.slice s1 r1 t1, .slice s2 r2 t2, .slice s3 r3 t3] 132)) ((HBL.out.trans (hb2.mono HBL.out.size)).alloc (Nat.le_trans HBL.out.size hb2.size) _))
  rw [← hx] at HF ⊢
  clear hx hb2 hq hA0 hA1 hA2
  dsimp only
  go_wp2
  first | go_ret | skip
  exact HF.out
end Go.Proofs.YtdkjcdfkoahfkaaGreatDoor

namespace Go.Proofs.YtdkjcdfkoahfkaaGreatDoor
open Go Go.RowKit

set_option maxRecDepth 100000 in
set_option maxHeartbeats 8000000 in
theorem law_validAutomaton (v : Value) (S E : List ByteArray) (M : List (List (List ByteArray))) (w : World) (hE : Env w) (h : IsAut w v S E M) (hf : FineA S E M) (R : Ending → World → Prop)
    (hR : ∀ w', Below w.heap.size w w' → R (.returned (.bool true)) w') :
    Calls Tryz.prog 7 #[v] w R := by
  have HR := Lib.hid hR; clear hR
  have HE := Lib.hid hE; clear hE
  have HFI := Lib.hid hf; clear hf
  obtain ⟨a1, n1, c1, a2, n2, c2, a3, n3, c3, rfl, u1, u2, u3, _, _, _⟩ := h.parts
  obtain ⟨L, hL⟩ : ∃ L, L = w.alloc (.cells #[.slice a1 n1 c1, .slice a2 n2 c2, .slice a3 n3 c3] 54) := ⟨_, rfl⟩
  have HBL : Hid (Below w.heap.size w L) := Lib.hid (by rw [hL]; exact (Below.refl _ _).alloc (Nat.le_refl _) _)
  have HBX : Hid (Box3 L w.heap.size (.slice a1 n1 c1) (.slice a2 n2 c2) (.slice a3 n3 c3) 54) := Lib.hid (by rw [hL]; exact Box3.made _ _ _ _ _)
  have HL := Lib.hid hL
  have HV := Lib.hid (h.later HBL.out)
  obtain ⟨⟨hA0, hA1, hA2⟩, _, _, _⟩ := HBX.out.cells
  clear h u1 u2 u3 hL
  go_enter Tryz.func7, Tryz.ntmps7
  rw [HL.out] at hA0 hA1 hA2
  go_wp2_with fail
  rw [← HL.out]
  refine szA_any _ S E M L 1048576 HV.out HFI.out (by omega) _ ?_ ?_
  · intro w1 hb1 ht
    have HSZ := Lib.hid (sizeA ht)
    obtain ⟨m, hm⟩ : ∃ m : Nat, m = 1048576 - totA S E M := ⟨_, rfl⟩
    rw [← hm]
    have hm0 : ¬ ((m : Int) < 0) := by omega
    have HB1 : Hid (Below L.heap.size L w1) := Lib.hid hb1
    have HX1 := Lib.hid (HBX.out.later hb1 (lt_of_block HBX.out))
    clear hm ht hb1 hA0 hA1 hA2
    obtain ⟨⟨hA0, hA1, hA2⟩, _, _, _⟩ := HX1.out.cells
    dsimp only
    go_wp2_with fail
    refine toA_own _ S E M w1 (HV.out.later HB1.out) HSZ.out _ ?_
    intro v2 w2 hv2 hb2
    have HV2 := Lib.hid hv2.rd
    obtain ⟨x1, m1, y1, x2, m2, y2, x3, m3, y3, rfl, q1, q2, q3, q4, q5, q6⟩ := hv2.rd.parts
    have HB2 := Lib.hid (HB1.out.trans (hb2.mono HB1.out.size))
    have HX2 := Lib.hid (HX1.out.later hb2 (lt_of_block HX1.out))
    clear hv2 q1 q2 q3 q4 q5 q6 hb2 hA0 hA1 hA2
    dsimp only
    go_wp2_with fail
    refine spec_vaut _ S E M w2 HV2.out HSZ.out _ ?_
    intro w3 hb3
    obtain ⟨x, hx⟩ : ∃ x, x = autB S E M := ⟨_, rfl⟩
    have HX := Lib.hid hx
    rw [← hx]
    have HB3 := Lib.hid (HB2.out.trans (hb3.mono HB2.out.size))
    have HX3 := Lib.hid (HX2.out.later hb3 (lt_of_block HX2.out))
    clear hx hb3
    obtain ⟨⟨hA0, hA1, hA2⟩, _, _, _⟩ := HX3.out.cells
    dsimp only
    go_wp2_with fail
    refine toA_own _ S E M w3 (HV.out.later HB3.out) HSZ.out _ ?_
    intro v4 w4 hv4' hb4
    have hv4 := hv4'.rd
    obtain ⟨x4, m4, y4, x5, m5, y5, x6, m6, y6, rfl, q1, q2, q3, q4, q5, q6⟩ := hv4.parts
    obtain ⟨W, hW⟩ : ∃ W, W = w4.alloc (.cells #[.slice x4 m4 y4, .slice x5 m5 y5, .slice x6 m6 y6] 57) := ⟨_, rfl⟩
    have hbW : Below w4.heap.size w4 W := by rw [hW]; exact (Below.refl _ _).alloc (Nat.le_refl _) _
    have B4 : Hid (Box3 W w4.heap.size (.slice x4 m4 y4) (.slice x5 m5 y5) (.slice x6 m6 y6) 57) := Lib.hid (by rw [hW]; exact Box3.made _ _ _ _ _)
    have HV4 := Lib.hid (hv4.later hbW)
    have hb4W : Below w3.heap.size w3 W := hb4.trans (hbW.mono hb4.size)
    have HB4 := Lib.hid (HB3.out.trans (hb4W.mono HB3.out.size))
    have HX4 := Lib.hid (HX3.out.later hb4W (lt_of_block HX3.out))
    have HW := Lib.hid hW
    obtain ⟨⟨hC0, hC1, hC2⟩, _, _, _⟩ := B4.out.cells
    clear hv4 hv4' q1 q2 q3 q4 q5 q6 hb4 hbW hb4W hW hA0 hA1 hA2
    rw [HW.out] at hC0 hC1 hC2
    dsimp only
    go_wp2_with fail
    rw [← HW.out]
    refine impl_vaut _ S E M W (HE.out.later (HBL.out.trans (HB4.out.mono HBL.out.size)) (Nat.le_refl _)) HV4.out HSZ.out _ ?_
    intro w5 hb5
    rw [← HX.out]
    have HB5 := Lib.hid (HB4.out.trans (hb5.mono HB4.out.size))
    have HX5 := Lib.hid (HX4.out.later hb5 (lt_of_block HX4.out))
    have B5 := Lib.hid (B4.out.later hb5 (lt_of_block B4.out))
    have HV5 := Lib.hid (HV4.out.later hb5)
    have hxx : (x != x) = false := by cases x <;> rfl
    have HSOF : Hid (∀ w', Below w5.heap.size w5 w' → (Below w5.heap.size w5 w' ∧ (w'.cell? ⟨w.heap.size, 0, none⟩ = some (.slice a1 n1 c1) ∧ w'.cell? ⟨w.heap.size, 1, none⟩ = some (.slice a2 n2 c2) ∧ w'.cell? ⟨w.heap.size, 2, none⟩ = some (.slice a3 n3 c3)) ∧ (w'.cell? ⟨w4.heap.size, 0, none⟩ = some (.slice x4 m4 y4) ∧ w'.cell? ⟨w4.heap.size, 1, none⟩ = some (.slice x5 m5 y5) ∧ w'.cell? ⟨w4.heap.size, 2, none⟩ = some (.slice x6 m6 y6)))) :=
      Lib.hid fun w' hb => ⟨hb, (HX5.out.later hb (lt_of_block HX5.out)).cells.1, (B5.out.later hb (lt_of_block B5.out)).cells.1⟩
    have HVL := Lib.hid (HV.out.later HB5.out)
    clear hb5 hC0 hC1 hC2
    dsimp only
    go_wp2_with fail
    first
      | (go_region_held3 (fun w' => Below w5.heap.size w5 w' ∧ (w'.cell? ⟨w.heap.size, 0, none⟩ = some (.slice a1 n1 c1) ∧ w'.cell? ⟨w.heap.size, 1, none⟩ = some (.slice a2 n2 c2) ∧ w'.cell? ⟨w.heap.size, 2, none⟩ = some (.slice a3 n3 c3)) ∧ (w'.cell? ⟨w4.heap.size, 0, none⟩ = some (.slice x4 m4 y4) ∧ w'.cell? ⟨w4.heap.size, 1, none⟩ = some (.slice x5 m5 y5) ∧ w'.cell? ⟨w4.heap.size, 2, none⟩ = some (.slice x6 m6 y6)))
          (first
            | exact HSOF.out _ HQ2.out
            | exact HSOF.out _ HQ1.out
            | exact HSOF.out _ (Below.refl _ _).drew)
          (first
            | (go_at_call 47; refine eqA_any _ _ S E M _ (HV5.out.later HQ1.out) HV6.out HSZ.out _ ?_; intro w7 hb7; have HQ2 : Hid (Below w5.heap.size w5 w7) := Lib.hid (HQ1.out.trans (hb7.mono HQ1.out.size)); clear hb7; dsimp only)
            | (go_at_call 45; refine toA_own _ S E M _ (HVL.out.later (Below.refl _ _).drew) HSZ.out _ ?_; intro v6 w6 hv6' hb6; have HV6 := Lib.hid hv6'.rd; have HQ1 : Hid (Below w5.heap.size w5 w6) := Lib.hid ⟨hb6.os, hb6.tape, hb6.output, hb6.size, hb6.block⟩; clear hv6' hb6; dsimp only)))
      | fail
    all_goals
      go_wp2
      first | go_ret | skip
      exact HR.out _ (HBL.out.trans ((HB5.out.trans (HQ2.out.mono HB5.out.size)).mono HBL.out.size))
  · intro w1 hb1 _
    have HF := Lib.hid (HR.out w1 (HBL.out.trans (hb1.mono HBL.out.size)))
    clear hb1 hA0 hA1 hA2
    dsimp only
    go_wp2
    first | go_ret | skip
    exact HF.out
end Go.Proofs.YtdkjcdfkoahfkaaGreatDoor
