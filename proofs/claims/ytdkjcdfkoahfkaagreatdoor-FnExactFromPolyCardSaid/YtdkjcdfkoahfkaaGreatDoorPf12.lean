/- Contracts of functions of the program and of the model: EnvLaid, RowKit, EnvLaidT, FpI, FpS, LawFromPoly. -/
import Derived.Test.YtdkjcdfkoahfkaaGreatDoorPb11
import Derived.Test.YtdkjcdfkoahfkaaGreatDoorTie
import Derived.Test.YtdkjcdfkoahfkaaGreatDoorCards
import Derived.ProofKit
import Derived.LaidMore
import Derived.LaidHandle
import Derived.OpenShut
import Derived.ChangeVars
import Derived.ChangeMaps5
import Derived.Stop.Joined
import Derived.Stop.JoinedAt
import Derived.Stop.Texts
import Derived.Stop.ErrReads
import Derived.Stop.LaidErr
import Derived.SevenTiedAt
import Derived.SliceStrings
import Derived.Carry
import Derived.Lib.LaidTab
import Derived.Deep.RegionLaw
set_option linter.all false
set_option linter.unusedVariables false
set_option linter.unusedSimpArgs false
set_option linter.unnecessarySimpa false
set_option linter.deprecated false
namespace Go.Proofs.YtdkjcdfkoahfkaaGreatDoor.EnvLaid
open Go Go.ChangeShapes Go.WideShapes Go.ChangeAt Go.RowKit

theorem own : ownKnob Tryz.prog.godebug = none := by kernel_rfl
theorem gForm : Tryz.prog.globalNamed "loop.example/g01120/impl.errForm" = some 1 := by kernel_rfl
theorem gSize : Tryz.prog.globalNamed "loop.example/g01120/impl.errSize" = some 0 := by kernel_rfl
theorem gType : Tryz.prog.globalNamed "errors.errorType" = some 2 := by kernel_rfl
theorem tForm : (Tryz.prog.globals[1]?).map (·.type) = some 87 := by kernel_rfl
theorem tSize : (Tryz.prog.globals[0]?).map (·.type) = some 87 := by kernel_rfl
theorem rt : (Tryz.prog.cutTypes.find? (·.1 == "internal/reflectlite.rtype")).map (·.2) = some 256 := by kernel_rfl
theorem size : Tryz.prog.types.size = 328 := by kernel_rfl
theorem oneRow : ((List.range 328).filter fun t => Tryz.prog.rowNamed t [101, 114, 114, 111, 114]) = [87] := by kernel_rfl
theorem star : "*" ++ "errors.errorString" = "*errors.errorString" := by decide
theorem rowPtr (u : TypeId) (h : Tryz.prog.typeName? 3 u = some "*errors.errorString") : u = 299 :=
  typeName_ptr_named (nm := "errors.errorString") (by rw [star]; kernel_rfl) (by kernel_rfl) (by decide) u (by rw [star]; exact h)
theorem cells190 : Tryz.prog.cellsOf 301 = 1 := by kernel_rfl
theorem cells9 : Tryz.prog.cellsOf 9 = 1 := by kernel_rfl

theorem handle_of {W : World} (h : handlesMet Tryz.prog [("errors.errorType", Rows.laid_errors_errorType)] W) :
    W.cell? ⟨2, 0, none⟩ = some (.iface 256 (.agg #[.pointer (some ⟨11, 87, none⟩)])) := by
  obtain ⟨name, u, ty, e1, e2, e3, e4, e5⟩ := h _ (List.mem_singleton.2 rfl)
  have en : name = [101, 114, 114, 111, 114] := (Option.some.inj e1).symm
  subst en
  obtain rfl := Option.some.inj (rt.symm.trans e2)
  have hm : ty ∈ (List.range 328).filter fun t => Tryz.prog.rowNamed t [101, 114, 114, 111, 114] := List.mem_filter.2 ⟨List.mem_range.2 (by rw [← size]; exact e3), e4⟩
  rw [oneRow] at hm
  obtain rfl := List.mem_singleton.1 hm
  have hh : typeHandle Tryz.prog 87 = .pointer (some ⟨11, 87, none⟩) := by kernel_rfl
  rw [hh] at e5
  simpa using World.var?_cell gType e5 0

/-- what a row's condition gives -/
theorem env_of {W : World} (h : laidMetH Tryz.prog [("errors.errorType", Rows.laid_errors_errorType), ("loop.example/g01120/impl.errForm", Rows.laid_loop_example_g01120_impl_errForm), ("loop.example/g01120/impl.errSize", Rows.laid_loop_example_g01120_impl_errSize)] W) :
    Env W ∧ (∃ a, W.var? Tryz.prog "loop.example/g01120/impl.errForm" = some #[.iface 299 (.pointer (some a))]) ∧ (∃ a, W.var? Tryz.prog "loop.example/g01120/impl.errSize" = some #[.iface 299 (.pointer (some a))]) := by
  have h' : laidMet Tryz.prog [("loop.example/g01120/impl.errForm", Rows.laid_loop_example_g01120_impl_errForm), ("loop.example/g01120/impl.errSize", Rows.laid_loop_example_g01120_impl_errSize)] W ∧ handlesMet Tryz.prog [("errors.errorType", Rows.laid_errors_errorType)] W := h
  obtain ⟨a1, s1, hv1, hc1, _, _⟩ := laid_sentinel h'.1 gForm tForm Tryz.underlying87 rowPtr Tryz.underlying299 Tryz.underlying301 rfl rfl Tryz.underlying9 cells190 cells9
  obtain ⟨a2, s2, hv2, hc2, _, _⟩ := laid_sentinel (laidMet.tail h'.1) gSize tSize Tryz.underlying87 rowPtr Tryz.underlying299 Tryz.underlying301 rfl rfl Tryz.underlying9 cells190 cells9
  exact ⟨⟨⟨a1, by simpa using World.var?_cell gForm hv1 0⟩, ⟨a2, by simpa using World.var?_cell gSize hv2 0⟩, handle_of h'.2⟩, ⟨a1, hv1⟩, ⟨a2, hv2⟩⟩
end Go.Proofs.YtdkjcdfkoahfkaaGreatDoor.EnvLaid

namespace Go.Proofs.YtdkjcdfkoahfkaaGreatDoor.EnvLaid
open Go Go.ChangeShapes Go.WideShapes Go.ChangeAt Go.RowKit

theorem laidOut : laidOutB Tryz.prog = true := by kernel_rfl
theorem cellsStr : Tryz.prog.cellsOf 9 = 1 := by kernel_rfl

theorem wf_i64 {n : Int} (h : (Lit.int .i64 n).wf = true) : -9223372036854775807 - 1 ≤ n ∧ n ≤ 9223372036854775807 := by
  have e1 : IntKind.i64.min = -9223372036854775807 - 1 := rfl
  have e2 : IntKind.i64.max = 9223372036854775807 := rfl
  simp [Lit.wf, e1, e2] at h
  omega

theorem var?_after {P : Program} {W W' : World} {n : String} {cs : Array Value} (h : Below W.heap.size W W') (hv : W.var? P n = some cs) : W'.var? P n = some cs := by
  have hv' := hv
  unfold World.var? at hv'
  cases hg : P.globalNamed n with
  | none => rw [hg] at hv'; simp at hv'
  | some g =>
    refine var?_below h hg ?_ hv
    rw [hg] at hv'
    simp only [Option.bind_some] at hv'
    rcases Nat.lt_or_ge g W.heap.size with h | h
    · exact h
    · rw [Array.getElem?_eq_none (by omega)] at hv'; simp at hv'

/-- a list of texts among the cells that came in -/
theorem open_textsC {H : Type} {enc : TypeId × Value → H} {W : World} {x : Value} {fuel : Nat} {y : DataW H × List MemPlace}
    (hf : DataW.trod enc Tryz.prog W 0 (fun _ => true) true fuel 38 [x] = some y) :
    ∃ L, TxL W x L ∧ L.length ≤ maxLen ∧ ∀ s ∈ L, s.size ≤ maxLen := by
  rcases open_strings Tryz.underlying38 Tryz.underlying9 cellsStr hf with ⟨hcs, hx⟩ | ⟨a, len, cap, ss, hcs, _, hl, hm, hz, hx, hcell, hsz⟩
  · simp at hcs
    subst hcs
    exact ⟨[], SlE.nil _ _ _, Nat.zero_le _, by simp⟩
  · simp at hcs
    subst hcs
    simp only [if_true] at hz
    obtain ⟨b, off, spot⟩ := a
    by_cases h0 : len = 0
    · subst h0
      exact ⟨[], SlE.nil _ _ _, Nat.zero_le _, by simp⟩
    · have hspot : spot = none := by simpa [Addr.add] using World.cell?_spot (hcell 0 (by omega))
      subst hspot
      refine ⟨ss.take len, TxL.mk (by simp; omega) hl (by have := hcell 0 (by omega); rw [Addr.add_lit] at this; exact lt_of_cell this) (fun i s hi => ?_), by simp; omega, fun s hs => hsz s (List.mem_of_mem_take hs)⟩
      have hi' : i < len := by
        have := (List.getElem?_eq_some_iff.1 hi).1
        simp at this
        omega
      have e : ss.getD i ByteArray.empty = s := by
        rw [List.getElem?_take_of_lt hi'] at hi
        simp [List.getD, hi]
      have := hcell i (by omega)
      rw [Addr.add_lit, e] at this
      exact this

/-- a list of texts that came in -/
theorem open_texts {H : Type} {enc : TypeId × Value → H} {W : World} {a0 : Option Addr} {len cap : Nat} {d : DataW H} {ps : List MemPlace}
    (h : DataW.Trod enc Tryz.prog W 0 (fun _ => true) true 38 (.slice a0 len cap) d ps) :
    ∃ L, TxL W (.slice a0 len cap) L ∧ L.length ≤ maxLen ∧ ∀ s ∈ L, s.size ≤ maxLen := by
  obtain ⟨fuel, hf⟩ := h
  exact open_textsC (y := (d, ps)) (by simpa [Value.cells] using hf)
end Go.Proofs.YtdkjcdfkoahfkaaGreatDoor.EnvLaid

namespace Go.Proofs.YtdkjcdfkoahfkaaGreatDoor.EnvLaid
open Go Go.ChangeShapes Go.WideShapes Go.ChangeAt Go.RowKit

theorem gPow : Tryz.prog.globalNamed "internal/strconv.uint64pow10" = some 5 := by kernel_rfl
theorem tPow : (Tryz.prog.globals[5]?).map (·.type) = some 271 := by kernel_rfl

/-- what a row's condition gives -/
theorem env_ofT {W : World} (h : laidMetH Tryz.prog [("math/bits.deBruijn32tab", Rows.laid_math_bits_deBruijn32tab), ("math/bits.deBruijn64tab", Rows.laid_math_bits_deBruijn64tab), ("internal/strconv.uint64pow10", Rows.laid_internal_strconv_uint64pow10), ("errors.errorType", Rows.laid_errors_errorType), ("loop.example/g01120/impl.errForm", Rows.laid_loop_example_g01120_impl_errForm), ("loop.example/g01120/impl.errSize", Rows.laid_loop_example_g01120_impl_errSize)] W) :
    Env W ∧ (∃ a, W.var? Tryz.prog "loop.example/g01120/impl.errForm" = some #[.iface 299 (.pointer (some a))]) ∧ (∃ a, W.var? Tryz.prog "loop.example/g01120/impl.errSize" = some #[.iface 299 (.pointer (some a))]) ∧
      Lib.TabIs Tryz.prog W "internal/strconv.uint64pow10" .u64 Lib.pow10Tab := by
  have h' : laidMet Tryz.prog [("math/bits.deBruijn32tab", Rows.laid_math_bits_deBruijn32tab), ("math/bits.deBruijn64tab", Rows.laid_math_bits_deBruijn64tab), ("internal/strconv.uint64pow10", Rows.laid_internal_strconv_uint64pow10), ("loop.example/g01120/impl.errForm", Rows.laid_loop_example_g01120_impl_errForm), ("loop.example/g01120/impl.errSize", Rows.laid_loop_example_g01120_impl_errSize)] W ∧ handlesMet Tryz.prog [("errors.errorType", Rows.laid_errors_errorType)] W := h
  have h3 := laidMet.tail (laidMet.tail h'.1)
  have h4 := laidMet.tail h3
  obtain ⟨a1, s1, hv1, hc1, _, _⟩ := laid_sentinel h4 gForm tForm Tryz.underlying87 rowPtr Tryz.underlying299 Tryz.underlying301 rfl rfl Tryz.underlying9 cells190 cells9
  obtain ⟨a2, s2, hv2, hc2, _, _⟩ := laid_sentinel (laidMet.tail h4) gSize tSize Tryz.underlying87 rowPtr Tryz.underlying299 Tryz.underlying301 rfl rfl Tryz.underlying9 cells190 cells9
  exact ⟨⟨⟨a1, by simpa using World.var?_cell gForm hv1 0⟩, ⟨a2, by simpa using World.var?_cell gSize hv2 0⟩, handle_of h'.2⟩, ⟨a1, hv1⟩, ⟨a2, hv2⟩,
    Lib.tabIs_of_head gPow tPow Tryz.underlying271 Tryz.underlying99 (by kernel_rfl) (by kernel_rfl) h3⟩
end Go.Proofs.YtdkjcdfkoahfkaaGreatDoor.EnvLaid

namespace Go.Proofs.YtdkjcdfkoahfkaaGreatDoor
open Go Go.RowKit

/-- whether there is a recurrence with a characteristic polynomial and a start -/
noncomputable def fpB (P S : List ByteArray) : Bool := decide (P.length = S.length + 1) && (decide (S.length ≤ 8) && (decide (P[S.length]? = some ⟨#[49]⟩) && (P.all isNum && S.all isNum)))
/-- the opposites of the first n coefficients, the last one first -/
def revN (cs : List Rat) (n : Nat) : List Rat := ((cs.take n).map fun q => -q).reverse
noncomputable def fp1 (P S : List ByteArray) : List ByteArray := if fpB P S = true then S else []
noncomputable def fp2 (P S : List ByteArray) : List ByteArray := if fpB P S = true then textsQ (revN (P.map qOf) S.length) else []
theorem fp_false {P S : List ByteArray} (h : fpB P S = false) : fp1 P S = [] ∧ fp2 P S = [] := by
  unfold fp1 fp2; rw [if_neg (by rw [h]; decide), if_neg (by rw [h]; decide)]; exact ⟨rfl, rfl⟩
theorem fp_true {P S : List ByteArray} (h : fpB P S = true) : fp1 P S = S ∧ fp2 P S = textsQ (revN (P.map qOf) S.length) := by
  unfold fp1 fp2; rw [if_pos h, if_pos h]; exact ⟨rfl, rfl⟩
theorem fpB_parts {P S : List ByteArray} (h : fpB P S = true) : P.length = S.length + 1 ∧ S.length ≤ 8 ∧ P[S.length]? = some ⟨#[49]⟩ ∧ P.all isNum = true ∧ S.all isNum = true := by
  unfold fpB at h
  rw [Bool.and_eq_true, Bool.and_eq_true, Bool.and_eq_true, Bool.and_eq_true] at h
  exact ⟨of_decide_eq_true h.1, of_decide_eq_true h.2.1, of_decide_eq_true h.2.2.1, h.2.2.2.1, h.2.2.2.2⟩
theorem revN_len {cs : List Rat} {n : Nat} (h : n ≤ cs.length) : (revN cs n).length = n := by unfold revN; rw [List.length_reverse, List.length_map, List.length_take]; omega
theorem revN_at {cs : List Rat} {n k : Nat} {q : Rat} (hn : n ≤ cs.length) (hk : k < n) (h : cs[n - 1 - k]? = some q) : (revN cs n)[k]? = some (-q) := by
  unfold revN
  rw [List.getElem?_reverse (by rw [List.length_map, List.length_take]; omega), List.length_map, List.length_take, List.getElem?_map, Nat.min_eq_left hn, List.getElem?_take_of_lt (by omega), h]; rfl
theorem revN_take {cs : List Rat} {n k : Nat} {q : Rat} (hn : n ≤ cs.length) (hk : k < n) (h : cs[n - 1 - k]? = some q) : (revN cs n).take (k + 1) = (revN cs n).take k ++ [-q] := by
  rw [List.take_add_one, revN_at hn hk h]; rfl
theorem fp_len (P S : List ByteArray) : (fp1 P S).length ≤ 60 ∧ (fp2 P S).length ≤ 60 := by
  cases h : fpB P S
  · rw [(fp_false h).1, (fp_false h).2]; simp
  · obtain ⟨h1, h2, _⟩ := fpB_parts h
    rw [(fp_true h).1, (fp_true h).2]
    unfold textsQ
    rw [List.length_map, revN_len (by rw [List.length_map]; omega)]; omega
theorem revN_few {L : List ByteArray} (hall : L.all isNum = true) {n : Nat} {q : Rat} (h : q ∈ revN (L.map qOf) n) : few q := by
  unfold revN at h
  rw [List.mem_reverse] at h
  obtain ⟨p, hp, rfl⟩ := List.mem_map.1 h
  exact few_neg (few_qOf hall (List.mem_of_mem_take hp))
theorem cof_revN {L : List ByteArray} (hall : L.all isNum = true) {n : Nat} (hn : n ≤ 13) : cofB (revN (L.map qOf) n) = true := by
  unfold cofB
  rw [decide_eq_true (by unfold revN; rw [List.length_reverse, List.length_map, List.length_take]; omega), Bool.true_and]
  unfold fitsQ
  rw [List.all_eq_true]
  intro q hq
  exact few_dec (revN_few hall hq)
theorem isNum_textsQ {cs : List Rat} (h : ∀ q ∈ cs, few q) : (textsQ cs).all isNum = true := by
  rw [List.all_eq_true]
  intro s hs
  unfold textsQ at hs
  obtain ⟨q, hq, rfl⟩ := List.mem_map.1 hs
  unfold isNum
  rw [numO_some.2 ⟨by simp, h q hq⟩]; rfl
/-- the texts that come out are those of a valid recurrence if the start is one -/
theorem rec_fp {P S : List ByteArray} (hP : P.all isNum = true) (hl : P.length = S.length + 1) : recB S (textsQ (revN (P.map qOf) S.length)) = (decide (S.length ≤ 8) && S.all isNum) := by
  have h1 := isNum_textsQ (fun q hq => revN_few (n := S.length) hP hq)
  have h2 : (textsQ (revN (P.map qOf) S.length)).length = S.length := by unfold textsQ; rw [List.length_map, revN_len (by rw [List.length_map]; omega)]
  unfold recB
  rw [h1, h2, decide_eq_true rfl, Bool.true_and, Bool.and_true]

theorem text_ne {A : ByteArray} {c : UInt8} (h : A ≠ ⟨#[c]⟩) : (A.toList == [c]) = false := by
  rw [beq_eq_false_iff_ne]
  intro e
  rw [Lib.toList_data] at e
  exact h (by cases A; simp at e ⊢; rw [← Array.toList_inj]; exact e)
theorem strE_ints : ∀ u ∈ (Value.string ByteArray.empty).cells.toList, notInt u = true := by intro u hu; simp [Value.cells] at hu; subst hu; rfl

set_option maxRecDepth 100000 in
set_option maxHeartbeats 2000000 in
theorem copied_any (v : Value) (L : List ByteArray) (w : World) (h : TxL w v L) (hl : L.length ≤ 100000) (R : Ending → World → Prop)
    (hR : ∀ v' w', OwE 1 ET 9 w' w.heap.size v' L → Below w.heap.size w w' → R (.returned v') w') :
    Calls Tryz.prog 98 #[v] w R := by
  have HR := Lib.hid hR; clear hR
  obtain ⟨a, n, c, rfl, hn, hc, hsl⟩ := h.open
  have HN := Lib.hid hn
  have HL := Lib.hid hl
  have HH := Lib.hid hsl
  have hnl : n ≤ 100000 := by omega
  clear h hn hc hsl hl
  go_enter Tryz.func98, Tryz.ntmps98
  go_wp2_with (at_make; go_must (refine wpList_makeE _ 1 ET rfl _ _ rfl (.string .empty) [.string .empty] rfl rfl strE_ints 9 16 Tryz.underlying38 info_str (by omega) .i64 _ n rfl (by omega) (by omega) ?_))
  intro W hA hbW hsW
  have HA := Lib.hid hA
  have HB := Lib.hid hbW
  have HS := Lib.hid hsW
  have HHW := Lib.hid (TxL.later HH.out hbW (Nat.le_refl _))
  clear hA hbW hsW
  obtain ⟨W2, hr, hB2, hbut, hsz⟩ := run_copyE (P := Tryz.prog) (w := W) elemT 38 38 3 9 Tryz.underlying38 (by kernel_rfl) [.string .empty] 9 w.heap.size n n HA.out (.slice a n c) L HHW.out HN.out.symm
  have HF := Lib.hid (HR.out (.slice (some ⟨w.heap.size, 0, none⟩) n n) W2 (by have := hB2.own (B := w.heap.size) (Nat.le_refl _) HN.out.symm (by omega); exact this) (HB.out.trans (hbut.below (Nat.le_refl _) (by have := HS.out; omega))))
  clear hB2 hbut hsz
  go_wp2
  first | go_ret | skip
  exact HF.out

set_option maxRecDepth 100000 in
theorem ddeg_any (v : Value) (qs : List Rat) (w : World) (h : RsL w v qs) (hl : qs.length ≤ 100000) (R : Ending → World → Prop)
    (hR : R (.returned (.int .i64 ((qs.length : Int) - 1))) w) :
    Calls Tryz.prog 95 #[v] w R := by
  have HR := Lib.hid hR; clear hR
  obtain ⟨a, n, c, rfl, hn, hc, hsl⟩ := SlE.open h
  rw [← hn] at HR
  have hw : IntKind.i64.wrap ((n : Int) - 1) = (n : Int) - 1 := IntWalk.i64_in _ (by omega)
  clear h hc hsl hn hl
  go_enter Tryz.func95, Tryz.ntmps95
  go_wp2
  first | go_ret | skip
  exact HR.out

def FpRel (W : World) (n : Nat) (cs : List Rat) (g : Nat) (i : Value) (wr : World) : Prop :=
  ∃ k : Nat, i = .int .i64 (k : Int) ∧ k ≤ n ∧ Blk 3 ER zR 85 wr g n ((revN cs n).take k) ∧ Below g W wr

theorem box2_zero (w : World) (x y : Value) (t : TypeId) : Box2 (w.alloc (.cells #[x, y] t)) w.heap.size x y t := Box2.made w x y t

set_option maxRecDepth 100000 in
set_option maxHeartbeats 8000000 in
theorem impl_fp (v0 : Value) (P : List ByteArray) (v1 : Value) (S : List ByteArray) (w : World) (hE : Env w) (htab : Lib.TabIs Tryz.prog w "internal/strconv.uint64pow10" .u64 Lib.pow10Tab) (h0 : TxL w v0 P) (hn0 : P.length ≤ 1048576) (h1 : TxL w v1 S) (hn1 : S.length ≤ 1048576) (R : Ending → World → Prop)
    (hR : ∀ v' w', OwD w' w.heap.size v' (fp1 P S) (fp2 P S) → Below w.heap.size w w' → R (.returned (.tuple #[v', .bool (fpB P S)])) w') :
    Calls Tryz.prog 37 #[v0, v1] w R := by
  have HR := Lib.hid hR; clear hR
  have HE := Lib.hid hE
  have HTAB := Lib.hid htab
  obtain ⟨a0, n0, c0, rfl, hl0, hc0, h0'⟩ := h0.open
  obtain ⟨a1, n1, c1, rfl, hl1, hc1, h1'⟩ := h1.open
  obtain ⟨L, hL⟩ : ∃ L, L = w.alloc (.cells #[.slice none 0 0, .slice none 0 0] 46) := ⟨_, rfl⟩
  have HBL : Hid (Below w.heap.size w L) := Lib.hid (by rw [hL]; exact (Below.refl _ _).alloc (Nat.le_refl _) _)
  have HBX : Hid (Box2 L w.heap.size (.slice none 0 0) (.slice none 0 0) 46) := Lib.hid (by rw [hL]; exact Box2.made _ _ _ _)
  have HLS : Hid (w.heap.size < L.heap.size) := Lib.hid (by rw [hL]; simp)
  have HL := Lib.hid hL
  have H0 := Lib.hid (TxL.later h0' HBL.out (Nat.le_refl _))
  have H1 := Lib.hid (TxL.later h1' HBL.out (Nat.le_refl _))
  have HN := Lib.hid (And.intro hn0 (And.intro hn1 (And.intro hl0 hl1)))
  have HFAIL : Hid (∀ w', fpB P S = false → Below L.heap.size L w' → R (.returned (.tuple #[.agg #[.slice none 0 0, .slice none 0 0], .bool false])) ((w'.setCell ⟨w.heap.size, 0, none⟩ (.slice none 0 0)).setCell ⟨w.heap.size, 1, none⟩ (.slice none 0 0))) := Lib.hid (fun w' hf hb => by
    have := HR.out (.agg #[.slice none 0 0, .slice none 0 0]) ((w'.setCell ⟨w.heap.size, 0, none⟩ (.slice none 0 0)).setCell ⟨w.heap.size, 1, none⟩ (.slice none 0 0)) (by rw [(fp_false hf).1, (fp_false hf).2]; exact OwD.nil) (below_set2 (HBL.out.trans (hb.mono HBL.out.size)) (Nat.le_refl _) _ _)
    rw [hf] at this; exact this)
  clear hE htab h0 h1 h0' h1' hn0 hn1 hl0 hl1 hc0 hc1 hL
  go_enter Tryz.func37, Tryz.ntmps37
  go_wp2_with fail
  rw [← HL.out]
  refine readc_any _ P L (HE.out.later HBL.out (Nat.le_refl _)) H0.out HN.out.1 _ ?_ ?_
  rotate_left
  · intro e w2 hp he hb2
    obtain ⟨t, p, rfl⟩ := he
    have hf : fpB P S = false := by
      cases hb : fpB P S with
      | false => rfl
      | true =>
        exfalso
        obtain ⟨k1, k2, k3, k4, k5⟩ := fpB_parts hb
        have : polyB P = true := polyB_true (by omega) k4 (fun s hs => by
          rw [List.getLast?_eq_getElem?, k1, Nat.add_sub_cancel, k3] at hs
          cases hs
          decide)
        rw [hp] at this; cases this
    have HX2 := Lib.hid (HBX.out.later hb2 HLS.out)
    obtain ⟨hR0, hR1, hF0, hF1⟩ := HX2.out.cells
    have HF := Lib.hid (HFAIL.out w2 hf hb2)
    clear hp hb2 hf
    dsimp only
    go_wp2
    refine bodyPost_ret_at (by simp [results, Tryz.results37, go_sem, hR0, hR1, hF0, hF1] <;> rfl) rfl ?_
    exact HF.out
  intro v2 w2 hp hv2 hb2
  have HP := Lib.hid hp
  obtain ⟨a2, n2, c2, rfl, hl2, hc2, hv2'⟩ := SlE.open hv2
  have hl2' : n2 = n0 := by rw [hl2, List.length_map]; exact HN.out.2.2.1.symm
  subst hl2'
  have HV2 := Lib.hid hv2'
  have HB2 := Lib.hid hb2
  have HX2 := Lib.hid (HBX.out.later hb2 HLS.out)
  have HK := Lib.hid (polyB_nums hp)
  have hn13 : n2 ≤ 13 := by have := HK.out.1; have := HN.out.2.2.1; omega
  have H02 := Lib.hid (TxL.later H0.out hb2 (Nat.le_refl _))
  have H12 := Lib.hid (TxL.later H1.out hb2 (Nat.le_refl _))
  obtain ⟨hR0, hR1, hF0, hF1⟩ := HX2.out.cells
  clear hp hv2 hv2' hb2 hl2 hc2
  dsimp only
  by_cases hne : n2 = n1 + 1
  rotate_left
  · have hf : fpB P S = false := by
      unfold fpB; rw [decide_eq_false (by have := HN.out.2.2; omega), Bool.false_and]
    have HF := Lib.hid (HFAIL.out w2 hf HB2.out)
    have e1 : (((n2 : Int) - 1) != (n1 : Int)) = true := by rw [bne_iff_ne]; omega
    clear hf
    go_wp2_with fail
    refine ddeg_any _ (P.map qOf) _ HV2.out (by rw [List.length_map]; have := HN.out.2.2.1; omega) _ ?_
    rw [List.length_map, ← HN.out.2.2.1]
    dsimp only
    go_wp2
    refine bodyPost_ret_at (by simp [results, Tryz.results37, go_sem, hR0, hR1, hF0, hF1] <;> rfl) rfl ?_
    exact HF.out
  obtain ⟨t, ht⟩ : ∃ t, P[n1]? = some t := ⟨_, List.getElem?_eq_getElem (by have := HN.out.2.2.1; omega)⟩
  obtain ⟨b0, off0, rfl, hb0, hcell0⟩ := TxL.at H02.out n1 t ht
  have e1 : (((n2 : Int) - 1) != (n1 : Int)) = false := by rw [bne_eq_false_iff_eq]; omega
  have i0 : (0 : Int) ≤ (n1 : Int) := by omega
  have i1 : (n1 : Int) < (n2 : Int) := by omega
  have hn12 : n1 ≤ 12 := by omega
  have HT := Lib.hid ht
  have HNE := Lib.hid hne
  clear hne
  by_cases ht1 : t = ⟨#[49]⟩
  rotate_left
  · have hf : fpB P S = false := by
      unfold fpB
      rw [decide_eq_false (p := P[S.length]? = some ⟨#[49]⟩) (by rw [← HN.out.2.2.2, HT.out]; exact fun h => ht1 (by cases h; rfl)), Bool.false_and, Bool.and_false, Bool.and_false]
    have HF := Lib.hid (HFAIL.out w2 hf HB2.out)
    have e2 : (t.toList == [49]) = false := text_ne ht1
    clear hf ht hb0 ht1
    go_wp2_with fail
    refine ddeg_any _ (P.map qOf) _ HV2.out (by rw [List.length_map]; have := HN.out.2.2.1; omega) _ ?_
    rw [List.length_map, ← HN.out.2.2.1]
    dsimp only
    go_wp2
    refine bodyPost_ret_at (by simp [results, Tryz.results37, go_sem, hR0, hR1, hF0, hF1] <;> rfl) rfl ?_
    exact HF.out
  subst ht1
  clear ht hb0
  go_wp2_with fail
  refine ddeg_any _ (P.map qOf) _ HV2.out (by rw [List.length_map]; have := HN.out.2.2.1; omega) _ ?_
  rw [List.length_map, ← HN.out.2.2.1]
  dsimp only
  have HCN : Hid (n1 ≤ (P.map qOf).length) := Lib.hid (by rw [List.length_map]; have := HN.out.2.2.1; omega)
  obtain ⟨g, hg⟩ : ∃ g, g = w2.heap.size := ⟨_, rfl⟩
  have HG := Lib.hid hg
  have HGB : Hid (w.heap.size < g) := Lib.hid (by rw [hg]; exact Nat.lt_of_lt_of_le HLS.out HB2.out.size)
  clear hg
  go_wp2_with (at_make; go_must (refine wpList_makeE _ 3 ER rfl _ _ rfl zeroR zR rfl rfl zeroR_ints 85 56 Tryz.underlying110 info_ratio (by omega) .i64 _ n1 rfl (by omega) (by omega) ?_))
  intro W hA hbW hsW
  rw [← HG.out] at hA hbW ⊢
  have HST : Hid (FpRel w2 n1 (P.map qOf) g (.int .i64 0) W) := Lib.hid ⟨0, rfl, Nat.zero_le _, by rw [List.take_zero]; exact hA, hbW⟩
  clear hA hbW hsW hcell0 hR0 hR1 hF0 hF1
  go_wp2
  go_loopw [41] (fun i wr => FpRel w2 n1 (P.map qOf) g i wr) (fun i _ => n1 - (intOf i).toNat)
  case atStart => exact HST.out
  case round =>
    clear HST
    obtain ⟨k, rfl, hk, hA, hbel⟩ := hrel
    have HB := Lib.hid hbel
    have HA := Lib.hid hA
    by_cases hkn : k = n1
    · subst hkn
      have he : (revN (P.map qOf) k).take k = revN (P.map qOf) k := List.take_of_length_le (by rw [revN_len HCN.out]; exact Nat.le_refl _)
      rw [he] at hA
      have HS3 := Lib.hid (hA.own (B := g) (Nat.le_refl _) (revN_len HCN.out) (by omega)).sl
      have HBL2 : Hid (Below L.heap.size L wr) := Lib.hid (HB2.out.trans (by have := hbel; rw [HG.out] at this; exact this.mono HB2.out.size))
      have HTW := Lib.hid (tab_later HTAB.out (HBL.out.trans (HBL2.out.mono HBL.out.size)) (Nat.le_refl _))
      have HH1 := Lib.hid (TxL.later H1.out HBL2.out (Nat.le_refl _))
      have hkk : ¬ ((k : Int) < (k : Int)) := by omega
      clear he hA hbel hk
      go_wp2_with fail
      refine cof_any _ _ _ HTW.out HS3.out _ ?_
      intro v4 w4 hv4 hb4
      rw [cof_revN HK.out.2 (by omega)]
      rw [cofL_true (cof_revN HK.out.2 (by omega))] at hv4
      obtain ⟨a4, n4, c4, rfl, e4⟩ := hv4.shape
      clear e4
      have HV4 := Lib.hid hv4
      have HB4 := Lib.hid (HBL2.out.trans (hb4.mono HBL2.out.size))
      have HH4 := Lib.hid (TxL.later HH1.out hb4 (Nat.le_refl _))
      have HZ4 := Lib.hid hb4.size
      have HU4 := Lib.hid hv4.own_lt
      clear hv4 hb4
      dsimp only
      go_wp2_with fail
      refine copied_any _ S _ HH4.out (by have := HN.out.2.2; omega) _ ?_
      intro v5 w5 hv5 hb5
      obtain ⟨a5, n5, c5, rfl, e5⟩ := hv5.shape
      clear e5
      have HV5 := Lib.hid hv5
      have HV45 := Lib.hid (HV4.out.later elemT hb5 (Nat.le_refl _))
      have HB5 := Lib.hid (HB4.out.trans (hb5.mono HB4.out.size))
      clear hv5 hb5
      obtain ⟨V, hV⟩ : ∃ V, V = w5.alloc (.cells #[.slice a5 n5 c5, .slice a4 n4 c4] 46) := ⟨_, rfl⟩
      have hbV : Below w5.heap.size w5 V := by rw [hV]; exact (Below.refl _ _).alloc (Nat.le_refl _) _
      have HBV := Lib.hid (HB5.out.trans (hbV.mono HB5.out.size))
      have HXV : Hid (Box2 V w5.heap.size (.slice a5 n5 c5) (.slice a4 n4 c4) 46) := Lib.hid (by rw [hV]; exact Box2.made _ _ _ _)
      have HV5V := Lib.hid (HV5.out.later elemT hbV (Nat.le_refl _))
      have HV4V := Lib.hid (HV45.out.later elemT hbV (Nat.le_refl _))
      have HX0 := Lib.hid (HBX.out.later HBV.out HLS.out)
      obtain ⟨hA0, hA1, _, _⟩ := HXV.out.cells
      have HVV := Lib.hid hV
      rw [hV] at hA0 hA1
      clear hbV hV
      dsimp only
      go_wp2_with fail
      rw [← HVV.out] at hA0 hA1 ⊢
      have HREC : Hid (IsRec V (.agg #[.slice a5 n5 c5, .slice a4 n4 c4]) S (textsQ (revN (P.map qOf) k))) := Lib.hid ⟨_, _, rfl, HV5V.out.tx, HV4V.out.tx⟩
      refine impl_validRec _ S (textsQ (revN (P.map qOf) k)) V (HE.out.later (HBL.out.trans (HBV.out.mono HBL.out.size)) (Nat.le_refl _)) HREC.out HN.out.2.1 (by unfold textsQ; rw [List.length_map, revN_len HCN.out]; omega) _ ?_
      intro w6 hb6
      rw [show recB S (textsQ (revN (P.map qOf) k)) = (decide (S.length ≤ 8) && S.all isNum) by rw [HN.out.2.2.2]; exact rec_fp HK.out.2 (by have := HN.out.2.2; have := HNE.out; omega)]
      have HB6 := Lib.hid (HBV.out.trans (hb6.mono HBV.out.size))
      have HX6 := Lib.hid (HX0.out.later hb6 (lt_of_block HX0.out))
      have HXV6 := Lib.hid (HXV.out.later hb6 (lt_of_block HXV.out))
      have HV5W := Lib.hid (HV5V.out.later elemT hb6 (Nat.le_refl _))
      have HV4W := Lib.hid (HV4V.out.later elemT hb6 (Nat.le_refl _))
      have HPB : Hid (fpB P S = (decide (S.length ≤ 8) && S.all isNum)) := Lib.hid (by
        unfold fpB
        rw [decide_eq_true (p := P.length = S.length + 1) (by have := HN.out.2.2; have := HNE.out; omega), decide_eq_true (p := P[S.length]? = some ⟨#[49]⟩) (by rw [← HN.out.2.2.2]; exact HT.out), HK.out.2]
        simp only [Bool.true_and])
      clear hb6 hA0 hA1
      obtain ⟨hR0, hR1, hF0, hF1⟩ := HX6.out.cells
      obtain ⟨hA0, hA1, _, _⟩ := HXV6.out.cells
      dsimp only
      cases hx : (decide (S.length ≤ 8) && S.all isNum)
      · have HF := Lib.hid (HFAIL.out w6 (by rw [HPB.out, hx]) HB6.out)
        clear hx
        go_wp2
        refine bodyPost_ret_at (by simp [results, Tryz.results37, go_sem, hR0, hR1, hF0, hF1] <;> rfl) rfl ?_
        exact HF.out
      · have hT : fpB P S = true := by rw [HPB.out, hx]
        have hB6 : Below w.heap.size w w6 := HBL.out.trans (HB6.out.mono HBL.out.size)
        have hni : ∀ {B : Nat} {v : Value} {X : List ByteArray}, OwE 1 ET 9 w6 B v X → ∀ x y, OwE 1 ET 9 ((w6.setCell ⟨w.heap.size, 0, none⟩ x).setCell ⟨w.heap.size, 1, none⟩ y) B v X := fun h x y => h.set2 (h.ne_box HX6.out (by decide)) x y
        have HF := Lib.hid (HR.out (.agg #[.slice a5 n5 c5, .slice a4 n4 c4]) ((w6.setCell ⟨w.heap.size, 0, none⟩ (.slice a5 n5 c5)).setCell ⟨w.heap.size, 1, none⟩ (.slice a4 n4 c4)) ⟨_, _, rfl, by
            rw [(fp_true hT).1]
            exact (hni HV5W.out _ _).mono (by have := HBL.out.size; have := HB4.out.size; omega), by
            rw [(fp_true hT).2, ← HN.out.2.2.2]
            exact (hni HV4W.out _ _).mono (by have := HBL.out.size; have := HBL2.out.size; omega), fun q h1 h2 => by
            have k1 := HV5W.out.base q h1
            have k2 := HU4.out q h2
            omega⟩ (below_set2 hB6 (Nat.le_refl _) _ _))
        rw [hT] at HF
        clear hx hT hB6 hni
        go_wp2
        refine bodyPost_ret_at (by simp [results, Tryz.results37, go_sem, hR0, hR1, hF0, hF1] <;> rfl) rfl ?_
        exact HF.out
    · have hkl : k < n1 := by omega
      obtain ⟨j, hj⟩ : ∃ j, j = n1 - 1 - k := ⟨_, rfl⟩
      obtain ⟨q, hq⟩ : ∃ q, (P.map qOf)[j]? = some q := ⟨_, List.getElem?_eq_getElem (by have := HCN.out; omega)⟩
      have HTK := Lib.hid (revN_take HCN.out hkl (by rw [← hj]; exact hq))
      have HTL : Hid (k = ((revN (P.map qOf) n1).take k).length) := Lib.hid (by rw [List.length_take, revN_len HCN.out]; omega)
      obtain ⟨b, off, cs, rfl, hb, hcell, hE⟩ := HV2.out.at j q hq
      obtain ⟨x1, y1, z1, x2, y2, z2, hcs, hi1, hi2⟩ := hE
      obtain ⟨ng, hng⟩ : ∃ ng, ng = decide (q.num < 0) := ⟨_, rfl⟩
      rw [← hng] at hcs
      have hbg : b < g := by rw [HG.out]; exact hb
      have hd0 : wr.cell? ⟨b, off + j * 3, none⟩ = some (.bool ng) := by rw [hbel.cell (p := ⟨b, off + j * 3, none⟩) hbg]; exact hcell 0 _ (by rw [hcs]; rfl)
      have hd1 : wr.cell? ⟨b, off + j * 3 + 1, none⟩ = some (.slice x1 y1 z1) := by rw [hbel.cell (p := ⟨b, off + j * 3 + 1, none⟩) hbg]; exact hcell 1 _ (by rw [hcs]; rfl)
      have hd2 : wr.cell? ⟨b, off + j * 3 + 2, none⟩ = some (.slice x2 y2 z2) := by rw [hbel.cell (p := ⟨b, off + j * 3 + 2, none⟩) hbg]; exact hcell 2 _ (by rw [hcs]; rfl)
      have HQR := Lib.hid ((show IsR w2 (.agg #[.bool ng, .slice x1 y1 z1, .slice x2 y2 z2]) q from ⟨_, _, by rw [hng], hi1, hi2⟩).later (B := w2.heap.size) (by rw [← HG.out]; exact hbel) (Nat.le_refl _))
      have hw1 : IntKind.i64.wrap ((k : Int) + 1) = ((k + 1 : Nat) : Int) := by rw [IntWalk.i64_in _ (by omega)]; omega
      have hw2 : IntKind.i64.wrap ((n1 : Int) - 1) = (n1 : Int) - 1 := IntWalk.i64_in _ (by omega)
      have hw3 : IntKind.i64.wrap ((n1 : Int) - 1 - (k : Int)) = (j : Int) := by rw [IntWalk.i64_in _ (by omega)]; omega
      have hw4 : (n1 : Int) - 1 - (k : Int) = (j : Int) := by omega
      have hk0 : (0 : Int) ≤ (k : Int) := by omega
      have hkn2 : (k : Int) < (n1 : Int) := by omega
      have hj0 : (0 : Int) ≤ (j : Int) := by omega
      have hj1 : (j : Int) < (n2 : Int) := by omega
      have HKL := Lib.hid hkl
      obtain ⟨V, hV⟩ : ∃ V, V = wr := ⟨_, rfl⟩
      have hbV : Below wr.heap.size wr V := by rw [hV]; exact Below.refl _ _
      have hgr : g ≤ wr.heap.size := by have := hA.lt; omega
      have HBV : Hid (Below g w2 V) := Lib.hid (HB.out.trans (hbV.mono hgr))
      have HQV := Lib.hid (HQR.out.later hbV (Nat.le_refl _))
      have HAV := Lib.hid (HA.out.later elemR hbV (Nat.le_refl _))
      have HV := Lib.hid hV
      have HGV : Hid (g ≤ V.heap.size) := Lib.hid (Nat.le_trans hgr hbV.size)
      clear hq hcell hcs hi1 hi2 hng hkn hA hbel hb hkl hV hbV hk hj hgr hbg
      go_wp2_with fail
      rw [← HV.out]
      refine rneg_any _ q _ HQV.out _ ?_
      intro v6 w6 hv6 hb6
      obtain ⟨m6, a10, n10, c10, a11, n11, c11, hm6, rfl, hi5, hi6⟩ := hv6.parts
      have HB6 := Lib.hid (HBV.out.trans (hb6.mono HGV.out))
      have HA6 := Lib.hid (HAV.out.later elemR hb6 (Nat.le_refl _))
      obtain ⟨s0, s1, s2, hs0, hs1, hs2, _, _⟩ := HA6.out.cells (i := k) (by have := HKL.out; omega)
      have hg0 := HA6.out.frozen (k * 3)
      have hg1 := HA6.out.frozen (k * 3 + 1)
      have hg2 := HA6.out.frozen (k * 3 + 2)
      have HER : Hid (ER w6 [.bool m6, .slice a10 n10 c10, .slice a11 n11 c11] (-q)) := Lib.hid ⟨_, _, _, _, _, _, by rw [hm6], hi5, hi6⟩
      have HREL : Hid (FpRel w2 n1 (P.map qOf) g (.int .i64 ((k + 1 : Nat) : Int)) (set3 w6 g k (.bool m6) (.slice a10 n10 c10) (.slice a11 n11 c11))) := Lib.hid
          ⟨k + 1, rfl, HKL.out, by rw [HTK.out]; exact HA6.out.put elemR HTL.out HKL.out HER.out, set3_below HB6.out (Nat.le_refl _) _ _ _ _⟩
      unfold set3 at HREL
      clear hm6 hv6 hb6 hi5 hi6 hd0 hd1 hd2
      dsimp only
      go_wp2
      go_roundw
      case rel => exact HREL.out
      case measure => simp [intOf]; have := HKL.out; omega
end Go.Proofs.YtdkjcdfkoahfkaaGreatDoor

namespace Go.Proofs.YtdkjcdfkoahfkaaGreatDoor
open Go Go.RowKit

def FpSRel (V : World) (B g M : Nat) (a5 : Option Addr) (n5 c5 : Nat) (S : List ByteArray) (n : Nat) (cs : List Rat) (i : Value) (wr : World) : Prop :=
  ∃ (k : Nat) (ii : Int) (a6 : Option Addr) (n6 c6 : Nat), i = .int .i64 ii ∧ ii = (n : Int) - 1 - (k : Int) ∧ k ≤ n ∧ Box2 wr g (.slice a5 n5 c5) (.slice a6 n6 c6) 46 ∧ OwE 1 ET 9 wr B (.slice a5 n5 c5) S ∧
    OwE 1 ET 9 wr M (.slice a6 n6 c6) (textsQ ((revN cs n).take k)) ∧ Below g V wr

theorem butO_set (w : World) (b o : Nat) (u : Value) : ButO (some b) w (w.setCell ⟨b, o, none⟩ u) := by
  have h := (But.refl b w).setCell o u
  exact ⟨h.os, h.tape, h.output, h.size, fun k hk hne => h.block k hk (fun e => hne (by rw [e]))⟩
theorem OwE.setBox {e t : TypeId} {w : World} {B b : Nat} {v x y u : Value} {L : List ByteArray} (h : OwE 1 ET e w B v L) (k : Box2 w b x y t) (he : e ≠ t) (o : Nat) : OwE 1 ET e (w.setCell ⟨b, o, none⟩ u) B v L :=
  h.butO (butO_set w b o u) (fun g hg hc => by cases hc; exact h.ne_box k he _ hg rfl)
theorem textsQ_sizes {cs : List Rat} (h : ∀ q ∈ cs, few q) : ∀ s ∈ textsQ cs, s.size ≤ 1048576 := by
  intro s hs
  have h1 := List.all_eq_true.1 (isNum_textsQ h) s hs
  have := numO_size (isNum_some h1)
  omega
theorem Box2.set1 {w : World} {b : Nat} {x y : Value} {t : TypeId} (h : Box2 w b x y t) (z : Value) : Box2 (w.setCell ⟨b, 1, none⟩ z) b x z t := by
  unfold Box2 at *
  simp [World.setCell, Array.getElem?_modify, h]

set_option maxRecDepth 100000 in
set_option maxHeartbeats 8000000 in
theorem spec_fp (v0 : Value) (P : List ByteArray) (v1 : Value) (S : List ByteArray) (w : World) (h0 : TxL w v0 P) (hn0 : P.length ≤ 1048576) (hs0 : ∀ s ∈ P, s.size ≤ 1048576) (h1 : TxL w v1 S) (hn1 : S.length ≤ 1048576) (hs1 : ∀ s ∈ S, s.size ≤ 1048576) (R : Ending → World → Prop)
    (hR : ∀ v' w', OwD w' w.heap.size v' (fp1 P S) (fp2 P S) → Below w.heap.size w w' → R (.returned (.tuple #[v', .bool (fpB P S)])) w') :
    Calls Tryz.prog 35 #[v0, v1] w R := by
  have HR := Lib.hid hR; clear hR
  obtain ⟨a0, n0, c0, rfl, hl0, hc0, h0'⟩ := h0.open
  obtain ⟨a1, n1, c1, rfl, hl1, hc1, h1'⟩ := h1.open
  obtain ⟨L, hL⟩ : ∃ L, L = w.alloc (.cells #[.slice none 0 0, .slice none 0 0] 46) := ⟨_, rfl⟩
  have HBL : Hid (Below w.heap.size w L) := Lib.hid (by rw [hL]; exact (Below.refl _ _).alloc (Nat.le_refl _) _)
  have HBX : Hid (Box2 L w.heap.size (.slice none 0 0) (.slice none 0 0) 46) := Lib.hid (by rw [hL]; exact Box2.made _ _ _ _)
  have HLS : Hid (w.heap.size < L.heap.size) := Lib.hid (by rw [hL]; simp)
  have HL := Lib.hid hL
  have H0 := Lib.hid (TxL.later h0' HBL.out (Nat.le_refl _))
  have H1 := Lib.hid (TxL.later h1' HBL.out (Nat.le_refl _))
  have HN := Lib.hid (And.intro hn0 (And.intro hn1 (And.intro hl0 hl1)))
  have HSZ := Lib.hid (And.intro hs0 hs1)
  have HFAIL : Hid (∀ w', fpB P S = false → Below L.heap.size L w' → R (.returned (.tuple #[.agg #[.slice none 0 0, .slice none 0 0], .bool false])) ((w'.setCell ⟨w.heap.size, 0, none⟩ (.slice none 0 0)).setCell ⟨w.heap.size, 1, none⟩ (.slice none 0 0))) := Lib.hid (fun w' hf hb => by
    have := HR.out (.agg #[.slice none 0 0, .slice none 0 0]) ((w'.setCell ⟨w.heap.size, 0, none⟩ (.slice none 0 0)).setCell ⟨w.heap.size, 1, none⟩ (.slice none 0 0)) (by rw [(fp_false hf).1, (fp_false hf).2]; exact OwD.nil) (below_set2 (HBL.out.trans (hb.mono HBL.out.size)) (Nat.le_refl _) _ _)
    rw [hf] at this; exact this)
  have HFAIL0 : Hid (fpB P S = false → R (.returned (.tuple #[.agg #[.slice none 0 0, .slice none 0 0], .bool false])) L) := Lib.hid (fun hf => by
    have := HR.out (.agg #[.slice none 0 0, .slice none 0 0]) L (by rw [(fp_false hf).1, (fp_false hf).2]; exact OwD.nil) HBL.out
    rw [hf] at this; exact this)
  have hn0' : n0 ≤ 1048576 := by omega
  have hn1' : n1 ≤ 1048576 := by omega
  obtain ⟨hR0, hR1, hF0, hF1⟩ := HBX.out.cells
  have hw0 : IntKind.i64.wrap ((n0 : Int) - 1) = (n0 : Int) - 1 := IntWalk.i64_in _ (by omega)
  clear h0 h1 h0' h1' hn0 hn1 hl0 hl1 hc0 hc1 hs0 hs1 hL
  by_cases hbad : ¬ (n0 = n1 + 1 ∧ n1 ≤ 8)
  · have hf : fpB P S = false := by
      unfold fpB
      by_cases k1 : n0 = n1 + 1
      · rw [decide_eq_false (p := S.length ≤ 8) (by have := HN.out.2.2; omega), Bool.false_and, Bool.and_false]
      · rw [decide_eq_false (by have := HN.out.2.2; omega), Bool.false_and]
    have HF := Lib.hid (HFAIL0.out hf)
    rw [HL.out] at hR0 hR1 hF0 hF1
    clear hf
    by_cases k0 : n0 = 0
    · have e1 : (n0 : Int) - 1 < 0 := by omega
      clear hbad k0
      go_enter Tryz.func35, Tryz.ntmps35
      go_wp2
      refine bodyPost_ret_at (by simp [results, Tryz.results35, go_sem, hR0, hR1, hF0, hF1] <;> rfl) rfl ?_
      rw [← HL.out]
      exact HF.out
    · have e1 : ¬ (n0 : Int) - 1 < 0 := by omega
      by_cases k8 : 9 < n0
      · have e2 : (8 : Int) < (n0 : Int) - 1 := by omega
        clear hbad k0 k8
        go_enter Tryz.func35, Tryz.ntmps35
        go_wp2
        refine bodyPost_ret_at (by simp [results, Tryz.results35, go_sem, hR0, hR1, hF0, hF1] <;> rfl) rfl ?_
        rw [← HL.out]
        exact HF.out
      · have e2 : ¬ (8 : Int) < (n0 : Int) - 1 := by omega
        have e3 : ((n1 : Int) != (n0 : Int) - 1) = true := by rw [bne_iff_ne]; omega
        clear hbad k0 k8
        go_enter Tryz.func35, Tryz.ntmps35
        go_wp2
        refine bodyPost_ret_at (by simp [results, Tryz.results35, go_sem, hR0, hR1, hF0, hF1] <;> rfl) rfl ?_
        rw [← HL.out]
        exact HF.out
  obtain ⟨rfl, hn8⟩ : n0 = n1 + 1 ∧ n1 ≤ 8 := Classical.not_not.1 hbad
  clear hbad
  have e0 : ((n1 + 1 : Nat) : Int) - 1 = (n1 : Int) := by omega
  rw [e0] at hw0
  have e1 : ¬ (n1 : Int) < 0 := by omega
  have e2 : ¬ (8 : Int) < (n1 : Int) := by omega
  have e3 : ((n1 : Int) != (n1 : Int)) = false := by simp
  obtain ⟨t, ht⟩ : ∃ t, P[n1]? = some t := ⟨_, List.getElem?_eq_getElem (by have := HN.out.2.2.1; omega)⟩
  obtain ⟨b0, off0, rfl, hb0, hcell0⟩ := TxL.at H0.out n1 t ht
  have i0 : (0 : Int) ≤ (n1 : Int) := by omega
  have i1 : (n1 : Int) < ((n1 + 1 : Nat) : Int) := by omega
  have HT := Lib.hid ht
  by_cases ht1 : t = ⟨#[49]⟩
  rotate_left
  · have hf : fpB P S = false := by
      unfold fpB
      rw [decide_eq_false (p := P[S.length]? = some ⟨#[49]⟩) (by rw [← HN.out.2.2.2, HT.out]; exact fun h => ht1 (by cases h; rfl)), Bool.false_and, Bool.and_false, Bool.and_false]
    have HF := Lib.hid (HFAIL0.out hf)
    have e4 : (t.toList == [49]) = false := text_ne ht1
    rw [HL.out] at hR0 hR1 hF0 hF1 hcell0
    clear hf ht hb0 ht1
    go_enter Tryz.func35, Tryz.ntmps35
    go_wp2
    refine bodyPost_ret_at (by simp [results, Tryz.results35, go_sem, hR0, hR1, hF0, hF1] <;> rfl) rfl ?_
    rw [← HL.out]
    exact HF.out
  subst ht1
  rw [HL.out] at hcell0
  clear ht hb0 hR0 hR1 hF0 hF1
  go_enter Tryz.func35, Tryz.ntmps35
  go_wp2_with fail
  rw [← HL.out] at hcell0 ⊢
  refine all_any _ P L H0.out HN.out.1 HSZ.out.1 _ ?_
  intro w1 hb1
  have HB1 := Lib.hid hb1
  have HX1 := Lib.hid (HBX.out.later hb1 HLS.out)
  have H11 := Lib.hid (TxL.later H1.out hb1 (Nat.le_refl _))
  have H01 := Lib.hid (TxL.later H0.out hb1 (Nat.le_refl _))
  clear hb1 hcell0
  cases hall : P.all isNum with
  | false =>
    have hf : fpB P S = false := by unfold fpB; rw [hall]; simp
    have HF := Lib.hid (HFAIL.out w1 hf HB1.out)
    obtain ⟨hR0, hR1, hF0, hF1⟩ := HX1.out.cells
    clear hf hall
    dsimp only
    go_wp2
    refine bodyPost_ret_at (by simp [results, Tryz.results35, go_sem, hR0, hR1, hF0, hF1] <;> rfl) rfl ?_
    exact HF.out
  | true =>
  have HALL := Lib.hid hall
  have HML : Hid (S.length ≤ 100000000) := Lib.hid (by have := HN.out.2.2.2; omega)
  clear hall
  dsimp only
  go_wp2_with (at_builtin; go_must (refine wpList_spread0 elemT (by omega) rfl _ _ 38 rfl 9 16 (.string .empty) Tryz.underlying38 info_str rfl strE_ints (by omega) w1.heap.size w1.heap.size rfl (by show (w1.heap.push _)[_]? = _; simp) (Nat.le_refl _) (by simp) _ rfl _ (TxL.later H11.out ((Below.refl _ _).alloc (Nat.le_refl _) _) (Nat.le_refl _)) HML.out ?_))
  intro x4 m4 y4 w4 hv4 hm4 hb4
  have HB4 : Hid (Below w1.heap.size w1 w4) := Lib.hid (((Below.refl w1.heap.size w1).alloc (Nat.le_refl _) _).trans (hb4.mono (by simp)))
  have HV4 := Lib.hid hv4
  obtain ⟨V, hV⟩ : ∃ V, V = w4.alloc (.cells #[.slice x4 m4 y4, .slice none 0 0] 46) := ⟨_, rfl⟩
  have hbV : Below w4.heap.size w4 V := by rw [hV]; exact (Below.refl _ _).alloc (Nat.le_refl _) _
  have HBXV : Hid (Box2 V w4.heap.size (.slice x4 m4 y4) (.slice none 0 0) 46) := Lib.hid (by rw [hV]; exact Box2.made _ _ _ _)
  have HVS : Hid (V.heap.size = w4.heap.size + 1) := Lib.hid (by rw [hV]; simp)
  have HVV := Lib.hid hV
  have HV4V := Lib.hid (hv4.later elemT hbV (Nat.le_refl _))
  have HU4 := Lib.hid hv4.own_lt
  have HBV : Hid (Below L.heap.size L V) := Lib.hid (HB1.out.trans ((HB4.out.trans (hbV.mono HB4.out.size)).mono HB1.out.size))
  have HBV1 : Hid (Below w1.heap.size w1 V) := Lib.hid (HB4.out.trans (hbV.mono HB4.out.size))
  have hw5 : IntKind.i64.wrap ((n1 : Int) - 1) = (n1 : Int) - 1 := IntWalk.i64_in _ (by omega)
  obtain ⟨g, hg⟩ : ∃ g, g = w4.heap.size := ⟨_, rfl⟩
  rw [← hg] at HBXV HVS
  have HG := Lib.hid hg
  have HGL : Hid (L.heap.size ≤ g ∧ w1.heap.size ≤ g) := Lib.hid (by have := HB1.out.size; have := HB4.out.size; omega)
  have HUS : Hid (∀ b, (Value.slice x4 m4 y4).ownBlock = some b → b < g) := Lib.hid (by rw [hg]; exact HU4.out)
  have HCN : Hid (n1 ≤ (P.map qOf).length) := Lib.hid (by rw [List.length_map]; have := HN.out.2.2.1; omega)
  have HST : Hid (FpSRel V w1.heap.size g V.heap.size x4 m4 y4 S n1 (P.map qOf) (.int .i64 ((n1 : Int) - 1)) V) := Lib.hid ⟨0, _, none, 0, 0, rfl, by simp, Nat.zero_le _, HBXV.out, HV4V.out, by rw [List.take_zero]; exact OwE.nil _ _ _, Below.refl _ _⟩
  clear hv4 hm4 hb4 hbV hV
  go_wp2
  rw [← HVV.out]
  rw [← HG.out]
  clear hw0 hw5 hg
  go_loopw [8] (fun i wr => FpSRel V w1.heap.size g V.heap.size x4 m4 y4 S n1 (P.map qOf) i wr) (fun i _ => (intOf i + 1).toNat)
  case atStart => exact HST.out
  case round =>
  clear HST
  obtain ⟨k, ii, a6, n6, c6, rfl, hii, hk, hbx, hst, hco, hbel⟩ := hrel
  have HBX0 := HBX
  have HBX := Lib.hid hbx
  have HSTA := Lib.hid hst
  have HCO := Lib.hid hco
  have HB := Lib.hid hbel
  obtain ⟨hK0, hK1, hK2, hK3⟩ := hbx.cells
  clear hbx hst hco hbel
  by_cases hkn : k = n1
  · subst hkn
    obtain rfl : ii = -1 := by omega
    have he : (revN (P.map qOf) k).take k = revN (P.map qOf) k := List.take_of_length_le (by rw [revN_len HCN.out]; exact Nat.le_refl _)
    rw [he] at HCO
    have HBLR : Hid (Below L.heap.size L wr) := Lib.hid (HBV.out.trans (HB.out.mono HGL.out.1))
    have HXR := Lib.hid (HBX0.out.later HBLR.out HLS.out)
    clear hk hii he
    go_wp2_with fail
    refine l03is_any g m4 n6 y4 c6 x4 a6 S (textsQ (revN (P.map qOf) k)) wr HBX.out HSTA.out.len HCO.out.len HSTA.out.tx HCO.out.tx HN.out.2.1 HSZ.out.2 (by unfold textsQ; rw [List.length_map, revN_len HCN.out]; omega) (textsQ_sizes (fun q hq => revN_few HALL.out hq)) _ ?_
    intro w9 hb9
    rw [show recB S (textsQ (revN (P.map qOf) k)) = (decide (S.length ≤ 8) && S.all isNum) by rw [HN.out.2.2.2]; exact rec_fp HALL.out (by have := HN.out.2.2; omega)]
    have HB9 := Lib.hid (HBLR.out.trans (hb9.mono HBLR.out.size))
    have HX9 := Lib.hid (HXR.out.later hb9 (lt_of_block HXR.out))
    have HXV9 := Lib.hid (HBX.out.later hb9 (lt_of_block HBX.out))
    have HST9 := Lib.hid (HSTA.out.later elemT hb9 (Nat.le_refl _))
    have HCO9 := Lib.hid (HCO.out.later elemT hb9 (Nat.le_refl _))
    have HPB : Hid (fpB P S = (decide (S.length ≤ 8) && S.all isNum)) := Lib.hid (by
      unfold fpB
      rw [decide_eq_true (p := P.length = S.length + 1) (by have := HN.out.2.2; omega), decide_eq_true (p := P[S.length]? = some ⟨#[49]⟩) (by rw [← HN.out.2.2.2]; exact HT.out), HALL.out]
      simp only [Bool.true_and])
    clear hb9 hK0 hK1 hK2 hK3
    obtain ⟨hR0, hR1, hF0, hF1⟩ := HX9.out.cells
    obtain ⟨hA0, hA1, _, _⟩ := HXV9.out.cells
    dsimp only
    cases hx : (decide (S.length ≤ 8) && S.all isNum)
    · have HF := Lib.hid (HFAIL.out w9 (by rw [HPB.out, hx]) HB9.out)
      clear hx
      go_wp2
      refine bodyPost_ret_at (by simp [results, Tryz.results35, go_sem, hR0, hR1, hF0, hF1] <;> rfl) rfl ?_
      exact HF.out
    · have hT : fpB P S = true := by rw [HPB.out, hx]
      have hB9 : Below w.heap.size w w9 := HBL.out.trans (HB9.out.mono HBL.out.size)
      have hni : ∀ {B : Nat} {v : Value} {X : List ByteArray}, OwE 1 ET 9 w9 B v X → ∀ x y, OwE 1 ET 9 ((w9.setCell ⟨w.heap.size, 0, none⟩ x).setCell ⟨w.heap.size, 1, none⟩ y) B v X := fun h x y => h.set2 (h.ne_box HX9.out (by decide)) x y
      have HF := Lib.hid (HR.out (.agg #[.slice x4 m4 y4, .slice a6 n6 c6]) ((w9.setCell ⟨w.heap.size, 0, none⟩ (.slice x4 m4 y4)).setCell ⟨w.heap.size, 1, none⟩ (.slice a6 n6 c6)) ⟨_, _, rfl, by
          rw [(fp_true hT).1]
          exact (hni HST9.out _ _).mono (by have := HBL.out.size; have := HB1.out.size; omega), by
          rw [(fp_true hT).2, ← HN.out.2.2.2]
          exact (hni HCO9.out _ _).mono (by have := HBL.out.size; have := HBV.out.size; omega), fun q h1 h2 => by
          have k1 := HUS.out q h1
          have k2 := HCO9.out.base q h2
          have := HVS.out
          omega⟩ (below_set2 hB9 (Nat.le_refl _) _ _))
      rw [hT] at HF
      clear hx hT hB9 hni
      go_wp2
      refine bodyPost_ret_at (by simp [results, Tryz.results35, go_sem, hR0, hR1, hF0, hF1] <;> rfl) rfl ?_
      exact HF.out
  · have hkl : k < n1 := by omega
    obtain ⟨j, hj⟩ : ∃ j, j = n1 - 1 - k := ⟨_, rfl⟩
    obtain rfl : ii = (j : Int) := by omega
    obtain ⟨s, hs⟩ : ∃ s, P[j]? = some s := ⟨_, List.getElem?_eq_getElem (by have := HN.out.2.2.1; omega)⟩
    have HS := Lib.hid (isNum_at HALL.out hs)
    have HTK : Hid (textsQ ((revN (P.map qOf) n1).take (k + 1)) = textsQ ((revN (P.map qOf) n1).take k) ++ [⟨(textQ (-qOf s)).toArray⟩]) := Lib.hid (by
      rw [revN_take HCN.out hkl (q := qOf s) (by rw [← hj, List.getElem?_map, hs]; rfl)]
      unfold textsQ
      simp)
    have HLK : Hid ((textsQ ((revN (P.map qOf) n1).take k)).length ≤ 100000000) := Lib.hid (by unfold textsQ; rw [List.length_map, List.length_take, revN_len HCN.out]; omega)
    obtain ⟨q, hq⟩ : ∃ q, q = qOf s := ⟨_, rfl⟩
    rw [← hq] at HS HTK
    have HBD := Lib.hid (Bd.of (numO_few HS.out))
    obtain ⟨b, off, rfl', hb, hcell⟩ := TxL.at H0.out j s hs
    have hwj : IntKind.i64.wrap ((j : Int) - 1) = (j : Int) - 1 := IntWalk.i64_in _ (by omega)
    have hj0 : (0 : Int) ≤ (j : Int) := by omega
    have hj1 : (j : Int) < (n1 : Int) + 1 := by omega
    simp only [Option.some.injEq, Addr.mk.injEq, and_true] at rfl'
    obtain ⟨rfl, rfl⟩ := rfl'
    have HWL : Hid (Below L.heap.size L wr) := Lib.hid (HBV.out.trans (HB.out.mono HGL.out.1))
    rw [← HWL.out.cell (p := ⟨b0, off0 + j, none⟩) hb] at hcell
    have HLQ := Lib.hid (HBD.out.len (B := 10000) (by omega))
    have HLN := Lib.hid (HBD.out.neg.len (B := 10000) (by omega))
    have HJ := Lib.hid (show k + 1 ≤ n1 ∧ (j : Int) - 1 = (n1 : Int) - 1 - ((k + 1 : Nat) : Int) by omega)
    have HGR : Hid (g < wr.heap.size ∧ V.heap.size ≤ wr.heap.size) := Lib.hid ⟨lt_of_block HBX.out, HB.out.size⟩
    clear hs hkn hb hk hj hii hq hkl
    go_wp2_with fail
    go_region_law (first
      | (have hguard := HB7; refine step_pushE elemT (by omega) rfl _ _ 38 rfl 9 16 (.string .empty) Tryz.underlying38 info_str rfl strE_ints (by omega) V.heap.size (textsQ ((revN (P.map qOf) n1).take k)) ((HCO.out.later elemT HB7.out (Nat.le_refl _)).alloc elemT _) HLK.out (by have := HGR.out.2; have := HB7.out.size; simp; omega) w7.heap.size [.string T] T rfl rfl (cells_alloc _ #[.string T] _ _ rfl) ?_; intro ao n9 c9 w9 hown9 hn9 hgr hb9; have hb79 : Below V.heap.size wr w9 := (((HB7.out.mono HGR.out.2).alloc (Nat.le_trans HGR.out.2 HB7.out.size) _).trans hb9); have HOW9 : Hid (OwE 1 ET 9 w9 V.heap.size (.slice ao n9 c9) (textsQ ((revN (P.map qOf) n1).take (k + 1)))) := Lib.hid (by rw [HTK.out]; exact hown9); have HB79 := Lib.hid hb79; have HX9 := Lib.hid (HBX.out.later hb79 (by have := HVS.out; omega)); obtain ⟨hY0, hY1, hY2, hY3⟩ := HX9.out.cells; clear hguard hown9 hn9 hgr hb9 hb79)
      | (have hguard := HB6; (try go_simp); go_at_call 58; refine text_any _ (-q) _ HQ6.out (by have := HLN.out.1; omega) (by have := HLN.out.2; omega) _ ?_; intro w7 hb7; obtain ⟨T, hT⟩ : ∃ T : ByteArray, T = ⟨(textQ (-q)).toArray⟩ := ⟨_, rfl⟩; rw [← hT] at HTK ⊢; have HB7 : Hid (Below wr.heap.size wr w7) := Lib.hid (HB6.out.trans (hb7.mono HB6.out.size)); have k7 := HBX.out.later HB7.out (lt_of_block HBX.out); obtain ⟨hM0, hM1, _, _⟩ := k7.cells; have k8 := k7.alloc (.cells #[.string T] 9); obtain ⟨hN0, hN1, _, _⟩ := k8.cells; clear hguard hT hb7 k7 k8; dsimp only)
      | (have hguard := HB5; (try go_simp); go_at_call 91; refine negQ_any _ q _ HQ5.out (by have := HLQ.out.1; omega) _ ?_; intro v6 w6 hq6 hb6; obtain ⟨m6, x7, y7, z7, x8, y8, z8, rfl, _, _⟩ := hq6.parts; have HQ6 := Lib.hid hq6; have HB6 : Hid (Below wr.heap.size wr w6) := Lib.hid (HB5.out.trans (hb6.mono HB5.out.size)); have k6 := HBX.out.later HB6.out (lt_of_block HBX.out); obtain ⟨hL0, hL1, _, _⟩ := k6.cells; clear hguard hq6 hb6 k6; dsimp only)
      | ((try go_simp); go_at_call 92; refine ofq_any s q _ HS.out _ ?_; intro v5 w5 hq5 hb5'; have hb5 : Below wr.heap.size wr w5 := (by first | exact hb5' | exact below_unDrew hb5'); obtain ⟨m5, x5, y5, z5, x6, y6, z6, rfl, _, _⟩ := hq5.parts; have HQ5 := Lib.hid hq5; have HB5 := Lib.hid hb5; have k5 := HBX.out.later hb5 (lt_of_block HBX.out); obtain ⟨hI0, hI1, _, _⟩ := k5.cells; clear hq5 hb5' hb5 k5; dsimp only))
    all_goals
      go_wp2
      go_roundw
      case rel => exact ⟨k + 1, _, ao, n9, c9, rfl, HJ.out.2, HJ.out.1, HX9.out.set1 _, (HSTA.out.under HB79.out (fun b hb => by have := HUS.out b hb; have := HVS.out; omega)).setBox HX9.out (by decide) 1, HOW9.out.setBox HX9.out (by decide) 1, (HB.out.trans (HB79.out.mono (by have := HVS.out; omega))).setCell (Nat.le_refl _) _⟩
      case measure => simp [intOf]
end Go.Proofs.YtdkjcdfkoahfkaaGreatDoor

namespace Go.Proofs.YtdkjcdfkoahfkaaGreatDoor
open Go Go.RowKit

set_option maxRecDepth 100000 in
set_option maxHeartbeats 4000000 in
theorem law_fromPoly (v0 : Value) (L0 : List ByteArray) (v1 : Value) (L1 : List ByteArray) (w : World) (hE : Env w) (htab : Lib.TabIs Tryz.prog w "internal/strconv.uint64pow10" .u64 Lib.pow10Tab) (h0 : TxL w v0 L0) (hn0 : L0.length ≤ maxLen) (hs0 : ∀ s ∈ L0, s.size ≤ maxLen) (h1 : TxL w v1 L1) (hn1 : L1.length ≤ maxLen) (hs1 : ∀ s ∈ L1, s.size ≤ maxLen) (R : Ending → World → Prop)
    (hR : ∀ w', Below w.heap.size w w' → R (.returned (.bool true)) w') :
    Calls Tryz.prog 6 #[v0, v1] w R := by
  have HR := Lib.hid hR; clear hR
  have HE := Lib.hid hE; clear hE
  have HTAB := Lib.hid htab; clear htab
  obtain ⟨ao0, no0, co0, rfl, hh0⟩ := h0.op
  have HH0 := Lib.hid hh0
  have HN0 := Lib.hid (And.intro hn0 hs0)
  obtain ⟨ao1, no1, co1, rfl, hh1⟩ := h1.op
  have HH1 := Lib.hid hh1
  have HN1 := Lib.hid (And.intro hn1 hs1)
  clear h0 hh0 hn0 hs0 h1 hh1 hn1 hs1
  have HL := Lib.hid (fp_len L0 L1)
  obtain ⟨bq, hbq⟩ : ∃ bq, bq = (fpB L0 L1) := ⟨_, rfl⟩
  have HBQ := Lib.hid hbq
  have cbq : (bq != bq) = false := by cases bq <;> rfl
  clear hbq
  go_enter Tryz.func6, Tryz.ntmps6
  go_wp2_with fail
  refine szT_any _ L0 _ 1048576 HH0.out HN0.out.1 HN0.out.2 (by omega) _ ?_ ?_
  rotate_left
  · intro ht
    have HF := Lib.hid (HR.out w (Below.refl _ _))
    clear ht
    dsimp only
    go_wp2
    first | go_ret | skip
    exact HF.out
  intro ht0
  obtain ⟨m0, hm0⟩ : ∃ m0 : Nat, m0 = 1048576 - tot L0 := ⟨_, rfl⟩
  have HP0 := Lib.hid (sizes_each (L := L0) (Nat.le_trans ht0 (by omega)))
  rw [← hm0]
  have hz0 : ¬ ((m0 : Int) < 0) := by omega
  have hl0 : m0 ≤ 1048576 := by omega
  have HLM0 := Lib.hid hl0
  clear hm0 ht0 hl0
  dsimp only
  go_wp2_with fail
  refine szT_any _ L1 _ m0 HH1.out HN1.out.1 HN1.out.2 HLM0.out _ ?_ ?_
  rotate_left
  · intro ht
    have HF := Lib.hid (HR.out w (Below.refl _ _))
    clear ht
    dsimp only
    go_wp2
    first | go_ret | skip
    exact HF.out
  intro ht1
  obtain ⟨m1, hm1⟩ : ∃ m1 : Nat, m1 = m0 - tot L1 := ⟨_, rfl⟩
  have HP1 := Lib.hid (sizes_each (L := L1) (Nat.le_trans ht1 HLM0.out))
  rw [← hm1]
  have hz1 : ¬ ((m1 : Int) < 0) := by omega
  have hl1 : m1 ≤ 1048576 := by have := HLM0.out; omega
  have HLM1 := Lib.hid hl1
  clear hm1 ht1 hl1
  dsimp only
  go_wp2_with fail
  refine toT_any _ L0 _ HH0.out HP0.out.1 _ ?_
  intro v w1 hv hb
  obtain ⟨a1, n1, c1, rfl, hv'⟩ := hv.op
  have SC0 := Lib.hid hv'
  clear hv
  have HB1 : Hid (Below w.heap.size w w1) := Lib.hid (hb)
  have CH1 : Hid (w.heap.size ≤ w1.heap.size) := Lib.hid hb.size
  clear hb hv'
  dsimp only
  go_wp2_with fail
  refine toT_any _ L1 _ (HH1.out.later HB1.out (Nat.le_refl _)) HP1.out.1 _ ?_
  intro v w2 hv hb
  obtain ⟨a2, n2, c2, rfl, hv'⟩ := hv.op
  have SC1 := Lib.hid hv'
  clear hv
  have HB2 : Hid (Below w.heap.size w w2) := Lib.hid (HB1.out.trans (hb.mono HB1.out.size))
  have CH2 : Hid (w1.heap.size ≤ w2.heap.size) := Lib.hid hb.size
  have SC0_2 := Lib.hid (TxL.later SC0.out hb (Nat.le_refl _))
  clear SC0 HB1 hb hv'
  dsimp only
  go_wp2_with fail
  refine spec_fp _ L0 _ L1 _ SC0_2.out HP0.out.1 HP0.out.2 SC1.out HP1.out.1 HP1.out.2 _ ?_
  intro v r3 hv hbr
  rw [← HBQ.out]
  obtain ⟨a3, n3, c3, x3, y3, z3, rfl, t1, t2, t3, t4⟩ := hv.rec.parts
  clear t1 t2 t3 t4
  obtain ⟨w3, hw3⟩ : ∃ w3, w3 = r3.alloc (.cells #[.slice a3 n3 c3, .slice x3 y3 z3] 46) := ⟨_, rfl⟩
  have HW3 := Lib.hid hw3
  have hbx : Below r3.heap.size r3 w3 := by rw [hw3]; exact (Below.refl _ _).alloc (Nat.le_refl _) _
  have BW : Hid (Box2 w3 r3.heap.size (.slice a3 n3 c3) (.slice x3 y3 z3) 46) := Lib.hid (by rw [hw3]; exact Box2.made _ _ _ _)
  have W0 := Lib.hid (OwD.later hv hbx)
  have W0U : Hid (∀ g, rcBlock (.agg #[.slice a3 n3 c3, .slice x3 y3 z3]) g → g < w3.heap.size) := Lib.hid (W0.out.lt)
  have hb : Below w2.heap.size w2 w3 := hbr.trans (hbx.mono hbr.size)
  have HB3 : Hid (Below w.heap.size w w3) := Lib.hid (HB2.out.trans (hb.mono HB2.out.size))
  have CH3 : Hid (w2.heap.size ≤ w3.heap.size) := Lib.hid hb.size
  have SZ0_3 : Hid (w.heap.size ≤ w3.heap.size) := Lib.hid (by have c1 := CH1.out; have c2 := CH2.out; have c3 := CH3.out; omega)
  have SZ3_3 : Hid (w3.heap.size ≤ w3.heap.size) := Lib.hid (by omega)
  obtain ⟨hBW0, hBW1, _, _⟩ := BW.out.cells
  rw [hw3] at hBW0 hBW1
  clear SC0_2 SC1 HB2 hb hv hbr hbx hw3
  dsimp only
  go_wp2_with fail
  rw [← HW3.out]
  clear hBW0 hBW1
  obtain ⟨hBW0, hBW1, _, _⟩ := BW.out.cells
  refine toT_own _ L0 _ (HH0.out.later HB3.out (Nat.le_refl _)) HP0.out.1 _ ?_
  intro v w4 hv hb
  obtain ⟨a4, n4, c4, rfl, esh⟩ := hv.shape
  clear esh
  have X0 := Lib.hid hv
  have X0U : Hid (∀ g, (Value.slice a4 n4 c4).ownBlock = some g → g < w4.heap.size) := Lib.hid hv.own_lt
  have X0Z : Hid (w3.heap.size ≤ w4.heap.size) := Lib.hid hb.size
  have HB4 : Hid (Below w.heap.size w w4) := Lib.hid (HB3.out.trans (hb.mono HB3.out.size))
  have CH4 : Hid (w3.heap.size ≤ w4.heap.size) := Lib.hid hb.size
  have SZ0_4 : Hid (w.heap.size ≤ w4.heap.size) := Lib.hid (by have c1 := CH1.out; have c2 := CH2.out; have c3 := CH3.out; have c4 := CH4.out; omega)
  have SZ3_4 : Hid (w3.heap.size ≤ w4.heap.size) := Lib.hid (by have c4 := CH4.out; omega)
  have SZ4_4 : Hid (w4.heap.size ≤ w4.heap.size) := Lib.hid (by omega)
  have W0_4 := Lib.hid (OwD.later W0.out hb)
  have BW_4 := Lib.hid (BW.out.later hb (lt_of_block BW.out))
  clear W0 BW HB3 hb hv
  clear hBW0 hBW1
  obtain ⟨hBW0, hBW1, _, _⟩ := BW_4.out.cells
  dsimp only
  go_wp2_with fail
  refine toT_own _ L1 _ (HH1.out.later HB4.out (Nat.le_refl _)) HP1.out.1 _ ?_
  intro v w5 hv hb
  obtain ⟨a5, n5, c5, rfl, esh⟩ := hv.shape
  clear esh
  have X1 := Lib.hid hv
  have X1U : Hid (∀ g, (Value.slice a5 n5 c5).ownBlock = some g → g < w5.heap.size) := Lib.hid hv.own_lt
  have X1Z : Hid (w4.heap.size ≤ w5.heap.size) := Lib.hid hb.size
  have HB5 : Hid (Below w.heap.size w w5) := Lib.hid (HB4.out.trans (hb.mono HB4.out.size))
  have CH5 : Hid (w4.heap.size ≤ w5.heap.size) := Lib.hid hb.size
  have SZ0_5 : Hid (w.heap.size ≤ w5.heap.size) := Lib.hid (by have c1 := CH1.out; have c2 := CH2.out; have c3 := CH3.out; have c4 := CH4.out; have c5 := CH5.out; omega)
  have SZ3_5 : Hid (w3.heap.size ≤ w5.heap.size) := Lib.hid (by have c4 := CH4.out; have c5 := CH5.out; omega)
  have SZ4_5 : Hid (w4.heap.size ≤ w5.heap.size) := Lib.hid (by have c5 := CH5.out; omega)
  have SZ5_5 : Hid (w5.heap.size ≤ w5.heap.size) := Lib.hid (by omega)
  have W0_5 := Lib.hid (OwD.later W0_4.out hb)
  have BW_5 := Lib.hid (BW_4.out.later hb (lt_of_block BW_4.out))
  have X0_5 := Lib.hid (X0.out.later elemT hb (Nat.le_refl _))
  have X0Z_5 : Hid (w3.heap.size ≤ w5.heap.size) := Lib.hid (Nat.le_trans X0Z.out hb.size)
  clear W0_4 BW_4 X0 X0Z HB4 hb hv
  clear hBW0 hBW1
  obtain ⟨hBW0, hBW1, _, _⟩ := BW_5.out.cells
  dsimp only
  go_wp2_with fail
  refine impl_fp _ L0 _ L1 _ (HE.out.later HB5.out (Nat.le_refl _)) (tab_later HTAB.out HB5.out (Nat.le_refl _)) X0_5.out.tx HP0.out.1 X1.out.tx HP1.out.1 _ ?_
  intro v r6 hv hbr
  rw [← HBQ.out]
  obtain ⟨a6, n6, c6, x6, y6, z6, rfl, t1, t2, t3, t4⟩ := hv.rec.parts
  clear t1 t2 t3 t4
  obtain ⟨w6, hw6⟩ : ∃ w6, w6 = r6.alloc (.cells #[.slice a6 n6 c6, .slice x6 y6 z6] 46) := ⟨_, rfl⟩
  have HW6 := Lib.hid hw6
  have hbx : Below r6.heap.size r6 w6 := by rw [hw6]; exact (Below.refl _ _).alloc (Nat.le_refl _) _
  have BG : Hid (Box2 w6 r6.heap.size (.slice a6 n6 c6) (.slice x6 y6 z6) 46) := Lib.hid (by rw [hw6]; exact Box2.made _ _ _ _)
  have G0 := Lib.hid (OwD.later hv hbx)
  have G0U : Hid (∀ g, rcBlock (.agg #[.slice a6 n6 c6, .slice x6 y6 z6]) g → g < w6.heap.size) := Lib.hid (G0.out.lt)
  have hb : Below w5.heap.size w5 w6 := hbr.trans (hbx.mono hbr.size)
  have GZ : Hid (w5.heap.size ≤ w6.heap.size) := Lib.hid hb.size
  have HB6 : Hid (Below w.heap.size w w6) := Lib.hid (HB5.out.trans (hb.mono HB5.out.size))
  have W0_6 := Lib.hid (OwD.later W0_5.out hb)
  have BW_6 := Lib.hid (BW_5.out.later hb (lt_of_block BW_5.out))
  have X0_6 := Lib.hid (X0_5.out.later elemT hb (Nat.le_refl _))
  have X0Z_6 : Hid (w3.heap.size ≤ w6.heap.size) := Lib.hid (Nat.le_trans X0Z_5.out hb.size)
  have X1_6 := Lib.hid (X1.out.later elemT hb (Nat.le_refl _))
  have X1Z_6 : Hid (w4.heap.size ≤ w6.heap.size) := Lib.hid (Nat.le_trans X1Z.out hb.size)
  clear hBW0 hBW1
  obtain ⟨hBW0, hBW1, _, _⟩ := BW_6.out.cells
  obtain ⟨hBG0, hBG1, _, _⟩ := BG.out.cells
  rw [hw6] at hBW0 hBW1 hBG0 hBG1
  clear W0_5 BW_5 X0_5 X0Z_5 X1 X1Z HB5 hb hv hbr hbx hw6
  dsimp only
  go_wp2_with fail
  rw [← HW6.out]
  clear hBW0 hBW1 hBG0 hBG1
  obtain ⟨hBW0, hBW1, _, _⟩ := BW_6.out.cells
  obtain ⟨hBG0, hBG1, _, _⟩ := BG.out.cells
  refine eqR_any _ _ (fp1 L0 L1) (fp2 L0 L1) _ G0.out.rec W0_6.out.rec (by have := HL.out; omega) (by have := HL.out; omega) _ ?_
  intro w7 hb
  have HB7 : Hid (Below w.heap.size w w7) := Lib.hid (HB6.out.trans (hb.mono HB6.out.size))
  have W0_7 := Lib.hid (OwD.later W0_6.out hb)
  have BW_7 := Lib.hid (BW_6.out.later hb (lt_of_block BW_6.out))
  have X0_7 := Lib.hid (X0_6.out.later elemT hb (Nat.le_refl _))
  have X0Z_7 : Hid (w3.heap.size ≤ w7.heap.size) := Lib.hid (Nat.le_trans X0Z_6.out hb.size)
  have X1_7 := Lib.hid (X1_6.out.later elemT hb (Nat.le_refl _))
  have X1Z_7 : Hid (w4.heap.size ≤ w7.heap.size) := Lib.hid (Nat.le_trans X1Z_6.out hb.size)
  have G0_7 := Lib.hid (OwD.later G0.out hb)
  have BG_7 := Lib.hid (BG.out.later hb (lt_of_block BG.out))
  have GZ_7 : Hid (w5.heap.size ≤ w7.heap.size) := Lib.hid (Nat.le_trans GZ.out hb.size)
  clear W0_6 BW_6 X0_6 X0Z_6 X1_6 X1Z_6 G0 BG GZ HB6 hb
  clear hBW0 hBW1 hBG0 hBG1
  obtain ⟨hBW0, hBW1, _, _⟩ := BW_7.out.cells
  obtain ⟨hBG0, hBG1, _, _⟩ := BG_7.out.cells
  dsimp only
  go_wp2_with fail
  refine toT_any _ L0 _ (HH0.out.later HB7.out (Nat.le_refl _)) HP0.out.1 _ ?_
  intro v w8 hv hb
  obtain ⟨a8, n8, c8, rfl, hv'⟩ := hv.op
  have EC0 := Lib.hid hv'
  clear hv
  have HB8 : Hid (Below w.heap.size w w8) := Lib.hid (HB7.out.trans (hb.mono HB7.out.size))
  have W0_8 := Lib.hid (OwD.later W0_7.out hb)
  have BW_8 := Lib.hid (BW_7.out.later hb (lt_of_block BW_7.out))
  have X0_8 := Lib.hid (X0_7.out.later elemT hb (Nat.le_refl _))
  have X0Z_8 : Hid (w3.heap.size ≤ w8.heap.size) := Lib.hid (Nat.le_trans X0Z_7.out hb.size)
  have X1_8 := Lib.hid (X1_7.out.later elemT hb (Nat.le_refl _))
  have X1Z_8 : Hid (w4.heap.size ≤ w8.heap.size) := Lib.hid (Nat.le_trans X1Z_7.out hb.size)
  have G0_8 := Lib.hid (OwD.later G0_7.out hb)
  have BG_8 := Lib.hid (BG_7.out.later hb (lt_of_block BG_7.out))
  have GZ_8 : Hid (w5.heap.size ≤ w8.heap.size) := Lib.hid (Nat.le_trans GZ_7.out hb.size)
  clear W0_7 BW_7 X0_7 X0Z_7 X1_7 X1Z_7 G0_7 BG_7 GZ_7 HB7 hb hv'
  clear hBW0 hBW1 hBG0 hBG1
  obtain ⟨hBW0, hBW1, _, _⟩ := BW_8.out.cells
  obtain ⟨hBG0, hBG1, _, _⟩ := BG_8.out.cells
  dsimp only
  go_wp2_with fail
  refine eqT_any _ _ L0 L0 _ X0_8.out.tx EC0.out (Nat.le_trans HP0.out.1 (by omega)) (Nat.le_trans HP0.out.1 (by omega)) _ ?_
  intro w9 hb
  rw [decide_eq_true rfl]
  have HB9 : Hid (Below w.heap.size w w9) := Lib.hid (HB8.out.trans (hb.mono HB8.out.size))
  have W0_9 := Lib.hid (OwD.later W0_8.out hb)
  have BW_9 := Lib.hid (BW_8.out.later hb (lt_of_block BW_8.out))
  have X0_9 := Lib.hid (X0_8.out.later elemT hb (Nat.le_refl _))
  have X0Z_9 : Hid (w3.heap.size ≤ w9.heap.size) := Lib.hid (Nat.le_trans X0Z_8.out hb.size)
  have X1_9 := Lib.hid (X1_8.out.later elemT hb (Nat.le_refl _))
  have X1Z_9 : Hid (w4.heap.size ≤ w9.heap.size) := Lib.hid (Nat.le_trans X1Z_8.out hb.size)
  have G0_9 := Lib.hid (OwD.later G0_8.out hb)
  have BG_9 := Lib.hid (BG_8.out.later hb (lt_of_block BG_8.out))
  have GZ_9 : Hid (w5.heap.size ≤ w9.heap.size) := Lib.hid (Nat.le_trans GZ_8.out hb.size)
  clear EC0 W0_8 BW_8 X0_8 X0Z_8 X1_8 X1Z_8 G0_8 BG_8 GZ_8 HB8 hb
  clear hBW0 hBW1 hBG0 hBG1
  obtain ⟨hBW0, hBW1, _, _⟩ := BW_9.out.cells
  obtain ⟨hBG0, hBG1, _, _⟩ := BG_9.out.cells
  dsimp only
  go_wp2_with fail
  refine toT_any _ L1 _ (HH1.out.later HB9.out (Nat.le_refl _)) HP1.out.1 _ ?_
  intro v w10 hv hb
  obtain ⟨a10, n10, c10, rfl, hv'⟩ := hv.op
  have EC1 := Lib.hid hv'
  clear hv
  have HB10 : Hid (Below w.heap.size w w10) := Lib.hid (HB9.out.trans (hb.mono HB9.out.size))
  have W0_10 := Lib.hid (OwD.later W0_9.out hb)
  have BW_10 := Lib.hid (BW_9.out.later hb (lt_of_block BW_9.out))
  have X0_10 := Lib.hid (X0_9.out.later elemT hb (Nat.le_refl _))
  have X0Z_10 : Hid (w3.heap.size ≤ w10.heap.size) := Lib.hid (Nat.le_trans X0Z_9.out hb.size)
  have X1_10 := Lib.hid (X1_9.out.later elemT hb (Nat.le_refl _))
  have X1Z_10 : Hid (w4.heap.size ≤ w10.heap.size) := Lib.hid (Nat.le_trans X1Z_9.out hb.size)
  have G0_10 := Lib.hid (OwD.later G0_9.out hb)
  have BG_10 := Lib.hid (BG_9.out.later hb (lt_of_block BG_9.out))
  have GZ_10 : Hid (w5.heap.size ≤ w10.heap.size) := Lib.hid (Nat.le_trans GZ_9.out hb.size)
  clear W0_9 BW_9 X0_9 X0Z_9 X1_9 X1Z_9 G0_9 BG_9 GZ_9 HB9 hb hv'
  clear hBW0 hBW1 hBG0 hBG1
  obtain ⟨hBW0, hBW1, _, _⟩ := BW_10.out.cells
  obtain ⟨hBG0, hBG1, _, _⟩ := BG_10.out.cells
  dsimp only
  go_wp2_with fail
  refine eqT_any _ _ L1 L1 _ X1_10.out.tx EC1.out (Nat.le_trans HP1.out.1 (by omega)) (Nat.le_trans HP1.out.1 (by omega)) _ ?_
  intro w11 hb
  rw [decide_eq_true rfl]
  have HB11 : Hid (Below w.heap.size w w11) := Lib.hid (HB10.out.trans (hb.mono HB10.out.size))
  have W0_11 := Lib.hid (OwD.later W0_10.out hb)
  have BW_11 := Lib.hid (BW_10.out.later hb (lt_of_block BW_10.out))
  have X0_11 := Lib.hid (X0_10.out.later elemT hb (Nat.le_refl _))
  have X0Z_11 : Hid (w3.heap.size ≤ w11.heap.size) := Lib.hid (Nat.le_trans X0Z_10.out hb.size)
  have X1_11 := Lib.hid (X1_10.out.later elemT hb (Nat.le_refl _))
  have X1Z_11 : Hid (w4.heap.size ≤ w11.heap.size) := Lib.hid (Nat.le_trans X1Z_10.out hb.size)
  have G0_11 := Lib.hid (OwD.later G0_10.out hb)
  have BG_11 := Lib.hid (BG_10.out.later hb (lt_of_block BG_10.out))
  have GZ_11 : Hid (w5.heap.size ≤ w11.heap.size) := Lib.hid (Nat.le_trans GZ_10.out hb.size)
  clear EC1 W0_10 BW_10 X0_10 X0Z_10 X1_10 X1Z_10 G0_10 BG_10 GZ_10 HB10 hb
  clear hBW0 hBW1 hBG0 hBG1
  obtain ⟨hBW0, hBW1, _, _⟩ := BW_11.out.cells
  obtain ⟨hBG0, hBG1, _, _⟩ := BG_11.out.cells
  dsimp only
  go_wp2_with fail
  refine mark_any _ L0 1 _ _ X0_11.out (Nat.le_trans HP0.out.1 (by omega)) (by omega) _ ?_
  intro w12 hv hb
  obtain ⟨k0, hk0⟩ : ∃ k0, k0 = 1 + L0.length := ⟨_, rfl⟩
  rw [← hk0]
  have HK0 : Hid (k0 ≤ 1000000000) := Lib.hid (by have := HP0.out.1; omega)
  have HKB0 : Hid (k0 ≤ 1 * 1048576 + 1) := Lib.hid (by have := HP0.out.1; omega)
  have hbel := hb.below (fun g hg => X0_11.out.base g hg) X0Z_11.out
  have W0_12 := Lib.hid (OwD.butO W0_11.out hb (fun g hg hc => by have h1 := W0U.out g hg; have h2 := X0_11.out.base g hc; have h3 := SZ3_3.out; omega))
  have BW_12 := Lib.hid (Box2.butO BW_11.out hb (fun e => X0_11.out.ne_box BW_11.out (by decide) _ e rfl))
  have X0Z_12 : Hid (w3.heap.size ≤ w12.heap.size) := Lib.hid (Nat.le_trans X0Z_11.out hb.size)
  have X1_12 := Lib.hid (X1_11.out.butO hb (fun g hg hc => by have h1 := X1_11.out.base g hg; have h2 := X0U.out g hc; have h3 := SZ4_4.out; omega))
  have X1Z_12 : Hid (w4.heap.size ≤ w12.heap.size) := Lib.hid (Nat.le_trans X1Z_11.out hb.size)
  have G0_12 := Lib.hid (OwD.butO G0_11.out hb (fun g hg hc => by have h1 := G0_11.out.base g hg; have h2 := X0U.out g hc; have h3 := SZ4_5.out; omega))
  have BG_12 := Lib.hid (Box2.butO BG_11.out hb (fun e => X0_11.out.ne_box BG_11.out (by decide) _ e rfl))
  have GZ_12 : Hid (w5.heap.size ≤ w12.heap.size) := Lib.hid (Nat.le_trans GZ_11.out hb.size)
  have HB12 : Hid (Below w.heap.size w w12) := Lib.hid (HB11.out.trans (hbel.mono SZ0_3.out))
  clear W0_11 BW_11 X0_11 X0Z_11 X1_11 X1Z_11 G0_11 BG_11 GZ_11 HB11 hv hb hbel hk0
  clear hBW0 hBW1 hBG0 hBG1
  obtain ⟨hBW0, hBW1, _, _⟩ := BW_12.out.cells
  obtain ⟨hBG0, hBG1, _, _⟩ := BG_12.out.cells
  dsimp only
  go_wp2_with fail
  refine mark_any _ L1 k0 _ _ X1_12.out (Nat.le_trans HP1.out.1 (by omega)) HK0.out _ ?_
  intro w13 hv hb
  obtain ⟨k1, hk1⟩ : ∃ k1, k1 = k0 + L1.length := ⟨_, rfl⟩
  rw [← hk1]
  have d0 : ¬ ((k1 : Int) < 0) := by omega
  have HK1 : Hid (k1 ≤ 1000000000) := Lib.hid (by have := HP1.out.1; have := HKB0.out; omega)
  have HKB1 : Hid (k1 ≤ 2 * 1048576 + 1) := Lib.hid (by have := HP1.out.1; have := HKB0.out; omega)
  have hbel := hb.below (fun g hg => X1_12.out.base g hg) X1Z_12.out
  have W0_13 := Lib.hid (OwD.butO W0_12.out hb (fun g hg hc => by have h1 := W0U.out g hg; have h2 := X1_12.out.base g hc; have h3 := SZ3_4.out; omega))
  have BW_13 := Lib.hid (Box2.butO BW_12.out hb (fun e => X1_12.out.ne_box BW_12.out (by decide) _ e rfl))
  have X0Z_13 : Hid (w3.heap.size ≤ w13.heap.size) := Lib.hid (Nat.le_trans X0Z_12.out hb.size)
  have X1Z_13 : Hid (w4.heap.size ≤ w13.heap.size) := Lib.hid (Nat.le_trans X1Z_12.out hb.size)
  have G0_13 := Lib.hid (OwD.butO G0_12.out hb (fun g hg hc => by have h1 := G0_12.out.base g hg; have h2 := X1U.out g hc; have h3 := SZ5_5.out; omega))
  have BG_13 := Lib.hid (Box2.butO BG_12.out hb (fun e => X1_12.out.ne_box BG_12.out (by decide) _ e rfl))
  have GZ_13 : Hid (w5.heap.size ≤ w13.heap.size) := Lib.hid (Nat.le_trans GZ_12.out hb.size)
  have HB13 : Hid (Below w.heap.size w w13) := Lib.hid (HB12.out.trans (hbel.mono SZ0_4.out))
  clear W0_12 BW_12 X0Z_12 X1_12 X1Z_12 G0_12 BG_12 GZ_12 HB12 hv hb hbel hk1
  clear hBW0 hBW1 hBG0 hBG1
  obtain ⟨hBW0, hBW1, _, _⟩ := BW_13.out.cells
  obtain ⟨hBG0, hBG1, _, _⟩ := BG_13.out.cells
  dsimp only
  go_wp2_with fail
  refine eqR_any _ _ (fp1 L0 L1) (fp2 L0 L1) _ G0_13.out.rec W0_13.out.rec (by have := HL.out; omega) (by have := HL.out; omega) _ ?_
  intro w14 hb
  have HB14 : Hid (Below w.heap.size w w14) := Lib.hid (HB13.out.trans (hb.mono HB13.out.size))
  have W0_14 := Lib.hid (OwD.later W0_13.out hb)
  have BW_14 := Lib.hid (BW_13.out.later hb (lt_of_block BW_13.out))
  have X0Z_14 : Hid (w3.heap.size ≤ w14.heap.size) := Lib.hid (Nat.le_trans X0Z_13.out hb.size)
  have X1Z_14 : Hid (w4.heap.size ≤ w14.heap.size) := Lib.hid (Nat.le_trans X1Z_13.out hb.size)
  have G0_14 := Lib.hid (OwD.later G0_13.out hb)
  have BG_14 := Lib.hid (BG_13.out.later hb (lt_of_block BG_13.out))
  have GZ_14 : Hid (w5.heap.size ≤ w14.heap.size) := Lib.hid (Nat.le_trans GZ_13.out hb.size)
  clear W0_13 BW_13 X0Z_13 X1Z_13 G0_13 BG_13 GZ_13 HB13 hb
  clear hBW0 hBW1 hBG0 hBG1
  obtain ⟨hBW0, hBW1, _, _⟩ := BW_14.out.cells
  obtain ⟨hBG0, hBG1, _, _⟩ := BG_14.out.cells
  dsimp only
  go_wp2_with fail
  refine markD_any _ (fp1 L0 L1) (fp2 L0 L1) 1 w5.heap.size _ G0_14.out GZ_14.out (by have := HL.out; omega) (by have := HL.out; omega) (by omega) _ ?_
  intro w15 hv hb hz hf
  obtain ⟨kg, hkg⟩ : ∃ kg, kg = 1 + (fp1 L0 L1).length + (fp2 L0 L1).length := ⟨_, rfl⟩
  have HKG := Lib.hid hkg
  rw [← hkg]
  have d1 : ¬ ((kg : Int) < 0) := by omega
  have d2 : ((kg : Int) != (kg : Int)) = false := by simp
  have GM := Lib.hid hv.rec
  have W0_15 := Lib.hid (OwD.under2 W0_14.out (fun g hg => by have h1 := W0U.out g hg; have h3 := SZ3_5.out; omega) hb)
  have BW_15 := Lib.hid (hf _ _ _ BW_14.out)
  have BG_15 := Lib.hid (hf _ _ _ BG_14.out)
  have HB15 : Hid (Below w.heap.size w w15) := Lib.hid (HB14.out.trans (hb.mono SZ0_5.out))
  clear W0_14 BW_14 X0Z_14 X1Z_14 G0_14 BG_14 GZ_14 HB14 hv hb hz hf hkg
  clear hBW0 hBW1 hBG0 hBG1
  obtain ⟨hBW0, hBW1, _, _⟩ := BW_15.out.cells
  obtain ⟨hBG0, hBG1, _, _⟩ := BG_15.out.cells
  dsimp only
  go_wp2_with fail
  refine heldR_any _ 1 (fp1 L0 L1).length (fp2 L0 L1).length _ GM.out (by have := HL.out; omega) (by have := HL.out; omega) (by omega) _ ?_
  intro w16 hb
  rw [← HKG.out]
  have HB16 : Hid (Below w.heap.size w w16) := Lib.hid (HB15.out.trans (hb.mono HB15.out.size))
  have W0_16 := Lib.hid (OwD.later W0_15.out hb)
  have GM_16 := Lib.hid (IsRec.later GM.out hb (Nat.le_refl _))
  have BW_16 := Lib.hid (BW_15.out.later hb (lt_of_block BW_15.out))
  have BG_16 := Lib.hid (BG_15.out.later hb (lt_of_block BG_15.out))
  clear W0_15 GM BW_15 BG_15 HB15 hb
  clear hBW0 hBW1 hBG0 hBG1
  obtain ⟨hBW0, hBW1, _, _⟩ := BW_16.out.cells
  obtain ⟨hBG0, hBG1, _, _⟩ := BG_16.out.cells
  dsimp only
  go_wp2_with fail
  refine toT_any _ L0 _ (HH0.out.later HB16.out (Nat.le_refl _)) HP0.out.1 _ ?_
  intro v w17 hv hb
  obtain ⟨a17, n17, c17, rfl, hv'⟩ := hv.op
  have HC0 := Lib.hid hv'
  clear hv
  have HB17 : Hid (Below w.heap.size w w17) := Lib.hid (HB16.out.trans (hb.mono HB16.out.size))
  have W0_17 := Lib.hid (OwD.later W0_16.out hb)
  have GM_17 := Lib.hid (IsRec.later GM_16.out hb (Nat.le_refl _))
  have BW_17 := Lib.hid (BW_16.out.later hb (lt_of_block BW_16.out))
  have BG_17 := Lib.hid (BG_16.out.later hb (lt_of_block BG_16.out))
  clear W0_16 GM_16 BW_16 BG_16 HB16 hb hv'
  clear hBW0 hBW1 hBG0 hBG1
  obtain ⟨hBW0, hBW1, _, _⟩ := BW_17.out.cells
  obtain ⟨hBG0, hBG1, _, _⟩ := BG_17.out.cells
  dsimp only
  go_wp2_with fail
  refine toT_any _ L1 _ (HH1.out.later HB17.out (Nat.le_refl _)) HP1.out.1 _ ?_
  intro v w18 hv hb
  obtain ⟨a18, n18, c18, rfl, hv'⟩ := hv.op
  have HC1 := Lib.hid hv'
  clear hv
  have HB18 : Hid (Below w.heap.size w w18) := Lib.hid (HB17.out.trans (hb.mono HB17.out.size))
  have W0_18 := Lib.hid (OwD.later W0_17.out hb)
  have GM_18 := Lib.hid (IsRec.later GM_17.out hb (Nat.le_refl _))
  have BW_18 := Lib.hid (BW_17.out.later hb (lt_of_block BW_17.out))
  have BG_18 := Lib.hid (BG_17.out.later hb (lt_of_block BG_17.out))
  have HC0_18 := Lib.hid (TxL.later HC0.out hb (Nat.le_refl _))
  clear W0_17 GM_17 BW_17 BG_17 HC0 HB17 hb hv'
  clear hBW0 hBW1 hBG0 hBG1
  obtain ⟨hBW0, hBW1, _, _⟩ := BW_18.out.cells
  obtain ⟨hBG0, hBG1, _, _⟩ := BG_18.out.cells
  dsimp only
  go_wp2_with fail
  refine impl_fp _ L0 _ L1 _ (HE.out.later HB18.out (Nat.le_refl _)) (tab_later HTAB.out HB18.out (Nat.le_refl _)) HC0_18.out HP0.out.1 HC1.out HP1.out.1 _ ?_
  intro v r19 hv hbr
  rw [← HBQ.out]
  obtain ⟨a19, n19, c19, x19, y19, z19, rfl, t1, t2, t3, t4⟩ := hv.rec.parts
  clear t1 t2 t3 t4
  obtain ⟨w19, hw19⟩ : ∃ w19, w19 = r19.alloc (.cells #[.slice a19 n19 c19, .slice x19 y19 z19] 46) := ⟨_, rfl⟩
  have HW19 := Lib.hid hw19
  have hbx : Below r19.heap.size r19 w19 := by rw [hw19]; exact (Below.refl _ _).alloc (Nat.le_refl _) _
  have BH : Hid (Box2 w19 r19.heap.size (.slice a19 n19 c19) (.slice x19 y19 z19) 46) := Lib.hid (by rw [hw19]; exact Box2.made _ _ _ _)
  have H0 := Lib.hid (OwD.later hv hbx)
  have H0U : Hid (∀ g, rcBlock (.agg #[.slice a19 n19 c19, .slice x19 y19 z19]) g → g < w19.heap.size) := Lib.hid (H0.out.lt)
  have hb : Below w18.heap.size w18 w19 := hbr.trans (hbx.mono hbr.size)
  have HB19 : Hid (Below w.heap.size w w19) := Lib.hid (HB18.out.trans (hb.mono HB18.out.size))
  have W0_19 := Lib.hid (OwD.later W0_18.out hb)
  have GM_19 := Lib.hid (IsRec.later GM_18.out hb (Nat.le_refl _))
  have BW_19 := Lib.hid (BW_18.out.later hb (lt_of_block BW_18.out))
  have BG_19 := Lib.hid (BG_18.out.later hb (lt_of_block BG_18.out))
  clear hBW0 hBW1 hBG0 hBG1
  obtain ⟨hBW0, hBW1, _, _⟩ := BW_19.out.cells
  obtain ⟨hBG0, hBG1, _, _⟩ := BG_19.out.cells
  obtain ⟨hBH0, hBH1, _, _⟩ := BH.out.cells
  rw [hw19] at hBW0 hBW1 hBG0 hBG1 hBH0 hBH1
  clear HC0_18 HC1 W0_18 GM_18 BW_18 BG_18 HB18 hb hv hbr hbx hw19
  dsimp only
  go_wp2_with fail
  rw [← HW19.out]
  clear hBW0 hBW1 hBG0 hBG1 hBH0 hBH1
  obtain ⟨hBW0, hBW1, _, _⟩ := BW_19.out.cells
  obtain ⟨hBG0, hBG1, _, _⟩ := BG_19.out.cells
  obtain ⟨hBH0, hBH1, _, _⟩ := BH.out.cells
  refine eqR_any _ _ (fp1 L0 L1) (fp2 L0 L1) _ H0.out.rec W0_19.out.rec (by have := HL.out; omega) (by have := HL.out; omega) _ ?_
  intro w20 hb
  have HB20 : Hid (Below w.heap.size w w20) := Lib.hid (HB19.out.trans (hb.mono HB19.out.size))
  have W0_20 := Lib.hid (OwD.later W0_19.out hb)
  have GM_20 := Lib.hid (IsRec.later GM_19.out hb (Nat.le_refl _))
  have BW_20 := Lib.hid (BW_19.out.later hb (lt_of_block BW_19.out))
  have BG_20 := Lib.hid (BG_19.out.later hb (lt_of_block BG_19.out))
  have H0_20 := Lib.hid (OwD.later H0.out hb)
  have BH_20 := Lib.hid (BH.out.later hb (lt_of_block BH.out))
  clear W0_19 GM_19 BW_19 BG_19 H0 BH HB19 hb
  clear hBW0 hBW1 hBG0 hBG1 hBH0 hBH1
  obtain ⟨hBW0, hBW1, _, _⟩ := BW_20.out.cells
  obtain ⟨hBG0, hBG1, _, _⟩ := BG_20.out.cells
  obtain ⟨hBH0, hBH1, _, _⟩ := BH_20.out.cells
  dsimp only
  go_wp2_with fail
  refine heldR_any _ 1 (fp1 L0 L1).length (fp2 L0 L1).length _ GM_20.out (by have := HL.out; omega) (by have := HL.out; omega) (by omega) _ ?_
  intro w21 hb
  rw [← HKG.out]
  have HB21 : Hid (Below w.heap.size w w21) := Lib.hid (HB20.out.trans (hb.mono HB20.out.size))
  have W0_21 := Lib.hid (OwD.later W0_20.out hb)
  have GM_21 := Lib.hid (IsRec.later GM_20.out hb (Nat.le_refl _))
  have BW_21 := Lib.hid (BW_20.out.later hb (lt_of_block BW_20.out))
  have BG_21 := Lib.hid (BG_20.out.later hb (lt_of_block BG_20.out))
  have H0_21 := Lib.hid (OwD.later H0_20.out hb)
  have BH_21 := Lib.hid (BH_20.out.later hb (lt_of_block BH_20.out))
  clear W0_20 GM_20 BW_20 BG_20 H0_20 BH_20 HB20 hb
  clear hBW0 hBW1 hBG0 hBG1 hBH0 hBH1
  obtain ⟨hBW0, hBW1, _, _⟩ := BW_21.out.cells
  obtain ⟨hBG0, hBG1, _, _⟩ := BG_21.out.cells
  obtain ⟨hBH0, hBH1, _, _⟩ := BH_21.out.cells
  dsimp only
  go_wp2
  first | go_ret | skip
  exact HR.out _ HB21.out
end Go.Proofs.YtdkjcdfkoahfkaaGreatDoor
