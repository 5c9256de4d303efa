/- Contracts of functions of the program and of the model: EnvLaid, RowKit, RowRec, SS, SSM, VArr, HkOwn, TxO, TblC, CompI, CompS, ToRO, LawCompanionOf. -/
import Derived.Test.YtegdcmcfeaohhaaGreatDoorPa16
import Derived.Test.YtegdcmcfeaohhaaGreatDoorTie
import Derived.Test.YtegdcmcfeaohhaaGreatDoorCards
import Derived.ProofKit
import Derived.LaidMore
import Derived.LaidHandle
import Derived.OpenShut
import Derived.ChangeVars
import Derived.ChangeMaps5
import Derived.Stop.Joined
import Derived.Stop.JoinedAt
import Derived.Stop.Texts
import Derived.Stop.ErrReads
import Derived.Stop.LaidErr
import Derived.SevenTiedAt
import Derived.SliceStrings
import Derived.Carry
import Derived.Deep.RegionLaw
set_option linter.all false
set_option linter.unusedVariables false
set_option linter.unusedSimpArgs false
set_option linter.unnecessarySimpa false
set_option linter.deprecated false
namespace Go.Proofs.YtegdcmcfeaohhaaGreatDoor.EnvLaid
open Go Go.ChangeShapes Go.WideShapes Go.ChangeAt Go.RowKit

theorem own : ownKnob Tryz.prog.godebug = none := by kernel_rfl
theorem gForm : Tryz.prog.globalNamed "loop.example/g01120/impl.errForm" = some 1 := by kernel_rfl
theorem gSize : Tryz.prog.globalNamed "loop.example/g01120/impl.errSize" = some 0 := by kernel_rfl
theorem gType : Tryz.prog.globalNamed "errors.errorType" = some 2 := by kernel_rfl
theorem tForm : (Tryz.prog.globals[1]?).map (·.type) = some 74 := by kernel_rfl
theorem tSize : (Tryz.prog.globals[0]?).map (·.type) = some 74 := by kernel_rfl
theorem rt : (Tryz.prog.cutTypes.find? (·.1 == "internal/reflectlite.rtype")).map (·.2) = some 217 := by kernel_rfl
theorem size : Tryz.prog.types.size = 269 := by kernel_rfl
theorem oneRow : ((List.range 269).filter fun t => Tryz.prog.rowNamed t [101, 114, 114, 111, 114]) = [74] := by kernel_rfl
theorem star : "*" ++ "errors.errorString" = "*errors.errorString" := by decide
theorem rowPtr (u : TypeId) (h : Tryz.prog.typeName? 3 u = some "*errors.errorString") : u = 239 :=
  typeName_ptr_named (nm := "errors.errorString") (by rw [star]; kernel_rfl) (by kernel_rfl) (by decide) u (by rw [star]; exact h)
theorem cells190 : Tryz.prog.cellsOf 257 = 1 := by kernel_rfl
theorem cells9 : Tryz.prog.cellsOf 9 = 1 := by kernel_rfl

theorem handle_of {W : World} (h : handlesMet Tryz.prog [("errors.errorType", Rows.laid_errors_errorType)] W) :
    W.cell? ⟨2, 0, none⟩ = some (.iface 217 (.agg #[.pointer (some ⟨9, 74, none⟩)])) := by
  obtain ⟨name, u, ty, e1, e2, e3, e4, e5⟩ := h _ (List.mem_singleton.2 rfl)
  have en : name = [101, 114, 114, 111, 114] := (Option.some.inj e1).symm
  subst en
  obtain rfl := Option.some.inj (rt.symm.trans e2)
  have hm : ty ∈ (List.range 269).filter fun t => Tryz.prog.rowNamed t [101, 114, 114, 111, 114] := List.mem_filter.2 ⟨List.mem_range.2 (by rw [← size]; exact e3), e4⟩
  rw [oneRow] at hm
  obtain rfl := List.mem_singleton.1 hm
  have hh : typeHandle Tryz.prog 74 = .pointer (some ⟨9, 74, none⟩) := by kernel_rfl
  rw [hh] at e5
  simpa using World.var?_cell gType e5 0

/-- what a row's condition gives -/
theorem env_of {W : World} (h : laidMetH Tryz.prog [("errors.errorType", Rows.laid_errors_errorType), ("loop.example/g01120/impl.errForm", Rows.laid_loop_example_g01120_impl_errForm), ("loop.example/g01120/impl.errSize", Rows.laid_loop_example_g01120_impl_errSize)] W) :
    Env W ∧ (∃ a, W.var? Tryz.prog "loop.example/g01120/impl.errForm" = some #[.iface 239 (.pointer (some a))]) ∧ (∃ a, W.var? Tryz.prog "loop.example/g01120/impl.errSize" = some #[.iface 239 (.pointer (some a))]) := by
  have h' : laidMet Tryz.prog [("loop.example/g01120/impl.errForm", Rows.laid_loop_example_g01120_impl_errForm), ("loop.example/g01120/impl.errSize", Rows.laid_loop_example_g01120_impl_errSize)] W ∧ handlesMet Tryz.prog [("errors.errorType", Rows.laid_errors_errorType)] W := h
  obtain ⟨a1, s1, hv1, hc1, _, _⟩ := laid_sentinel h'.1 gForm tForm Tryz.underlying74 rowPtr Tryz.underlying239 Tryz.underlying257 rfl rfl Tryz.underlying9 cells190 cells9
  obtain ⟨a2, s2, hv2, hc2, _, _⟩ := laid_sentinel (laidMet.tail h'.1) gSize tSize Tryz.underlying74 rowPtr Tryz.underlying239 Tryz.underlying257 rfl rfl Tryz.underlying9 cells190 cells9
  exact ⟨⟨⟨a1, by simpa using World.var?_cell gForm hv1 0⟩, ⟨a2, by simpa using World.var?_cell gSize hv2 0⟩, handle_of h'.2⟩, ⟨a1, hv1⟩, ⟨a2, hv2⟩⟩
end Go.Proofs.YtegdcmcfeaohhaaGreatDoor.EnvLaid

namespace Go.Proofs.YtegdcmcfeaohhaaGreatDoor.EnvLaid
open Go Go.ChangeShapes Go.WideShapes Go.ChangeAt Go.RowKit

theorem laidOut : laidOutB Tryz.prog = true := by kernel_rfl
theorem cellsStr : Tryz.prog.cellsOf 9 = 1 := by kernel_rfl

theorem wf_i64 {n : Int} (h : (Lit.int .i64 n).wf = true) : -9223372036854775807 - 1 ≤ n ∧ n ≤ 9223372036854775807 := by
  have e1 : IntKind.i64.min = -9223372036854775807 - 1 := rfl
  have e2 : IntKind.i64.max = 9223372036854775807 := rfl
  simp [Lit.wf, e1, e2] at h
  omega

theorem var?_after {P : Program} {W W' : World} {n : String} {cs : Array Value} (h : Below W.heap.size W W') (hv : W.var? P n = some cs) : W'.var? P n = some cs := by
  have hv' := hv
  unfold World.var? at hv'
  cases hg : P.globalNamed n with
  | none => rw [hg] at hv'; simp at hv'
  | some g =>
    refine var?_below h hg ?_ hv
    rw [hg] at hv'
    simp only [Option.bind_some] at hv'
    rcases Nat.lt_or_ge g W.heap.size with h | h
    · exact h
    · rw [Array.getElem?_eq_none (by omega)] at hv'; simp at hv'

/-- a list of texts among the cells that came in -/
theorem open_textsC {H : Type} {enc : TypeId × Value → H} {W : World} {x : Value} {fuel : Nat} {y : DataW H × List MemPlace}
    (hf : DataW.trod enc Tryz.prog W 0 (fun _ => true) true fuel 22 [x] = some y) :
    ∃ L, TxL W x L ∧ L.length ≤ maxLen ∧ ∀ s ∈ L, s.size ≤ maxLen := by
  rcases open_strings Tryz.underlying22 Tryz.underlying9 cellsStr hf with ⟨hcs, hx⟩ | ⟨a, len, cap, ss, hcs, _, hl, hm, hz, hx, hcell, hsz⟩
  · simp at hcs
    subst hcs
    exact ⟨[], SlE.nil _ _ _, Nat.zero_le _, by simp⟩
  · simp at hcs
    subst hcs
    simp only [if_true] at hz
    obtain ⟨b, off, spot⟩ := a
    by_cases h0 : len = 0
    · subst h0
      exact ⟨[], SlE.nil _ _ _, Nat.zero_le _, by simp⟩
    · have hspot : spot = none := by simpa [Addr.add] using World.cell?_spot (hcell 0 (by omega))
      subst hspot
      refine ⟨ss.take len, TxL.mk (by simp; omega) hl (by have := hcell 0 (by omega); rw [Addr.add_lit] at this; exact lt_of_cell this) (fun i s hi => ?_), by simp; omega, fun s hs => hsz s (List.mem_of_mem_take hs)⟩
      have hi' : i < len := by
        have := (List.getElem?_eq_some_iff.1 hi).1
        simp at this
        omega
      have e : ss.getD i ByteArray.empty = s := by
        rw [List.getElem?_take_of_lt hi'] at hi
        simp [List.getD, hi]
      have := hcell i (by omega)
      rw [Addr.add_lit, e] at this
      exact this

/-- a list of texts that came in -/
theorem open_texts {H : Type} {enc : TypeId × Value → H} {W : World} {a0 : Option Addr} {len cap : Nat} {d : DataW H} {ps : List MemPlace}
    (h : DataW.Trod enc Tryz.prog W 0 (fun _ => true) true 22 (.slice a0 len cap) d ps) :
    ∃ L, TxL W (.slice a0 len cap) L ∧ L.length ≤ maxLen ∧ ∀ s ∈ L, s.size ≤ maxLen := by
  obtain ⟨fuel, hf⟩ := h
  exact open_textsC (y := (d, ps)) (by simpa [Value.cells] using hf)
end Go.Proofs.YtegdcmcfeaohhaaGreatDoor.EnvLaid

namespace Go.Proofs.YtegdcmcfeaohhaaGreatDoor.EnvLaid
open Go Go.ChangeShapes Go.WideShapes Go.ChangeAt Go.RowKit

theorem cellsRec : Tryz.prog.cellsOf 33 = 2 := by kernel_rfl

set_option maxRecDepth 100000 in
/-- a recurrence that came in -/
theorem open_rec {H : Type} {enc : TypeId × Value → H} {W : World} {r : Reach} {b0 : Nat} {v : Value} {d : DataW H} {ps : List MemPlace}
    (hval : Value.okWide Tryz.prog W r b0 33 v) (h : DataW.Trod enc Tryz.prog W 0 (fun _ => true) true 33 v d ps) :
    ∃ L1 L2, IsRec W v L1 L2 ∧ L1.length ≤ maxLen ∧ (∀ s ∈ L1, s.size ≤ maxLen) ∧ L2.length ≤ maxLen ∧ ∀ s ∈ L2, s.size ≤ maxLen := by
  obtain ⟨cs, rfl, hsz⟩ := okWide_struct Tryz.underlying33 hval
  rw [cellsRec] at hsz
  obtain ⟨x0, x1, rfl⟩ : ∃ x0 x1, cs = #[x0, x1] := by
    obtain ⟨l⟩ := cs
    match l, hsz with
    | [x0, x1], _ => exact ⟨x0, x1, rfl⟩
  obtain ⟨fuel, hf⟩ := h
  obtain ⟨y0, y1, n, _, _, h0, h1⟩ := trod_struct2 Tryz.underlying33 hf
  obtain ⟨L1, p1, p2, p3⟩ := open_textsC (y := y0) (x := x0) (by simpa [Value.cells, cellsStr, show Tryz.prog.cellsOf 22 = 1 by kernel_rfl] using h0)
  obtain ⟨L2, q1, q2, q3⟩ := open_textsC (y := y1) (x := x1) (by simpa [Value.cells, cellsStr, show Tryz.prog.cellsOf 22 = 1 by kernel_rfl] using h1)
  exact ⟨L1, L2, ⟨x0, x1, rfl, p1, q1⟩, p2, p3, q2, q3⟩
end Go.Proofs.YtegdcmcfeaohhaaGreatDoor.EnvLaid

namespace Go.Proofs.YtegdcmcfeaohhaaGreatDoor
open Go Go.RowKit

/-- a slice value as an element -/
def EV (_ : World) (cs : List Value) (x : Value) : Prop := ∃ a n c, x = .slice a n c ∧ cs = [.slice a n c]
theorem elemV : Elem 1 EV where
  len := by rintro w cs x ⟨a, n, c, _, rfl⟩; rfl
  ints := by rintro w cs x ⟨a, n, c, _, rfl⟩ u hu; simp at hu; subst hu; rfl
  one := by rintro w cs x ⟨a, n, c, _, rfl⟩ u hu; simp at hu; subst hu; rfl
  keep := by intro w w' g cs x h _ _; exact h
theorem SlE.atV {w : World} {ao : Option Addr} {n cap : Nat} {vs : List Value} (h : SlE 1 EV w (.slice ao n cap) vs) (i : Nat) (x : Value) (hi : vs[i]? = some x) :
    ∃ b off a m c, ao = some ⟨b, off, none⟩ ∧ b < w.heap.size ∧ x = .slice a m c ∧ w.cell? ⟨b, off + i, none⟩ = some (.slice a m c) := by
  obtain ⟨b, off, cs, h1, h2, h3, a, m, c, rfl, rfl⟩ := SlE.at h i x hi
  refine ⟨b, off, a, m, c, h1, h2, rfl, ?_⟩
  have := h3 0 _ rfl
  rwa [Nat.mul_one, Nat.add_zero] at this

/-- a value reads as a list of lists of texts -/
def RdSS (w : World) (v : Value) (LL : List (List ByteArray)) : Prop :=
  ∃ vs : List Value, SlE 1 EV w v vs ∧ vs.length = LL.length ∧ ∀ (i : Nat) (x : Value) (L : List ByteArray), vs[i]? = some x → LL[i]? = some L → TxL w x L
theorem RdSS.later {w w' : World} {v : Value} {LL : List (List ByteArray)} (h : RdSS w v LL) (hb : Below w.heap.size w w') : RdSS w' v LL := by
  obtain ⟨vs, h1, h2, h3⟩ := h
  exact ⟨vs, h1.later elemV hb (Nat.le_refl _), h2, fun i x L hx hL => (h3 i x L hx hL).later hb (Nat.le_refl _)⟩
theorem RdSS.open {w : World} {v : Value} {LL : List (List ByteArray)} (h : RdSS w v LL) : ∃ ao n cap, v = .slice ao n cap ∧ n = LL.length ∧ RdSS w (.slice ao n cap) LL := by
  obtain ⟨vs, h1, h2, h3⟩ := h
  obtain ⟨ao, n, cap, rfl, hn, _, h4⟩ := h1.open
  exact ⟨ao, n, cap, rfl, hn.trans h2, vs, h4, h2, h3⟩
theorem RdSS.at {w : World} {ao : Option Addr} {n cap : Nat} {LL : List (List ByteArray)} (h : RdSS w (.slice ao n cap) LL) (i : Nat) (L : List ByteArray) (hi : LL[i]? = some L) :
    ∃ b off a m c, ao = some ⟨b, off, none⟩ ∧ b < w.heap.size ∧ w.cell? ⟨b, off + i, none⟩ = some (.slice a m c) ∧ TxL w (.slice a m c) L := by
  obtain ⟨vs, h1, h2, h3⟩ := h
  obtain ⟨x, hx⟩ : ∃ x, vs[i]? = some x := ⟨_, List.getElem?_eq_getElem (by rw [h2]; exact (List.getElem?_eq_some_iff.1 hi).1)⟩
  obtain ⟨b, off, a, m, c, e1, e2, rfl, e3⟩ := h1.atV i x hx
  exact ⟨b, off, a, m, c, e1, e2, e3, h3 i _ L hx hi⟩

set_option maxRecDepth 100000 in
set_option maxHeartbeats 2000000 in
theorem eqSS_any (v1 v2 : Value) (LL : List (List ByteArray)) (w : World) (h1 : RdSS w v1 LL) (h2 : RdSS w v2 LL) (hn : LL.length ≤ 1000000000) (hs : ∀ L ∈ LL, L.length ≤ 1000000000) (R : Ending → World → Prop)
    (hR : ∀ w', Below w.heap.size w w' → R (.returned (.bool true)) w') :
    Calls Tryz.prog 45 #[v1, v2] w R := by
  have HR := Lib.hid hR; clear hR
  obtain ⟨a1, n, c1, rfl, e1, k1⟩ := h1.open
  obtain ⟨a2, n2, c2, rfl, e2, k2⟩ := h2.open
  obtain rfl : n = n2 := by omega
  have H1 := Lib.hid k1
  have H2 := Lib.hid k2
  have HN := Lib.hid e1
  have HS := Lib.hid hs
  have hnn : n ≤ 1000000000 := by omega
  have e0 : ((n : Int) != (n : Int)) = false := by simp
  clear h1 h2 k1 k2 e1 e2 hs hn
  go_enter Tryz.func45, Tryz.ntmps45
  go_wp2
  go_loopw [5] (fun iv wr => ∃ k : Nat, iv = .int .i64 (k : Int) ∧ k ≤ n ∧ Below w.heap.size w wr) (fun iv _ => n - (intOf iv).toNat)
  case atStart => exact ⟨0, rfl, Nat.zero_le _, Below.refl _ _⟩
  case round =>
    obtain ⟨k, rfl, hk, hbel⟩ := hrel
    have HB := Lib.hid hbel
    by_cases hkn : k = n
    · subst hkn
      have hk0 : ¬ ((k : Int) < (k : Int)) := by omega
      clear hbel
      go_wp2
      first | go_ret | skip
      exact HR.out _ HB.out
    · have hkl : k < n := by omega
      obtain ⟨L, hL⟩ : ∃ L, LL[k]? = some L := ⟨_, List.getElem?_eq_getElem (by rw [← HN.out]; exact hkl)⟩
      have HLS := Lib.hid (HS.out L (List.mem_of_getElem? hL))
      obtain ⟨b1, o1, x1, m1, y1, rfl, hb1, hc1, t1⟩ := H1.out.at k L hL
      obtain ⟨b2, o2, x2, m2, y2, rfl, hb2, hc2, t2⟩ := H2.out.at k L hL
      rw [← hbel.cell (p := ⟨b1, o1 + k, none⟩) hb1] at hc1
      rw [← hbel.cell (p := ⟨b2, o2 + k, none⟩) hb2] at hc2
      have T1 := Lib.hid (t1.later hbel (Nat.le_refl _))
      have T2 := Lib.hid (t2.later hbel (Nat.le_refl _))
      have hw1 : IntKind.i64.wrap ((k : Int) + 1) = ((k + 1 : Nat) : Int) := by rw [IntWalk.i64_in _ (by omega)]; omega
      have hk0 : (0 : Int) ≤ (k : Int) := by omega
      have hk1 : (k : Int) < (n : Int) := by omega
      have HKL := Lib.hid hkl
      clear hL t1 t2 hbel hkn
      go_wp2_with fail
      go_region_law (first
        | ((try go_simp); go_at_call 18; refine eqT_any _ _ L L _ (T1.out.later (Below.refl _ _).drew (Nat.le_refl _)) (T2.out.later (Below.refl _ _).drew (Nat.le_refl _)) (by have := HLS.out; omega) (by have := HLS.out; omega) _ ?_; intro w3 hb3; rw [decide_eq_true rfl]; have HB3 : Hid (Below w.heap.size w w3) := Lib.hid (HB.out.trans ((below_unD hb3).mono HB.out.size)); clear hb3; dsimp only))
      all_goals
        go_wp2
        go_roundw
        case rel => exact ⟨k + 1, by first | rfl | go_num, HKL.out, HB3.out⟩
        case measure => simp [intOf]; have := HKL.out; omega

/-- the marks of lists of those lengths, from a number on -/
def marksSS : Nat → List Nat → List (List ByteArray)
  | _, [] => []
  | k0, n :: ns => marks k0 n :: marksSS (k0 + n) ns
theorem marksSS_len : ∀ (ns : List Nat) (k0 : Nat), (marksSS k0 ns).length = ns.length
  | [], _ => rfl
  | n :: ns, k0 => by simp [marksSS, marksSS_len ns]
theorem marksSS_at : ∀ (ns : List Nat) (k0 i n : Nat), ns[i]? = some n → (marksSS k0 ns)[i]? = some (marks (k0 + (ns.take i).sum) n)
  | [], _, _, _, h => by simp at h
  | m :: ns, k0, 0, n, h => by simp at h; subst h; simp [marksSS]
  | m :: ns, k0, i + 1, n, h => by
    have := marksSS_at ns (k0 + m) i n (by simpa using h)
    simp only [marksSS, List.getElem?_cons_succ, List.take_succ_cons, List.sum_cons]
    rw [this, Nat.add_assoc]
theorem sum_take_one {ns : List Nat} {i n : Nat} (h : ns[i]? = some n) : (ns.take (i + 1)).sum = (ns.take i).sum + n := by
  rw [List.take_add_one, h]; simp
theorem sum_take_le (ns : List Nat) (i : Nat) : (ns.take i).sum ≤ ns.sum := by
  conv => rhs; rw [← List.take_append_drop i ns]
  rw [List.sum_append]; omega

set_option maxRecDepth 100000 in
set_option maxHeartbeats 2000000 in
theorem heldSS_any (v : Value) (k0 : Nat) (ns : List Nat) (w : World) (h : RdSS w v (marksSS k0 ns)) (hn : ns.length ≤ 1000000) (hk : k0 + ns.sum ≤ 1000000) (R : Ending → World → Prop)
    (hR : ∀ w', Below w.heap.size w w' → R (.returned (.int .i64 ((k0 + ns.sum : Nat) : Int))) w') :
    Calls Tryz.prog 47 #[v, .int .i64 (k0 : Int)] w R := by
  have HR := Lib.hid hR; clear hR
  obtain ⟨ao, n, cap, rfl, hnl, hh⟩ := h.open
  rw [marksSS_len] at hnl
  have HH := Lib.hid hh
  have HN := Lib.hid hnl
  have HK := Lib.hid hk
  have hnn : n ≤ 1000000 := by omega
  obtain ⟨zz, hzz⟩ : ∃ zz, zz = k0 + ns.sum := ⟨_, rfl⟩
  have HZZ := Lib.hid hzz
  rw [← hzz] at HR
  clear h hh hnl hk hn hzz
  go_enter Tryz.func47, Tryz.ntmps47
  go_wp2
  go_loopw [1, 5] (fun kv iv wr => ∃ i : Nat, iv = .int .i64 (i : Int) ∧ kv = .int .i64 ((k0 + (ns.take i).sum : Nat) : Int) ∧ i ≤ n ∧ Below w.heap.size w wr) (fun _ iv _ => n - (intOf iv).toNat)
  case atStart => exact ⟨0, rfl, by simp, Nat.zero_le _, Below.refl _ _⟩
  case round =>
    obtain ⟨i, rfl, rfl, hi, hbel⟩ := hrel
    have HB := Lib.hid hbel
    by_cases hin : i = n
    · have he : (ns.take i).sum = ns.sum := by rw [hin, HN.out, List.take_length]
      rw [he, ← HZZ.out]
      have HF := Lib.hid (HR.out wr HB.out)
      subst hin
      have hk0 : ¬ ((i : Int) < (i : Int)) := by omega
      clear hbel he
      go_wp2
      first | go_ret | skip
      exact HF.out
    · have hil : i < n := by omega
      obtain ⟨m, hm⟩ : ∃ m, ns[i]? = some m := ⟨_, List.getElem?_eq_getElem (by rw [← HN.out]; exact hil)⟩
      obtain ⟨z, hz⟩ : ∃ z, z = k0 + (ns.take i).sum := ⟨_, rfl⟩
      obtain ⟨b, o, x, q, y, rfl, hb, hc, t⟩ := HH.out.at i _ (marksSS_at ns k0 i m hm)
      have hs1 := sum_take_one hm
      have hs2 := sum_take_le ns (i + 1)
      rw [← hz] at t ⊢
      rw [← hbel.cell (p := ⟨b, o + i, none⟩) hb] at hc
      have HT := Lib.hid (t.later hbel (Nat.le_refl _))
      have HZ : Hid (z + m = k0 + (ns.take (i + 1)).sum ∧ z + m ≤ 1000000) := Lib.hid (by have := HK.out; omega)
      have hw1 : IntKind.i64.wrap ((i : Int) + 1) = ((i + 1 : Nat) : Int) := by rw [IntWalk.i64_in _ (by omega)]; omega
      have hk0 : (0 : Int) ≤ (i : Int) := by omega
      have hk1 : (i : Int) < (n : Int) := by omega
      have HI := Lib.hid hil
      clear hm hz t hs1 hs2 hbel hin
      go_wp2_with fail
      refine held_any _ z m wr HT.out (by have := HZ.out; omega) (by have := HZ.out; omega) _ ?_
      intro w3 hb3
      obtain ⟨z2, hz2⟩ : ∃ z2, z2 = z + m := ⟨_, rfl⟩
      have HZ2 := Lib.hid hz2
      rw [← hz2]
      have d1 : ¬ ((z2 : Int) < 0) := by omega
      have HB3 := Lib.hid (HB.out.trans (hb3.mono HB.out.size))
      clear hb3 hz2
      dsimp only
      go_wp2
      go_roundw
      case rel => exact ⟨i + 1, by first | rfl | go_num, by rw [HZ2.out, HZ.out.1], HI.out, HB3.out⟩
      case measure => simp [intOf]; have := HI.out; omega
end Go.Proofs.YtegdcmcfeaohhaaGreatDoor

namespace Go.Proofs.YtegdcmcfeaohhaaGreatDoor
open Go Go.RowKit

theorem OwE.butG {α : Type} {sz : Nat} {E : World → List Value → α → Prop} (hc : ∀ w w' cs x, E w cs x → E w' cs x) {e : TypeId} {w w' : World} {B : Nat} {v : Value} {xs : List α} {o : Option Nat} (h : OwE sz E e w B v xs) (hb : ButO o w w') (hne : ∀ g, v.ownBlock = some g → o ≠ some g) : OwE sz E e w' B v xs := by
  rcases h with h | ⟨g, cap, cur, rfl, h2, h3, h4, h5, h6, h7, h8⟩
  · exact .inl h
  · exact .inr ⟨g, cap, cur, rfl, h2, by rw [hb.block g (lt_of_block h3) (hne g (by simp [Value.ownBlock]))]; exact h3, h4, h5, h6, h7, fun i x hi => hc _ _ _ _ (h8 i x hi)⟩
theorem OwE.underG {α : Type} {sz : Nat} {E : World → List Value → α → Prop} (hc : ∀ w w' cs x, E w cs x → E w' cs x) {e : TypeId} {w w' : World} {B B' : Nat} {v : Value} {xs : List α} (h : OwE sz E e w B v xs) (hb : Below B' w w') (hlt : ∀ g, v.ownBlock = some g → g < B') : OwE sz E e w' B v xs := by
  rcases h with h | ⟨g, cap, cur, rfl, h2, h3, h4, h5, h6, h7, h8⟩
  · exact .inl h
  · exact .inr ⟨g, cap, cur, rfl, h2, by rw [hb.block g (hlt g (by simp [Value.ownBlock]))]; exact h3, h4, h5, h6, h7, fun i x hi => hc _ _ _ _ (h8 i x hi)⟩
theorem cV : ∀ (w w' : World) (cs : List Value) (x : Value), EV w cs x → EV w' cs x := fun _ _ _ _ h => h
theorem OwE.ne_own {α β : Type} {s1 s2 : Nat} {E1 : World → List Value → α → Prop} {E2 : World → List Value → β → Prop} {e1 e2 : TypeId} {w : World} {B1 B2 : Nat} {v1 v2 : Value} {xs : List α} {ys : List β}
    (h1 : OwE s1 E1 e1 w B1 v1 xs) (h2 : OwE s2 E2 e2 w B2 v2 ys) (he : e1 ≠ e2) : ∀ g, v1.ownBlock = some g → v2.ownBlock ≠ some g := by
  rcases h1 with ⟨rfl, _⟩ | ⟨g1, c1, cur1, rfl, _, k1, _⟩
  · intro g hg; cases hg
  · rcases h2 with ⟨rfl, _⟩ | ⟨g2, c2, cur2, rfl, _, k2, _⟩
    · intro g _ hg; cases hg
    · intro g hg hg2
      obtain rfl : g1 = g := by simpa [Value.ownBlock] using hg
      obtain rfl : g2 = g1 := by simpa [Value.ownBlock] using hg2
      rw [k1] at k2
      simp at k2
      exact he k2.2

/-- an own list of own lists of texts, each in a block of its own -/
def OwSS (w : World) (B : Nat) (v : Value) (LL : List (List ByteArray)) : Prop :=
  ∃ vs : List Value, OwE 1 EV 22 w B v vs ∧ vs.length = LL.length ∧ (∀ (i : Nat) (x : Value) (L : List ByteArray), vs[i]? = some x → LL[i]? = some L → OwE 1 ET 9 w B x L) ∧
    ∀ (i j : Nat) (x y : Value) (g : Nat), i ≠ j → vs[i]? = some x → vs[j]? = some y → x.ownBlock = some g → y.ownBlock ≠ some g
theorem OwSS.rd {w : World} {B : Nat} {v : Value} {LL : List (List ByteArray)} (h : OwSS w B v LL) : RdSS w v LL := by
  obtain ⟨vs, h1, h2, h3, _⟩ := h
  exact ⟨vs, h1.sl, h2, fun i x L hx hL => (h3 i x L hx hL).tx⟩
theorem OwSS.shape {w : World} {B : Nat} {v : Value} {LL : List (List ByteArray)} (h : OwSS w B v LL) : ∃ a n c, v = .slice a n c ∧ n = LL.length := by
  obtain ⟨vs, h1, h2, _⟩ := h
  obtain ⟨a, n, c, rfl, hn⟩ := h1.shape
  exact ⟨a, n, c, rfl, hn.trans h2⟩
theorem OwSS.nil (w : World) (B : Nat) : OwSS w B (.slice none 0 0) [] := ⟨[], OwE.nil _ _ _, rfl, fun i x L h => by simp at h, fun i j x y g _ h => by simp at h⟩
theorem OwSS.later {w w' : World} {B : Nat} {v : Value} {LL : List (List ByteArray)} (h : OwSS w B v LL) (hb : Below w.heap.size w w') : OwSS w' B v LL := by
  obtain ⟨vs, h1, h2, h3, h4⟩ := h
  exact ⟨vs, h1.later elemV hb (Nat.le_refl _), h2, fun i x L hx hL => (h3 i x L hx hL).later elemT hb (Nat.le_refl _), h4⟩
/-- an own list that a block of texts elsewhere leaves as it is -/
theorem OwSS.butT {w w' : World} {B : Nat} {v : Value} {LL : List (List ByteArray)} {o : Option Nat} (h : OwSS w B v LL) (hb : ButO o w w') (hne : ∀ g, o = some g → g < B) : OwSS w' B v LL := by
  obtain ⟨vs, h1, h2, h3, h4⟩ := h
  exact ⟨vs, h1.butG cV hb (fun g hg e => by have := h1.base g hg; have := hne g e; omega), h2,
    fun i x L hx hL => (h3 i x L hx hL).butO hb (fun g hg e => by have := (h3 i x L hx hL).base g hg; have := hne g e; omega), h4⟩
/-- what was there before a block number is left as it is -/
theorem OwSS.under {w w1 w' : World} {B B' : Nat} {v : Value} {LL : List (List ByteArray)} (h : OwSS w B v LL) (hB : w.heap.size ≤ B') (h1 : Below w.heap.size w w1) (hb : Below B' w1 w') : OwSS w' B v LL := by
  obtain ⟨vs, k1, k2, k3, k4⟩ := h
  exact ⟨vs, (k1.later elemV h1 (Nat.le_refl _)).underG cV hb (fun g hg => by have := k1.own_lt g hg; omega), k2,
    fun i x L hx hL => ((k3 i x L hx hL).later elemT h1 (Nat.le_refl _)).under hb (fun g hg => by have := (k3 i x L hx hL).own_lt g hg; omega), k4⟩

/-- the loop of marking -/
def MarkSRel (w : World) (B k0 : Nat) (LL : List (List ByteArray)) (v kv iv : Value) (wr : World) : Prop :=
  ∃ i : Nat, iv = .int .i64 (i : Int) ∧ kv = .int .i64 ((k0 + ((LL.map List.length).take i).sum : Nat) : Int) ∧ i ≤ LL.length ∧
    OwSS wr B v (marksSS k0 ((LL.map List.length).take i) ++ LL.drop i) ∧ Below B w wr ∧ w.heap.size ≤ wr.heap.size

theorem marks_step : ∀ (LL : List (List ByteArray)) (k0 i : Nat) (L : List ByteArray), LL[i]? = some L → ∀ (j : Nat) (M : List ByteArray), (marksSS k0 ((LL.map List.length).take (i + 1)) ++ LL.drop (i + 1))[j]? = some M →
    (j = i ∧ M = marks (k0 + ((LL.map List.length).take i).sum) L.length) ∨ (j ≠ i ∧ (marksSS k0 ((LL.map List.length).take i) ++ LL.drop i)[j]? = some M) := by
  intro LL
  induction LL with
  | nil => intro k0 i L h; simp at h
  | cons A LL ih =>
    intro k0 i L h j M hM
    match i, j with
    | 0, 0 => simp [marksSS] at h hM; subst h; subst hM; exact .inl ⟨rfl, by simp⟩
    | 0, j + 1 => exact .inr ⟨by omega, by simpa [marksSS] using hM⟩
    | i + 1, 0 => exact .inr ⟨by omega, by simpa [marksSS] using hM⟩
    | i + 1, j + 1 =>
      have h' : LL[i]? = some L := by simpa using h
      have hM' : (marksSS (k0 + A.length) ((LL.map List.length).take (i + 1)) ++ LL.drop (i + 1))[j]? = some M := by simpa [marksSS] using hM
      rcases ih (k0 + A.length) i L h' j M hM' with ⟨rfl, e⟩ | ⟨e1, e2⟩
      · refine .inl ⟨rfl, ?_⟩
        rw [e]; simp [Nat.add_assoc]
      · exact .inr ⟨by omega, by simpa [marksSS] using e2⟩

theorem marks_now {LL : List (List ByteArray)} {k0 i : Nat} {L : List ByteArray} (h : LL[i]? = some L) : (marksSS k0 ((LL.map List.length).take i) ++ LL.drop i)[i]? = some L := by
  have hi := (List.getElem?_eq_some_iff.1 h).1
  have hl : (marksSS k0 ((LL.map List.length).take i)).length = i := by rw [marksSS_len, List.length_take, List.length_map]; omega
  rw [List.getElem?_append_right (by omega), hl, Nat.sub_self, List.getElem?_drop]
  simpa using h

set_option maxRecDepth 100000 in
set_option maxHeartbeats 2000000 in
theorem markSS_any (v : Value) (LL : List (List ByteArray)) (k0 B : Nat) (w : World) (h : OwSS w B v LL) (hB : B ≤ w.heap.size) (hn : LL.length ≤ 1000000) (hk : k0 + (LL.map List.length).sum ≤ 1000000) (R : Ending → World → Prop)
    (hR : ∀ w', OwSS w' B v (marksSS k0 (LL.map List.length)) → Below B w w' → w.heap.size ≤ w'.heap.size → R (.returned (.int .i64 ((k0 + (LL.map List.length).sum : Nat) : Int))) w') :
    Calls Tryz.prog 46 #[v, .int .i64 (k0 : Int)] w R := by
  have HR := Lib.hid hR; clear hR
  have HST : Hid (MarkSRel w B k0 LL v (.int .i64 (k0 : Int)) (.int .i64 0) w) := Lib.hid ⟨0, rfl, by simp, Nat.zero_le _, by simpa [marksSS] using h, Below.refl _ _, Nat.le_refl _⟩
  obtain ⟨ao, n, cap, rfl, hnl⟩ := h.shape
  have HN := Lib.hid hnl
  have HK := Lib.hid hk
  have HBB := Lib.hid hB
  have hnn : n ≤ 1000000 := by omega
  obtain ⟨zz, hzz⟩ : ∃ zz, zz = k0 + (LL.map List.length).sum := ⟨_, rfl⟩
  have HZZ := Lib.hid hzz
  rw [← hzz] at HR
  obtain ⟨v0, hv0⟩ : ∃ v0, v0 = Value.slice ao n cap := ⟨_, rfl⟩
  have HV0 := Lib.hid hv0
  rw [← hv0] at HR HST
  clear h hnl hk hn hzz hB hv0
  go_enter Tryz.func46, Tryz.ntmps46
  go_wp2
  go_loopw [1, 5] (fun kv iv wr => MarkSRel w B k0 LL v0 kv iv wr) (fun _ iv _ => n - (intOf iv).toNat)
  case atStart => exact HST.out
  case round =>
    clear HST
    obtain ⟨i, rfl, rfl, hi, hown, hbel, hsz⟩ := hrel
    have HB := Lib.hid (And.intro hbel hsz)
    have HOWN := Lib.hid hown
    rw [← HN.out] at hi
    clear hown
    by_cases hin : i = n
    · have he : (LL.map List.length).take i = LL.map List.length := by rw [hin, HN.out, ← List.length_map (f := List.length), List.take_length]
      have he2 : LL.drop i = [] := by rw [hin, HN.out, List.drop_length]
      rw [he, he2, List.append_nil] at HOWN
      rw [he, ← HZZ.out]
      have HF := Lib.hid (HR.out wr HOWN.out HB.out.1 HB.out.2)
      subst hin
      have hk0 : ¬ ((i : Int) < (i : Int)) := by omega
      clear hbel he he2 hsz
      go_wp2
      first | go_ret | skip
      exact HF.out
    · have hil : i < n := by omega
      obtain ⟨L, hL⟩ : ∃ L, LL[i]? = some L := ⟨_, List.getElem?_eq_getElem (by rw [← HN.out]; exact hil)⟩
      have hm : (LL.map List.length)[i]? = some L.length := by rw [List.getElem?_map, hL]; rfl
      obtain ⟨z, hz⟩ : ∃ z, z = k0 + ((LL.map List.length).take i).sum := ⟨_, rfl⟩
      have hs1 := sum_take_one hm
      have hs2 := sum_take_le (LL.map List.length) (i + 1)
      have HZE := Lib.hid hz
      obtain ⟨vs, o1, o2, o3, o4⟩ := HOWN.out
      obtain ⟨x, hx⟩ : ∃ x, vs[i]? = some x := ⟨_, List.getElem?_eq_getElem (by rw [o2, List.length_append, marksSS_len, List.length_take, List.length_map, List.length_drop, ← HN.out]; omega)⟩
      have oi := o3 i x L hx (marks_now hL)
      obtain ⟨b, o, x', q, y, hao, hb, hxe, hc⟩ := SlE.atV (HV0.out ▸ o1.sl) i x hx
      subst hao
      subst hxe
      rw [← hz]
      have HVS := Lib.hid (And.intro o1 (And.intro o2 (And.intro o3 o4)))
      have HX := Lib.hid hx
      have HL := Lib.hid hL
      have HOI := Lib.hid oi
      have HZ : Hid (z + L.length = k0 + ((LL.map List.length).take (i + 1)).sum ∧ z + L.length ≤ 1000000) := Lib.hid (by have := HK.out; omega)
      have hw1 : IntKind.i64.wrap ((i : Int) + 1) = ((i + 1 : Nat) : Int) := by rw [IntWalk.i64_in _ (by omega)]; omega
      have hk0 : (0 : Int) ≤ (i : Int) := by omega
      have hk1 : (i : Int) < (n : Int) := by omega
      have HI := Lib.hid hil
      have HBQ : Hid (B ≤ wr.heap.size) := Lib.hid (Nat.le_trans HBB.out hsz)
      clear hm hz hs1 hs2 hbel hin o1 o2 o3 o4 hx hL oi hsz
      go_wp2_with fail
      refine mark_any _ L z B wr HOI.out (by have := HZ.out; omega) (by have := HZ.out; omega) _ ?_
      intro w3 hv3 hb3
      obtain ⟨z2, hz2⟩ : ∃ z2, z2 = z + L.length := ⟨_, rfl⟩
      have HZ2 := Lib.hid hz2
      rw [← hz2]
      have HOW3 : Hid (OwSS w3 B v0 (marksSS k0 ((LL.map List.length).take (i + 1)) ++ LL.drop (i + 1))) := Lib.hid (by
        obtain ⟨o1, o2, o3, o4⟩ := HVS.out
        refine ⟨vs, o1.butG cV hb3 (fun g hg e => o1.ne_own HOI.out (by decide) g hg e), ?_, ?_, o4⟩
        · rw [o2, List.length_append, List.length_append, marksSS_len, marksSS_len, List.length_take, List.length_take, List.length_map, List.length_drop, List.length_drop]
          have := HN.out; have := HI.out; omega
        · intro j y M hy hM
          rcases marks_step LL k0 i L HL.out j M hM with ⟨rfl, rfl⟩ | ⟨e1, e2⟩
          · have hxy := HX.out
            rw [hy] at hxy
            obtain rfl := Option.some.inj hxy
            rw [← HZE.out]; exact hv3
          · exact (o3 j y M hy e2).butO hb3 (fun g hg e => o4 i j _ y g (fun h => e1 h.symm) HX.out hy e hg))
      have HB3 : Hid (Below B w w3 ∧ w.heap.size ≤ w3.heap.size) := Lib.hid ⟨HB.out.1.trans (hb3.below (fun g hg => HOI.out.base g hg) HBQ.out), Nat.le_trans HB.out.2 hb3.size⟩
      clear hb3 hv3 hz2
      dsimp only
      go_wp2
      go_roundw
      case rel => exact ⟨i + 1, by first | rfl | go_num, by rw [HZ2.out, HZ.out.1], by have := HI.out; have := HN.out; omega, HOW3.out, HB3.out.1, HB3.out.2⟩
      case measure => simp [intOf]; have := HI.out; omega
end Go.Proofs.YtegdcmcfeaohhaaGreatDoor

namespace Go.Proofs.YtegdcmcfeaohhaaGreatDoor
open Go Go.RowKit

/-- a block of values that is known whole -/
def VArr (e : TypeId) (w : World) (g : Nat) (vs : List Value) : Prop := w.heap[g]? = some (.cells vs.toArray e (0, 0))
theorem VArr.lt {e : TypeId} {w : World} {g : Nat} {vs : List Value} (h : VArr e w g vs) : g < w.heap.size := lt_of_block h
theorem VArr.cell {e : TypeId} {w : World} {g : Nat} {vs : List Value} (h : VArr e w g vs) (i : Nat) (v : Value) (hi : vs[i]? = some v) : w.cell? ⟨g, i, none⟩ = some v := by
  unfold VArr at h
  simp [World.cell?, h, hi]
theorem VArr.frozen {e : TypeId} {w : World} {g : Nat} {vs : List Value} (h : VArr e w g vs) (i : Nat) : w.frozen? ⟨g, i, none⟩ = false := by
  unfold VArr at h
  simp [World.frozen?, h]
theorem VArr.set {e : TypeId} {w : World} {g : Nat} {vs : List Value} (h : VArr e w g vs) (i : Nat) (v : Value) : VArr e (w.setCell ⟨g, i, none⟩ v) g (vs.set i v) := by
  unfold VArr at *
  simp only [World.setCell, Array.getElem?_modify, h]
  simp
theorem VArr.later {e : TypeId} {w w' : World} {g B : Nat} {vs : List Value} (h : VArr e w g vs) (hb : Below B w w') (hg : g < B) : VArr e w' g vs := by
  unfold VArr at *; rw [hb.block g hg]; exact h
theorem VArr.setOther {e : TypeId} {w : World} {g b : Nat} {vs : List Value} (h : VArr e w g vs) (hg : g ≠ b) (i : Nat) (v : Value) : VArr e (w.setCell ⟨b, i, none⟩ v) g vs := by
  unfold VArr at *; rw [Below.heap_setCell _ _ _ _ hg]; exact h
theorem VArr.drewN {e : TypeId} {w : World} {g : Nat} {vs : List Value} (h : VArr e w g vs) (n : Nat) : VArr e (w.drewN n) g vs := h
theorem VArr.drw {e : TypeId} {w : World} {g : Nat} {vs : List Value} (h : VArr e w g vs) : VArr e w.drew g vs := h

theorem wpList_makev {P : Program} (w : World) {ops : Array Oper} {rest : List Oper} {o : Oper} {a : Act} {Q : Exit → Act → World → Prop}
    (hg : o.guard = none) (l : Operand) (t : TypeId) (hop : o.op = Op.makeSlice t l l) (z : Value) (hz : z.cells = #[z])
    (e : TypeId) (bytes : Nat) (h1 : P.underlying t = some (.slice e)) (hi : (P.info? e).map (fun i => (i.zero, i.size, i.bytes)) = some (some z, 1, bytes)) (hby : bytes ≤ 100)
    (kl : IntKind) (L : Int) (n : Nat) (hl : a.eval l = .int kl L) (hL : L = (n : Int)) (hn : n ≤ 1000000000)
    (hK : ∀ w', VArr e w' w.heap.size (List.replicate n z) → Below w.heap.size w w' → w'.heap.size = w.heap.size + 1 → wpList P ops Q rest (a.put o.dst (.slice (some ⟨w.heap.size, 0, none⟩) n n)) w') :
    wpList P ops Q (o :: rest) a w := by
  obtain ⟨i0, hi0, hz0, hz1, hz2⟩ := info_parts hi
  refine wpList_plain hg fun K hK' => ?_
  subst hL
  have hb : (i0.bytes : Int) * (n : Int) ≤ 281474976710656 := by
    rw [hz2]
    have : bytes * n ≤ 100 * n := Nat.mul_le_mul_right n hby
    have h2 : ((bytes * n : Nat) : Int) ≤ 281474976710656 := by omega
    rwa [Int.natCast_mul] at h2
  have hr := run_make (P := P) w t e i0 z h1 hi0 hz0 kl kl n n (by omega) (Int.le_refl _) hb (by omega)
  simp only [Int.toNat_natCast, hz1, Nat.mul_one] at hr
  unfold Oper.wp
  simp [execOp, hop, hl, hr, Result.andThen]
  refine hK' _ _ (hK _ ?_ ?_ ?_)
  · show (w.heap.push _)[_]? = _
    rw [Array.getElem?_push, if_pos rfl]
    congr 2
    apply Array.toList_inj.1
    have h3 := toList_madeCells_one z n
    rw [hz, h3]
  · exact (Below.refl _ _).alloc (Nat.le_refl _) _
  · simp
end Go.Proofs.YtegdcmcfeaohhaaGreatDoor

namespace Go.Proofs.YtegdcmcfeaohhaaGreatDoor
open Go Go.RowKit

theorem VArr.ownV {e : TypeId} {w : World} {g : Nat} {vs : List Value} (h : VArr e w g vs) (hv : ∀ v ∈ vs, ∃ a n c, v = .slice a n c) (B n : Nat) (hn : n = vs.length) (hB : B ≤ g) (hm : n ≤ 1048576) : OwE 1 EV e w B (.slice (some ⟨g, 0, none⟩) n n) vs := by
  subst hn
  refine .inr ⟨g, vs.length, _, rfl, hB, h, Nat.le_refl _, by simp only [maxLen]; omega, by simp, ?_, ?_⟩
  · intro u hu
    obtain ⟨a, n, c, rfl⟩ := hv u (by simpa using hu)
    rfl
  · intro i x hx
    show EV w ((vs.toArray.toList.drop (i * 1)).take 1) x
    obtain ⟨hi, rfl⟩ := List.getElem?_eq_some_iff.1 hx
    obtain ⟨a, n, c, hx2⟩ := hv vs[i] (List.getElem_mem _)
    have e9 : (vs.drop i).take 1 = [vs[i]] := by rw [List.drop_eq_getElem_cons hi]; rfl
    refine ⟨a, n, c, hx2, ?_⟩
    rw [Nat.mul_one, List.toList_toArray, e9, hx2]
end Go.Proofs.YtegdcmcfeaohhaaGreatDoor

namespace Go.Proofs.YtegdcmcfeaohhaaGreatDoor
open Go Go.RowKit

theorem TArr.own {e : TypeId} {w : World} {g : Nat} {L : List ByteArray} (h : TArr e w g L) (B n : Nat) (hn : n = L.length) (hB : B ≤ g) (hm : n ≤ 1048576) : OwE 1 ET e w B (.slice (some ⟨g, 0, none⟩) n n) L := by
  subst hn
  refine .inr ⟨g, L.length, _, rfl, hB, h, Nat.le_refl _, by simp only [maxLen]; omega, by simp, ?_, ?_⟩
  · intro u hu
    simp at hu
    obtain ⟨s, _, rfl⟩ := hu
    rfl
  · intro i x hx
    show ((L.map Value.string).toArray.toList.drop (i * 1)).take 1 = [.string x]
    obtain ⟨hi, rfl⟩ := List.getElem?_eq_some_iff.1 hx
    rw [Nat.mul_one, List.toList_toArray, List.drop_eq_getElem_cons (by rw [List.length_map]; exact hi)]
    simp

set_option maxRecDepth 100000 in
set_option maxHeartbeats 1000000 in
theorem toT_own (v : Value) (L : List ByteArray) (w : World) (h : TxL w v L) (hn : L.length ≤ 1048576) (R : Ending → World → Prop)
    (hR : ∀ v' w', OwE 1 ET 9 w' w.heap.size v' L → Below w.heap.size w w' → R (.returned v') w') :
    Calls Tryz.prog 16 #[v] w R := by
  have HR := Lib.hid hR; clear hR
  obtain ⟨ao, n, cap, rfl, hnl, hc, hh⟩ := h.open
  have HH := Lib.hid hh
  have HN := Lib.hid hnl
  rw [← hnl] at hn
  clear h hnl hh
  go_enter Tryz.func16, Tryz.ntmps16
  go_wp2_with (at_make; go_must (refine wpList_maket _ rfl (.tmp 6) 22 rfl 9 16 Tryz.underlying22 info_str (by omega) .i64 _ n rfl (by omega) (by omega) ?_))
  intro W hA hbW hsW
  have HST : Hid (CopyRel w n L (.int .i64 0) W) := Lib.hid ⟨0, rfl, Nat.zero_le _, by simpa using hA, hbW⟩
  clear hA hbW hsW
  go_wp2
  go_loopw [4] (fun i wr => CopyRel w n L i wr) (fun i _ => n - (intOf i).toNat)
  case atStart => exact HST.out
  case round =>
    clear HST
    obtain ⟨k, rfl, hk, hA, hbel⟩ := hrel
    have HB := Lib.hid hbel
    by_cases hkn : k = n
    · subst hkn
      have hL : L.take k ++ List.replicate (k - k) ByteArray.empty = L := by rw [Nat.sub_self, HN.out, List.take_length]; simp
      rw [hL] at hA
      have HT := Lib.hid (hA.own w.heap.size k HN.out (Nat.le_refl _) (by omega))
      clear hA hbel hL
      go_wp2
      first | go_ret | skip
      exact HR.out _ _ HT.out HB.out
    · have hkl : k < n := by omega
      obtain ⟨s, hs⟩ : ∃ s, L[k]? = some s := ⟨_, List.getElem?_eq_getElem (by rw [← HN.out]; exact hkl)⟩
      obtain ⟨b, off, rfl, hb, hcell⟩ := TxL.at HH.out k s hs
      rw [← hbel.cell (p := ⟨b, off + k, none⟩) hb] at hcell
      have hlen : (L.take k ++ List.replicate (n - k) ByteArray.empty).length = n := by rw [List.length_append, List.length_take, List.length_replicate, ← HN.out]; omega
      have hc2 := hA.cell k _ (List.getElem?_eq_getElem (by rw [hlen]; exact hkl))
      have hf2 := hA.frozen k
      have hA2 := hA.set k s
      rw [set_copy L k n ByteArray.empty s hkl hs] at hA2
      have HA2 := Lib.hid hA2
      obtain ⟨u, hu⟩ : ∃ u, u = (L.take k ++ List.replicate (n - k) ByteArray.empty)[k]'(by rw [hlen]; exact hkl) := ⟨_, rfl⟩
      rw [← hu] at hc2
      have hw1 : IntKind.i64.wrap ((k : Int) + 1) = ((k + 1 : Nat) : Int) := by rw [IntWalk.i64_in _ (by omega)]; omega
      clear hA hA2 hbel hlen hs hu
      go_wp2
      go_roundw
      case rel => exact ⟨k + 1, by first | rfl | go_num, by omega, HA2.out, HB.out.setCell (Nat.le_refl _) _⟩
      case measure => simp [intOf]; omega
end Go.Proofs.YtegdcmcfeaohhaaGreatDoor

namespace Go.Proofs.YtegdcmcfeaohhaaGreatDoor
open Go Go.RowKit

/-- an element of the companion matrix -/
def cmpE (L : List ByteArray) (i k : Nat) : ByteArray := if i = 0 then (L[k]?).getD ByteArray.empty else if k + 1 = i then ⟨#[49]⟩ else ⟨#[48]⟩
/-- a row of it -/
def cmpR (L : List ByteArray) (i : Nat) : List ByteArray := (List.range L.length).map (cmpE L i)
def cmpV (L : List ByteArray) (i : Nat) : List Value := (cmpR L i).map Value.string
theorem cmpR_len (L : List ByteArray) (i : Nat) : (cmpR L i).length = L.length := by simp [cmpR]
theorem cmpV_len (L : List ByteArray) (i : Nat) : (cmpV L i).length = L.length := by simp [cmpV, cmpR]
theorem cmpV_at {L : List ByteArray} {i k : Nat} (hk : k < L.length) : (cmpV L i)[k]? = some (.string (cmpE L i k)) := by
  unfold cmpV cmpR
  rw [List.getElem?_map, List.getElem?_map, List.getElem?_range hk]; rfl
theorem cmpR_zero (L : List ByteArray) : cmpR L 0 = L := by
  apply List.ext_getElem?
  intro k
  unfold cmpR
  rcases Nat.lt_or_ge k L.length with hk | hk
  · rw [List.getElem?_map, List.getElem?_range hk, List.getElem?_eq_getElem hk]
    simp [cmpE, hk]
  · rw [List.getElem?_eq_none (by simpa using hk), List.getElem?_eq_none hk]

set_option maxRecDepth 100000 in
set_option maxHeartbeats 2000000 in
theorem cmpElem_any (b : Nat) (s1 : Value) (a2 : Option Addr) (n2 c2 : Nat) (L : List ByteArray) (i k : Nat) (w : World) (hbx : Box2 w b s1 (.slice a2 n2 c2) 36) (h2 : TxL w (.slice a2 n2 c2) L) (hn : n2 = L.length) (hl : L.length ≤ 1000) (hi : i ≤ 1000) (hk : k < L.length) (R : Ending → World → Prop)
    (hR : R (.returned (.string (cmpE L i k))) w) :
    Calls Tryz.prog 93 #[.int .i64 (i : Int), .int .i64 (k : Int), .pointer (some ⟨b, 0, none⟩)] w R := by
  have HR := Lib.hid hR; clear hR
  by_cases h0 : i = 0
  · obtain ⟨t, ht⟩ : ∃ t, L[k]? = some t := ⟨_, List.getElem?_eq_getElem hk⟩
    have HF := Lib.hid HR.out
    rw [show cmpE L i k = t from by unfold cmpE; rw [if_pos h0, ht]; rfl] at HF
    obtain ⟨b9, off, rfl, hb, hcell⟩ := TxL.at h2 k t ht
    obtain ⟨hA0, hA1, _, _⟩ := hbx.cells
    have e0 : ((i : Int) == 0) = true := by rw [h0]; rfl
    have c0 : (0 : Int) ≤ (k : Int) := by omega
    have c1 : (k : Int) < (n2 : Int) := by omega
    clear hbx h2 hn hl hi hk h0 ht hb
    go_enter Tryz.func93, Tryz.ntmps93
    go_wp2
    first | go_ret | skip
    exact HF.out
  · have e0 : ((i : Int) == 0) = false := by simp; omega
    obtain ⟨z, hz⟩ : ∃ z, z = (i : Int) - 1 := ⟨_, rfl⟩
    have hw : IntKind.i64.wrap ((i : Int) - 1) = z := by rw [IntWalk.i64_in _ (by omega)]; exact hz.symm
    by_cases h1 : k + 1 = i
    · have HF := Lib.hid HR.out
      rw [show cmpE L i k = ⟨#[49]⟩ from by unfold cmpE; rw [if_neg h0, if_pos h1]] at HF
      have e1 : ((k : Int) == z) = true := by rw [hz, beq_iff_eq]; omega
      clear hbx h2 hn hl hi hk h0 h1 hz
      go_enter Tryz.func93, Tryz.ntmps93
      go_wp2
      first | go_ret | skip
      exact HF.out
    · have HF := Lib.hid HR.out
      rw [show cmpE L i k = ⟨#[48]⟩ from by unfold cmpE; rw [if_neg h0, if_neg h1]] at HF
      have e1 : ((k : Int) == z) = false := by rw [hz, beq_eq_false_iff_ne]; omega
      clear hbx h2 hn hl hi hk h0 h1 hz
      go_enter Tryz.func93, Tryz.ntmps93
      go_wp2
      first | go_ret | skip
      exact HF.out

theorem info_slC : (Tryz.prog.info? 22).map (fun i => (i.zero, i.size, i.bytes)) = some (some (.slice none 0 0), 1, 24) := by kernel_rfl
def slW (g c : Nat) : Value := .slice (some ⟨g, 0, none⟩) c c
def CblRel (w : World) (L : List ByteArray) (r c : Nat) (iv : Value) (wr : World) : Prop :=
  ∃ i : Nat, iv = .int .i64 (i : Int) ∧ i ≤ r ∧ VArr 22 wr w.heap.size ((List.range i).map (fun j => slW (w.heap.size + 1 + j) c) ++ List.replicate (r - i) (.slice none 0 0)) ∧
    (∀ j, j < i → VArr 9 wr (w.heap.size + 1 + j) (cmpV L j)) ∧ wr.heap.size = w.heap.size + 1 + i ∧ Below w.heap.size w wr
def CbkRel (w : World) (L : List ByteArray) (r c i : Nat) (kv : Value) (wr : World) : Prop :=
  ∃ k : Nat, kv = .int .i64 (k : Int) ∧ k ≤ c ∧ VArr 22 wr w.heap.size ((List.range (i + 1)).map (fun j => slW (w.heap.size + 1 + j) c) ++ List.replicate (r - (i + 1)) (.slice none 0 0)) ∧
    (∀ j, j < i → VArr 9 wr (w.heap.size + 1 + j) (cmpV L j)) ∧
    VArr 9 wr (w.heap.size + 1 + i) ((cmpV L i).take k ++ List.replicate (c - k) (.string ByteArray.empty)) ∧ wr.heap.size = w.heap.size + 2 + i ∧ Below w.heap.size w wr

theorem cbl_set {β : Type} (f : Nat → β) (z : β) {r i : Nat} (hi : i < r) : ((List.range i).map f ++ List.replicate (r - i) z).set i (f i) = (List.range (i + 1)).map f ++ List.replicate (r - (i + 1)) z := by
  have e : r - i = (r - (i + 1)) + 1 := by omega
  have hl : ((List.range i).map f).length = i := by simp
  rw [e, List.replicate_succ, List.set_append_right _ _ (by omega), hl, Nat.sub_self, List.set_cons_zero, List.range_succ, List.map_append]
  simp
theorem cbl_at {β : Type} (f : Nat → β) (z : β) {r i m : Nat} (hi : i < m) : ((List.range m).map f ++ List.replicate (r - m) z)[i]? = some (f i) := by
  rw [List.getElem?_append_left (by simpa using hi), List.getElem?_map, List.getElem?_range hi]; rfl
theorem crow_set {β : Type} (X : List β) (z x : β) {c k : Nat} (hX : X.length = c) (hx : X[k]? = some x) : (X.take k ++ List.replicate (c - k) z).set k x = X.take (k + 1) ++ List.replicate (c - (k + 1)) z := by
  have hk : k < c := by rw [← hX]; exact (List.getElem?_eq_some_iff.1 hx).1
  have e : c - k = (c - (k + 1)) + 1 := by omega
  have hl : (X.take k).length = k := by rw [List.length_take]; omega
  rw [e, List.replicate_succ, List.set_append_right _ _ (by omega), hl, Nat.sub_self, List.set_cons_zero, List.take_add_one, hx]
  simp
set_option maxRecDepth 100000 in
set_option maxHeartbeats 4000000 in
theorem tableC_any (b : Nat) (s1 : Value) (a2 : Option Addr) (n2 c2 : Nat) (L : List ByteArray) (r c : Nat) (w : World) (hbx : Box2 w b s1 (.slice a2 n2 c2) 36) (h : TxL w (.slice a2 n2 c2) L) (hn2 : n2 = L.length) (hL : L.length ≤ 1000) (hr : r ≤ 1000) (hc : c ≤ 1000) (hc0 : 0 < c) (hrc : c = L.length) (R : Ending → World → Prop)
    (hR : ∀ w', VArr 22 w' w.heap.size ((List.range r).map (fun j => slW (w.heap.size + 1 + j) c)) → (∀ j, j < r → VArr 9 w' (w.heap.size + 1 + j) (cmpV L j)) → Below w.heap.size w w' → R (.returned (slW w.heap.size r)) w') :
    Calls Tryz.prog 92 #[.int .i64 (r : Int), .int .i64 (c : Int), .func (.func 93) #[] #[.pointer (some ⟨b, 0, none⟩)]] w R := by
  have HR := Lib.hid hR; clear hR
  have HH := Lib.hid h
  have HBX := Lib.hid hbx
  have HN2 := Lib.hid hn2
  have HN := Lib.hid (And.intro hL (And.intro hr (And.intro hc hrc)))
  clear h hbx hn2 hrc
  go_enter Tryz.func92, Tryz.ntmps92
  go_wp2_with (at_make; go_must (refine wpList_makev _ rfl (.tmp 10) 45 rfl (.slice none 0 0) rfl 22 24 Tryz.underlying45 info_slC (by omega) .i64 _ r rfl (by omega) (by omega) ?_))
  intro W hA hbW hsW
  have HST : Hid (CblRel w L r c (.int .i64 0) W) := Lib.hid ⟨0, rfl, Nat.zero_le _, by simpa using hA, fun j hj => by omega, hsW, hbW⟩
  clear hA hbW hsW hL
  go_wp2
  go_loopw [14] (fun iv wr => CblRel w L r c iv wr) (fun iv _ => r - (intOf iv).toNat)
  case atStart => exact HST.out
  case round =>
    clear HST
    obtain ⟨i, rfl, hi, hA, hrows, hsz, hbel⟩ := hrel
    have HROWS := Lib.hid hrows
    have HB := Lib.hid hbel
    clear hrows
    by_cases hir : i = r
    · subst hir
      have hk0 : ¬ ((i : Int) < (i : Int)) := by omega
      rw [Nat.sub_self, List.replicate_zero, List.append_nil] at hA
      have HF := Lib.hid (HR.out wr hA HROWS.out HB.out)
      clear hA hbel hsz
      go_wp2
      first | go_ret | skip
      exact HF.out
    · have hil : i < r := by omega
      have hk0 : (0 : Int) ≤ (i : Int) := by omega
      have hk1 : (i : Int) < (r : Int) := by omega
      have hw1 : IntKind.i64.wrap ((i : Int) + 1) = ((i + 1 : Nat) : Int) := by rw [IntWalk.i64_in _ (by omega)]; omega
      obtain ⟨wo, hwo⟩ : ∃ wo, wo = wr := ⟨_, rfl⟩
      have HA := Lib.hid hA
      have HSZ := Lib.hid hsz
      have HI := Lib.hid hil
      clear hA hbel hsz hir hwo
      go_wp2_with (at_make; go_must (refine wpList_makev _ rfl (.tmp 19) 22 rfl (.string ByteArray.empty) rfl 9 16 Tryz.underlying22 info_str (by omega) .i64 _ c rfl (by omega) (by omega) ?_))
      intro W1 hA1 hbW1 hsW1
      rw [HSZ.out] at hA1
      have A1 := HA.out.later hbW1 HA.out.lt
      have hcl := A1.cell i (.slice none 0 0) (by
        rw [List.getElem?_append_right (by simp), List.length_map, List.length_range, Nat.sub_self, List.getElem?_replicate, if_pos (by omega)])
      have hfr := A1.frozen i
      obtain ⟨W2, hW2⟩ : ∃ W2, W2 = W1.setCell ⟨w.heap.size, i, none⟩ (slW (w.heap.size + 1 + i) c) := ⟨_, rfl⟩
      have A2 : VArr 22 W2 w.heap.size ((List.range (i + 1)).map (fun j => slW (w.heap.size + 1 + j) c) ++ List.replicate (r - (i + 1)) (.slice none 0 0)) := by
        rw [hW2, ← cbl_set (fun j => slW (w.heap.size + 1 + j) c) (.slice none 0 0) hil]; exact A1.set i _
      have B2 : ∀ j, j < i → VArr 9 W2 (w.heap.size + 1 + j) (cmpV L j) := fun j hj => by
        rw [hW2]; exact ((HROWS.out j hj).later hbW1 (HROWS.out j hj).lt).setOther (by omega) _ _
      have C2 : VArr 9 W2 (w.heap.size + 1 + i) (List.replicate c (.string ByteArray.empty)) := by rw [hW2]; exact hA1.setOther (by omega) _ _
      have S2 : W2.heap.size = w.heap.size + 2 + i := by rw [hW2, heap_size_set, hsW1, HSZ.out]; omega
      have D2 : Below w.heap.size w W2 := by rw [hW2]; exact (HB.out.trans (hbW1.mono HB.out.size)).setCell (Nat.le_refl _) _
      have HST2 : Hid (CbkRel w L r c i (.int .i64 0) W2) := Lib.hid ⟨0, rfl, Nat.zero_le _, A2, B2, by simpa using C2, S2, D2⟩
      have hcl2 : W2.cell? ⟨w.heap.size, i, none⟩ = some (.slice (some ⟨w.heap.size + 1 + i, 0, none⟩) c c) := A2.cell i _ (cbl_at _ _ (by omega))
      have HW2 := Lib.hid hW2
      rw [hW2] at hcl2
      unfold slW at hcl2
      rw [HSZ.out]
      clear hA1 hbW1 hsW1 A1 hW2 A2 B2 C2 S2 D2
      go_wp2
      go_loopw [27] (fun kv wr2 => CbkRel w L r c i kv wr2) (fun kv _ => c - (intOf kv).toNat)
      case atStart => rw [HW2.out] at HST2; exact HST2.out
      case round =>
        clear HST2 HW2 hcl hfr hcl2
        obtain ⟨k, rfl, hk, hA2, hrows2, hC2, hsz2, hbel2⟩ := hrel
        have HA2 := Lib.hid hA2
        have HR2 := Lib.hid hrows2
        have HC2 := Lib.hid hC2
        have HS2 := Lib.hid hsz2
        have HB2 := Lib.hid hbel2
        clear hrows2 hsz2
        have hcl := hA2.cell i _ (cbl_at _ _ (by omega))
        by_cases hkc : k = c
        · subst hkc
          have hkk : ¬ ((k : Int) < (k : Int)) := by omega
          clear hA2 hC2 hbel2 hcl
          go_wp2
          go_roundw
          case rel =>
            have h8 : (cmpV L i).length = k := (cmpV_len L i).trans HN.out.2.2.2.symm
            have h9 := HC2.out
            rw [Nat.sub_self, List.replicate_zero, List.append_nil, List.take_of_length_le (by omega)] at h9
            refine ⟨i + 1, by first | rfl | go_num, HI.out, HA2.out, fun j hj => ?_, by rw [HS2.out]; omega, HB2.out⟩
            by_cases hji : j = i
            · subst hji; exact h9
            · exact HR2.out j (by omega)
          case measure => simp [intOf]; have := HI.out; omega
        · have hkl : k < c := by omega
          have hlen : (cmpV L i).length = c := (cmpV_len L i).trans HN.out.2.2.2.symm
          obtain ⟨t, ht⟩ : ∃ t, t = cmpE L i k := ⟨_, rfl⟩
          have hrt := cmpV_at (L := L) (i := i) (k := k) (by have := HN.out.2.2.2; omega)
          rw [← ht] at hrt
          have hcell := hC2.cell k (.string ByteArray.empty) (by
            have hl : ((cmpV L i).take k).length = k := by rw [List.length_take]; omega
            rw [List.getElem?_append_right (by omega), hl, Nat.sub_self, List.getElem?_replicate, if_pos (by omega)])
          have hfz := hC2.frozen k
          have hw2 : IntKind.i64.wrap ((k : Int) + 1) = ((k + 1 : Nat) : Int) := by rw [IntWalk.i64_in _ (by omega)]; omega
          have q0 : (0 : Int) ≤ (k : Int) := by omega
          have q1 : (k : Int) < (c : Int) := by omega
          have HT := Lib.hid ht
          have HKL := Lib.hid hkl
          have HRT := Lib.hid (crow_set (cmpV L i) (.string ByteArray.empty) (.string t) hlen hrt)
          unfold slW at hcl
          clear hA2 hC2 hbel2 hlen ht hrt hkc
          go_wp2_with fail
          go_region_law (first
            | ((try go_simp); go_at_call 93; refine cmpElem_any b s1 a2 n2 c2 L i k _ (HBX.out.later (by repeat (first | exact HB2.out | refine bDrew ?_)) (lt_of_block HBX.out)) (TxL.later HH.out (by repeat (first | exact HB2.out | refine bDrew ?_)) (Nat.le_refl _)) HN2.out HN.out.1 (by have := HI.out; have := HN.out.2.1; omega) (by have := HKL.out; have := HN.out.2.2.2; omega) _ ?_; rw [← HT.out]; dsimp only))
          all_goals
            go_wp2
            go_roundw
            case rel =>
              refine ⟨k + 1, by first | rfl | go_num, HKL.out, ?_, ?_, ?_, ?_, ?_⟩
              · exact (HA2.out.drw).setOther (by omega) _ _
              · exact fun j hj => ((HR2.out j hj).drw).setOther (by omega) _ _
              · rw [← HRT.out]; exact (HC2.out.drw).set k _
              · first
                | (rw [heap_size_set]; exact HS2.out)
                | (show (World.setCell _ _ _).heap.size = _; rw [heap_size_set]; exact HS2.out)
              · first
                | exact (bDrew HB2.out).setCell (by show w.heap.size ≤ w.heap.size + 1 + i; omega) _
                | exact bDrew (HB2.out.setCell (by show w.heap.size ≤ w.heap.size + 1 + i; omega) _)
            case measure => simp [intOf]; have := HKL.out; omega

theorem cmp_own {L : List ByteArray} {r c : Nat} {w' : World} {g B : Nat} (hr : r ≤ 1000) (hc : c ≤ 1000) (hrc : c = L.length) (hB : B ≤ g)
    (h1 : VArr 22 w' g ((List.range r).map (fun j => slW (g + 1 + j) c))) (h2 : ∀ j, j < r → VArr 9 w' (g + 1 + j) (cmpV L j)) :
    OwSS w' B (slW g r) ((List.range r).map fun i => cmpR L i) := by
  refine ⟨(List.range r).map (fun j => slW (g + 1 + j) c), ?_, by simp, ?_, ?_⟩
  · exact h1.ownV (fun v hv => by obtain ⟨j, _, rfl⟩ := List.mem_map.1 hv; exact ⟨_, _, _, rfl⟩) B r (by simp) hB (by omega)
  · intro i x M hx hM
    have hi : i < r := by have := (List.getElem?_eq_some_iff.1 hx).1; simpa using this
    rw [List.getElem?_map, List.getElem?_range hi] at hx hM
    simp at hx hM
    subst hx; subst hM
    exact TArr.own (L := cmpR L i) (h2 i hi) B c (by rw [cmpR_len]; exact hrc) (by omega) (by omega)
  · intro i j x y q hij hx hy hq
    have hi : i < r := by have := (List.getElem?_eq_some_iff.1 hx).1; simpa using this
    have hj : j < r := by have := (List.getElem?_eq_some_iff.1 hy).1; simpa using this
    rw [List.getElem?_map, List.getElem?_range hi] at hx
    rw [List.getElem?_map, List.getElem?_range hj] at hy
    simp at hx hy
    subst hx; subst hy
    simp [slW, Value.ownBlock] at hq ⊢
    omega
end Go.Proofs.YtegdcmcfeaohhaaGreatDoor

namespace Go.Proofs.YtegdcmcfeaohhaaGreatDoor
open Go Go.RowKit

/-- whether there is a companion matrix -/
noncomputable def compB (L1 L2 : List ByteArray) : Bool := recB L1 L2 && decide (L2.length ≠ 0)
/-- it -/
noncomputable def compL (L1 L2 : List ByteArray) : List (List ByteArray) := if compB L1 L2 = true then (List.range L2.length).map (cmpR L2) else []
theorem compL_true {L1 L2 : List ByteArray} (h : compB L1 L2 = true) : compL L1 L2 = (List.range L2.length).map (cmpR L2) := by unfold compL; rw [if_pos h]
theorem compL_false {L1 L2 : List ByteArray} (h : compB L1 L2 = false) : compL L1 L2 = [] := by unfold compL; rw [if_neg (by rw [h]; decide)]
theorem recB_len {L1 L2 : List ByteArray} (h : recB L1 L2 = true) : L1.length = L2.length ∧ L2.length ≤ 8 := by
  unfold recB at h
  rw [Bool.and_eq_true, Bool.and_eq_true] at h
  have k1 := of_decide_eq_true h.1
  have k2 := of_decide_eq_true h.2.1
  exact ⟨k1, by omega⟩
theorem comp_small (L1 L2 : List ByteArray) : (compL L1 L2).length ≤ 20 ∧ (∀ M ∈ compL L1 L2, M.length ≤ 20) ∧ ((compL L1 L2).map List.length).sum ≤ 400 := by
  cases h : compB L1 L2
  · rw [compL_false h]; simp
  · rw [compL_true h]
    unfold compB at h
    rw [Bool.and_eq_true] at h
    have h8 := (recB_len h.1).2
    have h1 : ((List.range L2.length).map (cmpR L2)).length ≤ 20 := by simp; omega
    have h2 : ∀ M ∈ (List.range L2.length).map (cmpR L2), M.length ≤ 20 := by
      intro M hM
      obtain ⟨i, _, rfl⟩ := List.mem_map.1 hM
      rw [cmpR_len]; omega
    refine ⟨h1, h2, ?_⟩
    have key : ∀ (X : List (List ByteArray)), (∀ M ∈ X, M.length ≤ 20) → (X.map List.length).sum ≤ X.length * 20 := by
      intro X
      induction X with
      | nil => simp
      | cons A X ih =>
        intro hX
        have h3 := ih (fun M hM => hX M (List.mem_cons_of_mem _ hM))
        have h4 := hX A List.mem_cons_self
        simp only [List.map_cons, List.sum_cons, List.length_cons]
        omega
    have := key _ h2
    omega

set_option maxRecDepth 100000 in
set_option maxHeartbeats 4000000 in
theorem impl_comp (v : Value) (L1 L2 : List ByteArray) (w : World) (hE : Env w) (h : IsRec w v L1 L2) (hn1 : L1.length ≤ 1048576) (hn2 : L2.length ≤ 1048576) (R : Ending → World → Prop)
    (hR : ∀ v' w', OwSS w' w.heap.size v' (compL L1 L2) → Below w.heap.size w w' → R (.returned (.tuple #[v', .bool (compB L1 L2)])) w') :
    Calls Tryz.prog 44 #[v] w R := by
  have HR := Lib.hid hR; clear hR
  have HE := Lib.hid hE
  have hk := h
  obtain ⟨a1, n1, c1, a2, n2, c2, rfl, e1, e2, h1, h2⟩ := h.parts
  obtain ⟨L, hL⟩ : ∃ L, L = w.alloc (.cells #[.slice a1 n1 c1, .slice a2 n2 c2] 36) := ⟨_, rfl⟩
  have HBL : Hid (Below w.heap.size w L) := Lib.hid (by rw [hL]; exact (Below.refl _ _).alloc (Nat.le_refl _) _)
  have HBX : Hid (Box2 L w.heap.size (.slice a1 n1 c1) (.slice a2 n2 c2) 36) := Lib.hid (by rw [hL]; exact Box2.made _ _ _ _)
  have HL := Lib.hid hL
  have HV := Lib.hid (hk.later HBL.out (Nat.le_refl _))
  have H2 := Lib.hid (h2.later HBL.out (Nat.le_refl _))
  have HN := Lib.hid (And.intro hn1 hn2)
  have HN2 := Lib.hid e2
  have HFAIL : Hid (∀ w', compB L1 L2 = false → Below w.heap.size w w' → R (.returned (.tuple #[.slice none 0 0, .bool false])) w') := Lib.hid (fun w' hf hb => by
    have := HR.out (.slice none 0 0) w' (by rw [compL_false hf]; exact OwSS.nil _ _) hb
    rw [hf] at this; exact this)
  obtain ⟨hA0, hA1, _, _⟩ := HBX.out.cells
  clear hE h hk e1 e2 h1 h2 hn1 hn2 hL
  go_enter Tryz.func44, Tryz.ntmps44
  rw [HL.out] at hA0 hA1
  go_wp2_with fail
  rw [← HL.out]
  refine impl_validRec _ L1 L2 L (HE.out.later HBL.out (Nat.le_refl _)) HV.out HN.out.1 HN.out.2 _ ?_
  intro w1 hb1
  have HB1 := Lib.hid (HBL.out.trans (hb1.mono HBL.out.size))
  have HX1 := Lib.hid (HBX.out.later hb1 (lt_of_block HBX.out))
  have H21 := Lib.hid (TxL.later H2.out hb1 (Nat.le_refl _))
  clear hb1 hA0 hA1
  cases hrec : recB L1 L2 with
  | false =>
    have HF := Lib.hid (HFAIL.out w1 (by unfold compB; rw [hrec]; rfl) HB1.out)
    clear hrec
    dsimp only
    go_wp2
    first | go_ret | skip
    exact HF.out
  | true =>
  have HREC := Lib.hid hrec
  clear hrec
  by_cases h0 : n2 = 0
  · have hz : ((n2 : Int) == 0) = true := by rw [h0]; rfl
    have HF := Lib.hid (HFAIL.out w1 (by unfold compB; rw [decide_eq_false (by rw [← HN2.out]; simpa using h0), Bool.and_false]) HB1.out)
    clear h0
    dsimp only
    go_wp2
    first | go_ret | skip
    exact HF.out
  · have hz : ((n2 : Int) == 0) = false := by simp; omega
    have HC : Hid (compB L1 L2 = true) := Lib.hid (by unfold compB; rw [HREC.out, decide_eq_true (by rw [← HN2.out]; exact h0)]; rfl)
    have HA := Lib.hid (show n2 ≤ 8 ∧ 0 < n2 by have := (recB_len HREC.out).2; have := HN2.out; omega)
    clear h0
    dsimp only
    go_wp2_with fail
    refine tableC_any w.heap.size (.slice a1 n1 c1) a2 n2 c2 L2 n2 n2 w1 HX1.out H21.out HN2.out (by have := HA.out; have := HN2.out; omega) (by have := HA.out; omega) (by have := HA.out; omega) HA.out.2 HN2.out _ ?_
    intro w2 h1 h2 hb2
    have HF := Lib.hid (HR.out (slW w1.heap.size n2) w2 (by
      rw [compL_true HC.out, ← HN2.out]
      exact cmp_own (by have := HA.out; omega) (by have := HA.out; omega) HN2.out HB1.out.size h1 h2) (HB1.out.trans (hb2.mono HB1.out.size)))
    rw [HC.out] at HF
    clear h1 h2 hb2
    unfold slW at HF ⊢
    dsimp only
    go_wp2
    first | go_ret | skip
    exact HF.out
end Go.Proofs.YtegdcmcfeaohhaaGreatDoor

namespace Go.Proofs.YtegdcmcfeaohhaaGreatDoor
open Go Go.RowKit

theorem OwSS.mono {w : World} {B B' : Nat} {v : Value} {LL : List (List ByteArray)} (h : OwSS w B v LL) (hB : B' ≤ B) : OwSS w B' v LL := by
  obtain ⟨vs, p1, p2, p3, p4⟩ := h
  exact ⟨vs, p1.mono hB, p2, fun i x M hx hM => (p3 i x M hx hM).mono hB, p4⟩
theorem OwSS.one {w : World} {B : Nat} {a : Option Addr} {n c : Nat} {M : List ByteArray} (h : OwE 1 ET 9 w B (.slice a n c) M) (hB : B ≤ w.heap.size) :
    OwSS (w.alloc (.cells #[.slice a n c] 22)) B (.slice (some ⟨w.heap.size, 0, none⟩) 1 1) [M] := by
  refine ⟨[.slice a n c], .inr ⟨w.heap.size, 1, #[.slice a n c], rfl, hB, ?_, Nat.le_refl _, by simp only [maxLen]; omega, rfl, fun u hu => ?_, fun i y hi => ?_⟩, rfl, fun i x L hx hL => ?_, fun i j x y g hij hx hy => ?_⟩
  · show (w.heap.push _)[_]? = _
    simp
  · simp at hu; subst hu; rfl
  · obtain rfl : i = 0 := by have := (List.getElem?_eq_some_iff.1 hi).1; simpa using this
    cases hi
    exact ⟨_, _, _, rfl, rfl⟩
  · obtain rfl : i = 0 := by have := (List.getElem?_eq_some_iff.1 hx).1; simpa using this
    cases hx; cases hL
    exact h.later elemT ((Below.refl _ _).alloc (Nat.le_refl _) _) (Nat.le_refl _)
  · have h1 := (List.getElem?_eq_some_iff.1 hx).1
    have h2 := (List.getElem?_eq_some_iff.1 hy).1
    simp at h1 h2
    omega
theorem strs_ints : ∀ u ∈ (Value.string ByteArray.empty).cells.toList, notInt u = true := by intro u hu; simp [Value.cells] at hu; subst hu; rfl

def CompRel (w1 : World) (L : List ByteArray) (v i : Value) (wr : World) : Prop :=
  ∃ k : Nat, i = .int .i64 (k : Int) ∧ 1 ≤ k ∧ k ≤ L.length ∧ OwSS wr w1.heap.size v ((List.range k).map (cmpR L)) ∧ Below w1.heap.size w1 wr
def CompRow (wo : World) (L : List ByteArray) (i : Nat) (v kv : Value) (wr : World) : Prop :=
  ∃ k : Nat, kv = .int .i64 (k : Int) ∧ k ≤ L.length ∧ OwE 1 ET 9 wr wo.heap.size v ((cmpR L i).take k) ∧ Below wo.heap.size wo wr

set_option maxRecDepth 100000 in
set_option maxHeartbeats 8000000 in
theorem spec_comp (v : Value) (L1 L2 : List ByteArray) (w : World) (h : IsRec w v L1 L2) (hn1 : L1.length ≤ 1048576) (hs1 : ∀ s ∈ L1, s.size ≤ 1048576) (hn2 : L2.length ≤ 1048576) (hs2 : ∀ s ∈ L2, s.size ≤ 1048576) (R : Ending → World → Prop)
    (hR : ∀ v' w', OwSS w' w.heap.size v' (compL L1 L2) → Below w.heap.size w w' → R (.returned (.tuple #[v', .bool (compB L1 L2)])) w') :
    Calls Tryz.prog 43 #[v] w R := by
  have HR := Lib.hid hR; clear hR
  obtain ⟨a1, n1, c1, a2, n2, c2, rfl, e1, e2, h1, h2⟩ := h.parts
  obtain ⟨L, hL⟩ : ∃ L, L = w.alloc (.cells #[.slice a1 n1 c1, .slice a2 n2 c2] 36) := ⟨_, rfl⟩
  have HBL : Hid (Below w.heap.size w L) := Lib.hid (by rw [hL]; exact (Below.refl _ _).alloc (Nat.le_refl _) _)
  have HBX : Hid (Box2 L w.heap.size (.slice a1 n1 c1) (.slice a2 n2 c2) 36) := Lib.hid (by rw [hL]; exact Box2.made _ _ _ _)
  have HL := Lib.hid hL
  have H1 := Lib.hid (h1.later HBL.out (Nat.le_refl _))
  have H2 := Lib.hid (h2.later HBL.out (Nat.le_refl _))
  have HH := Lib.hid (And.intro hn1 (And.intro hs1 (And.intro hn2 hs2)))
  have HE := Lib.hid (And.intro e1 e2)
  have HFAIL : Hid (∀ w', compB L1 L2 = false → Below w.heap.size w w' → R (.returned (.tuple #[.slice none 0 0, .bool false])) w') := Lib.hid (fun w' hf hb => by
    have := HR.out (.slice none 0 0) w' (by rw [compL_false hf]; exact OwSS.nil _ _) hb
    rw [hf] at this; exact this)
  clear h e1 e2 h1 h2 hn1 hs1 hn2 hs2 hL
  go_enter Tryz.func43, Tryz.ntmps43
  go_wp2_with fail
  rw [← HL.out]
  refine l03is_any _ n1 n2 c1 c2 a1 a2 L1 L2 L HBX.out HE.out.1 HE.out.2 H1.out H2.out HH.out.1 HH.out.2.1 HH.out.2.2.1 HH.out.2.2.2 _ ?_
  intro w1 hb1
  have HB1 := Lib.hid (HBL.out.trans (hb1.mono HBL.out.size))
  have HX1 := Lib.hid (HBX.out.later hb1 (lt_of_block HBX.out))
  have H21 := Lib.hid (TxL.later H2.out hb1 (Nat.le_refl _))
  obtain ⟨hA0, hA1, _, _⟩ := HX1.out.cells
  clear hb1
  cases hrec : recB L1 L2 with
  | false =>
    have HF := Lib.hid (HFAIL.out w1 (by unfold compB; rw [hrec]; rfl) HB1.out)
    clear hrec
    dsimp only
    go_wp2
    first | go_ret | skip
    exact HF.out
  | true =>
  have HREC := Lib.hid hrec
  have HN12 : Hid (n1 = n2 ∧ n2 ≤ 8) := Lib.hid (by have := recB_len hrec; have := HE.out; omega)
  clear hrec
  by_cases h0 : n2 = 0
  · have hz : ((n1 : Int) == 0) = true := by rw [HN12.out.1, h0]; rfl
    have HF := Lib.hid (HFAIL.out w1 (by unfold compB; rw [decide_eq_false (by rw [← HE.out.2]; simpa using h0), Bool.and_false]) HB1.out)
    clear h0
    dsimp only
    go_wp2
    first | go_ret | skip
    exact HF.out
  have hz : ((n1 : Int) == 0) = false := by have := HN12.out.1; simp; omega
  have HC : Hid (compB L1 L2 = true) := Lib.hid (by unfold compB; rw [HREC.out, decide_eq_true (by rw [← HE.out.2]; exact h0)]; rfl)
  have HA := Lib.hid (show n2 ≤ 8 ∧ 0 < n2 ∧ n2 = L2.length by have := HN12.out; have := HE.out.2; omega)
  have HML : Hid (L2.length ≤ 100000000) := Lib.hid (by have := HA.out; omega)
  have hA2 := ((HX1.out.later ((Below.refl w1.heap.size w1).alloc (Nat.le_refl _) (.cells #[] 9)) (lt_of_block HX1.out)).cells).2.1
  have e8 : ¬ w.heap.size = w1.heap.size := by have := lt_of_block HX1.out; omega
  clear h0
  dsimp only
  go_wp2_with (at_builtin; go_must (refine wpList_spread0 elemT (by omega) rfl _ _ 22 rfl 9 16 (.string .empty) Tryz.underlying22 info_str rfl strs_ints (by omega) w1.heap.size w1.heap.size rfl (by show (w1.heap.push _)[_]? = _; simp) (Nat.le_refl _) (by simp) _ rfl _ (TxL.later H21.out ((Below.refl _ _).alloc (Nat.le_refl _) _) (Nat.le_refl _)) HML.out ?_))
  intro x4 m4 y4 w4 hv4 hm4 hb4
  have HB4 : Hid (Below w1.heap.size w1 w4) := Lib.hid (((Below.refl w1.heap.size w1).alloc (Nat.le_refl _) _).trans (hb4.mono (by simp)))
  have HST : Hid (CompRel w1 L2 (.slice (some ⟨w4.heap.size, 0, none⟩) 1 1) (.int .i64 1) (w4.alloc (.cells #[.slice x4 m4 y4] 22))) := Lib.hid ⟨1, rfl, Nat.le_refl _, by have := HA.out; omega, by
    have := OwSS.one hv4 HB4.out.size
    simpa [cmpR_zero] using this, HB4.out.alloc HB4.out.size _⟩
  clear hv4 hm4 hb4 hA0 hA1 hA2 e8 hz
  go_wp2
  go_loopw [4, 5] (fun v i wr => CompRel w1 L2 v i wr) (fun _ i _ => n2 - (intOf i).toNat)
  case atStart => exact HST.out
  case round =>
    clear HST
    obtain ⟨i, rfl, hi1, hi, hown, hbel⟩ := hrel
    have HB := Lib.hid hbel
    have HOWN := Lib.hid hown
    obtain ⟨a3, n3, c3, rfl, hn3⟩ := hown.shape
    have HN3 : Hid (n3 = i) := Lib.hid (by rw [hn3]; simp)
    have HXR := Lib.hid (HX1.out.later hbel (lt_of_block HX1.out))
    obtain ⟨hA0, hA1, _, _⟩ := HXR.out.cells
    clear hown hn3
    by_cases hir : i = n2
    · have c9 : ¬ ((i : Int) < (n2 : Int)) := by omega
      have hfin : OwSS wr w1.heap.size (.slice a3 n3 c3) (compL L1 L2) := by rw [compL_true HC.out, ← HA.out.2.2, ← hir]; exact HOWN.out
      have HF := Lib.hid (HR.out _ wr (hfin.mono HB1.out.size) (HB1.out.trans (HB.out.mono HB1.out.size)))
      rw [HC.out] at HF
      clear hbel hir hi hi1 hfin
      go_wp2
      first | go_ret | skip
      exact HF.out
    · have hil : i < n2 := by have := HA.out; omega
      have hk1 : (i : Int) < (n2 : Int) := by omega
      have w6 : IntKind.i64.wrap ((i : Int) + 1) = ((i + 1 : Nat) : Int) := by rw [IntWalk.i64_in _ (by have := HA.out; omega)]; omega
      obtain ⟨z, hz⟩ : ∃ z, z = (i : Int) - 1 := ⟨_, rfl⟩
      have hwz : IntKind.i64.wrap ((i : Int) - 1) = z := by rw [IntWalk.i64_in _ (by have := HA.out; omega)]; exact hz.symm
      have HZ := Lib.hid hz
      have HIL := Lib.hid (show 1 ≤ i ∧ i < n2 by omega)
      obtain ⟨wo, hwo⟩ : ∃ wo, wo = wr := ⟨_, rfl⟩
      have HWO := Lib.hid hwo
      have HST : Hid (CompRow wr L2 i (.slice (some ⟨wr.heap.size, 0, none⟩) 0 0) (.int .i64 0) (wr.alloc (.cells #[] 9))) := Lib.hid ⟨0, rfl, Nat.zero_le _, OwE.lit _ _ _ (Nat.le_refl _), (Below.refl _ _).alloc (Nat.le_refl _) _⟩
      clear hbel hir hil hi hi1 hz hwo
      go_wp2
      rw [← HWO.out] at HST HB HOWN HXR ⊢
      clear hA0 hA1 HWO
      go_loopw [6, 7] (fun v kv wr2 => CompRow wo L2 i v kv wr2) (fun _ kv _ => n2 - (intOf kv).toNat)
      case atStart => exact HST.out
      case round =>
        clear HST
        obtain ⟨k, rfl, hk, hrow, hbel2⟩ := hrel
        have HB2 := Lib.hid hbel2
        have HROW := Lib.hid hrow
        obtain ⟨a5, n5, c5, rfl, hn5⟩ := hrow.shape
        have HX2 := Lib.hid (HXR.out.later hbel2 (lt_of_block HXR.out))
        obtain ⟨hA0, hA1, _, _⟩ := HX2.out.cells
        clear hrow hn5
        by_cases hkn : k = n2
        · have c9 : ¬ ((k : Int) < (n2 : Int)) := by omega
          have HFULL : Hid (OwE 1 ET 9 wr wo.heap.size (.slice a5 n5 c5) (cmpR L2 i)) := Lib.hid (by
            have := HROW.out
            rw [List.take_of_length_le (by rw [cmpR_len]; have := HA.out; omega)] at this; exact this)
          obtain ⟨vs, p1, p2, p3, p4⟩ := HOWN.out
          have HVL : Hid (vs.length = i ∧ vs.length ≤ 100000000) := Lib.hid (by rw [p2]; simp; have := HIL.out; have := HA.out; omega)
          have HOLD : Hid (∀ (j : Nat) (x : Value) (M : List ByteArray), vs[j]? = some x → ((List.range i).map (cmpR L2))[j]? = some M → OwE 1 ET 9 wo w1.heap.size x M) := Lib.hid p3
          have HV3 := Lib.hid (p1.later elemV HB2.out (Nat.le_refl _))
          have HP4 := Lib.hid p4
          have HBW4 := Lib.hid (HB.out.trans (HB2.out.mono HB.out.size))
          have HB4s := HBW4.out.size
          clear p1 p2 p3 p4 hk hbel2 hkn
          go_wp2_with (at_builtin; go_must (refine wpList_pushE elemV (by omega) rfl _ _ 45 rfl 22 24 (.slice none 0 0) Tryz.underlying45 info_slC rfl (by intro u hu; simp [Value.cells] at hu; subst hu; rfl) (by omega) w1.heap.size vs (OwE.later elemV HV3.out ((Below.refl _ _).alloc (Nat.le_refl _) _) (Nat.le_refl _)) HVL.out.2 (by simp; omega) wr.heap.size [.slice a5 n5 c5] (.slice a5 n5 c5) rfl ⟨_, _, _, rfl, rfl⟩ (cells_alloc _ #[.slice a5 n5 c5] _ _ rfl) ?_))
          intro x5 m5 y5 w5 hv5 hm5 hgr hb5
          have HOW5 : Hid (OwSS w5 w1.heap.size (.slice x5 m5 y5) ((List.range (i + 1)).map (cmpR L2))) := Lib.hid (by
            obtain ⟨g1, g2, g3, g4, g5⟩ := hgr
            have hbo : ButO (Value.slice a3 n3 c3).ownBlock (wr.alloc (.cells #[.slice a5 n5 c5] 22)) w5 := ⟨g1, g2, g3, g4, fun k hk ho => g5 k hk (fun e => ho e.symm)⟩
            have hal : Below wr.heap.size wr (wr.alloc (.cells #[.slice a5 n5 c5] 22)) := (Below.refl _ _).alloc (Nat.le_refl _) _
            have hV := HV3.out.later elemV hal (Nat.le_refl _)
            have keep : ∀ (B : Nat) (x : Value) (M : List ByteArray), OwE 1 ET 9 wr B x M → OwE 1 ET 9 w5 B x M := fun B x M hx =>
              (hx.later elemT hal (Nat.le_refl _)).butO hbo (fun g hg e => hV.ne_own (hx.later elemT hal (Nat.le_refl _)) (by decide) g e hg)
            refine ⟨vs ++ [.slice a5 n5 c5], hv5, by rw [List.length_append, HVL.out.1]; simp, ?_, ?_⟩
            · intro j x M hx hM
              rcases get_snoc hx with ⟨q1, q2⟩ | ⟨rfl, rfl⟩
              · have hj : j < i := by have := HVL.out.1; omega
                have hM2 : ((List.range i).map (cmpR L2))[j]? = some M := by
                  rw [List.getElem?_map, List.getElem?_range (by omega)] at hM
                  rw [List.getElem?_map, List.getElem?_range hj]; exact hM
                exact keep _ x M ((HOLD.out j x M q2 hM2).later elemT HB2.out (Nat.le_refl _))
              · rw [HVL.out.1, List.getElem?_map, List.getElem?_range (by omega)] at hM
                simp at hM
                subst hM
                exact (keep _ _ _ HFULL.out).mono HB.out.size
            · intro j k x y g hjk hx hy hg
              rcases get_snoc hx with ⟨q1, q2⟩ | ⟨q1, rfl⟩ <;> rcases get_snoc hy with ⟨r1, r2⟩ | ⟨r1, rfl⟩
              · exact HP4.out j k x y g hjk q2 r2 hg
              · intro e
                have hj : j < i := by have := HVL.out.1; omega
                have h1 := (HOLD.out j x _ q2 (by rw [List.getElem?_map, List.getElem?_range hj]; rfl)).own_lt g hg
                have h2 := HFULL.out.base g e
                omega
              · intro e
                have hk : k < i := by have := HVL.out.1; omega
                have h1 := (HOLD.out k y _ r2 (by rw [List.getElem?_map, List.getElem?_range hk]; rfl)).own_lt g e
                have h2 := HFULL.out.base g hg
                omega
              · omega)
          have HB5 : Hid (Below w1.heap.size w1 w5) := Lib.hid ((HBW4.out.alloc HBW4.out.size _).trans hb5)
          clear hv5 hm5 hgr hb5
          go_wp2
          go_roundw
          case rel => exact ⟨i + 1, by first | rfl | go_num, by omega, by have := HIL.out; have := HA.out; omega, HOW5.out, HB5.out⟩
          case measure => simp [intOf]; have := HIL.out; omega
        · have hkl : k < n2 := by have := HA.out; omega
          have hk1 : (k : Int) < (n2 : Int) := by omega
          have w7 : IntKind.i64.wrap ((k : Int) + 1) = ((k + 1 : Nat) : Int) := by rw [IntWalk.i64_in _ (by have := HA.out; omega)]; omega
          have HKL := Lib.hid hkl
          obtain ⟨t, ht⟩ : ∃ t, t = cmpE L2 i k := ⟨_, rfl⟩
          have HM2 : Hid ((cmpR L2 i).take (k + 1) = (cmpR L2 i).take k ++ [t]) := Lib.hid (by
            rw [List.take_add_one]
            unfold cmpR
            rw [List.getElem?_map, List.getElem?_range (by have := HA.out; omega), ht]; rfl)
          have HLK : Hid (((cmpR L2 i).take k).length ≤ 100000000) := Lib.hid (by rw [List.length_take, cmpR_len]; have := HA.out; omega)
          by_cases hke : k + 1 = i
          · have ec : ((k : Int) == z) = true := by rw [HZ.out, beq_iff_eq]; omega
            obtain rfl : t = ⟨#[49]⟩ := by rw [ht]; unfold cmpE; rw [if_neg (by omega), if_pos hke]
            clear hk hbel2 hkn hkl hke ht
            go_wp2_with (at_builtin; go_must (refine wpList_pushE elemT (by omega) rfl _ _ 22 rfl 9 16 (.string ByteArray.empty) Tryz.underlying22 info_str rfl strs_ints (by omega) wo.heap.size _ (HROW.out.alloc elemT _) HLK.out (by have := HB2.out.size; simp; omega) wr.heap.size [.string ⟨#[49]⟩] ⟨#[49]⟩ rfl rfl (cells_alloc _ #[.string ⟨#[49]⟩] _ _ rfl) ?_))
            intro ao n9 c9 w9 hown9 hn9 hgr hb9
            have HOW9 : Hid (OwE 1 ET 9 w9 wo.heap.size (.slice ao n9 c9) ((cmpR L2 i).take (k + 1))) := Lib.hid (by rw [HM2.out]; exact hown9)
            have HB9 : Hid (Below wo.heap.size wo w9) := Lib.hid ((HB2.out.alloc HB2.out.size _).trans hb9)
            clear hown9 hn9 hgr hb9
            go_wp2
            go_roundw
            case rel => exact ⟨k + 1, by first | rfl | go_num, by have := HKL.out; have := HA.out; omega, HOW9.out, HB9.out⟩
            case measure => simp [intOf]; have := HKL.out; omega
          · have ec : ((k : Int) == z) = false := by rw [HZ.out, beq_eq_false_iff_ne]; omega
            obtain rfl : t = ⟨#[48]⟩ := by rw [ht]; unfold cmpE; rw [if_neg (by have := HIL.out; omega), if_neg hke]
            clear hk hbel2 hkn hkl hke ht
            go_wp2_with (at_builtin; go_must (refine wpList_pushE elemT (by omega) rfl _ _ 22 rfl 9 16 (.string ByteArray.empty) Tryz.underlying22 info_str rfl strs_ints (by omega) wo.heap.size _ (HROW.out.alloc elemT _) HLK.out (by have := HB2.out.size; simp; omega) wr.heap.size [.string ⟨#[48]⟩] ⟨#[48]⟩ rfl rfl (cells_alloc _ #[.string ⟨#[48]⟩] _ _ rfl) ?_))
            intro ao n9 c9 w9 hown9 hn9 hgr hb9
            have HOW9 : Hid (OwE 1 ET 9 w9 wo.heap.size (.slice ao n9 c9) ((cmpR L2 i).take (k + 1))) := Lib.hid (by rw [HM2.out]; exact hown9)
            have HB9 : Hid (Below wo.heap.size wo w9) := Lib.hid ((HB2.out.alloc HB2.out.size _).trans hb9)
            clear hown9 hn9 hgr hb9
            go_wp2
            go_roundw
            case rel => exact ⟨k + 1, by first | rfl | go_num, by have := HKL.out; have := HA.out; omega, HOW9.out, HB9.out⟩
            case measure => simp [intOf]; have := HKL.out; omega
end Go.Proofs.YtegdcmcfeaohhaaGreatDoor

namespace Go.Proofs.YtegdcmcfeaohhaaGreatDoor
open Go Go.RowKit

theorem OwR.later0 {w w' : World} {B : Nat} {v : Value} {L1 L2 : List ByteArray} (h : OwR w B v L1 L2) (hb : Below w.heap.size w w') : OwR w' B v L1 L2 := by
  obtain ⟨s1, s2, M, rfl, h1, h2, h3, h4, h5⟩ := h
  exact ⟨s1, s2, M, rfl, h1.later elemT hb (Nat.le_refl _), h2.later elemT hb (Nat.le_refl _), h3, Nat.le_trans h4 hb.size, h5⟩

set_option maxRecDepth 100000 in
set_option maxHeartbeats 2000000 in
theorem toR_own (v : Value) (L1 L2 : List ByteArray) (w : World) (h : IsRec w v L1 L2) (hn1 : L1.length ≤ 1048576) (hn2 : L2.length ≤ 1048576) (R : Ending → World → Prop)
    (hR : ∀ v' w', OwR w' w.heap.size v' L1 L2 → (∀ g, rcBlock v' g → g < w'.heap.size) → Below w.heap.size w w' → R (.returned v') w') :
    Calls Tryz.prog 35 #[v] w R := by
  have HR := Lib.hid hR; clear hR
  obtain ⟨s1, s2, rfl, h1, h2⟩ := h
  obtain ⟨a1, n1, c1, rfl, h1'⟩ := h1.op
  obtain ⟨a2, n2, c2, rfl, h2'⟩ := h2.op
  obtain ⟨L, hL⟩ : ∃ L, L = ((w.alloc (.cells #[.slice a1 n1 c1, .slice a2 n2 c2] 33)).alloc (.cells #[.slice none 0 0, .slice none 0 0] 36)).alloc (.cells #[.slice none 0 0, .slice none 0 0] 36) := ⟨_, rfl⟩
  have HLS : Hid (L.heap.size = w.heap.size + 3) := Lib.hid (by rw [hL]; simp)
  have B0 : Hid (Box2 L w.heap.size (.slice a1 n1 c1) (.slice a2 n2 c2) 33) := Lib.hid (by
    rw [hL]; exact ((Box2.made w _ _ _).later (B := w.heap.size + 1) ((Below.refl _ _).alloc (by simp) _) (by omega)).later (B := w.heap.size + 2) ((Below.refl _ _).alloc (by simp) _) (by omega))
  have B1 : Hid (Box2 L (w.heap.size + 1) (.slice none 0 0) (.slice none 0 0) 36) := Lib.hid (by
    have := (Box2.made (w.alloc (.cells #[.slice a1 n1 c1, .slice a2 n2 c2] 33)) (.slice none 0 0) (.slice none 0 0) 36).later (B := w.heap.size + 2) ((Below.refl _ _).alloc (by simp) (.cells #[.slice none 0 0, .slice none 0 0] 36)) (by simp)
    rw [World.size_alloc, ← hL] at this; exact this)
  have B2 : Hid (Box2 L (w.heap.size + 2) (.slice none 0 0) (.slice none 0 0) 36) := Lib.hid (by
    have := Box2.made ((w.alloc (.cells #[.slice a1 n1 c1, .slice a2 n2 c2] 33)).alloc (.cells #[.slice none 0 0, .slice none 0 0] 36)) (.slice none 0 0) (.slice none 0 0) 36
    rw [World.size_alloc, World.size_alloc, ← hL] at this; exact this)
  have HEXT : Hid (Below w.heap.size w L) := Lib.hid (by rw [hL]; exact (((Below.refl w.heap.size w).alloc (Nat.le_refl _) _).alloc (by simp) _).alloc (by simp; omega) _)
  have H1 := Lib.hid (h1'.later HEXT.out (Nat.le_refl _))
  have H2 := Lib.hid (h2'.later HEXT.out (Nat.le_refl _))
  have HN := Lib.hid (And.intro hn1 hn2)
  have HL := Lib.hid hL
  obtain ⟨hA0, hA1, _, _⟩ := B0.out.cells
  clear h1 h2 h1' h2' hn1 hn2 hL
  go_enter Tryz.func35, Tryz.ntmps35
  rw [HL.out] at hA0 hA1
  go_wp2_with fail
  rw [← HL.out] at hA0 hA1 ⊢
  refine toT_own _ L1 L H1.out HN.out.1 _ ?_
  intro v1 w1 hv1 hb1
  obtain ⟨x1, m1, y1, rfl, ex1⟩ := hv1.shape
  clear ex1
  have HOL := Lib.hid hv1.own_lt
  have B0a := Lib.hid (B0.out.later hb1 (lt_of_block B0.out))
  have B1a := Lib.hid (B1.out.later hb1 (lt_of_block B1.out))
  have B2a := Lib.hid (B2.out.later hb1 (lt_of_block B2.out))
  obtain ⟨hC0, hC1, hF0, hF1⟩ := B2a.out.cells
  obtain ⟨W, hW⟩ : ∃ W, W = w1.setCell ⟨w.heap.size + 2, 0, none⟩ (.slice x1 m1 y1) := ⟨_, rfl⟩
  have HW := Lib.hid hW
  have HV1 := Lib.hid (hv1.setOld elemT (b := w.heap.size + 2) (by rw [HLS.out]; omega) (B2a.out.noInt rfl rfl) 0 (.slice x1 m1 y1))
  rw [← hW] at HV1
  have H2a := Lib.hid ((H2.out.later hb1 (Nat.le_refl _)).setAt hC0 (no_str_sl _ _ _) (.slice x1 m1 y1))
  rw [← hW] at H2a
  have HBW : Hid (Below w.heap.size w W) := Lib.hid (by rw [hW]; exact (HEXT.out.trans (hb1.mono HEXT.out.size)).setCell (by simp) _)
  have hlt : w.heap.size + 2 < w1.heap.size := by have := HLS.out; have := hb1.size; omega
  have HWS : Hid (W.heap.size = w1.heap.size) := Lib.hid (by rw [hW]; simp)
  have B2b : Hid (Box2 W (w.heap.size + 2) (.slice x1 m1 y1) (.slice none 0 0) 36) := Lib.hid (by
    rw [hW]
    have := B2a.out
    unfold Box2 at this ⊢
    simp [World.setCell, Array.getElem?_modify, this])
  have B0b : Hid (Box2 W w.heap.size (.slice a1 n1 c1) (.slice a2 n2 c2) 33) := Lib.hid (by
    have := B0a.out
    unfold Box2 at this ⊢
    rw [hW, Below.heap_setCell _ _ _ _ (by simp)]; exact this)
  have B1b : Hid (Box2 W (w.heap.size + 1) (.slice none 0 0) (.slice none 0 0) 36) := Lib.hid (by
    have := B1a.out
    unfold Box2 at this ⊢
    rw [hW, Below.heap_setCell _ _ _ _ (by simp)]; exact this)
  have e1 : ¬ w.heap.size = w.heap.size + 2 := by omega
  have HLT := Lib.hid hlt
  obtain ⟨hD0, hD1, _, _⟩ := B0a.out.cells
  have HZ1 : Hid (w.heap.size ≤ L.heap.size ∧ L.heap.size ≤ W.heap.size) := Lib.hid ⟨HEXT.out.size, by rw [HWS.out]; exact hb1.size⟩
  clear hA0 hA1 hv1 hb1 hW hlt
  dsimp only
  go_wp2_with fail
  rw [← HW.out]
  clear hC0 hC1 hF0 hF1 hD0 hD1
  refine toT_own _ L2 W H2a.out HN.out.2 _ ?_
  intro v2 w2 hv2 hb2
  obtain ⟨x2, m2, y2, rfl, ex2⟩ := hv2.shape
  clear ex2
  have HOL2 := Lib.hid hv2.own_lt
  have B1c := Lib.hid (B1b.out.later hb2 (lt_of_block B1b.out))
  have B2c := Lib.hid (B2b.out.later hb2 (lt_of_block B2b.out))
  have HV1c := Lib.hid (HV1.out.later elemT hb2 (Nat.le_refl _))
  have HV2 := Lib.hid hv2
  have HZ2 : Hid (W.heap.size ≤ w2.heap.size) := Lib.hid hb2.size
  have HB2 := Lib.hid (HBW.out.trans (hb2.mono HBW.out.size))
  obtain ⟨hC0, hC1, hF0, hF1⟩ := B2c.out.cells
  obtain ⟨hR0, hR1, hG0, hG1⟩ := B1c.out.cells
  have e2 : ¬ w.heap.size + 1 = w.heap.size + 2 := by omega
  have e3 : ¬ w.heap.size + 2 = w.heap.size + 1 := by omega
  clear hv2 hb2
  dsimp only
  go_wp2
  refine bodyPost_ret_at (by simp [results, Tryz.results35, go_sem, hC0, hC1, hF0, hF1, hR0, hR1, hG0, hG1] <;> rfl) rfl ?_
  have n2 := B2c.out.noInt rfl rfl
  have n1 := B1c.out.noInt rfl rfl
  have T1 := HV1c.out.setOld elemT (b := w.heap.size + 2) (by rw [HLS.out]; omega) n2 1 (.slice x2 m2 y2)
  have T2 := HV2.out.setOld elemT (b := w.heap.size + 2) (by have := HZ1.out.2; have := HLS.out; omega) n2 1 (.slice x2 m2 y2)
  have nn : ∀ (wz : World) (o : Nat) (u : Value), NoInt wz (w.heap.size + 1) → notInt u = true → ∀ b, NoInt (wz.setCell ⟨b, o, none⟩ u) (w.heap.size + 1) := by
    intro wz o u hz hu b o' u' h'
    rw [cell?_set] at h'
    split at h'
    · rw [Option.map_eq_some_iff] at h'
      obtain ⟨_, _, rfl⟩ := h'
      exact hu
    · exact hz _ _ h'
  have k0 := nn _ 1 (.slice x2 m2 y2) n1 rfl (w.heap.size + 2)
  have T3 := T1.setOld elemT (b := w.heap.size + 1) (by rw [HLS.out]; omega) k0 0 (.slice x1 m1 y1)
  have T4 := T2.setOld elemT (b := w.heap.size + 1) (by have := HZ1.out.2; have := HLS.out; omega) k0 0 (.slice x1 m1 y1)
  have k1 := nn _ 0 (.slice x1 m1 y1) k0 rfl (w.heap.size + 1)
  have T5 := T3.setOld elemT (b := w.heap.size + 1) (by rw [HLS.out]; omega) k1 1 (.slice x2 m2 y2)
  have T6 := T4.setOld elemT (b := w.heap.size + 1) (by have := HZ1.out.2; have := HLS.out; omega) k1 1 (.slice x2 m2 y2)
  refine HR.out _ _ ⟨_, _, W.heap.size, rfl, T5.mono HZ1.out.1, T6, Nat.le_trans HZ1.out.1 HZ1.out.2, ?_, fun g hg => by have := HOL.out g hg; rw [HWS.out]; exact this⟩ ?_ (((HB2.out.setCell (by simp <;> omega) _).setCell (by simp <;> omega) _).setCell (by simp <;> omega) _)
  · simp; exact HZ2.out
  · intro g hg
    simp
    rcases hg with hg | hg
    · have := HOL.out g hg; have h8 := HZ2.out; have h9 := HWS.out; omega
    · exact HOL2.out g hg
end Go.Proofs.YtegdcmcfeaohhaaGreatDoor

namespace Go.Proofs.YtegdcmcfeaohhaaGreatDoor
open Go Go.RowKit

set_option maxRecDepth 100000 in
set_option maxHeartbeats 8000000 in
theorem law_companionOf (v : Value) (L1 L2 : List ByteArray) (w : World) (hE : Env w) (h : IsRec w v L1 L2) (hn1 : L1.length ≤ maxLen) (hs1 : ∀ s ∈ L1, s.size ≤ maxLen) (hn2 : L2.length ≤ maxLen) (hs2 : ∀ s ∈ L2, s.size ≤ maxLen) (R : Ending → World → Prop)
    (hR : ∀ w', Below w.heap.size w w' → R (.returned (.bool true)) w') :
    Calls Tryz.prog 13 #[v] w R := by
  have HR := Lib.hid hR; clear hR
  have HE := Lib.hid hE; clear hE
  have h9 := h
  obtain ⟨s1, s2, rfl, h1, h2⟩ := h9
  obtain ⟨a1, n1, c1, rfl, h1'⟩ := h1.op
  obtain ⟨a2, n2, c2, rfl, h2'⟩ := h2.op
  obtain ⟨L, hL⟩ : ∃ L, L = w.alloc (.cells #[.slice a1 n1 c1, .slice a2 n2 c2] 33) := ⟨_, rfl⟩
  have HBL : Hid (Below w.heap.size w L) := Lib.hid (by rw [hL]; exact (Below.refl _ _).alloc (Nat.le_refl _) _)
  have HBX : Hid (Box2 L w.heap.size (.slice a1 n1 c1) (.slice a2 n2 c2) 33) := Lib.hid (by rw [hL]; exact Box2.made _ _ _ _)
  have HL := Lib.hid hL
  have HV := Lib.hid (h.later HBL.out (Nat.le_refl _))
  have HN := Lib.hid (And.intro hn1 (And.intro hs1 (And.intro hn2 hs2)))
  have HSM := Lib.hid (comp_small L1 L2)
  obtain ⟨bq, hbq⟩ : ∃ bq, bq = (compB L1 L2) := ⟨_, rfl⟩
  have HBQ := Lib.hid hbq
  have cbq : (bq != bq) = false := by cases bq <;> rfl
  obtain ⟨hA0, hA1, _, _⟩ := HBX.out.cells
  clear h h1 h2 h1' h2' hn1 hs1 hn2 hs2 hL hbq
  go_enter Tryz.func13, Tryz.ntmps13
  rw [HL.out] at hA0 hA1
  go_wp2_with fail
  rw [← HL.out]
  refine szR_any _ L1 L2 L 1048576 HV.out HN.out.1 HN.out.2.1 HN.out.2.2.1 HN.out.2.2.2 (by omega) _ ?_ ?_
  rotate_left
  · intro w1 _ hb1
    have HF := Lib.hid (HR.out w1 (HBL.out.trans (hb1.mono HBL.out.size)))
    clear hb1 hA0 hA1
    dsimp only
    go_wp2
    first | go_ret | skip
    exact HF.out
  intro w1 ht hb1
  obtain ⟨p1, p2⟩ := sizes_each (L := L1) (by omega)
  obtain ⟨p3, p4⟩ := sizes_each (L := L2) (by omega)
  have HP := Lib.hid (And.intro p1 (And.intro p2 (And.intro p3 p4)))
  obtain ⟨m, hm⟩ : ∃ m : Nat, m = 1048576 - (tot L1 + tot L2) := ⟨_, rfl⟩
  rw [← hm]
  have hm0 : ¬ ((m : Int) < 0) := by omega
  have HB1 : Hid (Below L.heap.size L w1) := Lib.hid hb1
  have HX1 := Lib.hid (HBX.out.later hb1 (lt_of_block HBX.out))
  clear hm ht p1 p2 p3 p4 hb1 hA0 hA1
  obtain ⟨hA0, hA1, _, _⟩ := HX1.out.cells
  dsimp only
  go_wp2_with fail
  refine toR_any _ L1 L2 w1 (HV.out.later HB1.out (Nat.le_refl _)) HP.out.1 HP.out.2.2.1 _ ?_
  intro v2 w2 hv2 hb2
  have SC := Lib.hid hv2
  obtain ⟨x2, m2, y2, z2, q2, r2, rfl, t1, t2, t3, t4⟩ := hv2.parts
  clear t1 t2 t3 t4
  have HB2 := Lib.hid (HB1.out.trans (hb2.mono HB1.out.size))
  have HX2 := Lib.hid (HX1.out.later hb2 (lt_of_block HX1.out))
  clear HB1 HX1 hb2 hv2 hA0 hA1
  obtain ⟨hA0, hA1, _, _⟩ := HX2.out.cells
  dsimp only
  go_wp2_with fail
  refine spec_comp _ L1 L2 w2 SC.out HP.out.1 HP.out.2.1 HP.out.2.2.1 HP.out.2.2.2 _ ?_
  intro v3 w3 hv3 hb3
  rw [← HBQ.out]
  obtain ⟨x3, m3, y3, rfl, esh⟩ := hv3.shape
  have W0 := Lib.hid hv3
  have W0Z : Hid (w2.heap.size ≤ w3.heap.size) := Lib.hid hb3.size
  have HB3 := Lib.hid (HB2.out.trans (hb3.mono HB2.out.size))
  have HX3 := Lib.hid (HX2.out.later hb3 (lt_of_block HX2.out))
  clear HB2 HX2 hb3 hv3 esh hA0 hA1 SC
  obtain ⟨hA0, hA1, _, _⟩ := HX3.out.cells
  dsimp only
  go_wp2_with fail
  refine toR_own _ L1 L2 w3 (HV.out.later HB3.out (Nat.le_refl _)) HP.out.1 HP.out.2.2.1 _ ?_
  intro v4 w40 hv4 hlt4 hb4
  have ho4 := hv4
  obtain ⟨t1, t2, M, rfl, o1, o2, oM1, oM2, oM3⟩ := ho4
  obtain ⟨xa, ma, ya, rfl, exa⟩ := o1.shape
  obtain ⟨xb, mb, yb, rfl, exb⟩ := o2.shape
  clear o1 o2 oM1 oM2 oM3 exa exb
  obtain ⟨w4, hW⟩ : ∃ W, W = w40.alloc (.cells #[.slice xa ma ya, .slice xb mb yb] 36) := ⟨_, rfl⟩
  have hbW : Below w40.heap.size w40 w4 := by rw [hW]; exact (Below.refl _ _).alloc (Nat.le_refl _) _
  have XB : Hid (Box2 w4 w40.heap.size (.slice xa ma ya) (.slice xb mb yb) 36) := Lib.hid (by rw [hW]; exact Box2.made _ _ _ _)
  have X0 := Lib.hid (OwR.later0 hv4 hbW)
  have X0U : Hid (∀ g, rcBlock (.agg #[.slice xa ma ya, .slice xb mb yb]) g → g < w40.heap.size) := Lib.hid hlt4
  have hbb : Below w3.heap.size w3 w4 := hb4.trans (hbW.mono hb4.size)
  have X0Z : Hid (w3.heap.size ≤ w4.heap.size) := Lib.hid hbb.size
  have X0E : Hid (w40.heap.size ≤ w4.heap.size) := Lib.hid hbW.size
  have WX : Hid (w3.heap.size ≤ w3.heap.size ∧ w.heap.size < w3.heap.size) := Lib.hid ⟨Nat.le_refl _, lt_of_block HX3.out⟩
  have LX : Hid (L.heap.size ≤ w3.heap.size) := Lib.hid HB3.out.size
  have HW := Lib.hid hW
  have W0V : Hid (∀ w', Below w3.heap.size w4 w' → OwSS w' w2.heap.size (.slice x3 m3 y3) (compL L1 L2)) := Lib.hid (fun w' hb => W0.out.under (Nat.le_refl _) hbb hb)
  have DZ : Hid (w3.heap.size ≤ w4.heap.size) := Lib.hid hbb.size
  have D : Hid (Below w3.heap.size w4 w4) := Lib.hid (Below.refl _ _)
  have HB4 := Lib.hid (HB3.out.trans (hbb.mono HB3.out.size))
  have HX4 := Lib.hid (HX3.out.later hbb (lt_of_block HX3.out))
  clear HB3 HX3 hbb hv4 hlt4 hb4 hbW hW hA0 hA1 W0 W0Z
  obtain ⟨hA0, hA1, _, _⟩ := HX4.out.cells
  obtain ⟨hC0, hC1, _, _⟩ := XB.out.cells
  rw [HW.out] at hA0 hA1 hC0 hC1
  dsimp only
  go_wp2_with fail
  rw [← HW.out]
  have XR := Lib.hid X0.out.rec
  refine impl_comp _ L1 L2 w4 (HE.out.later (HBL.out.trans (HB4.out.mono HBL.out.size)) (Nat.le_refl _)) XR.out HP.out.1 HP.out.2.2.1 _ ?_
  intro v5 w5 hv5 hb5
  rw [← HBQ.out]
  obtain ⟨x5, m5, y5, rfl, esh⟩ := hv5.shape
  have G0 := Lib.hid hv5
  have GZ : Hid (w4.heap.size ≤ w5.heap.size) := Lib.hid hb5.size
  have XG : Hid (w40.heap.size ≤ w4.heap.size) := X0E
  have WG : Hid (w3.heap.size ≤ w4.heap.size) := Lib.hid (Nat.le_trans WX.out.1 X0Z.out)
  have LG : Hid (L.heap.size ≤ w4.heap.size) := Lib.hid (Nat.le_trans LX.out X0Z.out)
  have HB5 := Lib.hid (HB4.out.trans (hb5.mono HB4.out.size))
  have HX5 := Lib.hid (HX4.out.later hb5 (lt_of_block HX4.out))
  have D_5 := Lib.hid (D.out.trans (hb5.mono (Nat.le_trans DZ.out D.out.size)))
  have X0_5 := Lib.hid (OwR.later0 X0.out hb5)
  have XB_5 := Lib.hid (XB.out.later hb5 (lt_of_block XB.out))
  have X0Z_5 : Hid (w3.heap.size ≤ w5.heap.size) := Lib.hid (Nat.le_trans X0Z.out hb5.size)
  have XR_5 := Lib.hid (IsRec.later XR.out hb5 (Nat.le_refl _))
  clear HB4 HX4 D X0 XB X0Z XR hb5 hv5 esh hA0 hA1 hC0 hC1
  obtain ⟨hA0, hA1, _, _⟩ := HX5.out.cells
  dsimp only
  go_wp2_with fail
  refine eqSS_any _ _ (compL L1 L2) _ G0.out.rd (W0V.out _ D_5.out).rd (by have := HSM.out.1; omega) (fun M hM => by have := HSM.out.2.1 M hM; omega) _ ?_
  intro w6 hb6
  have HB6 := Lib.hid (HB5.out.trans (hb6.mono HB5.out.size))
  have HX6 := Lib.hid (HX5.out.later hb6 (lt_of_block HX5.out))
  have D_6 := Lib.hid (D_5.out.trans (hb6.mono (Nat.le_trans DZ.out D_5.out.size)))
  have X0_6 := Lib.hid (OwR.later0 X0_5.out hb6)
  have XB_6 := Lib.hid (XB_5.out.later hb6 (lt_of_block XB_5.out))
  have X0Z_6 : Hid (w3.heap.size ≤ w6.heap.size) := Lib.hid (Nat.le_trans X0Z_5.out hb6.size)
  have XR_6 := Lib.hid (IsRec.later XR_5.out hb6 (Nat.le_refl _))
  have G0_6 := Lib.hid (G0.out.later hb6)
  have GZ_6 : Hid (w4.heap.size ≤ w6.heap.size) := Lib.hid (Nat.le_trans GZ.out hb6.size)
  clear HB5 HX5 D_5 X0_5 XB_5 X0Z_5 XR_5 G0 GZ hb6 hA0 hA1
  obtain ⟨hA0, hA1, _, _⟩ := HX6.out.cells
  have HSOF : Hid (∀ w', Below w6.heap.size w6 w' → (Below w6.heap.size w6 w' ∧ (w'.cell? ⟨w.heap.size, 0, none⟩ = some (.slice a1 n1 c1) ∧ w'.cell? ⟨w.heap.size, 1, none⟩ = some (.slice a2 n2 c2)) ∧ (w'.cell? ⟨w40.heap.size, 0, none⟩ = some (.slice xa ma ya) ∧ w'.cell? ⟨w40.heap.size, 1, none⟩ = some (.slice xb mb yb)))) :=
    Lib.hid fun w' hb => ⟨hb, ⟨(HX6.out.later hb (lt_of_block HX6.out)).cells.1, (HX6.out.later hb (lt_of_block HX6.out)).cells.2.1⟩, ⟨(XB_6.out.later hb (lt_of_block XB_6.out)).cells.1, (XB_6.out.later hb (lt_of_block XB_6.out)).cells.2.1⟩⟩
  have HVL := Lib.hid (HV.out.later HB6.out (Nat.le_refl _))
  have HLEN : Hid (L1.length ≤ 281474976710656 ∧ L2.length ≤ 281474976710656) := Lib.hid (by have := HP.out.1; have := HP.out.2.2.1; omega)
  obtain ⟨hC0, hC1, _, _⟩ := XB_6.out.cells
  dsimp only
  go_wp2_with fail
  first
    | (go_region_held3 (fun w' => Below w6.heap.size w6 w' ∧ (w'.cell? ⟨w.heap.size, 0, none⟩ = some (.slice a1 n1 c1) ∧ w'.cell? ⟨w.heap.size, 1, none⟩ = some (.slice a2 n2 c2)) ∧ (w'.cell? ⟨w40.heap.size, 0, none⟩ = some (.slice xa ma ya) ∧ w'.cell? ⟨w40.heap.size, 1, none⟩ = some (.slice xb mb yb)))
        (first
          | exact HSOF.out _ HQ2.out
          | exact HSOF.out _ HQ1.out
          | exact HSOF.out _ (Below.refl _ _).drew)
        (first
          | (go_at_call 37; refine eqR_any _ _ L1 L2 _ (XR_6.out.later HQ1.out (Nat.le_refl _)) HV6.out HLEN.out.1 HLEN.out.2 _ ?_; intro w8 hb7; have HQ2 : Hid (Below w6.heap.size w6 w8) := Lib.hid (HQ1.out.trans (hb7.mono HQ1.out.size)); clear hb7; dsimp only)
          | (go_at_call 35; refine toR_any _ L1 L2 _ (HVL.out.later (Below.refl _ _).drew (Nat.le_refl _)) HP.out.1 HP.out.2.2.1 _ ?_; intro v6 w7 hv6 hb6; have HV6 := Lib.hid hv6; have HQ1 : Hid (Below w6.heap.size w6 w7) := Lib.hid ⟨hb6.os, hb6.tape, hb6.output, hb6.size, hb6.block⟩; clear hv6 hb6; dsimp only)))
    | fail
  all_goals
    have hbr := HQ2.out
    have HB8 := Lib.hid (HB6.out.trans (hbr.mono HB6.out.size))
    have HX8 := Lib.hid (HX6.out.later hbr (lt_of_block HX6.out))
    have D_8 := Lib.hid (D_6.out.trans (hbr.mono (Nat.le_trans DZ.out D_6.out.size)))
    have X0_8 := Lib.hid (OwR.later0 X0_6.out hbr)
    have XB_8 := Lib.hid (XB_6.out.later hbr (lt_of_block XB_6.out))
    have X0Z_8 : Hid (w3.heap.size ≤ w8.heap.size) := Lib.hid (Nat.le_trans X0Z_6.out hbr.size)
    have XR_8 := Lib.hid (IsRec.later XR_6.out hbr (Nat.le_refl _))
    have G0_8 := Lib.hid (G0_6.out.later hbr)
    have GZ_8 : Hid (w4.heap.size ≤ w8.heap.size) := Lib.hid (Nat.le_trans GZ_6.out hbr.size)
    clear HB6 HX6 D_6 X0_6 XB_6 X0Z_6 XR_6 G0_6 GZ_6 hbr hA0 hA1 hC0 hC1
    obtain ⟨hA0, hA1, _, _⟩ := HX8.out.cells
    obtain ⟨hC0, hC1, _, _⟩ := XB_8.out.cells
    go_wp2_with fail
    refine markRO_any _ _ L1 L2 1 w3.heap.size w8 X0_8.out (Nat.le_trans HP.out.1 (by omega)) (Nat.le_trans HP.out.2.2.1 (by omega)) (by omega) _ ?_
    intro w9 La wm hm1 hm2 hm3
    obtain ⟨k0, hk0⟩ : ∃ k0, k0 = 1 + L1.length + L2.length := ⟨_, rfl⟩
    rw [← hk0]
    have d0 : ¬ ((k0 : Int) < 0) := by omega
    obtain ⟨t1, t2, M, ev, q1, q2, q3, q4, q5⟩ := X0_8.out
    simp only [Value.agg.injEq, Array.mk.injEq, List.cons.injEq, and_true] at ev
    obtain ⟨rfl, rfl⟩ := ev
    have hB1 : ∀ g, (Value.slice xa ma ya).ownBlock = some g → w3.heap.size ≤ g := fun g hg => q1.base g hg
    have hB2 : ∀ g, (Value.slice xb mb yb).ownBlock = some g → w3.heap.size ≤ g := fun g hg => Nat.le_trans q3 (q2.base g hg)
    have hbel : Below w3.heap.size w8 w9 := ButO.both hm1 hm2 hm3 hB1 hB2 X0Z_8.out
    have D_9 := Lib.hid (D_8.out.trans hbel)
    have G0_9 := Lib.hid (((G0_8.out.later hm1).butT hm2 (fun g hc => by have h2 := X0U.out g (.inl hc); have h3 := XG.out; omega)).butT hm3 (fun g hc => by have h2 := X0U.out g (.inr hc); have h3 := XG.out; omega))
    have GZ_9 : Hid (w4.heap.size ≤ w9.heap.size) := Lib.hid (Nat.le_trans GZ_8.out (Nat.le_trans hm1.size (Nat.le_trans hm2.size hm3.size)))
    have HB9 : Hid (Below L.heap.size L w9) := Lib.hid (HB8.out.trans (hbel.mono LX.out))
    have HX9 := Lib.hid (HX8.out.later hbel WX.out.2)
    clear D_8 X0_8 XB_8 X0Z_8 XR_8 G0_8 GZ_8 HB8 HX8 hm1 hm2 hm3 hk0 hbel hB1 hB2 q1 q2 q3 q4 q5 hA0 hA1 hC0 hC1
    obtain ⟨hA0, hA1, _, _⟩ := HX9.out.cells
    dsimp only
    go_wp2_with fail
    refine eqSS_any _ _ (compL L1 L2) _ G0_9.out.rd (W0V.out _ D_9.out).rd (by have := HSM.out.1; omega) (fun M hM => by have := HSM.out.2.1 M hM; omega) _ ?_
    intro w10 hb10
    have HB10 := Lib.hid (HB9.out.trans (hb10.mono HB9.out.size))
    have HX10 := Lib.hid (HX9.out.later hb10 (lt_of_block HX9.out))
    have D_10 := Lib.hid (D_9.out.trans (hb10.mono (Nat.le_trans DZ.out D_9.out.size)))
    have G0_10 := Lib.hid (G0_9.out.later hb10)
    have GZ_10 : Hid (w4.heap.size ≤ w10.heap.size) := Lib.hid (Nat.le_trans GZ_9.out hb10.size)
    clear HB9 HX9 D_9 G0_9 GZ_9 hb10 hA0 hA1
    obtain ⟨hA0, hA1, _, _⟩ := HX10.out.cells
    dsimp only
    go_wp2_with fail
    refine markSS_any _ (compL L1 L2) 1 w4.heap.size _ G0_10.out GZ_10.out (by have := HSM.out.1; omega) (by have := HSM.out.2.2; omega) _ ?_
    intro w11 hv hb hz
    obtain ⟨kg, hkg⟩ : ∃ kg, kg = 1 + ((compL L1 L2).map List.length).sum := ⟨_, rfl⟩
    have HKG := Lib.hid hkg
    rw [← hkg]
    have d1 : ¬ ((kg : Int) < 0) := by omega
    have d2 : ((kg : Int) != (kg : Int)) = false := by simp
    have GM := Lib.hid hv.rd
    have D_11 := Lib.hid (D_10.out.trans (hb.mono WG.out))
    have HB11 : Hid (Below L.heap.size L w11) := Lib.hid (HB10.out.trans (hb.mono LG.out))
    have HX11 := Lib.hid (HX10.out.later hb (Nat.lt_of_lt_of_le (lt_of_block HBX.out) LG.out))
    clear D_10 G0_10 GZ_10 HB10 HX10 hv hb hz hkg hA0 hA1
    obtain ⟨hA0, hA1, _, _⟩ := HX11.out.cells
    dsimp only
    go_wp2_with fail
    refine heldSS_any _ 1 ((compL L1 L2).map List.length) _ GM.out (by rw [List.length_map]; have := HSM.out.1; omega) (by have := HSM.out.2.2; omega) _ ?_
    intro w12 hb12
    rw [← HKG.out]
    have HB12 := Lib.hid (HB11.out.trans (hb12.mono HB11.out.size))
    have HX12 := Lib.hid (HX11.out.later hb12 (lt_of_block HX11.out))
    have D_12 := Lib.hid (D_11.out.trans (hb12.mono (Nat.le_trans DZ.out D_11.out.size)))
    have GM_12 := Lib.hid (GM.out.later hb12)
    clear HB11 HX11 D_11 GM hb12 hA0 hA1
    obtain ⟨hA0, hA1, _, _⟩ := HX12.out.cells
    dsimp only
    go_wp2_with fail
    refine toR_any _ L1 L2 w12 (HV.out.later HB12.out (Nat.le_refl _)) HP.out.1 HP.out.2.2.1 _ ?_
    intro v13 w13 hv13 hb13
    have HC := Lib.hid hv13
    obtain ⟨x13, m13, y13, z13, q13, r13, rfl, t1, t2, t3, t4⟩ := hv13.parts
    clear t1 t2 t3 t4
    have HB13 := Lib.hid (HB12.out.trans (hb13.mono HB12.out.size))
    have HX13 := Lib.hid (HX12.out.later hb13 (lt_of_block HX12.out))
    have D_13 := Lib.hid (D_12.out.trans (hb13.mono (Nat.le_trans DZ.out D_12.out.size)))
    have GM_13 := Lib.hid (GM_12.out.later hb13)
    clear HB12 HX12 D_12 GM_12 hb13 hv13 hA0 hA1
    obtain ⟨hA0, hA1, _, _⟩ := HX13.out.cells
    dsimp only
    go_wp2_with fail
    refine impl_comp _ L1 L2 w13 (HE.out.later (HBL.out.trans (HB13.out.mono HBL.out.size)) (Nat.le_refl _)) HC.out HP.out.1 HP.out.2.2.1 _ ?_
    intro v14 w14 hv14 hb14
    rw [← HBQ.out]
    obtain ⟨x14, m14, y14, rfl, esh⟩ := hv14.shape
    have H0 := Lib.hid hv14
    have H0Z : Hid (w13.heap.size ≤ w14.heap.size) := Lib.hid hb14.size
    have HB14 := Lib.hid (HB13.out.trans (hb14.mono HB13.out.size))
    have HX14 := Lib.hid (HX13.out.later hb14 (lt_of_block HX13.out))
    have D_14 := Lib.hid (D_13.out.trans (hb14.mono (Nat.le_trans DZ.out D_13.out.size)))
    have GM_14 := Lib.hid (GM_13.out.later hb14)
    clear HB13 HX13 D_13 GM_13 hb14 hv14 esh hA0 hA1 HC
    obtain ⟨hA0, hA1, _, _⟩ := HX14.out.cells
    dsimp only
    go_wp2_with fail
    refine eqSS_any _ _ (compL L1 L2) _ H0.out.rd (W0V.out _ D_14.out).rd (by have := HSM.out.1; omega) (fun M hM => by have := HSM.out.2.1 M hM; omega) _ ?_
    intro w15 hb15
    have HB15 := Lib.hid (HB14.out.trans (hb15.mono HB14.out.size))
    have HX15 := Lib.hid (HX14.out.later hb15 (lt_of_block HX14.out))
    have D_15 := Lib.hid (D_14.out.trans (hb15.mono (Nat.le_trans DZ.out D_14.out.size)))
    have GM_15 := Lib.hid (GM_14.out.later hb15)
    have H0_15 := Lib.hid (H0.out.later hb15)
    have H0Z_15 : Hid (w13.heap.size ≤ w15.heap.size) := Lib.hid (Nat.le_trans H0Z.out hb15.size)
    clear HB14 HX14 D_14 GM_14 H0 H0Z hb15 hA0 hA1
    obtain ⟨hA0, hA1, _, _⟩ := HX15.out.cells
    dsimp only
    go_wp2_with fail
    refine heldSS_any _ 1 ((compL L1 L2).map List.length) _ GM_15.out (by rw [List.length_map]; have := HSM.out.1; omega) (by have := HSM.out.2.2; omega) _ ?_
    intro w16 hb16
    rw [← HKG.out]
    have HB16 := Lib.hid (HB15.out.trans (hb16.mono HB15.out.size))
    have HX16 := Lib.hid (HX15.out.later hb16 (lt_of_block HX15.out))
    have D_16 := Lib.hid (D_15.out.trans (hb16.mono (Nat.le_trans DZ.out D_15.out.size)))
    have GM_16 := Lib.hid (GM_15.out.later hb16)
    have H0_16 := Lib.hid (H0_15.out.later hb16)
    have H0Z_16 : Hid (w13.heap.size ≤ w16.heap.size) := Lib.hid (Nat.le_trans H0Z_15.out hb16.size)
    clear HB15 HX15 D_15 GM_15 H0_15 H0Z_15 hb16 hA0 hA1
    obtain ⟨hA0, hA1, _, _⟩ := HX16.out.cells
    clear hA0 hA1
    dsimp only
    go_wp2
    first | go_ret | skip
    exact HR.out _ (HBL.out.trans (HB16.out.mono HBL.out.size))
end Go.Proofs.YtegdcmcfeaohhaaGreatDoor
