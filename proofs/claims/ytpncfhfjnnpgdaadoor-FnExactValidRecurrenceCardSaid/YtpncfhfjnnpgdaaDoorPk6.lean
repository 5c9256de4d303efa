/- Contracts of functions of the program and of the model: ReadI, Rats, LawNums, Small, SmallOf, RemOf, TimesN, CmpR, AddQ, NegQ, SignQ, SubQ, RCmp, LawCmp. -/
import Derived.Test.YtpncfhfjnnpgdaaDoorPk5
import Derived.Deep.RegionHeld3
set_option linter.all false
set_option linter.unusedVariables false
set_option linter.unusedSimpArgs false
set_option linter.unnecessarySimpa false
set_option linter.deprecated false
namespace Go.Proofs.YtpncfhfjnnpgdaaDoor
open Go Go.RowKit

/-- the zero value of the program's type of integers -/
def zeroI : Value := .agg #[.bool false, .slice none 0 0]

theorem below_set2 {B : Nat} {a w : World} (h : Below B a w) {b : Nat} (hb : B ≤ b) (y0 y1 : Value) : Below B a ((w.setCell ⟨b, 0, none⟩ y0).setCell ⟨b, 1, none⟩ y1) :=
  (h.setCell hb _).setCell hb _
theorem IsN.set2 {w : World} {v : Value} {n : Nat} (h : IsN w v n) {b : Nat} (hb : NoInt w b) (y0 y1 : Value) (h0 : notInt y0 = true) : IsN ((w.setCell ⟨b, 0, none⟩ y0).setCell ⟨b, 1, none⟩ y1) v n :=
  (Sl.set h hb 0 y0).set (hb.set 0 _ h0) 1 y1

set_option maxRecDepth 100000 in
set_option maxHeartbeats 2000000 in
theorem readi_any (s : ByteArray) (w : World) (hE : Env w) (R : Ending → World → Prop)
    (hR : ∀ v q w', numO s.data.toList = some q → q.den = 1 → IsI w' v q.num → Below w.heap.size w w' → R (.returned (.tuple #[v, .nilIface])) w')
    (hR2 : ∀ e w', (∀ q, numO s.data.toList = some q → q.den ≠ 1) → ErrV e → Below w.heap.size w w' → R (.returned (.tuple #[zeroI, e])) w') :
    Calls Tryd.prog 40 #[.string s] w R := by
  have HR := Lib.hid hR; clear hR
  have HR2 := Lib.hid hR2; clear hR2
  have hne1 : ¬ 1 = w.heap.size := by
    obtain ⟨⟨pf, hpf⟩, _, _⟩ := hE
    exact Nat.ne_of_lt (lt_of_cell hpf)
  have hne2 : ¬ w.heap.size = 1 := fun h => hne1 h.symm
  have HE := Lib.hid hE; clear hE
  obtain ⟨L, hL⟩ : ∃ L, L = w.alloc (.cells #[.bool false, .slice none 0 0] 47) := ⟨_, rfl⟩
  have hbL : Below w.heap.size w L := by rw [hL]; exact (Below.refl _ _).alloc (Nat.le_refl _) _
  have hLs : L.heap.size = w.heap.size + 1 := by rw [hL]; simp
  have HL := Lib.hid hL
  have HBL := Lib.hid hbL
  have HLS := Lib.hid hLs
  have HBX : Hid (Box2 L w.heap.size (.bool false) (.slice none 0 0) 47) := Lib.hid (by rw [hL]; exact Box2.made _ _ _ _)
  clear hL hbL hLs
  go_enter Tryd.func40, Tryd.ntmps40
  go_wp2_with fail
  rw [← HL.out]
  refine readq_any s L (HE.out.later HBL.out (Nat.le_refl _)) _ ?_ ?_
  · intro v q w1 hq hv hb1
    obtain ⟨s1, s2, rfl, hn1, hn2⟩ := hv
    obtain ⟨a1, n1, c1, rfl, hn1'⟩ := hn1.op
    obtain ⟨a2, n2, c2, rfl, hn2'⟩ := hn2.op
    obtain ⟨ng, hng⟩ : ∃ ng, ng = decide (q.num < 0) := ⟨_, rfl⟩
    rw [← hng]
    obtain ⟨W, hW⟩ : ∃ W, W = w1.alloc (.cells #[.bool ng, .slice a1 n1 c1, .slice a2 n2 c2] 49) := ⟨_, rfl⟩
    have hbW : Below w1.heap.size w1 W := by rw [hW]; exact (Below.refl _ _).alloc (Nat.le_refl _) _
    have HX3 : Hid (Box3 W w1.heap.size (.bool ng) (.slice a1 n1 c1) (.slice a2 n2 c2) 49) := Lib.hid (by rw [hW]; exact Box3.made _ _ _ _ _)
    have HN1 := Lib.hid (hn1'.later hbW (Nat.le_refl _))
    have HN2 := Lib.hid (hn2'.later hbW (Nat.le_refl _))
    have hB1 := HBL.out.trans (hb1.mono (by have := HLS.out; omega))
    have HB := Lib.hid (hB1.trans (hbW.mono hB1.size))
    have hX1 := HBX.out.later hb1 (by have := HLS.out; omega)
    have HX2 := Lib.hid (hX1.later hbW (lt_of_block hX1))
    have HQ := Lib.hid hq
    have HNG := Lib.hid hng
    have HW := Lib.hid hW
    obtain ⟨hR0, hR1, hF0, hF1⟩ := Box2.cells HX2.out
    obtain ⟨⟨hP0, hP1, hP2⟩, _, _, _⟩ := Box3.cells HX3.out
    obtain ⟨⟨pf, hpf⟩, _, _⟩ := HE.out.later HB.out (Nat.le_refl _)
    clear hb1 hB1 hX1 hbW hq hng hn1 hn2 hn1' hn2' hW
    dsimp only
    go_wp2_with fail
    rw [← HW.out]
    refine none_any _ _ _ HN2.out _ ?_
    by_cases h1 : q.den = 1
    · rw [decide_eq_true h1]
      have H1 := Lib.hid h1
      clear h1
      dsimp only
      go_wp2
      refine bodyPost_ret_at (by simp [results, Tryd.results40, go_sem, hR0, hR1, hF0, hF1] <;> rfl) rfl ?_
      refine HR.out _ q _ HQ.out H1.out ⟨_, ?_, HN1.out.set2 (HX2.out.noInt rfl rfl) _ _ rfl⟩ (below_set2 HB.out (Nat.le_refl _) _ _)
      rw [HNG.out]
    · rw [decide_eq_false h1]
      have HW2 := Lib.hid (show ∀ q, numO s.data.toList = some q → q.den ≠ 1 from fun q' hq' => by
        rw [HQ.out] at hq'; obtain rfl := Option.some.inj hq'; exact h1)
      clear h1
      dsimp only
      go_wp2
      go_region
      all_goals
        go_wp2
        refine bodyPost_ret_at (by simp [results, Tryd.results40, go_sem, hR0, hR1, hF0, hF1] <;> rfl) rfl ?_
        first | exact HR2.out _ _ HW2.out ⟨_, _, rfl⟩ (below_set2 HB.out (Nat.le_refl _) _ _).drew | exact HR2.out _ _ HW2.out ⟨_, _, rfl⟩ (below_set2 HB.out (Nat.le_refl _) _ _)
  · intro e w1 hn he hb1
    obtain ⟨t, p, rfl⟩ := he
    obtain ⟨W, hW⟩ : ∃ W, W = w1.alloc (.cells #[.bool false, .slice none 0 0, .slice none 0 0] 49) := ⟨_, rfl⟩
    have hbW : Below w1.heap.size w1 W := by rw [hW]; exact (Below.refl _ _).alloc (Nat.le_refl _) _
    have hB1 := HBL.out.trans (hb1.mono (by have := HLS.out; omega))
    have HB := Lib.hid (hB1.trans (hbW.mono hB1.size))
    have hX1 := HBX.out.later hb1 (by have := HLS.out; omega)
    have HX2 := Lib.hid (hX1.later hbW (lt_of_block hX1))
    have HW := Lib.hid hW
    obtain ⟨hR0, hR1, hF0, hF1⟩ := Box2.cells HX2.out
    have HW2 := Lib.hid (show ∀ q, numO s.data.toList = some q → q.den ≠ 1 from fun q' hq' => by rw [hn] at hq'; cases hq')
    clear hb1 hB1 hX1 hbW hn hW
    unfold zeroR
    dsimp only
    rw [HW.out] at hR0 hR1 hF0 hF1
    go_wp2
    try rw [← HW.out] at hR0 hR1 hF0 hF1 ⊢
    refine bodyPost_ret_at (by simp [results, Tryd.results40, go_sem, hR0, hR1, hF0, hF1] <;> rfl) rfl ?_
    exact HR2.out _ _ HW2.out ⟨_, _, rfl⟩ (below_set2 HB.out (Nat.le_refl _) _ _)

set_option maxRecDepth 100000 in
set_option maxHeartbeats 1000000 in
theorem isinteger_any (s : ByteArray) (w : World) (hE : Env w) (R : Ending → World → Prop)
    (hR : ∀ w', Below w.heap.size w w' → R (.returned (.bool ((numO s.data.toList).any fun q => decide (q.den = 1)))) w') :
    Calls Tryd.prog 15 #[.string s] w R := by
  have HR := Lib.hid hR; clear hR
  have HE := Lib.hid hE; clear hE
  go_enter Tryd.func15, Tryd.ntmps15
  go_wp2_with fail
  refine readi_any s _ HE.out _ ?_ ?_
  · intro v q w1 hq h1 hv hb
    rw [hq, Option.any_some, decide_eq_true h1] at HR
    obtain ⟨s1, rfl, hn1⟩ := hv
    obtain ⟨a1, n1, c1, rfl, hn1'⟩ := hn1.op
    obtain ⟨ng, hng⟩ : ∃ ng, ng = decide (q.num < 0) := ⟨_, rfl⟩
    rw [← hng]
    have HB := Lib.hid hb
    clear hn1 hn1' hng hb hq h1
    dsimp only
    go_wp2
    first | go_ret | skip
    exact HR.out _ (HB.out.alloc HB.out.size _)
  · intro e w1 hn he hb
    have hf : (numO s.data.toList).any (fun q => decide (q.den = 1)) = false := by
      cases h : numO s.data.toList with
      | none => rfl
      | some q => rw [Option.any_some, decide_eq_false (hn q h)]
    rw [hf] at HR
    obtain ⟨t, p, rfl⟩ := he
    have HB := Lib.hid hb
    clear hb hn hf
    unfold zeroI
    dsimp only
    go_wp2
    first | go_ret | skip
    exact HR.out _ (HB.out.alloc HB.out.size _)

set_option maxRecDepth 100000 in
set_option maxHeartbeats 1000000 in
theorem spec_isInteger (s : ByteArray) (w : World) (hs : s.size ≤ 1100000) (R : Ending → World → Prop)
    (hR : ∀ w', Below w.heap.size w w' → R (.returned (.bool ((numO s.data.toList).any fun q => decide (q.den = 1)))) w') :
    Calls Tryd.prog 14 #[.string s] w R := by
  have HR := Lib.hid hR; clear hR
  go_enter Tryd.func14, Tryd.ntmps14
  go_wp2_with fail
  refine isq_any s _ hs _ ?_
  intro w1 hb1
  cases hn : numO s.data.toList with
  | none =>
    rw [hn] at HR
    have HB := Lib.hid hb1
    clear hb1 hn
    simp only [Option.isSome_none]
    go_wp2
    first | go_ret | skip
    exact HR.out _ HB.out
  | some q =>
    rw [hn, Option.any_some] at HR
    have HN := Lib.hid hn
    have HB := Lib.hid hb1
    clear hb1 hn
    simp only [Option.isSome_some]
    go_wp2_with fail
    refine ofq_any s q _ HN.out _ ?_
    intro v w2 hq2 hb2
    have hl := (few_len (numO_few HN.out) (B := 10000) (by omega)).2
    have HB2 := Lib.hid (HB.out.trans (hb2.mono HB.out.size))
    obtain ⟨ng, a1, n1, c1, a2, n2, c2, rfl, _, _⟩ := hq2.parts
    clear hb2
    dsimp only
    go_wp2_with fail
    refine integerQ_any _ q _ hq2 (by omega) _ ?_
    intro w3 hb3
    obtain ⟨x, hx⟩ : ∃ x, x = decide (q.den = 1) := ⟨_, rfl⟩
    rw [← hx] at HR ⊢
    have HB3 := Lib.hid (HB2.out.trans (hb3.mono HB2.out.size))
    clear hb3 hx hq2 hl
    dsimp only
    go_wp2
    first | go_ret | skip
    exact HR.out _ HB3.out

set_option maxRecDepth 100000 in
set_option maxHeartbeats 1000000 in
theorem law_isInteger (s : ByteArray) (w : World) (hE : Env w) (R : Ending → World → Prop)
    (hR : ∀ w', Below w.heap.size w w' → R (.returned (.bool true)) w') :
    Calls Tryd.prog 4 #[.string s] w R := by
  have HR := Lib.hid hR; clear hR
  have HE := Lib.hid hE; clear hE
  by_cases hs : s.size ≤ 1048576
  · have hsi : ¬ (1048576 : Int) < (s.size : Int) := by omega
    have HS := Lib.hid hs
    clear hs
    go_enter Tryd.func4, Tryd.ntmps4
    go_wp2_with fail
    refine spec_isInteger s _ (by have := HS.out; omega) _ ?_
    intro w1 hb1
    obtain ⟨x, hx⟩ : ∃ x, x = (numO s.data.toList).any (fun q => decide (q.den = 1)) := ⟨_, rfl⟩
    have HX := Lib.hid hx
    have HB1 := Lib.hid hb1
    rw [← hx]
    clear hb1 hx
    dsimp only
    go_wp2_with fail
    refine isinteger_any s _ (HE.out.later HB1.out (Nat.le_refl _)) _ ?_
    intro w2 hb2
    rw [← HX.out]
    have HB2 := Lib.hid (HB1.out.trans (hb2.mono HB1.out.size))
    clear hb2
    dsimp only
    cases x <;>
    · go_wp2
      first | go_ret | skip
      exact HR.out _ HB2.out
  · have hsi : (1048576 : Int) < (s.size : Int) := by omega
    clear hs
    go_enter Tryd.func4, Tryd.ntmps4
    go_wp2
    first | go_ret | skip
    exact HR.out _ (Below.refl _ _)
end Go.Proofs.YtpncfhfjnnpgdaaDoor

namespace Go.Proofs.YtpncfhfjnnpgdaaDoor
open Go Go.RowKit

theorem OwE.alloc {α : Type} {sz : Nat} {E : World → List Value → α → Prop} (hE : Elem sz E) {e : TypeId} {w : World} {B : Nat} {v : Value} {xs : List α} (h : OwE sz E e w B v xs) (o : Obj) : OwE sz E e (w.alloc o) B v xs :=
  h.later hE ((Below.refl w.heap.size w).alloc (Nat.le_refl _) o) (Nat.le_refl _)

theorem cells_alloc (w : World) (cs : Array Value) (t : TypeId) (g : Nat) (hg : g = w.heap.size) : ∀ j u, cs.toList[j]? = some u → (w.alloc (.cells cs t)).cell? ⟨g, j, none⟩ = some u := by
  intro j u hj
  subst hg
  have : (w.alloc (.cells cs t)).heap[w.heap.size]? = some (.cells cs t (0, 0)) := by
    show (w.heap.push _)[_]? = _
    simp
  simp only [World.cell?, this, Option.isSome_none, Bool.false_eq_true, if_false]
  rw [← Array.getElem?_toList]; exact hj

theorem madeCells_ints (z : Array Value) (n : Nat) (hz : 0 < z.size) (h : ∀ u ∈ z.toList, notInt u = true) : ∀ u ∈ (madeCells z n).toList, notInt u = true := by
  intro u hu
  simp only [madeCells, Array.toList_map, List.mem_map] at hu
  obtain ⟨i, _, rfl⟩ := hu
  have hm : i % z.size < z.size := Nat.mod_lt _ hz
  rw [getElem!_pos z _ hm]
  exact h _ (Array.mem_toList_iff.2 (Array.getElem_mem hm))

/-- make([]T, 0, n) -/
theorem wpList_make0 {α : Type} {P : Program} {w : World} {ops : Array Oper} {rest : List Oper} {o : Oper} {a : Act} {Q : Exit → Act → World → Prop} {sz : Nat} {E : World → List Value → α → Prop} (hsz : 0 < sz)
    (hg : o.guard = none) (l c : Operand) (t : TypeId) (hop : o.op = Op.makeSlice t l c)
    (e : TypeId) (bytes : Nat) (z : Value) (h1 : P.underlying t = some (.slice e)) (hi : (P.info? e).map (fun i => (i.zero, i.size, i.bytes)) = some (some z, sz, bytes)) (hzs : z.cells.size = sz) (hzi : ∀ u ∈ z.cells.toList, notInt u = true) (hby : bytes ≤ 100)
    (B : Nat) (hB : B ≤ w.heap.size) (kl kc : IntKind) (L C : Int) (n : Nat) (hl : a.eval l = .int kl L) (hc : a.eval c = .int kc C) (hL : L = 0) (hC : C = (n : Int)) (hn : n ≤ 1000000000)
    (hK : ∀ w', OwE sz E e w' B (.slice (some ⟨w.heap.size, 0, none⟩) 0 n) ([] : List α) → Below w.heap.size w w' → w'.heap.size = w.heap.size + 1 → wpList P ops Q rest (a.put o.dst (.slice (some ⟨w.heap.size, 0, none⟩) 0 n)) w') :
    wpList P ops Q (o :: rest) a w := by
  obtain ⟨i0, hi0, hz0, hz1, hz2⟩ := info_parts hi
  refine wpList_plain hg fun K hK' => ?_
  subst hL hC
  have hb : (i0.bytes : Int) * (n : Int) ≤ 281474976710656 := by
    rw [hz2]
    have : bytes * n ≤ 100 * n := Nat.mul_le_mul_right n hby
    have h2 : ((bytes * n : Nat) : Int) ≤ 281474976710656 := by omega
    rwa [Int.natCast_mul] at h2
  have hr := run_make (P := P) w t e i0 z h1 hi0 hz0 kl kc 0 n (by omega) (by omega) hb (by omega)
  simp only [Int.toNat_natCast, hz1, Int.toNat_zero] at hr
  unfold Oper.wp
  simp [execOp, hop, hl, hc, hr, Result.andThen]
  refine hK' _ _ (hK _ ?_ ?_ ?_)
  · refine .inr ⟨w.heap.size, n, madeCells z.cells (n * sz), rfl, hB, ?_, Nat.zero_le _, by rw [maxLen_eq]; omega, size_madeCells _ _, madeCells_ints _ _ (by omega) hzi, fun i x h => by simp at h⟩
    show (w.heap.push _)[_]? = _
    simp
  · exact (Below.refl _ _).alloc (Nat.le_refl _) _
  · simp

theorem IsN.keep {w w' : World} {v : Value} {n g : Nat} (h : IsN w v n) (hb : But g w w') (hg : NoInt w g) : IsN w' v n := by
  refine Sl.but h hb fun h0 e => ?_
  rcases Sl.cases h with ⟨h1, _⟩ | ⟨_, b, off, cap, rfl, _, hbl, hc⟩
  · rw [h1] at h0; simp at h0
  · simp [blk] at e
    subst e
    have := hg _ _ (hc 0 h0)
    cases this

/-- a fraction of the program as an element -/
def ER (w : World) (cs : List Value) (q : Rat) : Prop := ∃ a1 n1 c1 a2 n2 c2, cs = [.bool (decide (q.num < 0)), .slice a1 n1 c1, .slice a2 n2 c2] ∧ IsN w (.slice a1 n1 c1) q.num.natAbs ∧ IsN w (.slice a2 n2 c2) q.den
theorem elemR : Elem 3 ER where
  len := by rintro w cs x ⟨_, _, _, _, _, _, rfl, _⟩; rfl
  ints := by
    rintro w cs x ⟨_, _, _, _, _, _, rfl, _⟩ u hu
    simp only [List.mem_cons, List.not_mem_nil, or_false] at hu
    rcases hu with rfl | rfl | rfl <;> rfl
  one := by
    rintro w cs x ⟨_, _, _, _, _, _, rfl, _⟩ u hu
    simp only [List.mem_cons, List.not_mem_nil, or_false] at hu
    rcases hu with rfl | rfl | rfl <;> rfl
  keep := by
    rintro w w' g cs x ⟨a1, n1, c1, a2, n2, c2, rfl, h1, h2⟩ hb hg
    exact ⟨a1, n1, c1, a2, n2, c2, rfl, h1.keep hb hg, h2.keep hb hg⟩

/-- a slice value reads as a list of the program's fractions -/
def RsL (w : World) (v : Value) (qs : List Rat) : Prop := SlE 3 ER w v qs

theorem info_ratio : (Tryd.prog.info? 49).map (fun i => (i.zero, i.size, i.bytes)) = some (some zeroR, 3, 56) := by kernel_rfl
theorem zeroR_ints : ∀ u ∈ zeroR.cells.toList, notInt u = true := by
  intro u hu
  simp only [zeroR, Value.cells, List.mem_cons, List.not_mem_nil, or_false] at hu
  rcases hu with rfl | rfl | rfl <;> rfl

/-- whether a text is a number -/
noncomputable def isNum (s : ByteArray) : Bool := (numO s.data.toList).isSome
/-- the number that a text is -/
noncomputable def qOf (s : ByteArray) : Rat := (numO s.data.toList).getD 0
theorem isNum_some {s : ByteArray} (h : isNum s = true) : numO s.data.toList = some (qOf s) := by
  unfold isNum at h; unfold qOf
  cases hn : numO s.data.toList with
  | none => rw [hn] at h; cases h
  | some q => rfl
theorem isNum_of {s : ByteArray} {q : Rat} (h : numO s.data.toList = some q) : isNum s = true ∧ qOf s = q := by
  unfold isNum qOf; rw [h]; exact ⟨rfl, rfl⟩
theorem isNum_not {s : ByteArray} (h : numO s.data.toList = none) : isNum s = false := by
  unfold isNum; rw [h]; rfl

theorem all_take_one {α : Type} (p : α → Bool) (L : List α) (k : Nat) (s : α) (h : L[k]? = some s) : (L.take (k + 1)).all p = ((L.take k).all p && p s) := by
  rw [List.take_add_one, h, List.all_append]; simp
theorem all_not_at {α : Type} (p : α → Bool) (L : List α) (k : Nat) (s : α) (h : L[k]? = some s) (hp : p s = false) : L.all p = false := by
  rw [List.all_eq_false]
  exact ⟨s, List.mem_of_getElem? h, by simp [hp]⟩

set_option maxRecDepth 100000 in
set_option maxHeartbeats 1000000 in
theorem all_any (v : Value) (L : List ByteArray) (w : World) (h : TxL w v L) (hn : L.length ≤ 1048576) (hs : ∀ s ∈ L, s.size ≤ 1048576) (R : Ending → World → Prop)
    (hR : ∀ w', Below w.heap.size w w' → R (.returned (.bool (L.all isNum))) w') :
    Calls Tryd.prog 71 #[v] w R := by
  have HR := Lib.hid hR; clear hR
  obtain ⟨ao, n, cap, rfl, hnl, hc, hh⟩ := h.open
  have HH := Lib.hid hh
  have HN := Lib.hid hnl
  have HS := Lib.hid hs
  rw [← hnl] at hn
  clear h hnl hh hs
  go_enter Tryd.func71, Tryd.ntmps71
  go_wp2
  go_loopw [3] (fun i wr => ∃ k : Nat, i = .int .i64 (k : Int) ∧ k ≤ n ∧ (L.take k).all isNum = true ∧ Below w.heap.size w wr) (fun i _ => n - (intOf i).toNat)
  case atStart => exact ⟨0, rfl, Nat.zero_le _, by simp, Below.refl _ _⟩
  case round =>
    obtain ⟨k, rfl, hk, hall, hbel⟩ := hrel
    have HALL := Lib.hid hall
    have HB := Lib.hid hbel
    clear hall
    by_cases hkn : k = n
    · subst hkn
      have he : L.all isNum = true := by have := HALL.out; rw [HN.out, List.take_length] at this; exact this
      rw [he] at HR
      clear hbel he
      go_wp2
      first | go_ret | skip
      exact HR.out _ HB.out
    · have hkl : k < n := by omega
      obtain ⟨s, hs⟩ : ∃ s, L[k]? = some s := ⟨_, List.getElem?_eq_getElem (by rw [← HN.out]; exact hkl)⟩
      have HSS := Lib.hid hs
      have hsz := HS.out s (List.mem_of_getElem? hs)
      obtain ⟨b, off, rfl, hb, hcell⟩ := TxL.at HH.out k s hs
      rw [← hbel.cell (p := ⟨b, off + k, none⟩) hb] at hcell
      have hw1 : IntKind.i64.wrap ((k : Int) + 1) = ((k + 1 : Nat) : Int) := by rw [IntWalk.i64_in _ (by omega)]; omega
      clear hs hbel
      go_wp2_with fail
      refine isq_any s _ (by omega) _ ?_
      intro w1 hb1
      have HB1 := Lib.hid (HB.out.trans (hb1.mono HB.out.size))
      obtain ⟨x, hx⟩ : ∃ x, x = isNum s := ⟨_, rfl⟩
      have hx' : (numO s.data.toList).isSome = x := by rw [hx]; rfl
      rw [hx']
      have HX := Lib.hid hx
      clear hb1 hx hx' hsz hcell
      cases x
      · have hf := all_not_at isNum L k s HSS.out HX.out.symm
        rw [hf] at HR
        clear hf
        dsimp only
        go_wp2
        first | go_ret | skip
        exact HR.out _ HB1.out
      · have ht : Hid ((L.take (k + 1)).all isNum = true) := Lib.hid (by rw [all_take_one isNum L k s HSS.out, HALL.out, ← HX.out]; rfl)
        dsimp only
        go_wp2
        go_roundw
        case rel => exact ⟨k + 1, by first | rfl | go_num, by omega, ht.out, HB1.out⟩
        case measure => simp [intOf]; omega

set_option maxRecDepth 100000 in
set_option maxHeartbeats 1000000 in
theorem isList_any (v : Value) (L : List ByteArray) (w : World) (h : TxL w v L) (hn : L.length ≤ 1048576) (hs : ∀ s ∈ L, s.size ≤ 1048576) (R : Ending → World → Prop)
    (hR : ∀ w', Below w.heap.size w w' → R (.returned (.bool (decide (L.length ≤ 60) && L.all isNum))) w') :
    Calls Tryd.prog 41 #[v] w R := by
  have HR := Lib.hid hR; clear hR
  obtain ⟨ao, n, cap, rfl, hnl, hc, hh⟩ := h.open
  have HH := Lib.hid hh
  have HN := Lib.hid hnl
  have HS := Lib.hid hs
  rw [← hnl] at hn HR
  clear h hnl hh hs
  by_cases h60 : n ≤ 60
  · have e1 : ((n : Int) ≤ 60) := by omega
    rw [decide_eq_true h60, Bool.true_and] at HR
    clear h60
    go_enter Tryd.func41, Tryd.ntmps41
    go_wp2_with fail
    refine all_any _ L _ HH.out (by rw [← HN.out]; exact hn) HS.out _ ?_
    intro w1 hb1
    obtain ⟨x, hx⟩ : ∃ x, x = L.all isNum := ⟨_, rfl⟩
    rw [← hx] at HR ⊢
    have HB := Lib.hid hb1
    clear hb1 hx
    dsimp only
    go_wp2
    first | go_ret | skip
    exact HR.out _ HB.out
  · have e1 : ¬ ((n : Int) ≤ 60) := by omega
    rw [decide_eq_false h60, Bool.false_and] at HR
    clear h60
    go_enter Tryd.func41, Tryd.ntmps41
    go_wp2
    first | go_ret | skip
    exact HR.out _ (Below.refl _ _)

def RatsRel (w : World) (n : Nat) (L : List ByteArray) (i v : Value) (wr : World) : Prop :=
  ∃ k : Nat, i = .int .i64 (k : Int) ∧ k ≤ n ∧ (L.take k).all isNum = true ∧ OwE 3 ER 49 wr w.heap.size v ((L.take k).map qOf) ∧ Below w.heap.size w wr

theorem map_take_one {α β : Type} (f : α → β) (L : List α) (k : Nat) (s : α) (h : L[k]? = some s) : (L.take (k + 1)).map f = (L.take k).map f ++ [f s] := by
  rw [List.take_add_one, h, List.map_append]; rfl

set_option maxRecDepth 100000 in
set_option maxHeartbeats 2000000 in
theorem readrs_own (v : Value) (L : List ByteArray) (w : World) (hE : Env w) (h : TxL w v L) (hn : L.length ≤ 1048576) (R : Ending → World → Prop)
    (hR : ∀ v' w', L.length ≤ 60 → L.all isNum = true → OwE 3 ER 49 w' w.heap.size v' (L.map qOf) → Below w.heap.size w w' → R (.returned (.tuple #[v', .nilIface])) w')
    (hR2 : ∀ e w', (decide (L.length ≤ 60) && L.all isNum) = false → ErrV e → Below w.heap.size w w' → R (.returned (.tuple #[.slice none 0 0, e])) w') :
    Calls Tryd.prog 42 #[v] w R := by
  have HR := Lib.hid hR; clear hR
  have HR2 := Lib.hid hR2; clear hR2
  have HE := Lib.hid hE
  obtain ⟨ao, n, cap, rfl, hnl, hc, hh⟩ := h.open
  have HH := Lib.hid hh
  have HN := Lib.hid hnl
  rw [← hnl] at hn
  clear h hnl hh
  by_cases h60 : n ≤ 60
  · have e1 : ¬ ((60 : Int) < (n : Int)) := by omega
    have H60 := Lib.hid h60
    clear h60 hE
    go_enter Tryd.func42, Tryd.ntmps42
    go_wp2_with (at_make; go_must (refine wpList_make0 (sz := 3) (E := ER) (by omega) rfl _ (.tmp 14) 63 rfl 49 56 zeroR Tryd.underlying63 info_ratio rfl zeroR_ints (by omega) w.heap.size (Nat.le_refl _) .i64 .i64 _ _ n rfl rfl rfl rfl (by omega) ?_))
    intro W hA hbW hsW
    have HST : Hid (RatsRel w n L (.int .i64 0) (.slice (some ⟨w.heap.size, 0, none⟩) 0 n) W) := Lib.hid ⟨0, rfl, Nat.zero_le _, by simp, by simpa using hA, hbW⟩
    clear hA hbW hsW
    go_wp2
    go_loopw [4, 18] (fun v i wr => RatsRel w n L i v wr) (fun _ i _ => n - (intOf i).toNat)
    case atStart => exact HST.out
    case round =>
      clear HST
      obtain ⟨k, rfl, hk, hall, hown, hbel⟩ := hrel
      have HALL := Lib.hid hall
      have HB := Lib.hid hbel
      have HOWN := Lib.hid hown
      clear hall
      obtain ⟨a3, n3, c3, rfl, hn3⟩ := hown.shape
      by_cases hkn : k = n
      · subst hkn
        have he : L.take k = L := by rw [HN.out, List.take_length]
        rw [he] at HALL HOWN
        have HF := Lib.hid (HR.out _ _ (by rw [← HN.out]; exact H60.out) HALL.out HOWN.out HB.out)
        clear hbel he hown hn3
        go_wp2
        first | go_ret | skip
        exact HF.out
      · have hkl : k < n := by omega
        obtain ⟨s, hs⟩ : ∃ s, L[k]? = some s := ⟨_, List.getElem?_eq_getElem (by rw [← HN.out]; exact hkl)⟩
        have HSS := Lib.hid hs
        obtain ⟨b, off, rfl, hb, hcell⟩ := TxL.at HH.out k s hs
        rw [← hbel.cell (p := ⟨b, off + k, none⟩) hb] at hcell
        have hw1 : IntKind.i64.wrap ((k : Int) + 1) = ((k + 1 : Nat) : Int) := by rw [IntWalk.i64_in _ (by omega)]; omega
        have HK := Lib.hid hkl
        have H3 := Lib.hid hn3
        clear hs hbel hown hn3
        go_wp2_with fail
        refine readq_any s _ (HE.out.later HB.out (Nat.le_refl _)) _ ?_ ?_
        · intro v q w1 hq hv hb1
          obtain ⟨s1, s2, rfl, hn1, hn2⟩ := hv
          obtain ⟨x1, m1, y1, rfl, hn1'⟩ := hn1.op
          obtain ⟨x2, m2, y2, rfl, hn2'⟩ := hn2.op
          have HB1 := Lib.hid (HB.out.trans (hb1.mono HB.out.size))
          have HOW1 := Lib.hid (HOWN.out.later elemR hb1 (Nat.le_refl _))
          have HER : Hid (ER w1 [.bool (decide (q.num < 0)), .slice x1 m1 y1, .slice x2 m2 y2] q) := Lib.hid ⟨_, _, _, _, _, _, rfl, hn1', hn2'⟩
          obtain ⟨ng, hng⟩ : ∃ ng, ng = decide (q.num < 0) := ⟨_, rfl⟩
          rw [← hng] at HER ⊢
          obtain ⟨hq1, hq2⟩ := isNum_of hq
          have HA2 : Hid ((L.take (k + 1)).all isNum = true) := Lib.hid (by rw [all_take_one isNum L k s HSS.out, HALL.out, hq1]; rfl)
          have HM2 : Hid ((L.take (k + 1)).map qOf = (L.take k).map qOf ++ [q]) := Lib.hid (by rw [map_take_one qOf L k s HSS.out, hq2])
          have HLK : Hid (((L.take k).map qOf).length ≤ 100000000) := Lib.hid (by rw [List.length_map, List.length_take]; omega)
          have hwB := HB1.out.size
          clear hb1 hq hn1 hn2 hn1' hn2' hq1 hq2 hng hcell
          dsimp only
          go_wp2_with (at_builtin; go_must (refine wpList_pushE elemR (by omega) rfl (.tmp 30) (.tmp 32) 63 rfl 49 56 zeroR Tryd.underlying63 info_ratio rfl zeroR_ints (by omega) w.heap.size _ ((HOW1.out.alloc elemR _).alloc elemR _) HLK.out (by simp; omega) (w1.heap.size + 1) [.bool ng, .slice x1 m1 y1, .slice x2 m2 y2] q rfl (elemR.below HER.out (((Below.refl _ _).alloc (Nat.le_refl _) _).alloc (by simp) _) (Nat.le_refl _)) (cells_alloc _ #[.bool ng, .slice x1 m1 y1, .slice x2 m2 y2] _ _ (by simp)) ?_))
          intro ao n4 c4 w4 hown4 hn4 hgr hb4
          have HOW4 : Hid (OwE 3 ER 49 w4 w.heap.size (.slice ao n4 c4) ((L.take (k + 1)).map qOf)) := Lib.hid (by rw [HM2.out, List.map_take]; exact hown4)
          have HB4 := Lib.hid (((HB1.out.alloc hwB _).alloc (by simp; omega) _).trans (hb4))
          clear hown4 hn4 hgr hb4
          go_wp2
          go_roundw
          case rel => exact ⟨k + 1, by first | rfl | go_num, HK.out, HA2.out, HOW4.out, HB4.out⟩
          case measure => simp [intOf]; have := HK.out; omega
        · intro e w1 hnone he hb1
          obtain ⟨t, p, rfl⟩ := he
          have HB1 := Lib.hid (HB.out.trans (hb1.mono HB.out.size))
          have hf : (decide (L.length ≤ 60) && L.all isNum) = false := by rw [all_not_at isNum L k s HSS.out (isNum_not hnone), Bool.and_false]
          have HF := Lib.hid (HR2.out (.iface t (.pointer (some p))) (w1.alloc (.cells #[.bool false, .slice none 0 0, .slice none 0 0] 49)) hf ⟨_, _, rfl⟩ (HB1.out.alloc HB1.out.size _))
          clear hb1 hnone hf hcell
          unfold zeroR
          dsimp only
          go_wp2
          first | go_ret | skip
          exact HF.out
  · have e1 : ((60 : Int) < (n : Int)) := by omega
    have hf : (decide (L.length ≤ 60) && L.all isNum) = false := by rw [← HN.out, decide_eq_false h60, Bool.false_and]
    have HF := Lib.hid (fun p w' => HR2.out (.iface 187 (.pointer (some p))) w' hf ⟨_, _, rfl⟩)
    obtain ⟨_, ⟨pf, hpf⟩, _⟩ := hE
    clear h60 hf
    go_enter Tryd.func42, Tryd.ntmps42
    go_wp2
    go_quiet (fail)
    go_wp2
    first | go_ret | skip
    exact HF.out _ _ (below_draws (Below.refl _ _) _)

theorem readrs_any (v : Value) (L : List ByteArray) (w : World) (hE : Env w) (h : TxL w v L) (hn : L.length ≤ 1048576) (R : Ending → World → Prop)
    (hR : ∀ v' w', L.length ≤ 60 → L.all isNum = true → RsL w' v' (L.map qOf) → Below w.heap.size w w' → R (.returned (.tuple #[v', .nilIface])) w')
    (hR2 : ∀ e w', (decide (L.length ≤ 60) && L.all isNum) = false → ErrV e → Below w.heap.size w w' → R (.returned (.tuple #[.slice none 0 0, e])) w') :
    Calls Tryd.prog 42 #[v] w R :=
  readrs_own v L w hE h hn R (fun v' w' h1 h2 h3 h4 => hR v' w' h1 h2 h3.sl h4) hR2

/-- a store into an older block without numbers leaves an owned list as it is -/
theorem OwE.setOld {α : Type} {sz : Nat} {E : World → List Value → α → Prop} (hE : Elem sz E) {e : TypeId} {w : World} {B : Nat} {v : Value} {xs : List α} (h : OwE sz E e w B v xs) {b : Nat} (hb : b < B) (hn : NoInt w b) (o : Nat) (u : Value) : OwE sz E e (w.setCell ⟨b, o, none⟩ u) B v xs := by
  rcases h with h | ⟨g, cap, cur, h1, h2, h3, h4, h5, h6, h7, h8⟩
  · exact .inl h
  · exact .inr ⟨g, cap, cur, h1, h2, by rw [Below.heap_setCell _ _ _ _ (show g ≠ b by omega)]; exact h3, h4, h5, h6, h7, fun i x hi => hE.keep (h8 i x hi) ((But.refl b w).setCell o u) hn⟩
end Go.Proofs.YtpncfhfjnnpgdaaDoor

namespace Go.Proofs.YtpncfhfjnnpgdaaDoor
open Go Go.RowKit

theorem sizes_each {L : List ByteArray} (h : tot L ≤ 1048576) : L.length ≤ 1048576 ∧ ∀ s ∈ L, s.size ≤ 1048576 := by
  unfold tot at h
  exact ⟨by omega, fun s hs => by have := size_le_sizes hs; omega⟩

/-- whether texts are numbers, and not too many -/
noncomputable def numsB (L : List ByteArray) : Bool := decide (L.length ≤ 60) && L.all isNum

set_option maxRecDepth 100000 in
set_option maxHeartbeats 1000000 in
theorem spec_isNumbers (v : Value) (L : List ByteArray) (w : World) (h : TxL w v L) (hn : L.length ≤ 1048576) (hs : ∀ s ∈ L, s.size ≤ 1048576) (R : Ending → World → Prop)
    (hR : ∀ w', Below w.heap.size w w' → R (.returned (.bool (numsB L))) w') :
    Calls Tryd.prog 17 #[v] w R := by
  have HR := Lib.hid hR; clear hR
  obtain ⟨ao, n, cap, rfl, hh⟩ := h.op
  have HH := Lib.hid hh
  have HS := Lib.hid hs
  have HN := Lib.hid hn
  clear h hh hs hn
  go_enter Tryd.func17, Tryd.ntmps17
  go_wp2_with fail
  refine isList_any _ L _ HH.out HN.out HS.out _ ?_
  intro w1 hb1
  obtain ⟨x, hx⟩ : ∃ x, x = numsB L := ⟨_, rfl⟩
  have hx' : (decide (L.length ≤ 60) && L.all isNum) = x := by rw [hx]; rfl
  rw [hx']
  rw [← hx] at HR
  have HB := Lib.hid hb1
  clear hb1 hx hx'
  dsimp only
  go_wp2
  first | go_ret | skip
  exact HR.out _ HB.out

set_option maxRecDepth 100000 in
set_option maxHeartbeats 1000000 in
theorem impl_isNumbers (v : Value) (L : List ByteArray) (w : World) (hE : Env w) (h : TxL w v L) (hn : L.length ≤ 1048576) (R : Ending → World → Prop)
    (hR : ∀ w', Below w.heap.size w w' → R (.returned (.bool (numsB L))) w') :
    Calls Tryd.prog 19 #[v] w R := by
  have HR := Lib.hid hR; clear hR
  have HE := Lib.hid hE; clear hE
  obtain ⟨ao, n, cap, rfl, hh⟩ := h.op
  have HH := Lib.hid hh
  have HN := Lib.hid hn
  clear h hh hn
  go_enter Tryd.func19, Tryd.ntmps19
  go_wp2_with fail
  refine readrs_any _ L _ HE.out HH.out HN.out _ ?_ ?_
  · intro v' w1 h1 h2 hv hb1
    have ht : numsB L = true := by unfold numsB; rw [decide_eq_true h1, h2]; rfl
    rw [ht] at HR
    obtain ⟨a9, n9, c9, rfl, _⟩ := SlE.op hv
    have HB := Lib.hid hb1
    clear hb1 ht h1 h2 hv
    dsimp only
    go_wp2
    first | go_ret | skip
    exact HR.out _ HB.out
  · intro e w1 hf he hb1
    have ht : numsB L = false := hf
    rw [ht] at HR
    obtain ⟨t, p, rfl⟩ := he
    have HB := Lib.hid hb1
    clear hb1 ht hf
    dsimp only
    go_wp2
    first | go_ret | skip
    exact HR.out _ HB.out

set_option maxRecDepth 100000 in
set_option maxHeartbeats 1000000 in
theorem law_isNumbers (v : Value) (L : List ByteArray) (w : World) (hE : Env w) (h : TxL w v L) (hn : L.length ≤ maxLen) (hs : ∀ s ∈ L, s.size ≤ maxLen) (R : Ending → World → Prop)
    (hR : ∀ w', Below w.heap.size w w' → R (.returned (.bool true)) w') :
    Calls Tryd.prog 5 #[v] w R := by
  have HR := Lib.hid hR; clear hR
  have HE := Lib.hid hE; clear hE
  obtain ⟨ao, n, cap, rfl, hh⟩ := h.op
  have HH := Lib.hid hh
  have HN := Lib.hid hn
  have HS := Lib.hid hs
  clear h hh hn hs
  go_enter Tryd.func5, Tryd.ntmps5
  go_wp2_with fail
  refine szT_any _ L _ 1048576 HH.out HN.out HS.out (by omega) _ ?_ ?_
  · intro ht
    obtain ⟨h1, h2⟩ := sizes_each ht
    have H1 := Lib.hid h1
    have H2 := Lib.hid h2
    have H9 := Lib.hid (show L.length ≤ 281474976710656 by omega)
    obtain ⟨m, hm⟩ : ∃ m : Nat, m = 1048576 - tot L := ⟨_, rfl⟩
    rw [← hm]
    have hm0 : ¬ ((m : Int) < 0) := by omega
    clear hm ht h1 h2
    dsimp only
    go_wp2_with fail
    refine toT_any _ L _ HH.out H1.out _ ?_
    intro v1 w1 hv1 hb1
    obtain ⟨a1, n1, c1, rfl, hv1'⟩ := hv1.op
    have HV1 := Lib.hid hv1'
    have HB1 := Lib.hid hb1
    clear hb1 hv1 hv1'
    dsimp only
    go_wp2_with fail
    refine spec_isNumbers _ L _ HV1.out H1.out H2.out _ ?_
    intro w2 hb2
    obtain ⟨x, hx⟩ : ∃ x, x = numsB L := ⟨_, rfl⟩
    have HX := Lib.hid hx
    rw [← hx]
    have HB2 := Lib.hid (HB1.out.trans (hb2.mono HB1.out.size))
    clear hb2 hx
    dsimp only
    go_wp2_with fail
    refine toT_any _ L _ (HH.out.later HB2.out (Nat.le_refl _)) H1.out _ ?_
    intro v3 w3 hv3 hb3
    obtain ⟨a3, n3, c3, rfl, hv3'⟩ := hv3.op
    have HV3 := Lib.hid hv3'
    have HB3 := Lib.hid (HB2.out.trans (hb3.mono HB2.out.size))
    clear hb3 hv3 hv3'
    dsimp only
    go_wp2_with fail
    refine impl_isNumbers _ L _ (HE.out.later HB3.out (Nat.le_refl _)) HV3.out H1.out _ ?_
    intro w4 hb4
    have HV4 := Lib.hid (HV3.out.later hb4 (Nat.le_refl _))
    have HB4 := Lib.hid (HB3.out.trans (hb4.mono HB3.out.size))
    rw [← HX.out]
    clear hb4
    have hxx : (x != x) = false := by cases x <;> rfl
    dsimp only
    go_wp2_with fail
    refine toT_any _ L _ (HH.out.later HB4.out (Nat.le_refl _)) H1.out _ ?_
    intro v5 w5 hv5 hb5
    obtain ⟨a5, n5, c5, rfl, hv5'⟩ := hv5.op
    have HV5 := Lib.hid hv5'
    have HV4b := Lib.hid (HV4.out.later hb5 (Nat.le_refl _))
    have HB5 := Lib.hid (HB4.out.trans (hb5.mono HB4.out.size))
    clear hb5 hv5 hv5'
    dsimp only
    go_wp2_with fail
    refine eqT_any _ _ L L _ HV4b.out HV5.out H9.out H9.out _ ?_
    intro w6 hb6
    rw [decide_eq_true rfl]
    have HB6 := Lib.hid (HB5.out.trans (hb6.mono HB5.out.size))
    clear hb6
    dsimp only
    go_wp2
    first | go_ret | skip
    exact HR.out _ HB6.out
  · intro _
    dsimp only
    go_wp2
    first | go_ret | skip
    exact HR.out _ (Below.refl _ _)
end Go.Proofs.YtpncfhfjnnpgdaaDoor

namespace Go.Proofs.YtpncfhfjnnpgdaaDoor
open Go Go.RowKit

set_option maxRecDepth 100000 in
theorem in_any (n low high : Int) (w : World) (R : Ending → World → Prop) (hR : R (.returned (.bool (decide (low ≤ n ∧ n ≤ high)))) w) :
    Calls Tryd.prog 52 #[.int .i64 n, .int .i64 low, .int .i64 high] w R := by
  have HR := Lib.hid hR; clear hR
  by_cases h1 : low ≤ n
  · by_cases h2 : n ≤ high
    · rw [decide_eq_true ⟨h1, h2⟩] at HR
      go_enter Tryd.func52, Tryd.ntmps52
      go_wp2
      first | go_ret | skip
      exact HR.out
    · rw [decide_eq_false (fun h => h2 h.2)] at HR
      go_enter Tryd.func52, Tryd.ntmps52
      go_wp2
      first | go_ret | skip
      exact HR.out
  · rw [decide_eq_false (fun h => h1 h.1)] at HR
    go_enter Tryd.func52, Tryd.ntmps52
    go_wp2
    first | go_ret | skip
    exact HR.out

/-- whether a fraction is a small integer -/
def smallB (q : Rat) : Bool := decide (q.den = 1 ∧ q.num.natAbs ≤ 1000000000000000)

theorem small_true {q : Rat} (h1 : q.den = 1) (h2 : q.num.natAbs ≤ 1000000000000000) : smallB q = true := decide_eq_true ⟨h1, h2⟩
theorem small_not {q : Rat} (h : ¬ (q.den = 1 ∧ q.num.natAbs ≤ 1000000000000000)) : smallB q = false := decide_eq_false h

theorem len_four {n : Nat} (h : (dig 10000 n).length ≤ 4) : n < 10000000000000000 := by
  have h1 := lt_pow_dig (B := 10000) (by omega) n
  have h2 : 10000 ^ (dig 10000 n).length ≤ 10000 ^ 4 := Nat.pow_le_pow_right (by omega) h
  have h3 : (10000 : Nat) ^ 4 = 10000000000000000 := by decide
  omega
theorem len_five {n : Nat} (h : ¬ (dig 10000 n).length ≤ 4) : ¬ n ≤ 1000000000000000 := by
  intro h1
  refine h (dig_length_le (by omega) 4 n ?_)
  have h3 : (10000 : Nat) ^ 4 = 10000000000000000 := by decide
  omega

theorem val_part_lt (xs : List Nat) (h : ∀ d ∈ xs, d < 10000) (hl : xs.length ≤ 4) (k : Nat) : val 10000 (xs.drop k) < 10000000000000000 := by
  have h1 := val_lt (B := 10000) (xs.drop k) (fun d hd => h d (List.mem_of_mem_drop hd))
  have h2 : 10000 ^ (xs.drop k).length ≤ 10000 ^ 4 := Nat.pow_le_pow_right (by omega) (by rw [List.length_drop]; omega)
  have h3 : (10000 : Nat) ^ 4 = 10000000000000000 := by decide
  omega

theorem num_sign (q : Rat) (ng : Bool) (h : ng = decide (q.num < 0)) : q.num = if ng then -(q.num.natAbs : Int) else (q.num.natAbs : Int) := by
  subst h
  by_cases h : q.num < 0
  · simp [h]; omega
  · simp [h]; omega

set_option maxRecDepth 100000 in
set_option maxHeartbeats 2000000 in
theorem small_any (v : Value) (q : Rat) (w : World) (hq : IsQ w v q) (hl1 : (dig 10000 q.num.natAbs).length ≤ 1000) (hl2 : (dig 10000 q.den).length ≤ 1000) (R : Ending → World → Prop)
    (hR : ∀ n w', (smallB q = true → n = q.num) → Below w.heap.size w w' → R (.returned (.tuple #[.int .i64 n, .bool (smallB q)])) w') :
    Calls Tryd.prog 46 #[v] w R := by
  have HR := Lib.hid hR; clear hR
  have HQ := Lib.hid hq
  obtain ⟨a1, n1, c1, a2, n2, c2, rfl, e1, e2, hs1, hs2⟩ := hq.open
  obtain ⟨xs, hxs⟩ : ∃ xs, xs = dig 10000 q.num.natAbs := ⟨_, rfl⟩
  have hvx : val 10000 xs = q.num.natAbs := by rw [hxs]; exact val_dig (by omega) _
  have hx : ∀ d ∈ xs, d < 10000 := by rw [hxs]; exact dig_lt (by omega) _
  rw [← hxs] at hs1 e1
  obtain ⟨ng, hng⟩ : ∃ ng, ng = decide (q.num < 0) := ⟨_, rfl⟩
  have HNS := Lib.hid (num_sign q ng hng)
  rw [← hng] at HQ ⊢
  have HN := Lib.hid e1
  have HX := Lib.hid hx
  have HVX := Lib.hid hvx
  have HXS := Lib.hid hxs
  have HS := Lib.hid hs1
  have hn1 : n1 ≤ 1000 := by rw [e1, hxs]; exact hl1
  have HL2 := Lib.hid hl2
  obtain ⟨L, hL⟩ : ∃ L, L = w.alloc (.cells #[.bool ng, .slice a1 n1 c1, .bool false, .slice a2 n2 c2] 59) := ⟨_, rfl⟩
  have HBL : Hid (Below w.heap.size w L) := Lib.hid (by rw [hL]; exact (Below.refl _ _).alloc (Nat.le_refl _) _)
  have HBX : Hid (Box4 L w.heap.size (.bool ng) (.slice a1 n1 c1) (.bool false) (.slice a2 n2 c2) 59) := Lib.hid (by rw [hL]; exact Box4.made _ _ _ _ _ _)
  have HL := Lib.hid hL
  obtain ⟨⟨hP0, hP1, hP2, hP3⟩, _, _, _, _⟩ := Box4.cells HBX.out
  clear hq e1 e2 hs1 hs2 hxs hvx hx hl1 hl2 hL hng
  go_enter Tryd.func46, Tryd.ntmps46
  rw [HL.out] at hP0 hP1 hP2 hP3
  go_wp2_with fail
  rw [← HL.out]
  refine integerQ_any _ q _ (HQ.out.later HBL.out (Nat.le_refl _)) (by have := HL2.out; omega) _ ?_
  intro w1 hb1
  have HB1 := Lib.hid (HBL.out.trans (hb1.mono HBL.out.size))
  have HX1 := Lib.hid (HBX.out.later hb1 (lt_of_block HBX.out))
  have HS1 := Lib.hid (HS.out.later HB1.out (Nat.le_refl _))
  clear hb1 hP0 hP1 hP2 hP3
  obtain ⟨⟨hP0, hP1, hP2, hP3⟩, _, _, _, _⟩ := Box4.cells HX1.out
  by_cases hd : q.den = 1
  · rw [decide_eq_true hd]
    have HD := Lib.hid hd
    clear hd
    by_cases h4 : n1 ≤ 4
    · have e4 : ¬ ((4 : Int) < (n1 : Int)) := by omega
      have hwn : IntKind.i64.wrap ((n1 : Int) - 1) = (n1 : Int) - 1 := IntWalk.i64_in _ (by omega)
      dsimp only
      go_wp2
      clear e4 hwn
      go_loop [4, 5] (fun r i => ∃ k x : Nat, i = .int .i64 ((k : Int) - 1) ∧ k ≤ n1 ∧ r = .int .i64 ((x : Nat) : Int) ∧ x = val 10000 (xs.drop k)) (fun _ i => (intOf i + 1).toNat)
      case atStart => exact ⟨n1, 0, rfl, Nat.le_refl _, rfl, by rw [HN.out, List.drop_length]; rfl⟩
      case round =>
        obtain ⟨k, x, rfl, hk, rfl, hxk⟩ := hrel
        have HXK := Lib.hid hxk
        have hx16 : x < 10000000000000000 := by rw [hxk]; exact val_part_lt xs HX.out (by rw [← HN.out]; exact h4) k
        clear hxk
        by_cases hk0 : k = 0
        · subst hk0
          have hxv : q.num.natAbs = x := by rw [HXK.out, List.drop_zero, HVX.out]
          have hsg : q.num = if ng then -(x : Int) else (x : Int) := by rw [← hxv]; exact HNS.out
          have hsm : smallB q = decide (x ≤ 1000000000000000) := by unfold smallB; rw [hxv]; simp [HD.out]
          have HSG := Lib.hid hsg
          rw [hsm] at HR
          clear hxv hsg hsm
          cases ng
          · go_wp2_with fail
            refine in_any _ _ _ _ _ ?_
            have hdx : decide (-1000000000000000 ≤ (x : Int) ∧ (x : Int) ≤ 1000000000000000) = decide (x ≤ 1000000000000000) := decide_eq_decide.2 (by omega)
            rw [hdx]
            obtain ⟨b, hb⟩ : ∃ b, b = decide (x ≤ 1000000000000000) := ⟨_, rfl⟩
            rw [← hb] at HR ⊢
            clear hb hdx
            dsimp only
            go_wp2
            first | go_ret | skip
            exact HR.out _ _ (fun _ => HSG.out.symm) HB1.out
          · have hwneg : IntKind.i64.wrap (-(x : Int)) = -(x : Int) := IntWalk.i64_in _ (by omega)
            go_wp2_with fail
            refine in_any _ _ _ _ _ ?_
            have hdx : decide (-1000000000000000 ≤ -(x : Int) ∧ -(x : Int) ≤ 1000000000000000) = decide (x ≤ 1000000000000000) := decide_eq_decide.2 (by omega)
            rw [hdx]
            obtain ⟨b, hb⟩ : ∃ b, b = decide (x ≤ 1000000000000000) := ⟨_, rfl⟩
            rw [← hb] at HR ⊢
            clear hb hdx
            dsimp only
            go_wp2
            first | go_ret | skip
            exact HR.out _ _ (fun _ => HSG.out.symm) HB1.out
        · obtain ⟨j, rfl⟩ : ∃ j, k = j + 1 := ⟨k - 1, by omega⟩
          obtain ⟨b, o, rfl, hb1, hc1⟩ := Sl.at HS1.out j (by omega)
          obtain ⟨d, hde⟩ : ∃ d, d = xs.getD j 0 := ⟨_, rfl⟩
          rw [← hde] at hc1
          have hdl : d < 10000 := by rw [hde]; exact getD_lt (by omega) _ HX.out _
          have es : ((j + 1 : Nat) : Int) - 1 = (j : Int) := by omega
          rw [es]
          obtain ⟨y, hy⟩ : ∃ y, y = 10000 * x + d := ⟨_, rfl⟩
          have HY := Lib.hid (show y = val 10000 (xs.drop j) by rw [val_drop 10000 xs j (by rw [← HN.out]; omega), hy, hde, HXK.out]; omega)
          have hy16 : y < 10000000000000000 := by rw [HY.out]; exact val_part_lt xs HX.out (by rw [← HN.out]; exact h4) j
          have hwm : IntKind.i64.wrap (10000 * (x : Int)) = ((10000 * x : Nat) : Int) := by rw [IntWalk.i64_in _ (by omega)]; omega
          have hwa : IntKind.i64.wrap (((10000 * x : Nat) : Int) + (d : Int)) = (y : Int) := by rw [IntWalk.i64_in _ (by omega)]; omega
          have hws : IntKind.i64.wrap ((j : Int) - 1) = (j : Int) - 1 := IntWalk.i64_in _ (by omega)
          have hjn : (j : Int) < (n1 : Int) := by omega
          obtain ⟨m, hm⟩ : ∃ m : Nat, m = 10000 * x := ⟨_, rfl⟩
          rw [← hm] at hwm hwa
          clear hde es hy hm hy16
          go_wp2
          go_round
          case rel => exact ⟨j, y, rfl, by omega, rfl, HY.out⟩
          case measure => simp [intOf]
    · have e4 : ((4 : Int) < (n1 : Int)) := by omega
      have hsm : smallB q = false := small_not fun h => len_five (n := q.num.natAbs) (by rw [← HXS.out, ← HN.out]; exact h4) h.2
      have HF := Lib.hid (HR.out 0 w1 (fun h => by rw [hsm] at h; cases h) HB1.out)
      rw [hsm] at HF
      clear hsm h4
      dsimp only
      go_wp2
      first | go_ret | skip
      exact HF.out
  · rw [decide_eq_false hd]
    have hsm : smallB q = false := small_not fun h => hd h.1
    have HF := Lib.hid (HR.out 0 w1 (fun h => by rw [hsm] at h; cases h) HB1.out)
    rw [hsm] at HF
    clear hsm hd
    dsimp only
    go_wp2
    first | go_ret | skip
    exact HF.out
end Go.Proofs.YtpncfhfjnnpgdaaDoor

namespace Go.Proofs.YtpncfhfjnnpgdaaDoor
open Go Go.RowKit

/-- the small integer that a text is -/
noncomputable def smallO (L : List UInt8) : Option Int := (numO L).bind fun q => if smallB q = true then some q.num else none

theorem smallO_some {L : List UInt8} {q : Rat} (h : numO L = some q) (hs : smallB q = true) : smallO L = some q.num := by
  unfold smallO; rw [h]; simp [hs]
theorem smallO_none {L : List UInt8} (h : ∀ q, numO L = some q → smallB q = false) : smallO L = none := by
  unfold smallO
  cases hn : numO L with
  | none => rfl
  | some q => simp [h q hn]

set_option maxRecDepth 100000 in
set_option maxHeartbeats 1000000 in
theorem spec_smallOf (s : ByteArray) (w : World) (hs : s.size ≤ 1100000) (R : Ending → World → Prop)
    (hR : ∀ z w', smallO s.data.toList = some z → Below w.heap.size w w' → R (.returned (.tuple #[.int .i64 z, .bool true])) w')
    (hR2 : ∀ w', smallO s.data.toList = none → Below w.heap.size w w' → R (.returned (.tuple #[.int .i64 0, .bool false])) w') :
    Calls Tryd.prog 23 #[.string s] w R := by
  have HR := Lib.hid hR; clear hR
  have HR2 := Lib.hid hR2; clear hR2
  go_enter Tryd.func23, Tryd.ntmps23
  go_wp2_with fail
  refine isq_any s _ hs _ ?_
  intro w1 hb1
  cases hn : numO s.data.toList with
  | none =>
    have HF := Lib.hid (HR2.out w1 (smallO_none fun q hq => by rw [hn] at hq; cases hq) hb1)
    clear hb1 hn
    simp only [Option.isSome_none]
    go_wp2
    first | go_ret | skip
    exact HF.out
  | some q =>
    have HN := Lib.hid hn
    have HB := Lib.hid hb1
    clear hb1 hn
    simp only [Option.isSome_some]
    go_wp2_with fail
    refine ofq_any s q _ HN.out _ ?_
    intro v w2 hq2 hb2
    have hl := few_len (numO_few HN.out) (B := 10000) (by omega)
    have HB2 := Lib.hid (HB.out.trans (hb2.mono HB.out.size))
    obtain ⟨ng, a1, n1, c1, a2, n2, c2, rfl, _, _⟩ := hq2.parts
    clear hb2
    dsimp only
    go_wp2_with fail
    refine small_any _ q _ hq2 (by omega) (by omega) _ ?_
    intro n w3 hnq hb3
    have HNQ := Lib.hid hnq
    have HB3 := Lib.hid (HB2.out.trans (hb3.mono HB2.out.size))
    obtain ⟨b, hb⟩ : ∃ b, b = smallB q := ⟨_, rfl⟩
    rw [← hb] at HNQ ⊢
    have HBB := Lib.hid hb
    clear hb3 hb hq2 hl hnq
    cases b
    · have HF := Lib.hid (HR2.out w3 (smallO_none fun q' hq' => by rw [HN.out] at hq'; obtain rfl := Option.some.inj hq'; exact HBB.out.symm) HB3.out)
      dsimp only
      go_wp2
      first | go_ret | skip
      exact HF.out
    · obtain ⟨z, hz⟩ : ∃ z, z = q.num := ⟨_, rfl⟩
      have hnz : n = z := by rw [hz]; exact HNQ.out rfl
      subst hnz
      have HF := Lib.hid (HR.out n w3 (by rw [hz]; exact smallO_some HN.out HBB.out.symm) HB3.out)
      clear hz
      dsimp only
      go_wp2
      first | go_ret | skip
      exact HF.out

theorem IsN.lit (w : World) (x : Nat) (z : Int) (hz : z = (x : Int)) (h0 : x ≠ 0) (hx : x < W64) : IsN (w.alloc (.cells #[.int .u64 z] 71)) (.slice (some ⟨w.heap.size, 0, none⟩) 1 1) x := by
  show Sl _ _ _ (dig W64 x)
  rw [dig_small h0 hx]
  exact (Own.lit1 .u64 71 w 0 x z hz (Nat.zero_le _)).sl

set_option maxRecDepth 100000 in
set_option maxHeartbeats 2000000 in
theorem impl_smallOf (s : ByteArray) (w : World) (hE : Env w) (R : Ending → World → Prop)
    (hR : ∀ z w', smallO s.data.toList = some z → Below w.heap.size w w' → R (.returned (.tuple #[.int .i64 z, .bool true])) w')
    (hR2 : ∀ w', smallO s.data.toList = none → Below w.heap.size w w' → R (.returned (.tuple #[.int .i64 0, .bool false])) w') :
    Calls Tryd.prog 24 #[.string s] w R := by
  have HR := Lib.hid hR; clear hR
  have HR2 := Lib.hid hR2; clear hR2
  have HE := Lib.hid hE; clear hE
  go_enter Tryd.func24, Tryd.ntmps24
  go_wp2_with fail
  refine readi_any s _ HE.out _ ?_ ?_
  · intro v q w1 hq h1 hv hb1
    have hfl := (few_len (numO_few hq) (B := W64) (by rw [W64_eq]; omega)).1
    obtain ⟨s1, rfl, hn1⟩ := hv
    obtain ⟨a1, n1, c1, rfl, hn1'⟩ := hn1.op
    obtain ⟨ng, hng⟩ : ∃ ng, ng = decide (q.num < 0) := ⟨_, rfl⟩
    rw [← hng]
    have HNS := Lib.hid (num_sign q ng hng)
    obtain ⟨x, hx⟩ : ∃ x, x = q.num.natAbs := ⟨_, rfl⟩
    rw [← hx] at hn1' hfl HNS
    have HX := Lib.hid hx
    have HQ := Lib.hid hq
    have H1 := Lib.hid h1
    obtain ⟨W, hW⟩ : ∃ W, W = w1.alloc (.cells #[.bool ng, .slice a1 n1 c1] 47) := ⟨_, rfl⟩
    have hbW : Below w1.heap.size w1 W := by rw [hW]; exact (Below.refl _ _).alloc (Nat.le_refl _) _
    have HBW := Lib.hid (hb1.trans (hbW.mono hb1.size))
    have HX2 : Hid (Box2 W w1.heap.size (.bool ng) (.slice a1 n1 c1) 47) := Lib.hid (by rw [hW]; exact Box2.made _ _ _ _)
    have HN1 := Lib.hid (hn1'.later hbW (Nat.le_refl _))
    obtain ⟨V, hV⟩ : ∃ V, V = W.alloc (.cells #[.int .u64 1000000000000000] 71) := ⟨_, rfl⟩
    have hbV : Below W.heap.size W V := by rw [hV]; exact (Below.refl _ _).alloc (Nat.le_refl _) _
    have HNV := Lib.hid (HN1.out.later hbV (Nat.le_refl _))
    have HNL : Hid (IsN V (.slice (some ⟨W.heap.size, 0, none⟩) 1 1) 1000000000000000) := Lib.hid (by rw [hV]; exact IsN.lit W _ _ rfl (by omega) (by rw [W64_eq]; omega))
    have HBV := Lib.hid (HBW.out.trans (hbV.mono HBW.out.size))
    have HXV := Lib.hid (HX2.out.later hbV (lt_of_block HX2.out))
    have hws : W.heap.size = w1.heap.size + 1 := by rw [hW]; simp
    have HWS := Lib.hid hws
    have HV := Lib.hid (show V = (w1.alloc (.cells #[.bool ng, .slice a1 n1 c1] 47)).alloc (.cells #[.int .u64 1000000000000000] 71) by rw [hV, hW])
    have hll : (dig W64 1000000000000000).length ≤ 60 := by rw [dig_small (by omega) (by rw [W64_eq]; omega)]; simp
    have HLL := Lib.hid hll
    have HFL := Lib.hid hfl
    clear hn1 hn1' hng hb1 hq h1 hx hbW hbV hV hW hws hll hfl
    dsimp only
    go_wp2_with fail
    rw [← HV.out, ← HWS.out]
    refine ncmp_any _ _ x 1000000000000000 _ HNV.out HNL.out (Nat.le_trans HFL.out (by omega)) (Nat.le_trans HLL.out (by omega)) _ ?_
    intro w2 hb2 _
    have HB2 := Lib.hid (HBV.out.trans (hb2.mono HBV.out.size))
    have HN2 := Lib.hid (HNV.out.later hb2 (Nat.le_refl _))
    obtain ⟨hP0, hP1, _, _⟩ := Box2.cells (Box2.later HXV.out hb2 (lt_of_block HXV.out))
    clear hb2
    by_cases hgt : 1000000000000000 < x
    · rw [cmpN_gt hgt]
      have HF := Lib.hid (HR2.out w2 (smallO_none fun q' hq' => by
        rw [HQ.out] at hq'; obtain rfl := Option.some.inj hq'
        exact small_not fun h => by rw [← HX.out] at h; omega) HB2.out)
      clear hgt
      dsimp only
      go_wp2
      first | go_ret | skip
      exact HF.out
    · have hc : cmpN x 1000000000000000 ≤ 0 := by unfold cmpN; split <;> (try split) <;> omega
      obtain ⟨c, hcc⟩ : ∃ c, c = cmpN x 1000000000000000 := ⟨_, rfl⟩
      rw [← hcc] at hc ⊢
      have hc' : ¬ (0 < c) := by omega
      have HSM := Lib.hid (smallO_some HQ.out (small_true H1.out (by rw [← HX.out]; omega)))
      have hxle : x ≤ 1000000000000000 := by omega
      clear hgt hcc hc
      dsimp only
      go_wp2_with fail
      refine nzero_any _ x _ HN2.out _ ?_
      by_cases h0 : x = 0
      · rw [decide_eq_true h0]
        have hz : q.num = 0 := by have := HNS.out; rw [h0] at this; cases ng <;> simpa using this
        have HF := Lib.hid (HR.out 0 w2 (by rw [HSM.out, hz]) HB2.out)
        clear h0 hz hxle
        dsimp only
        go_wp2
        first | go_ret | skip
        exact HF.out
      · rw [decide_eq_false h0]
        have hone : dig W64 x = [x] := dig_small h0 (by rw [W64_eq]; omega)
        have hs := HN2.out
        unfold IsN at hs
        have hl := hs.len
        rw [hone] at hs hl
        have hl1 : n1 = 1 := hl
        subst hl1
        obtain ⟨b, o, rfl, hbl, hcell⟩ := Sl.at hs 0 (by omega)
        rw [Nat.add_zero] at hcell
        have hc9 : w2.cell? ⟨b, o, none⟩ = some (.int .u64 (x : Int)) := hcell
        have hwc : IntKind.i64.wrap (x : Int) = (x : Int) := IntWalk.i64_in _ (by omega)
        have hwneg : IntKind.i64.wrap (-(x : Int)) = -(x : Int) := IntWalk.i64_in _ (by omega)
        clear hcell hs hl hone h0 hxle
        cases ng
        · have HF := Lib.hid (HR.out (x : Int) w2 (by rw [HSM.out, HNS.out]; rfl) HB2.out)
          dsimp only
          go_wp2
          first | go_ret | skip
          exact HF.out
        · have HF := Lib.hid (HR.out (-(x : Int)) w2 (by rw [HSM.out, HNS.out]; rfl) HB2.out)
          dsimp only
          go_wp2
          first | go_ret | skip
          exact HF.out
  · intro e w1 hn he hb
    obtain ⟨t, p, rfl⟩ := he
    have HF := Lib.hid (HR2.out (w1.alloc (.cells #[.bool false, .slice none 0 0] 47)) (smallO_none fun q hq => small_not fun h => hn q hq h.1) (hb.alloc hb.size _))
    clear hb hn
    unfold zeroI
    dsimp only
    go_wp2
    first | go_ret | skip
    exact HF.out

set_option maxRecDepth 100000 in
set_option maxHeartbeats 1000000 in
theorem law_smallOf (s : ByteArray) (w : World) (hE : Env w) (R : Ending → World → Prop)
    (hR : ∀ w', Below w.heap.size w w' → R (.returned (.bool true)) w') :
    Calls Tryd.prog 7 #[.string s] w R := by
  have HR := Lib.hid hR; clear hR
  have HE := Lib.hid hE; clear hE
  by_cases hs : s.size ≤ 1048576
  · have hsi : ¬ (1048576 : Int) < (s.size : Int) := by omega
    have HS := Lib.hid hs
    clear hs
    go_enter Tryd.func7, Tryd.ntmps7
    go_wp2_with fail
    refine spec_smallOf s _ (by have := HS.out; omega) _ ?_ ?_
    · intro z w1 hz hb1
      have HZ := Lib.hid hz
      have HB1 := Lib.hid hb1
      clear hb1 hz
      dsimp only
      go_wp2_with fail
      refine impl_smallOf s _ (HE.out.later HB1.out (Nat.le_refl _)) _ ?_ ?_
      · intro z' w2 hz' hb2
        rw [HZ.out] at hz'
        obtain rfl := Option.some.inj hz'
        have HB2 := Lib.hid (HB1.out.trans (hb2.mono HB1.out.size))
        have hzz : (z != z) = false := by simp
        clear hb2 hz'
        dsimp only
        go_wp2
        first | go_ret | skip
        exact HR.out _ HB2.out
      · intro w2 hz' _
        rw [HZ.out] at hz'
        cases hz'
    · intro w1 hz hb1
      have HZ := Lib.hid hz
      have HB1 := Lib.hid hb1
      clear hb1 hz
      dsimp only
      go_wp2_with fail
      refine impl_smallOf s _ (HE.out.later HB1.out (Nat.le_refl _)) _ ?_ ?_
      · intro z' w2 hz' _
        rw [HZ.out] at hz'
        cases hz'
      · intro w2 _ hb2
        have HB2 := Lib.hid (HB1.out.trans (hb2.mono HB1.out.size))
        clear hb2
        dsimp only
        go_wp2
        first | go_ret | skip
        exact HR.out _ HB2.out
  · have hsi : (1048576 : Int) < (s.size : Int) := by omega
    clear hs
    go_enter Tryd.func7, Tryd.ntmps7
    go_wp2
    first | go_ret | skip
    exact HR.out _ (Below.refl _ _)
end Go.Proofs.YtpncfhfjnnpgdaaDoor

namespace Go.Proofs.YtpncfhfjnnpgdaaDoor
open Go Go.RowKit

/-- the remainder from 0 to m - 1 -/
def modN (ng : Bool) (x m : Nat) : Nat := if ng = true ∧ 0 < x % m then m - x % m else x % m

theorem tmod_nat (y m : Nat) : Int.tmod (y : Int) (m : Int) = ((y % m : Nat) : Int) := by
  rw [Int.tmod_eq_emod_of_nonneg (by omega)]; omega

set_option maxRecDepth 100000 in
set_option maxHeartbeats 2000000 in
theorem modq_any (v : Value) (q : Rat) (m : Nat) (w : World) (hq : IsQ w v q) (hm : 1 ≤ m) (hm9 : m ≤ 1000000000) (hl1 : (dig 10000 q.num.natAbs).length ≤ 1000) (R : Ending → World → Prop)
    (hR : ∀ w', Below w.heap.size w w' → R (.returned (.int .i64 ((modN (decide (q.num < 0)) q.num.natAbs m : Nat) : Int))) w') :
    Calls Tryd.prog 53 #[v, .int .i64 (m : Int)] w R := by
  have HR := Lib.hid hR; clear hR
  obtain ⟨a1, n1, c1, a2, n2, c2, rfl, e1, e2, hs1, hs2⟩ := hq.open
  obtain ⟨x, hx⟩ : ∃ x, x = q.num.natAbs := ⟨_, rfl⟩
  obtain ⟨ng, hng⟩ : ∃ ng, ng = decide (q.num < 0) := ⟨_, rfl⟩
  rw [← hx, ← hng] at HR
  rw [← hng]
  rw [← hx] at hs1 e1 hl1
  obtain ⟨xs, hxs⟩ : ∃ xs, xs = dig 10000 x := ⟨_, rfl⟩
  have hvx : val 10000 xs = x := by rw [hxs]; exact val_dig (by omega) _
  have hxd : ∀ d ∈ xs, d < 10000 := by rw [hxs]; exact dig_lt (by omega) _
  rw [← hxs] at hs1 e1 hl1
  have HN := Lib.hid e1
  have HXD := Lib.hid hxd
  have HVX := Lib.hid hvx
  have hn1 : n1 ≤ 1000 := by rw [e1]; exact hl1
  obtain ⟨L, hL⟩ : ∃ L, L = w.alloc (.cells #[.bool ng, .slice a1 n1 c1, .bool false, .slice a2 n2 c2] 59) := ⟨_, rfl⟩
  have HBL : Hid (Below w.heap.size w L) := Lib.hid (by rw [hL]; exact (Below.refl _ _).alloc (Nat.le_refl _) _)
  have HBX : Hid (Box4 L w.heap.size (.bool ng) (.slice a1 n1 c1) (.bool false) (.slice a2 n2 c2) 59) := Lib.hid (by rw [hL]; exact Box4.made _ _ _ _ _ _)
  have HS := Lib.hid (hs1.later HBL.out (Nat.le_refl _))
  have HL := Lib.hid hL
  obtain ⟨⟨hP0, hP1, hP2, hP3⟩, _, _, _, _⟩ := Box4.cells HBX.out
  have hwn : IntKind.i64.wrap ((n1 : Int) - 1) = (n1 : Int) - 1 := IntWalk.i64_in _ (by omega)
  have hm0 : ¬ (m : Int) = 0 := by omega
  clear hq e1 e2 hs1 hs2 hxs hvx hxd hl1 hL hng hx
  go_enter Tryd.func53, Tryd.ntmps53
  rw [HL.out] at hP0 hP1 hP2 hP3
  go_wp2
  rw [← HL.out] at hP0 hP1 hP2 hP3 ⊢
  clear hwn
  go_loop [5, 6] (fun r i => ∃ k z : Nat, i = .int .i64 ((k : Int) - 1) ∧ k ≤ n1 ∧ r = .int .i64 ((z : Nat) : Int) ∧ z = val 10000 (xs.drop k) % m) (fun _ i => (intOf i + 1).toNat)
  case atStart => exact ⟨n1, 0, rfl, Nat.le_refl _, rfl, by rw [HN.out, List.drop_length]; simp [val]⟩
  case round =>
    obtain ⟨k, z, rfl, hk, rfl, hz⟩ := hrel
    have HZ := Lib.hid hz
    have hzm : z < m := by rw [hz]; exact Nat.mod_lt _ (by omega)
    clear hz
    by_cases hk0 : k = 0
    · subst hk0
      have hfin : z = x % m := by rw [HZ.out, List.drop_zero, HVX.out]
      cases ng
      · have HF := Lib.hid (show R (.returned (.int .i64 (z : Int))) L by have := HR.out _ HBL.out; unfold modN at this; simp at this; rw [hfin]; exact this)
        clear hfin
        go_wp2
        first | go_ret | skip
        exact HF.out
      · by_cases hz0 : 0 < z
        · obtain ⟨y, hy⟩ : ∃ y, m = y + z := ⟨m - z, by omega⟩
          have hws : IntKind.i64.wrap ((m : Int) - (z : Int)) = (y : Int) := by rw [IntWalk.i64_in _ (by omega)]; omega
          have HF := Lib.hid (show R (.returned (.int .i64 (y : Int))) L by
            have := HR.out _ HBL.out
            unfold modN at this
            rw [← hfin, if_pos ⟨rfl, hz0⟩, show m - z = y by omega] at this
            exact this)
          clear hfin hy
          go_wp2
          first | go_ret | skip
          exact HF.out
        · have HF := Lib.hid (show R (.returned (.int .i64 (z : Int))) L by
            have := HR.out _ HBL.out
            unfold modN at this
            rw [← hfin, if_neg (fun h => hz0 h.2)] at this
            exact this)
          clear hfin
          go_wp2
          first | go_ret | skip
          exact HF.out
    · obtain ⟨j, rfl⟩ : ∃ j, k = j + 1 := ⟨k - 1, by omega⟩
      obtain ⟨b, o, rfl, hb1, hc1⟩ := Sl.at HS.out j (by omega)
      obtain ⟨d, hde⟩ : ∃ d, d = xs.getD j 0 := ⟨_, rfl⟩
      rw [← hde] at hc1
      have hdl : d < 10000 := by rw [hde]; exact getD_lt (by omega) _ HXD.out _
      have es : ((j + 1 : Nat) : Int) - 1 = (j : Int) := by omega
      rw [es]
      obtain ⟨p, hp⟩ : ∃ p : Nat, p = 10000 * z := ⟨_, rfl⟩
      obtain ⟨y, hy⟩ : ∃ y, y = p + d := ⟨_, rfl⟩
      obtain ⟨r, hr⟩ : ∃ r, r = y % m := ⟨_, rfl⟩
      have HY := Lib.hid (show r = val 10000 (xs.drop j) % m by
        rw [hr, hy, hp, Nat.mul_comm, rem_step m d 10000 (val 10000 (xs.drop (j + 1))) z HZ.out, val_drop 10000 xs j (by rw [← HN.out]; omega), hde])
      have hwm : IntKind.i64.wrap (10000 * (z : Int)) = (p : Int) := by rw [IntWalk.i64_in _ (by omega)]; omega
      have hwa : IntKind.i64.wrap ((p : Int) + (d : Int)) = (y : Int) := by rw [IntWalk.i64_in _ (by omega)]; omega
      have hwt : Int.tmod (y : Int) (m : Int) = (r : Int) := by rw [tmod_nat, hr]
      have hwt2 : (y : Int) % (m : Int) = (r : Int) := by rw [hr]; omega
      have hws : IntKind.i64.wrap ((j : Int) - 1) = (j : Int) - 1 := IntWalk.i64_in _ (by omega)
      have hwr : IntKind.i64.wrap (r : Int) = (r : Int) := IntWalk.i64_in _ (by have : r < m := by rw [hr]; exact Nat.mod_lt _ (by omega)
                                                                                omega)
      have hjn : (j : Int) < (n1 : Int) := by omega
      clear hde es hy hp hr
      go_wp2
      go_round
      case rel => exact ⟨j, r, rfl, by omega, rfl, HY.out⟩
      case measure => simp [intOf]

set_option maxRecDepth 100000 in
set_option maxHeartbeats 2000000 in
theorem irem_any (ng : Bool) (v : Value) (x m : Nat) (w : World) (h : IsN w v x) (hm : 0 < m) (hmw : m < W64) (hlen : (dig W64 x).length ≤ 1000000) (R : Ending → World → Prop)
    (hR : ∀ w', Below w.heap.size w w' → R (.returned (.int .u64 ((modN ng x m : Nat) : Int))) w') :
    Calls Tryd.prog 54 #[.agg #[.bool ng, v], .int .u64 (m : Int)] w R := by
  have HR := Lib.hid hR; clear hR
  obtain ⟨a1, n1, c1, rfl, h'⟩ := h.op
  obtain ⟨L, hL⟩ : ∃ L, L = w.alloc (.cells #[.bool ng, .slice a1 n1 c1] 47) := ⟨_, rfl⟩
  have HBL : Hid (Below w.heap.size w L) := Lib.hid (by rw [hL]; exact (Below.refl _ _).alloc (Nat.le_refl _) _)
  have HBX : Hid (Box2 L w.heap.size (.bool ng) (.slice a1 n1 c1) 47) := Lib.hid (by rw [hL]; exact Box2.made _ _ _ _)
  have HH := Lib.hid (h'.later HBL.out (Nat.le_refl _))
  have HL := Lib.hid hL
  have HMW := Lib.hid hmw
  have HLEN := Lib.hid hlen
  obtain ⟨hP0, hP1, _, _⟩ := Box2.cells HBX.out
  clear h h' hL hmw hlen
  go_enter Tryd.func54, Tryd.ntmps54
  rw [HL.out] at hP0 hP1
  go_wp2_with fail
  rw [← HL.out]
  refine rems_any _ x m _ HH.out hm HMW.out (by have := HLEN.out; omega) _ ?_
  intro w1 hb1 _
  have HB1 := Lib.hid (HBL.out.trans (hb1.mono HBL.out.size))
  have HX1 := Lib.hid (HBX.out.later hb1 (lt_of_block HBX.out))
  clear hP0 hP1
  obtain ⟨hP0, hP1, _, _⟩ := Box2.cells HX1.out
  obtain ⟨z, hz⟩ : ∃ z, z = x % m := ⟨_, rfl⟩
  have hzm : z < m := by rw [hz]; exact Nat.mod_lt _ hm
  rw [← hz]
  clear hb1
  cases ng
  · have HF := Lib.hid (show R (.returned (.int .u64 (z : Int))) w1 by
      have := HR.out _ HB1.out
      unfold modN at this; rw [← hz] at this; simp at this; exact this)
    clear hz
    dsimp only
    go_wp2
    first | go_ret | skip
    exact HF.out
  · by_cases hz0 : 0 < z
    · obtain ⟨y, hy⟩ : ∃ y, m = y + z := ⟨m - z, by omega⟩
      have hws : IntKind.u64.wrap ((m : Int) - (z : Int)) = (y : Int) := by
        rw [wrapu _ (by omega) (by have := HMW.out; rw [W64_eq] at this; omega)]; omega
      have HF := Lib.hid (show R (.returned (.int .u64 (y : Int))) w1 by
        have := HR.out _ HB1.out
        unfold modN at this
        rw [← hz, if_pos ⟨rfl, hz0⟩, show m - z = y by omega] at this
        exact this)
      clear hz hy
      dsimp only
      go_wp2
      first | go_ret | skip
      exact HF.out
    · have HF := Lib.hid (show R (.returned (.int .u64 (z : Int))) w1 by
        have := HR.out _ HB1.out
        unfold modN at this
        rw [← hz, if_neg (fun h => hz0 h.2)] at this
        exact this)
      clear hz
      dsimp only
      go_wp2
      first | go_ret | skip
      exact HF.out

/-- the remainder of the integer that a text is -/
noncomputable def remO (L : List UInt8) (m : Int) : Option Nat := (numO L).bind fun q => if q.den = 1 ∧ 1 ≤ m ∧ m ≤ 1000000000 then some (modN (decide (q.num < 0)) q.num.natAbs m.toNat) else none

theorem remO_some {L : List UInt8} {q : Rat} {m : Nat} (h : numO L = some q) (h1 : q.den = 1) (h2 : 1 ≤ m) (h3 : m ≤ 1000000000) : remO L (m : Int) = some (modN (decide (q.num < 0)) q.num.natAbs m) := by
  unfold remO
  rw [h, Option.bind_some, if_pos ⟨h1, by omega, by omega⟩, Int.toNat_natCast]
theorem remO_none {L : List UInt8} {m : Int} (h : ∀ q, numO L = some q → ¬ (q.den = 1 ∧ 1 ≤ m ∧ m ≤ 1000000000)) : remO L m = none := by
  unfold remO
  cases hn : numO L with
  | none => rfl
  | some q => rw [Option.bind_some, if_neg (h q hn)]

theorem any_den_false {L : List UInt8} (h : (numO L).any (fun q => decide (q.den = 1)) = false) : ∀ q, numO L = some q → q.den ≠ 1 := by
  intro q hq h1
  rw [hq, Option.any_some, decide_eq_true h1] at h; cases h
theorem any_den_true {L : List UInt8} (h : (numO L).any (fun q => decide (q.den = 1)) = true) : ∃ q, numO L = some q ∧ q.den = 1 := by
  cases hn : numO L with
  | none => rw [hn] at h; cases h
  | some q => rw [hn, Option.any_some] at h; exact ⟨q, rfl, of_decide_eq_true h⟩

set_option maxRecDepth 100000 in
set_option maxHeartbeats 1000000 in
theorem spec_remOf (s : ByteArray) (m : Int) (w : World) (hs : s.size ≤ 1100000) (R : Ending → World → Prop)
    (hR : ∀ z w', remO s.data.toList m = some z → Below w.heap.size w w' → R (.returned (.tuple #[.int .i64 (z : Int), .bool true])) w')
    (hR2 : ∀ w', remO s.data.toList m = none → Below w.heap.size w w' → R (.returned (.tuple #[.int .i64 0, .bool false])) w') :
    Calls Tryd.prog 27 #[.string s, .int .i64 m] w R := by
  have HR := Lib.hid hR; clear hR
  have HR2 := Lib.hid hR2; clear hR2
  go_enter Tryd.func27, Tryd.ntmps27
  go_wp2_with fail
  refine spec_isInteger s _ hs _ ?_
  intro w1 hb1
  have HB := Lib.hid hb1
  cases hi : (numO s.data.toList).any (fun q => decide (q.den = 1)) with
  | false =>
    have HF := Lib.hid (HR2.out w1 (remO_none fun q hq h => any_den_false hi q hq h.1) hb1)
    clear hb1 hi
    go_wp2
    first | go_ret | skip
    exact HF.out
  | true =>
    have HI := Lib.hid hi
    clear hb1 hi
    go_wp2_with fail
    refine in_any _ _ _ _ _ ?_
    by_cases hm : 1 ≤ m ∧ m ≤ 1000000000
    · rw [decide_eq_true hm]
      obtain ⟨k, rfl⟩ : ∃ k : Nat, m = (k : Int) := ⟨m.toNat, by omega⟩
      have hk1 : 1 ≤ k := by omega
      have hk2 : k ≤ 1000000000 := by omega
      obtain ⟨q, hq, hd⟩ := any_den_true HI.out
      have HQ := Lib.hid hq
      have HD := Lib.hid hd
      clear hm hq hd
      dsimp only
      go_wp2_with fail
      refine ofq_any s q _ HQ.out _ ?_
      intro v w2 hq2 hb2
      have hl := (few_len (numO_few HQ.out) (B := 10000) (by omega)).1
      have HB2 := Lib.hid (HB.out.trans (hb2.mono HB.out.size))
      obtain ⟨ng, a1, n1, c1, a2, n2, c2, rfl, _, _⟩ := hq2.parts
      clear hb2
      dsimp only
      go_wp2_with fail
      refine modq_any _ q k _ hq2 hk1 hk2 (by omega) _ ?_
      intro w3 hb3
      have HB3 := Lib.hid (HB2.out.trans (hb3.mono HB2.out.size))
      obtain ⟨z, hz⟩ : ∃ z, z = modN (decide (q.num < 0)) q.num.natAbs k := ⟨_, rfl⟩
      have HF := Lib.hid (HR.out z w3 (by rw [hz]; exact remO_some HQ.out HD.out hk1 hk2) HB3.out)
      rw [← hz]
      clear hb3 hz hl hq2
      dsimp only
      go_wp2
      first | go_ret | skip
      exact HF.out
    · rw [decide_eq_false hm]
      have HF := Lib.hid (HR2.out w1 (remO_none fun q hq h => hm h.2) HB.out)
      clear hm
      dsimp only
      go_wp2
      first | go_ret | skip
      exact HF.out

set_option maxRecDepth 100000 in
set_option maxHeartbeats 2000000 in
theorem impl_remOf (s : ByteArray) (m : Int) (w : World) (hE : Env w) (R : Ending → World → Prop)
    (hR : ∀ z w', remO s.data.toList m = some z → Below w.heap.size w w' → R (.returned (.tuple #[.int .i64 (z : Int), .bool true])) w')
    (hR2 : ∀ w', remO s.data.toList m = none → Below w.heap.size w w' → R (.returned (.tuple #[.int .i64 0, .bool false])) w') :
    Calls Tryd.prog 28 #[.string s, .int .i64 m] w R := by
  have HR := Lib.hid hR; clear hR
  have HR2 := Lib.hid hR2; clear hR2
  have HE := Lib.hid hE; clear hE
  go_enter Tryd.func28, Tryd.ntmps28
  go_wp2_with fail
  refine readi_any s _ HE.out _ ?_ ?_
  · intro v q w1 hq h1 hv hb1
    have hfl := (few_len (numO_few hq) (B := W64) (by rw [W64_eq]; omega)).1
    obtain ⟨s1, rfl, hn1⟩ := hv
    obtain ⟨a1, n1, c1, rfl, hn1'⟩ := hn1.op
    by_cases hm : 1 ≤ m ∧ m ≤ 1000000000
    · obtain ⟨k, rfl⟩ : ∃ k : Nat, m = (k : Int) := ⟨m.toNat, by omega⟩
      have hk1 : 1 ≤ k := by omega
      have hk2 : k ≤ 1000000000 := by omega
      have HREM := Lib.hid (remO_some hq h1 hk1 hk2)
      obtain ⟨ng, hng⟩ : ∃ ng, ng = decide (q.num < 0) := ⟨_, rfl⟩
      obtain ⟨x, hx⟩ : ∃ x, x = q.num.natAbs := ⟨_, rfl⟩
      rw [← hx, ← hng] at HREM
      rw [← hng]
      rw [← hx] at hn1' hfl
      obtain ⟨W, hW⟩ : ∃ W, W = w1.alloc (.cells #[.bool ng, .slice a1 n1 c1] 47) := ⟨_, rfl⟩
      have hbW : Below w1.heap.size w1 W := by rw [hW]; exact (Below.refl _ _).alloc (Nat.le_refl _) _
      have HBW := Lib.hid (hb1.trans (hbW.mono hb1.size))
      have HN1 := Lib.hid (hn1'.later hbW (Nat.le_refl _))
      have HW := Lib.hid hW
      have HFL := Lib.hid hfl
      have hwu : IntKind.u64.wrap (k : Int) = (k : Int) := wrapu _ (by omega) (by omega)
      have hn1a : ¬ ((k : Int) < 1) := by omega
      have hn1b : ¬ ((1000000000 : Int) < (k : Int)) := by omega
      clear hn1 hn1' hng hb1 hq h1 hx hbW hW hfl hm
      dsimp only
      go_wp2_with fail
      rw [← HW.out]
      refine irem_any ng _ x k _ HN1.out (by omega) (by rw [W64_eq]; omega) (Nat.le_trans HFL.out (by omega)) _ ?_
      intro w2 hb2
      have HB2 := Lib.hid (HBW.out.trans (hb2.mono HBW.out.size))
      obtain ⟨z, hz⟩ : ∃ z, z = modN ng x k := ⟨_, rfl⟩
      have hzk : z ≤ k := by
        rw [hz]; unfold modN
        have := Nat.mod_lt x (show 0 < k by omega)
        split <;> omega
      have HF := Lib.hid (HR.out z w2 (by rw [hz]; exact HREM.out) HB2.out)
      rw [← hz]
      have hwz : IntKind.i64.wrap (z : Int) = (z : Int) := IntWalk.i64_in _ (by omega)
      clear hb2 hz hwu hzk
      dsimp only
      go_wp2
      first | go_ret | skip
      exact HF.out
    · obtain ⟨ng, hng⟩ : ∃ ng, ng = decide (q.num < 0) := ⟨_, rfl⟩
      rw [← hng]
      have HF := Lib.hid (HR2.out (w1.alloc (.cells #[.bool ng, .slice a1 n1 c1] 47)) (remO_none fun q hq h => hm h.2) (hb1.alloc hb1.size _))
      clear hn1 hn1' hng hb1 hq h1 hfl
      by_cases hlo : m < 1
      · clear hm
        dsimp only
        go_wp2
        first | go_ret | skip
        exact HF.out
      · have hhi : 1000000000 < m := by omega
        clear hm
        dsimp only
        go_wp2
        first | go_ret | skip
        exact HF.out
  · intro e w1 hn he hb
    obtain ⟨t, p, rfl⟩ := he
    have HF := Lib.hid (HR2.out (w1.alloc (.cells #[.bool false, .slice none 0 0] 47)) (remO_none fun q hq h => hn q hq h.1) (hb.alloc hb.size _))
    clear hb hn
    unfold zeroI
    dsimp only
    go_wp2
    first | go_ret | skip
    exact HF.out

set_option maxRecDepth 100000 in
set_option maxHeartbeats 1000000 in
theorem law_remainderOf (s : ByteArray) (m : Int) (w : World) (hE : Env w) (_hm1 : -9223372036854775807 - 1 ≤ m) (_hm2 : m ≤ 9223372036854775807) (R : Ending → World → Prop)
    (hR : ∀ w', Below w.heap.size w w' → R (.returned (.bool true)) w') :
    Calls Tryd.prog 9 #[.string s, .int .i64 m] w R := by
  have HR := Lib.hid hR; clear hR
  have HE := Lib.hid hE; clear hE
  clear _hm1 _hm2
  by_cases hs : s.size ≤ 1048576
  · have hsi : ¬ (1048576 : Int) < (s.size : Int) := by omega
    have HS := Lib.hid hs
    clear hs
    go_enter Tryd.func9, Tryd.ntmps9
    go_wp2_with fail
    refine spec_remOf s m _ (by have := HS.out; omega) _ ?_ ?_
    · intro z w1 hz hb1
      have HZ := Lib.hid hz
      have HB1 := Lib.hid hb1
      clear hb1 hz
      dsimp only
      go_wp2_with fail
      refine impl_remOf s m _ (HE.out.later HB1.out (Nat.le_refl _)) _ ?_ ?_
      · intro z' w2 hz' hb2
        rw [HZ.out] at hz'
        obtain rfl := Option.some.inj hz'
        have HB2 := Lib.hid (HB1.out.trans (hb2.mono HB1.out.size))
        have hzz : ((z : Int) != (z : Int)) = false := by simp
        clear hb2 hz'
        dsimp only
        go_wp2
        first | go_ret | skip
        exact HR.out _ HB2.out
      · intro w2 hz' _
        rw [HZ.out] at hz'
        cases hz'
    · intro w1 hz hb1
      have HZ := Lib.hid hz
      have HB1 := Lib.hid hb1
      clear hb1 hz
      dsimp only
      go_wp2_with fail
      refine impl_remOf s m _ (HE.out.later HB1.out (Nat.le_refl _)) _ ?_ ?_
      · intro z' w2 hz' _
        rw [HZ.out] at hz'
        cases hz'
      · intro w2 _ hb2
        have HB2 := Lib.hid (HB1.out.trans (hb2.mono HB1.out.size))
        clear hb2
        dsimp only
        go_wp2
        first | go_ret | skip
        exact HR.out _ HB2.out
  · have hsi : (1048576 : Int) < (s.size : Int) := by omega
    clear hs
    go_enter Tryd.func9, Tryd.ntmps9
    go_wp2
    first | go_ret | skip
    exact HR.out _ (Below.refl _ _)
end Go.Proofs.YtpncfhfjnnpgdaaDoor

namespace Go.Proofs.YtpncfhfjnnpgdaaDoor
open Go Go.RowKit

def TimesRel (w : World) (g na nb : Nat) (xs : List Nat) (b : Nat) (iv : Value) (wr : World) : Prop :=
  ∃ (k : Nat) (zs : List Nat), iv = .int .i64 (k : Int) ∧ k ≤ na ∧ Arr .u64 71 wr g zs ∧ zs.length = na + nb ∧ (∀ d ∈ zs, d < W64) ∧ zs.drop (k + nb) = List.replicate (na - k) 0 ∧
    val W64 zs = val W64 (xs.take k) * b ∧ Below w.heap.size w wr ∧ wr.heap.size = w.heap.size + 1

theorem drop_zero_getD {zs : List Nat} {i m : Nat} (h : zs.drop i = List.replicate m 0) : zs.getD i 0 = 0 := by
  have h1 : (zs.drop i).getD 0 0 = zs.getD i 0 := by simp [List.getD_eq_getElem?_getD, List.getElem?_drop]
  rw [← h1, h]
  exact getD_zeros _ _

theorem times_rel (w wr w1 : World) (g na nb k x b c : Nat) (xs rs zs : List Nat) (zc : Int) (hk : k < na) (hxl : xs.length = na) (hx : x = xs.getD k 0)
    (hrl : rs.length = na + nb) (hrd : rs.drop (k + nb) = List.replicate (na - k) 0) (hrv : val W64 rs = val W64 (xs.take k) * b)
    (hA : Arr .u64 71 w1 g zs) (hzl : zs.length = rs.length) (hz : ∀ d ∈ zs, d < W64) (hzd : zs.drop (k + nb) = rs.drop (k + nb))
    (hzv : val W64 zs + W64 ^ (k + nb) * c = val W64 rs + W64 ^ k * (x * b)) (hc : c < W64) (hb : Below w.heap.size w wr) (hs : wr.heap.size = w.heap.size + 1) (hbut : But g wr w1) (hs1 : w1.heap.size = wr.heap.size) (hg : g = w.heap.size) (hzc : zc = (c : Int)) :
    TimesRel w g na nb xs b (.int .i64 ((k + 1 : Nat) : Int)) (w1.setCell ⟨g, k + nb, none⟩ (.int .u64 zc)) := by
  subst hzc hg
  refine ⟨k + 1, zs.set (k + nb) c, rfl, by omega, hA.set _ _, by simp [hzl, hrl], set_ltN _ _ _ hz hc, ?_, ?_, (hb.trans (hbut.below (Nat.le_refl _) (by omega))).setCell (by simp) _, by simp [hs, hs1]⟩
  · rw [drop_set_out _ _ _ _ (by omega)]
    have h2 := congrArg (List.drop 1) (hzd.trans hrd)
    rw [List.drop_drop, List.drop_replicate] at h2
    rw [show k + 1 + nb = k + nb + 1 by omega, h2]
    congr 1
  · have h1 := val_setN W64 zs (k + nb) c (by omega)
    rw [drop_zero_getD (hzd.trans hrd), Nat.mul_zero, Nat.add_zero] at h1
    rw [h1, hzv, hrv, val_take_succ W64 xs k (by omega), ← hx]
    rw [Nat.add_mul, Nat.mul_assoc]

set_option maxRecDepth 100000 in
set_option maxHeartbeats 1000000 in
theorem ntimes_any (va vb : Value) (a b : Nat) (w : World) (ha : IsN w va a) (hb : IsN w vb b) (hla : (dig W64 a).length ≤ 100000000) (hlb : (dig W64 b).length ≤ 100000000) (R : Ending → World → Prop)
    (hR : ∀ v' w', IsN w' v' (a * b) → Below w.heap.size w w' → R (.returned v') w') :
    Calls Tryd.prog 101 #[va, vb] w R := by
  have HR := Lib.hid hR; clear hR
  obtain ⟨aa, na, ca, rfl, hna, hsa⟩ := ha.open
  obtain ⟨ab, nb, cb, rfl, hnb, hsb⟩ := hb.open
  obtain ⟨xs, hxs⟩ : ∃ xs, xs = dig W64 a := ⟨_, rfl⟩
  have hvx : val W64 xs = a := by rw [hxs]; exact val_dig W64_two _
  have hxd : ∀ d ∈ xs, d < W64 := by rw [hxs]; exact limb_lt _
  unfold IsN at hsa hsb
  rw [← hna] at hla
  rw [← hnb] at hlb
  rw [← hxs] at hsa hna
  have HNA := Lib.hid hna
  have HNB := Lib.hid hnb
  have HVX := Lib.hid hvx
  have HXD := Lib.hid hxd
  have HSA := Lib.hid hsa
  have HSB := Lib.hid hsb
  have HBLK := Lib.hid (Sl.off hsb (Nat.le_refl w.heap.size))
  have hw0 : IntKind.i64.wrap ((na : Int) + (nb : Int)) = ((na + nb : Nat) : Int) := by rw [IntWalk.i64_in _ (by omega)]; omega
  obtain ⟨n, hn⟩ : ∃ n, n = na + nb := ⟨_, rfl⟩
  rw [← hn] at hw0
  have HNN := Lib.hid hn
  have hnle : n ≤ 1000000000 := by omega
  clear ha hb hna hnb hxs hvx hxd hsa hsb hn
  go_enter Tryd.func101, Tryd.ntmps101
  go_wp2_with (at_make; go_must (refine wpList_makez _ rfl (.tmp 12) 44 rfl 71 .u64 8 Tryd.underlying44 info_u64 (by omega) .i64 _ n rfl rfl (by omega) ?_))
  intro W hA hbW hsW
  have HST : Hid (TimesRel w w.heap.size na nb xs b (.int .i64 0) W) := Lib.hid ⟨0, _, rfl, Nat.zero_le _, hA, by simp [HNN.out], zeros_lt W64_two _, by simp [List.drop_replicate, HNN.out], by rw [val_zeros]; simp [val], hbW, hsW⟩
  clear hA hbW hsW hw0
  go_wp2
  go_loopw [16] (fun i wr => TimesRel w w.heap.size na nb xs b i wr) (fun i _ => na - (intOf i).toNat)
  case atStart => exact HST.out
  case round =>
    clear HST
    obtain ⟨k, rs, rfl, hk, hA, hrl, hrs, hrd, hrv, hbel, hsz⟩ := hrel
    have HRL := Lib.hid hrl
    have HRS := Lib.hid hrs
    have HRD := Lib.hid hrd
    have HRV := Lib.hid hrv
    have HB := Lib.hid hbel
    have HSZ := Lib.hid hsz
    clear hrl hrs hrd hrv hsz
    by_cases hkn : k = na
    · subst hkn
      have HF : Hid (val W64 rs = a * b) := Lib.hid (by rw [HRV.out, HNA.out, List.take_length, HVX.out])
      clear hbel
      go_wp2_with fail
      refine trimmed_any _ rs _ (hA.sl _ _ (by rw [HRL.out]; exact HNN.out) (Nat.le_refl _)) HRS.out (by rw [HRL.out, ← HNN.out]; omega) _ ?_
      intro v' hv' _
      rw [HF.out] at hv'
      dsimp only
      go_wp2
      first | go_ret | skip
      exact HR.out _ _ hv' HB.out
    · have hkl : k < na := by omega
      obtain ⟨b1, o1, rfl, hb1, hc1⟩ := Sl.at HSA.out k hkl
      rw [← hbel.cell (p := ⟨b1, o1 + k, none⟩) hb1] at hc1
      obtain ⟨x, hx⟩ : ∃ x, x = xs.getD k 0 := ⟨_, rfl⟩
      rw [← hx] at hc1
      have HX := Lib.hid hx
      have HXL := Lib.hid (show x < W64 by rw [hx]; exact getD_lt (by rw [W64_eq]; omega) _ HXD.out _)
      have hw1 : IntKind.i64.wrap ((k : Int) + (nb : Int)) = ((k + nb : Nat) : Int) := by rw [IntWalk.i64_in _ (by have := HNN.out; omega)]; omega
      have hw2 : IntKind.i64.wrap ((k : Int) + 1) = ((k + 1 : Nat) : Int) := by rw [IntWalk.i64_in _ (by omega)]; omega
      obtain ⟨j, hj⟩ : ∃ j, j = k + nb := ⟨_, rfl⟩
      rw [← hj] at hw1
      have HJ := Lib.hid hj
      have hjn : (j : Int) < (n : Int) := by have := HNN.out; omega
      have hj0 : (0 : Int) ≤ (j : Int) := by omega
      have hkn2 : (k : Int) ≤ (n : Int) := by have := HNN.out; omega
      have hk0 : (0 : Int) ≤ (k : Int) := by omega
      have hkc : ¬ n = k := by have := HNN.out; omega
      have HSBr := Lib.hid (HSB.out.later hbel (Nat.le_refl _))
      have HK := Lib.hid hkl
      clear hx hj hbel
      go_wp2_with fail
      refine addp_any w.heap.size k (n - k) (n - k) rs (dig W64 b) _ x _ hA HSBr.out HBLK.out (by rw [HRL.out, ← HNB.out]; omega) (by rw [← HNB.out]; have := HNN.out; omega) HRS.out (limb_lt _) HXL.out (by rw [HRL.out]; have := HNN.out; omega) _ ?_
      intro zs c w1 hz1 hz2 hz3 hz4 hz5 hz6 hz7 hz8 hz9
      rw [val_dig W64_two, ← HNB.out] at hz6
      rw [← HNB.out] at hz5
      have hREL := times_rel w wr w1 w.heap.size na nb k x b c xs rs zs (c : Int) HK.out HNA.out.symm HX.out HRL.out HRD.out HRV.out hz1 hz2 hz3 hz5 hz6 hz7 HB.out HSZ.out hz8 hz9 rfl rfl
      rw [← HJ.out] at hREL
      have HREL := Lib.hid hREL
      have hcj := hz1.cell j (by rw [hz2, HRL.out, HJ.out]; have := HK.out; omega)
      have hfj := hz1.frozen j
      clear hz1 hz2 hz3 hz4 hz5 hz6 hz7 hz8 hz9 hREL
      dsimp only
      go_wp2
      go_roundw
      case rel => exact HREL.out
      case measure => simp [intOf]; have := HK.out; omega
end Go.Proofs.YtpncfhfjnnpgdaaDoor

namespace Go.Proofs.YtpncfhfjnnpgdaaDoor
open Go Go.RowKit

theorem sgn_of (z : Int) : z = sgn (decide (z < 0)) z.natAbs := by
  unfold sgn
  by_cases h : z < 0
  · simp [h]; omega
  · simp [h]; omega

theorem sgn_mul (z : Int) (b : Nat) : sgn (decide (z < 0)) (z.natAbs * b) = z * (b : Int) := by
  have h := sgn_of z
  unfold sgn at *
  by_cases hz : z < 0
  · simp [hz] at h ⊢
    rw [← Int.neg_mul, ← h]
  · simp [hz] at h ⊢
    rw [← h]

theorem IsI.parts {w : World} {v : Value} {z : Int} (h : IsI w v z) : ∃ ng a n c, ng = decide (z < 0) ∧ v = .agg #[.bool ng, .slice a n c] ∧ IsN w (.slice a n c) z.natAbs := by
  obtain ⟨s, rfl, hs⟩ := h
  obtain ⟨a, n, c, rfl, hs'⟩ := hs.op
  exact ⟨_, a, n, c, rfl, rfl, hs'⟩

theorem IsI.mk {w : World} {s : Value} {z : Int} {ng : Bool} (hng : ng = decide (z < 0)) (hs : IsN w s z.natAbs) : IsI w (.agg #[.bool ng, s]) z := ⟨s, by rw [hng], hs⟩

theorem IsR.parts {w : World} {v : Value} {q : Rat} (h : IsR w v q) : ∃ ng a1 n1 c1 a2 n2 c2, ng = decide (q.num < 0) ∧ v = .agg #[.bool ng, .slice a1 n1 c1, .slice a2 n2 c2] ∧ IsN w (.slice a1 n1 c1) q.num.natAbs ∧ IsN w (.slice a2 n2 c2) q.den := by
  obtain ⟨s1, s2, rfl, h1, h2⟩ := h
  obtain ⟨a1, n1, c1, rfl, h1'⟩ := h1.op
  obtain ⟨a2, n2, c2, rfl, h2'⟩ := h2.op
  exact ⟨_, a1, n1, c1, a2, n2, c2, rfl, rfl, h1', h2'⟩

set_option maxRecDepth 100000 in
set_option maxHeartbeats 4000000 in
theorem scaled_any (va vb : Value) (z : Int) (b : Nat) (w : World) (ha : IsI w va z) (hb : IsN w vb b) (hla : (dig W64 z.natAbs).length ≤ 10000000) (hlb : (dig W64 b).length ≤ 10000000) (R : Ending → World → Prop)
    (hR : ∀ v' w', IsI w' v' (z * (b : Int)) → Below w.heap.size w w' → R (.returned v') w') :
    Calls Tryd.prog 78 #[va, vb] w R := by
  have HR := Lib.hid hR; clear hR
  obtain ⟨ng, a1, n1, c1, hng, rfl, hn1⟩ := ha.parts
  obtain ⟨a2, n2, c2, rfl, hn2⟩ := hb.op
  have HNG := Lib.hid hng
  obtain ⟨L, hL⟩ : ∃ L, L = (w.alloc (.cells #[.bool ng, .slice a1 n1 c1] 47)).alloc (.cells #[.bool false, .slice none 0 0] 47) := ⟨_, rfl⟩
  have hb1 : Below (w.heap.size + 1) (w.alloc (.cells #[.bool ng, .slice a1 n1 c1] 47)) L := by rw [hL]; exact (Below.refl _ _).alloc (by simp) _
  have B0 : Box2 L w.heap.size (.bool ng) (.slice a1 n1 c1) 47 := (Box2.made w _ _ _).later hb1 (by omega)
  have B1 : Box2 L (w.heap.size + 1) (.bool false) (.slice none 0 0) 47 := by
    have := Box2.made (w.alloc (.cells #[.bool ng, .slice a1 n1 c1] 47)) (.bool false) (.slice none 0 0) 47
    rw [World.size_alloc, ← hL] at this; exact this
  have HEXT : Hid (Below w.heap.size w L) := Lib.hid (by rw [hL]; exact ((Below.refl w.heap.size w).alloc (Nat.le_refl _) _).alloc (by simp) _)
  have hLs : L.heap.size = w.heap.size + 2 := by rw [hL]; simp
  have hk : w.heap.size + 1 < L.heap.size := by omega
  have HL := Lib.hid hL
  have Y1 := Lib.hid (hn1.later HEXT.out (Nat.le_refl _))
  have Y2 := Lib.hid (hn2.later HEXT.out (Nat.le_refl _))
  have HLN := Lib.hid (And.intro hla hlb)
  have HSOF : Hid (∀ w', Below (w.heap.size + 1) L w' → (Below (w.heap.size + 1) L w' ∧ w'.cell? ⟨w.heap.size, 0, none⟩ = some (.bool ng) ∧ w'.cell? ⟨w.heap.size, 1, none⟩ = some (.slice a1 n1 c1))) :=
    Lib.hid fun w' hb => ⟨hb, (B0.later hb (by omega)).cells.1, (B0.later hb (by omega)).cells.2.1⟩
  have HB1 := Lib.hid B1
  have HK := Lib.hid hk
  clear hng ha hb hn1 hn2 hla hlb hb1 B0 B1 hL hLs hk
  go_enter Tryd.func78, Tryd.ntmps78
  go_wp2_with fail
  rw [← HL.out]
  go_region_held3 (fun w' => Below (w.heap.size + 1) L w' ∧ w'.cell? ⟨w.heap.size, 0, none⟩ = some (.bool ng) ∧ w'.cell? ⟨w.heap.size, 1, none⟩ = some (.slice a1 n1 c1))
    (first
      | exact HSOF.out _ HQ2.out
      | exact HSOF.out _ HQ1.out
      | exact HSOF.out _ (Below.refl _ _).drew
      | exact HSOF.out _ ((HQ2.out.setCell (by simp) _).setCell (by simp) _))
    (first
      | (go_at_call 65; refine integerOf_z ng v1 (z.natAbs * b) _ HV1.out _ ?_; intro v2 w2 hv2 hb2; rw [HNG.out, sgn_mul] at hv2; obtain ⟨m2, a5, m5, c5, hm2, rfl, hn5⟩ := hv2.parts; have HV5 := Lib.hid hn5; have HM2 := Lib.hid hm2; have HT2 := Lib.hid (HT1.out.trans (hb2.mono HT1.out.size)); have HQ2 := Lib.hid (HT2.out.mono (Nat.le_of_lt HK.out)); have d2 := HB1.out.later HT2.out HK.out; obtain ⟨hR0, hR1, hR2, hR3⟩ := d2.cells; have HD2 := Lib.hid d2; clear hv2 hb2 d2 hn5 hm2; dsimp only)
      | (go_at_call 101; refine ntimes_any _ _ z.natAbs b _ (Y1.out.later (Below.refl _ _).drew (Nat.le_refl _)) (Y2.out.later (Below.refl _ _).drew (Nat.le_refl _)) (Nat.le_trans HLN.out.1 (by omega)) (Nat.le_trans HLN.out.2 (by omega)) _ ?_; intro v1 w1 hv1 hb1; have HV1 := Lib.hid hv1; have HT1 : Hid (Below L.heap.size L w1) := Lib.hid (below_unDrew hb1); have HQ1 := Lib.hid (HT1.out.mono (Nat.le_of_lt HK.out)); clear hv1 hb1; dsimp only))
  all_goals
    go_wp2
    refine bodyPost_ret_at (by simp [results, Tryd.results78, go_sem, hR0, hR1, hR2, hR3] <;> rfl) rfl ?_
    refine HR.out _ _ (IsI.mk HM2.out (HV5.out.set2 (HD2.out.noInt rfl rfl) _ _ rfl)) ((((HEXT.out.trans (HT2.out.mono HEXT.out.size)).setCell (by simp) _).setCell (by simp) _))

/-- how two integers compare -/
def cmpZ (a b : Int) : Int := if a < b then -1 else if b < a then 1 else 0

set_option maxRecDepth 100000 in
set_option maxHeartbeats 2000000 in
theorem icmp_any (va vb : Value) (a b : Int) (w : World) (ha : IsI w va a) (hb : IsI w vb b) (hla : (dig W64 a.natAbs).length ≤ 100000000) (hlb : (dig W64 b.natAbs).length ≤ 100000000) (R : Ending → World → Prop)
    (hR : ∀ w', Below w.heap.size w w' → R (.returned (.int .i64 (cmpZ a b))) w') :
    Calls Tryd.prog 79 #[va, vb] w R := by
  have HR := Lib.hid hR; clear hR
  obtain ⟨na, a1, n1, c1, hna, rfl, hn1⟩ := ha.parts
  obtain ⟨nb, a2, n2, c2, hnb, rfl, hn2⟩ := hb.parts
  obtain ⟨L, hL⟩ : ∃ L, L = (w.alloc (.cells #[.bool na, .slice a1 n1 c1] 47)).alloc (.cells #[.bool nb, .slice a2 n2 c2] 47) := ⟨_, rfl⟩
  have hb1 : Below (w.heap.size + 1) (w.alloc (.cells #[.bool na, .slice a1 n1 c1] 47)) L := by rw [hL]; exact (Below.refl _ _).alloc (by simp) _
  have B0 : Box2 L w.heap.size (.bool na) (.slice a1 n1 c1) 47 := (Box2.made w _ _ _).later hb1 (by omega)
  have B1 : Box2 L (w.heap.size + 1) (.bool nb) (.slice a2 n2 c2) 47 := by
    have := Box2.made (w.alloc (.cells #[.bool na, .slice a1 n1 c1] 47)) (.bool nb) (.slice a2 n2 c2) 47
    rw [World.size_alloc, ← hL] at this; exact this
  have HEXT : Hid (Below w.heap.size w L) := Lib.hid (by rw [hL]; exact ((Below.refl w.heap.size w).alloc (Nat.le_refl _) _).alloc (by simp) _)
  have HL := Lib.hid hL
  have Y1 := Lib.hid (hn1.later HEXT.out (Nat.le_refl _))
  have Y2 := Lib.hid (hn2.later HEXT.out (Nat.le_refl _))
  have HLN := Lib.hid (And.intro hla hlb)
  have HNA := Lib.hid hna
  have HNB := Lib.hid hnb
  obtain ⟨hA0, hA1, _, _⟩ := B0.cells
  obtain ⟨hB0, hB1, _, _⟩ := B1.cells
  clear hna hnb ha hb hn1 hn2 hla hlb hb1 B0 B1 hL
  cases na <;> cases nb
  · have h1 : ¬ a < 0 := of_decide_eq_false HNA.out.symm
    have h2 : ¬ b < 0 := of_decide_eq_false HNB.out.symm
    have hc : cmpN a.natAbs b.natAbs = cmpZ a b := by unfold cmpN cmpZ; repeat' split <;> try omega
    have HC := Lib.hid hc
    clear h1 h2 hc
    go_enter Tryd.func79, Tryd.ntmps79
    rw [HL.out] at hA0 hA1 hB0 hB1
    go_wp2_with fail
    rw [← HL.out]
    refine ncmp_any _ _ _ _ _ Y1.out Y2.out (Nat.le_trans HLN.out.1 (by omega)) (Nat.le_trans HLN.out.2 (by omega)) _ ?_
    intro w1 hb1 _
    rw [HC.out]
    have HB := Lib.hid (HEXT.out.trans (hb1.mono HEXT.out.size))
    clear hb1 hA0 hA1 hB0 hB1
    dsimp only
    go_wp2
    first | go_ret | skip
    exact HR.out _ HB.out
  · have h1 : ¬ a < 0 := of_decide_eq_false HNA.out.symm
    have h2 : b < 0 := of_decide_eq_true HNB.out.symm
    have hc : cmpZ a b = 1 := by unfold cmpZ; repeat' split <;> try omega
    rw [hc] at HR
    clear h1 h2 hc
    go_enter Tryd.func79, Tryd.ntmps79
    rw [HL.out] at hA0 hA1 hB0 hB1
    go_wp2
    rw [← HL.out]
    first | go_ret | skip
    exact HR.out _ HEXT.out
  · have h1 : a < 0 := of_decide_eq_true HNA.out.symm
    have h2 : ¬ b < 0 := of_decide_eq_false HNB.out.symm
    have hc : cmpZ a b = -1 := by unfold cmpZ; repeat' split <;> try omega
    rw [hc] at HR
    clear h1 h2 hc
    go_enter Tryd.func79, Tryd.ntmps79
    rw [HL.out] at hA0 hA1 hB0 hB1
    go_wp2
    rw [← HL.out]
    first | go_ret | skip
    exact HR.out _ HEXT.out
  · have h1 : a < 0 := of_decide_eq_true HNA.out.symm
    have h2 : b < 0 := of_decide_eq_true HNB.out.symm
    have hc : cmpN b.natAbs a.natAbs = cmpZ a b := by unfold cmpN cmpZ; repeat' split <;> try omega
    have HC := Lib.hid hc
    clear h1 h2 hc
    go_enter Tryd.func79, Tryd.ntmps79
    rw [HL.out] at hA0 hA1 hB0 hB1
    go_wp2_with fail
    rw [← HL.out]
    refine ncmp_any _ _ _ _ _ Y2.out Y1.out (Nat.le_trans HLN.out.2 (by omega)) (Nat.le_trans HLN.out.1 (by omega)) _ ?_
    intro w1 hb1 _
    rw [HC.out]
    have HB := Lib.hid (HEXT.out.trans (hb1.mono HEXT.out.size))
    clear hb1 hA0 hA1 hB0 hB1
    dsimp only
    go_wp2
    first | go_ret | skip
    exact HR.out _ HB.out
end Go.Proofs.YtpncfhfjnnpgdaaDoor

namespace Go.Proofs.YtpncfhfjnnpgdaaDoor
open Go Go.RowKit

theorem add_divint (a b : Rat) : Rat.divInt (a.num * (b.den : Int) + b.num * (a.den : Int)) ((a.den : Int) * (b.den : Int)) = a + b := by
  have h1 := a.den_pos; have h2 := b.den_pos
  rw [← Rat.divInt_add_divInt _ _ (by omega) (by omega), Rat.num_divInt_den, Rat.num_divInt_den]
theorem add_len (x y : Int) (N : Nat) (hx : (dig 10000 x.natAbs).length ≤ N) (hy : (dig 10000 y.natAbs).length ≤ N) : (dig 10000 (x + y).natAbs).length ≤ N + 1 := by
  apply dig_length_le (by omega)
  have h1 := Nat.lt_of_lt_of_le (lt_pow_dig (by omega : 2 ≤ 10000) x.natAbs) (Nat.pow_le_pow_right (by omega) hx)
  have h2 := Nat.lt_of_lt_of_le (lt_pow_dig (by omega : 2 ≤ 10000) y.natAbs) (Nat.pow_le_pow_right (by omega) hy)
  rw [Nat.pow_succ]
  omega

set_option maxRecDepth 100000 in
set_option maxHeartbeats 8000000 in
theorem addQ_any (va vb : Value) (a b : Rat) (w : World) (ha : IsQ w va a) (hb : IsQ w vb b) (hla : (dig 10000 a.num.natAbs).length ≤ 400000) (hla2 : (dig 10000 a.den).length ≤ 400000)
    (hlb : (dig 10000 b.num.natAbs).length ≤ 400000) (hlb2 : (dig 10000 b.den).length ≤ 400000)
    (R : Ending → World → Prop) (hR : ∀ v w', IsQ w' v (a + b) → Below w.heap.size w w' → R (.returned v) w') :
    Calls Tryd.prog 99 #[va, vb] w R := by
  have HR := Lib.hid hR; clear hR
  obtain ⟨na, a1, n1, c1, a2, n2, c2, rfl, hz1, hz2⟩ := ha.parts
  obtain ⟨nb, a3, n3, c3, a4, n4, c4, rfl, hz3, hz4⟩ := hb.parts
  clear ha hb
  obtain ⟨L, hL⟩ : ∃ L, L = ((w.alloc (.cells #[.bool na, .slice a1 n1 c1, .bool false, .slice a2 n2 c2] 59)).alloc (.cells #[.bool nb, .slice a3 n3 c3, .bool false, .slice a4 n4 c4] 59)).alloc (.cells #[.bool false, .slice none 0 0, .bool false, .slice none 0 0] 59) := ⟨_, rfl⟩
  have hLs : L.heap.size = w.heap.size + 3 := by rw [hL]; simp
  have B0 : Box4 L w.heap.size (.bool na) (.slice a1 n1 c1) (.bool false) (.slice a2 n2 c2) 59 := by
    rw [hL]; exact ((Box4.made w _ _ _ _ _).later (B := w.heap.size + 1) ((Below.refl _ _).alloc (by simp) _) (by omega)).later (B := w.heap.size + 2) ((Below.refl _ _).alloc (by simp) _) (by omega)
  have B1 : Box4 L (w.heap.size + 1) (.bool nb) (.slice a3 n3 c3) (.bool false) (.slice a4 n4 c4) 59 := by
    rw [hL]; have := (Box4.made (w.alloc (.cells #[.bool na, .slice a1 n1 c1, .bool false, .slice a2 n2 c2] 59)) (.bool nb) (.slice a3 n3 c3) (.bool false) (.slice a4 n4 c4) 59).later (B := w.heap.size + 2) ((Below.refl _ _).alloc (by simp) (.cells #[.bool false, .slice none 0 0, .bool false, .slice none 0 0] 59)) (by simp); simpa using this
  have B2 : Box4 L (w.heap.size + 2) (.bool false) (.slice none 0 0) (.bool false) (.slice none 0 0) 59 := by
    rw [hL]; have := Box4.made ((w.alloc (.cells #[.bool na, .slice a1 n1 c1, .bool false, .slice a2 n2 c2] 59)).alloc (.cells #[.bool nb, .slice a3 n3 c3, .bool false, .slice a4 n4 c4] 59)) (.bool false) (.slice none 0 0) (.bool false) (.slice none 0 0) 59; simpa using this
  have HEXT : Below w.heap.size w L := by rw [hL]; exact (((Below.refl w.heap.size w).alloc (Nat.le_refl _) _).alloc (by simp) _).alloc (by simp; omega) _
  have HL := Lib.hid hL
  have y1 := (hz1.later HEXT (Nat.le_refl _))
  have y2 := (hz2.later HEXT (Nat.le_refl _))
  have y3 := (hz3.later HEXT (Nat.le_refl _))
  have y4 := (hz4.later HEXT (Nat.le_refl _))
  clear hL hz1 hz2 hz3 hz4
  go_enter Tryd.func99, Tryd.ntmps99
  go_wp2_with fail
  rw [← HL.out]
  obtain ⟨⟨hA0, hA1, hA2, hA3⟩, _, _, _, _⟩ := B0.cells
  obtain ⟨⟨hB0, hB1, hB2, hB3⟩, _, _, _, _⟩ := B1.cells
  have hk0 : w.heap.size < L.heap.size := by omega
  have hk1 : w.heap.size + 1 < L.heap.size := by omega
  have hk2 : w.heap.size + 2 < L.heap.size := by omega
  have hla' : (dig 10000 (a.num.natAbs)).length ≤ 10000000 := by omega
  have hlb' : (dig 10000 (b.num.natAbs)).length ≤ 10000000 := by omega
  have hla2' : (dig 10000 ((a.den : Int).natAbs)).length ≤ 10000000 := by rw [Int.natAbs_natCast]; omega
  have hlb2' : (dig 10000 ((b.den : Int).natAbs)).length ≤ 10000000 := by rw [Int.natAbs_natCast]; omega
  have hp1 : (dig 10000 ((a.num * (b.den : Int)).natAbs)).length ≤ 800000 := by rw [Int.natAbs_mul, Int.natAbs_natCast]; have := mul_len _ _ _ _ hla hlb2; omega
  have hp2 : (dig 10000 ((b.num * (a.den : Int)).natAbs)).length ≤ 800000 := by rw [Int.natAbs_mul, Int.natAbs_natCast]; have := mul_len _ _ _ _ hlb hla2; omega
  have hp3 : (dig 10000 ((a.num * (b.den : Int) + b.num * (a.den : Int)).natAbs)).length ≤ 1000000 := by
    have := add_len _ _ _ hp1 hp2; omega
  have hm2 : (dig 10000 (((a.den : Int) * (b.den : Int)).natAbs)).length ≤ 1000000 := by rw [Int.natAbs_mul, Int.natAbs_natCast, Int.natAbs_natCast]; have := mul_len _ _ _ _ hla2 hlb2; omega
  have hd0 : (a.den : Int) * (b.den : Int) ≠ 0 := by
    have h1 := a.den_pos; have h2 := b.den_pos
    have := Nat.mul_pos h1 h2
    intro h; rw [← Int.natCast_mul] at h; omega
  have HLN := Lib.hid (And.intro hla' (And.intro hlb' (And.intro hla2' (And.intro hlb2' (And.intro hp1 (And.intro hp2 (And.intro hp3 (And.intro hm2 hd0))))))))
  clear hla hlb hla2 hlb2 hla' hlb' hla2' hlb2' hp1 hp2 hp3 hm2 hd0
  have hSof : ∀ w', Below (w.heap.size + 2) L w' → (Below (w.heap.size + 2) L w' ∧ (w'.cell? ⟨w.heap.size, 0, none⟩ = some (.bool na) ∧ w'.cell? ⟨w.heap.size, 1, none⟩ = some (.slice a1 n1 c1) ∧ w'.cell? ⟨w.heap.size, 2, none⟩ = some (.bool false) ∧ w'.cell? ⟨w.heap.size, 3, none⟩ = some (.slice a2 n2 c2)) ∧
      (w'.cell? ⟨w.heap.size + 1, 0, none⟩ = some (.bool nb) ∧ w'.cell? ⟨w.heap.size + 1, 1, none⟩ = some (.slice a3 n3 c3) ∧ w'.cell? ⟨w.heap.size + 1, 2, none⟩ = some (.bool false) ∧ w'.cell? ⟨w.heap.size + 1, 3, none⟩ = some (.slice a4 n4 c4))) :=
    fun w' hb => ⟨hb, (B0.later hb (by omega)).cells.1, (B1.later hb (by omega)).cells.1⟩
  have HSOF := Lib.hid hSof
  have HB2L := Lib.hid B2
  clear hA0 hA1 hA2 hA3 hB0 hB1 hB2 hB3 hSof B0 B1 B2
  go_region_held3 (fun w' => Below (w.heap.size + 2) L w' ∧ (w'.cell? ⟨w.heap.size, 0, none⟩ = some (.bool na) ∧ w'.cell? ⟨w.heap.size, 1, none⟩ = some (.slice a1 n1 c1) ∧ w'.cell? ⟨w.heap.size, 2, none⟩ = some (.bool false) ∧ w'.cell? ⟨w.heap.size, 3, none⟩ = some (.slice a2 n2 c2)) ∧
      (w'.cell? ⟨w.heap.size + 1, 0, none⟩ = some (.bool nb) ∧ w'.cell? ⟨w.heap.size + 1, 1, none⟩ = some (.slice a3 n3 c3) ∧ w'.cell? ⟨w.heap.size + 1, 2, none⟩ = some (.bool false) ∧ w'.cell? ⟨w.heap.size + 1, 3, none⟩ = some (.slice a4 n4 c4)))
    (first
      | exact HSOF.out _ HQ5.out
      | exact HSOF.out _ HQ4.out
      | exact HSOF.out _ HQ3.out
      | exact HSOF.out _ HQ2.out
      | exact HSOF.out _ HQ1.out
      | exact HSOF.out _ (Below.refl _ _).drew
      | exact HSOF.out _ ((((HQ5.out.setCell (by simp) _).setCell (by simp) _).setCell (by simp) _).setCell (by simp) _))
    (first
      | (go_at_call 68; refine make_any v3 v4 (a.num * (b.den : Int) + b.num * (a.den : Int)) ((a.den : Int) * (b.den : Int)) _ (HV3.out.later HB4.out (Nat.le_refl _)) HV4.out HLN.out.2.2.2.2.2.2.1 HLN.out.2.2.2.2.2.2.2.1 HLN.out.2.2.2.2.2.2.2.2 _ ?_; intro v5 w5 hv5 hb5; obtain ⟨n5, a5, m5, c5, a6, m6, c6, rfl, _, _⟩ := hv5.parts; have HV5 := Lib.hid hv5; have HT5 := Lib.hid (HT4.out.trans (hb5.mono HT4.out.size)); have HQ5 := Lib.hid (HT5.out.mono (Nat.le_of_lt hk2)); have d2 := HB2L.out.later HT5.out hk2; obtain ⟨⟨hR0, hR1, hR2, hR3⟩, hR4, hR5, hR6, hR7⟩ := d2.cells; have HD2 := Lib.hid d2; clear hv5 hb5 d2; dsimp only)
      | (have hguard := HQ3; go_at_call 115; refine zmul_any (.agg #[.bool false, .slice a2 n2 c2]) (.agg #[.bool false, .slice a4 n4 c4]) (a.den : Int) (b.den : Int) _ (y2.later HT3.out (Nat.le_refl _)) (y4.later HT3.out (Nat.le_refl _)) HLN.out.2.2.1 HLN.out.2.2.2.1 _ ?_; intro v4 w4 hv4 hb4; have HV4 := Lib.hid hv4; have HB4 := Lib.hid hb4; have HT4 := Lib.hid (HT3.out.trans (hb4.mono HT3.out.size)); have HQ4 := Lib.hid (HT4.out.mono (Nat.le_of_lt hk2)); clear hguard hv4 hb4; dsimp only)
      | (go_at_call 116; refine zadd_any v1 v2 (a.num * (b.den : Int)) (b.num * (a.den : Int)) _ (HV1.out.later HB2.out (Nat.le_refl _)) HV2.out (Nat.le_trans HLN.out.2.2.2.2.1 (by omega)) (Nat.le_trans HLN.out.2.2.2.2.2.1 (by omega)) _ ?_; intro v3 w3 hv3 hb3; have HV3 := Lib.hid hv3; have HB3 := Lib.hid hb3; have HT3 := Lib.hid (HT2.out.trans (hb3.mono HT2.out.size)); have HQ3 := Lib.hid (HT3.out.mono (Nat.le_of_lt hk2)); clear hv3 hb3; dsimp only)
      | (have hguard := HQ1; go_at_call 115; refine zmul_any (.agg #[.bool nb, .slice a3 n3 c3]) (.agg #[.bool false, .slice a2 n2 c2]) b.num (a.den : Int) _ (y3.later HT1.out (Nat.le_refl _)) (y2.later HT1.out (Nat.le_refl _)) HLN.out.2.1 HLN.out.2.2.1 _ ?_; intro v2 w2 hv2 hb2; have HV2 := Lib.hid hv2; have HB2 := Lib.hid hb2; have HT2 := Lib.hid (HT1.out.trans (hb2.mono HT1.out.size)); have HQ2 := Lib.hid (HT2.out.mono (Nat.le_of_lt hk2)); clear hguard hv2 hb2; dsimp only)
      | (go_at_call 115; refine zmul_any (.agg #[.bool na, .slice a1 n1 c1]) (.agg #[.bool false, .slice a4 n4 c4]) a.num (b.den : Int) _ y1.drew y4.drew HLN.out.1 HLN.out.2.2.2.1 _ ?_; intro v1 w1 hv1 hb1; have HV1 := Lib.hid hv1; have HT1 : Hid (Below L.heap.size L w1) := Lib.hid (below_ofDrew hb1); have HQ1 := Lib.hid (HT1.out.mono (Nat.le_of_lt hk2)); clear hv1 hb1; dsimp only))
  all_goals
    go_wp2
    refine bodyPost_ret_at (by simp [results, Tryd.results99, go_sem, hR0, hR1, hR2, hR3, hR4, hR5, hR6, hR7] <;> rfl) rfl ?_
    have hv5 := HV5.out
    rw [add_divint] at hv5
    have hn := HD2.out.noInt rfl rfl rfl rfl
    obtain ⟨s1, s2, e, h1, h2⟩ := hv5
    refine HR.out _ _ ⟨s1, s2, e, h1.set4 hn _ _ _ _ rfl rfl rfl, h2.set4 hn _ _ _ _ rfl rfl rfl⟩ (((((HEXT.trans (HT5.out.mono (by omega))).setCell (by simp <;> omega) _).setCell (by simp <;> omega) _).setCell (by simp <;> omega) _).setCell (by simp <;> omega) _)
end Go.Proofs.YtpncfhfjnnpgdaaDoor

namespace Go.Proofs.YtpncfhfjnnpgdaaDoor
open Go Go.RowKit

theorem num_neg_q (q : Rat) : (-q).num = -q.num := rfl
theorem den_neg_q (q : Rat) : (-q).den = q.den := rfl

theorem neg_end (w L wC : World) (g : Nat) (q : Rat) (n : Bool) (a1 : Option Addr) (n1 c1 : Nat) (a2 : Option Addr) (n2 c2 : Nat)
    (d2 : Box4 wC (g + 1) (.bool false) (.slice none 0 0) (.bool false) (.slice none 0 0) 59)
    (hz : IsZ wC (.agg #[.bool n, .slice a1 n1 c1]) (-q.num)) (hd : IsZ L (.agg #[.bool false, .slice a2 n2 c2]) (q.den : Int)) (hb : Below g w L) (hbC : Below L.drew.heap.size L.drew wC) (hgW : g ≤ L.heap.size) :
    QBox g w (g + 1) (-q) ((((wC.setCell ⟨g + 1, 0, none⟩ (.bool n)).setCell ⟨g + 1, 1, none⟩ (.slice a1 n1 c1)).setCell ⟨g + 1, 2, none⟩ (.bool false)).setCell ⟨g + 1, 3, none⟩ (.slice a2 n2 c2)) := by
  have hn := d2.noInt rfl rfl rfl rfl
  obtain ⟨s1, e1, h1⟩ := hz
  simp at e1
  obtain ⟨e1, rfl⟩ := e1
  have t4 := (Sl.drew hd.ofNat).later hbC (Nat.le_refl _)
  refine ⟨_, _, _, d2.set4 _ _ _ _, ?_, ?_, ?_, ((((hb.trans ((below_ofDrew hbC).mono hgW)).setCell (by simp <;> omega) _).setCell (by simp <;> omega) _).setCell (by simp <;> omega) _).setCell (by simp <;> omega) _⟩
  · rw [e1]; simp [num_neg_q]
  · exact h1.set4 hn _ _ _ _ rfl rfl rfl
  · exact t4.set4 hn _ _ _ _ rfl rfl rfl

set_option maxRecDepth 100000 in
set_option maxHeartbeats 1000000 in
theorem negQ_any (va : Value) (a : Rat) (w : World) (ha : IsQ w va a) (hla : (dig 10000 a.num.natAbs).length ≤ 1000000)
    (R : Ending → World → Prop) (hR : ∀ v w', IsQ w' v (-a) → Below w.heap.size w w' → R (.returned v) w') :
    Calls Tryd.prog 100 #[va] w R := by
  have HR := Lib.hid hR; clear hR
  obtain ⟨na, a1, n1, c1, a2, n2, c2, rfl, hz1, hz2⟩ := ha.parts
  clear ha
  obtain ⟨L, hL⟩ : ∃ L, L = (w.alloc (.cells #[.bool na, .slice a1 n1 c1, .bool false, .slice a2 n2 c2] 59)).alloc (.cells #[.bool false, .slice none 0 0, .bool false, .slice none 0 0] 59) := ⟨_, rfl⟩
  have hLs : L.heap.size = w.heap.size + 2 := by rw [hL]; simp
  have B0 : Box4 L w.heap.size (.bool na) (.slice a1 n1 c1) (.bool false) (.slice a2 n2 c2) 59 := by
    rw [hL]; exact (Box4.made w _ _ _ _ _).later (B := w.heap.size + 1) ((Below.refl _ _).alloc (by simp) _) (by omega)
  have B2 : Box4 L (w.heap.size + 1) (.bool false) (.slice none 0 0) (.bool false) (.slice none 0 0) 59 := by
    rw [hL]; have := Box4.made (w.alloc (.cells #[.bool na, .slice a1 n1 c1, .bool false, .slice a2 n2 c2] 59)) (.bool false) (.slice none 0 0) (.bool false) (.slice none 0 0) 59; simpa using this
  have HEXT : Below w.heap.size w L := by rw [hL]; exact ((Below.refl w.heap.size w).alloc (Nat.le_refl _) _).alloc (by simp) _
  have HL := Lib.hid hL
  have y1 := (hz1.later HEXT (Nat.le_refl _))
  have y2 := (hz2.later HEXT (Nat.le_refl _))
  clear hL hz1 hz2
  go_enter Tryd.func100, Tryd.ntmps100
  go_wp2_with fail
  rw [← HL.out]
  obtain ⟨⟨hA0, hA1, hA2, hA3⟩, _, _, _, _⟩ := B0.cells
  have hk0 : w.heap.size < L.heap.size := by omega
  have hk2 : w.heap.size + 1 < L.heap.size := by omega
  have HLN := Lib.hid hla
  clear hla
  go_cut [] (fun wx => QBox w.heap.size w (w.heap.size + 1) (-a) wx)
  case first =>
    go_region_law (first
      | (go_simp; go_at_call 117; refine zneg_any _ a.num _ y1.drew ?_ _ ?_; exact Nat.le_trans HLN.out (by omega); intro v1 w1 hv1 hb1; obtain ⟨bn, b1, m1, d1, rfl, hv2⟩ := hv1.openB; have e0 := B0.later (below_ofDrew hb1) hk0; have e2 := B2.later (below_ofDrew hb1) hk2; obtain ⟨⟨hC0, hC1, hC2, hC3⟩, _, _, _, _⟩ := e0.cells; obtain ⟨⟨hR0, hR1, hR2, hR3⟩, hR4, hR5, hR6, hR7⟩ := e2.cells; dsimp only))
    all_goals (go_wp2_with fail; go_meet; exact neg_end w L w1 w.heap.size a bn b1 m1 d1 a2 n2 c2 e2 hv2 y2 HEXT hb1 (by omega))
  case rest =>
    clear hA0 hA1 hA2 hA3
    obtain ⟨b1, x1, x2, hbx, he, ht1, ht2, hbl⟩ := hcut
    obtain ⟨⟨hR0, hR1, hR2, hR3⟩, _, _, _, _⟩ := hbx.cells
    go_wp2
    refine bodyPost_ret_at (by simp [results, Tryd.results100, go_sem, hR0, hR1, hR2, hR3] <;> rfl) rfl ?_
    exact HR.out _ _ ⟨x1, x2, by rw [he], ht1, ht2⟩ hbl
end Go.Proofs.YtpncfhfjnnpgdaaDoor

namespace Go.Proofs.YtpncfhfjnnpgdaaDoor
open Go Go.RowKit

theorem num_len_zero (q : Rat) (n : Nat) (h : n = (dig 10000 q.num.natAbs).length) : n = 0 ↔ q = 0 := by
  rw [h, List.length_eq_zero_iff, dig_eq_nil (by omega), Int.natAbs_eq_zero]
  exact Rat.num_eq_zero

set_option maxRecDepth 100000 in
theorem signQ_any (v : Value) (q : Rat) (w : World) (hq : IsQ w v q) (R : Ending → World → Prop)
    (hR : ∀ w', Below w.heap.size w w' → R (.returned (.int .i64 q.num.sign)) w') :
    Calls Tryd.prog 76 #[v] w R := by
  have HR := Lib.hid hR; clear hR
  obtain ⟨a1, n1, c1, a2, n2, c2, rfl, e1, _, _, _⟩ := hq.open
  have hz := num_len_zero q n1 e1
  clear hq e1
  by_cases h0 : n1 = 0
  · have h1 : q.num = 0 := Rat.num_eq_zero.2 (hz.1 h0)
    rw [h1] at HR ⊢
    subst h0
    clear hz h1
    go_enter Tryd.func76, Tryd.ntmps76
    go_wp2
    first | go_ret | skip
    exact HR.out _ ((Below.refl _ _).alloc (Nat.le_refl _) _)
  · have hne : q.num ≠ 0 := fun h => h0 (hz.2 (Rat.num_eq_zero.1 h))
    have e : (((n1 : Nat) : Int) == 0) = false := by simp; omega
    rcases Int.lt_or_gt_of_ne hne with h | h
    · rw [Int.sign_eq_neg_one_of_neg h] at HR
      rw [decide_eq_true h]
      clear hz hne h
      go_enter Tryd.func76, Tryd.ntmps76
      go_wp2
      first | go_ret | skip
      exact HR.out _ ((Below.refl _ _).alloc (Nat.le_refl _) _)
    · rw [Int.sign_eq_one_of_pos h] at HR
      rw [decide_eq_false (by omega : ¬ q.num < 0)]
      clear hz hne h
      go_enter Tryd.func76, Tryd.ntmps76
      go_wp2
      first | go_ret | skip
      exact HR.out _ ((Below.refl _ _).alloc (Nat.le_refl _) _)
end Go.Proofs.YtpncfhfjnnpgdaaDoor

namespace Go.Proofs.YtpncfhfjnnpgdaaDoor
open Go Go.RowKit

theorem IsQ.drew {w : World} {v : Value} {q : Rat} (h : IsQ w v q) : IsQ w.drew v q := h

set_option maxRecDepth 100000 in
set_option maxHeartbeats 1000000 in
theorem subQ_any (va vb : Value) (a b : Rat) (w : World) (ha : IsQ w va a) (hb : IsQ w vb b) (hla : (dig 10000 a.num.natAbs).length ≤ 400000) (hla2 : (dig 10000 a.den).length ≤ 400000)
    (hlb : (dig 10000 b.num.natAbs).length ≤ 400000) (hlb2 : (dig 10000 b.den).length ≤ 400000)
    (R : Ending → World → Prop) (hR : ∀ v w', IsQ w' v (a - b) → Below w.heap.size w w' → R (.returned v) w') :
    Calls Tryd.prog 77 #[va, vb] w R := by
  have HR := Lib.hid hR; clear hR
  obtain ⟨na, a1, n1, c1, a2, n2, c2, rfl, _, _⟩ := ha.parts
  obtain ⟨nb, a3, n3, c3, a4, n4, c4, rfl, _, _⟩ := hb.parts
  obtain ⟨L, hL⟩ : ∃ L, L = ((w.alloc (.cells #[.bool na, .slice a1 n1 c1, .bool false, .slice a2 n2 c2] 59)).alloc (.cells #[.bool nb, .slice a3 n3 c3, .bool false, .slice a4 n4 c4] 59)).alloc (.cells #[.bool false, .slice none 0 0, .bool false, .slice none 0 0] 59) := ⟨_, rfl⟩
  have hLs : L.heap.size = w.heap.size + 3 := by rw [hL]; simp
  have B0 : Box4 L w.heap.size (.bool na) (.slice a1 n1 c1) (.bool false) (.slice a2 n2 c2) 59 := by
    rw [hL]; exact ((Box4.made w _ _ _ _ _).later (B := w.heap.size + 1) ((Below.refl _ _).alloc (by simp) _) (by omega)).later (B := w.heap.size + 2) ((Below.refl _ _).alloc (by simp) _) (by omega)
  have B1 : Box4 L (w.heap.size + 1) (.bool nb) (.slice a3 n3 c3) (.bool false) (.slice a4 n4 c4) 59 := by
    rw [hL]; have := (Box4.made (w.alloc (.cells #[.bool na, .slice a1 n1 c1, .bool false, .slice a2 n2 c2] 59)) (.bool nb) (.slice a3 n3 c3) (.bool false) (.slice a4 n4 c4) 59).later (B := w.heap.size + 2) ((Below.refl _ _).alloc (by simp) (.cells #[.bool false, .slice none 0 0, .bool false, .slice none 0 0] 59)) (by simp); simpa using this
  have B2 : Box4 L (w.heap.size + 2) (.bool false) (.slice none 0 0) (.bool false) (.slice none 0 0) 59 := by
    rw [hL]; have := Box4.made ((w.alloc (.cells #[.bool na, .slice a1 n1 c1, .bool false, .slice a2 n2 c2] 59)).alloc (.cells #[.bool nb, .slice a3 n3 c3, .bool false, .slice a4 n4 c4] 59)) (.bool false) (.slice none 0 0) (.bool false) (.slice none 0 0) 59; simpa using this
  have HEXT : Below w.heap.size w L := by rw [hL]; exact (((Below.refl w.heap.size w).alloc (Nat.le_refl _) _).alloc (by simp) _).alloc (by simp; omega) _
  have HL := Lib.hid hL
  have y1 := (ha.later HEXT (Nat.le_refl _))
  have y2 := (hb.later HEXT (Nat.le_refl _))
  clear hL ha hb
  have HLN := Lib.hid (And.intro hla (And.intro hla2 (And.intro hlb hlb2)))
  clear hla hlb hla2 hlb2
  go_enter Tryd.func77, Tryd.ntmps77
  go_wp2_with fail
  rw [← HL.out]
  obtain ⟨⟨hA0, hA1, hA2, hA3⟩, _, _, _, _⟩ := B0.cells
  obtain ⟨⟨hB0, hB1, hB2, hB3⟩, _, _, _, _⟩ := B1.cells
  have hk0 : w.heap.size < L.heap.size := by omega
  have hk1 : w.heap.size + 1 < L.heap.size := by omega
  have hk2 : w.heap.size + 2 < L.heap.size := by omega
  go_cut [] (fun wx => QBox w.heap.size w (w.heap.size + 1 + 1) (a - b) wx)
  case first =>
    go_region_law (first
      | (have hguard := hb1; go_simp; go_at_call 99; refine addQ_any (.agg #[.bool na, .slice a1 n1 c1, .bool false, .slice a2 n2 c2]) v1 a (-b) _ (y1.later hq1 (Nat.le_refl _)) hv1 HLN.out.1 HLN.out.2.1 (by rw [num_neg_q, Int.natAbs_neg]; exact HLN.out.2.2.1) HLN.out.2.2.2 _ ?_; intro v2 w2 hv2 hb2; obtain ⟨n5, a5, m5, c5, a6, m6, c6, rfl, _, _⟩ := hv2.parts; have bb : Below L.heap.size L w2 := hq1.trans (hb2.mono hq1.size); have d2 := B2.later bb hk2; obtain ⟨⟨hR0, hR1, hR2, hR3⟩, hR4, hR5, hR6, hR7⟩ := d2.cells; clear hguard; dsimp only)
      | (go_simp; go_at_call 100; refine negQ_any (.agg #[.bool nb, .slice a3 n3 c3, .bool false, .slice a4 n4 c4]) b _ y2.drew (Nat.le_trans HLN.out.2.2.1 (by omega)) _ ?_; intro v1 w1 hv1 hb1; have hq1 : Below L.heap.size L w1 := below_ofDrew hb1; obtain ⟨⟨hC0, hC1, hC2, hC3⟩, _, _, _, _⟩ := (B0.later hq1 hk0).cells; dsimp only))
    all_goals (go_wp2_with fail; go_meet; exact q_end w L w2 w.heap.size _ _ _ _ _ _ _ _ _ d2 (by rw [Rat.sub_eq_add_neg]; exact hv2) HEXT bb (by omega))
  case rest =>
    clear hA0 hA1 hA2 hA3 hB0 hB1 hB2 hB3
    obtain ⟨b1, x1, x2, hbx, he, ht1, ht2, hbl⟩ := hcut
    obtain ⟨⟨hR0, hR1, hR2, hR3⟩, _, _, _, _⟩ := hbx.cells
    go_wp2
    refine bodyPost_ret_at (by simp [results, Tryd.results77, go_sem, hR0, hR1, hR2, hR3] <;> rfl) rfl ?_
    exact HR.out _ _ ⟨x1, x2, by rw [he], ht1, ht2⟩ hbl

set_option maxRecDepth 100000 in
theorem cmpQ_any (va vb : Value) (a b : Rat) (w : World) (ha : IsQ w va a) (hb : IsQ w vb b) (hla : (dig 10000 a.num.natAbs).length ≤ 400000) (hla2 : (dig 10000 a.den).length ≤ 400000)
    (hlb : (dig 10000 b.num.natAbs).length ≤ 400000) (hlb2 : (dig 10000 b.den).length ≤ 400000)
    (R : Ending → World → Prop) (hR : ∀ w', Below w.heap.size w w' → R (.returned (.int .i64 (a - b).num.sign)) w') :
    Calls Tryd.prog 49 #[va, vb] w R := by
  have HR := Lib.hid hR; clear hR
  obtain ⟨na, a1, n1, c1, a2, n2, c2, rfl, _, _⟩ := ha.parts
  obtain ⟨nb, a3, n3, c3, a4, n4, c4, rfl, _, _⟩ := hb.parts
  obtain ⟨L, hL⟩ : ∃ L, L = (w.alloc (.cells #[.bool na, .slice a1 n1 c1, .bool false, .slice a2 n2 c2] 59)).alloc (.cells #[.bool nb, .slice a3 n3 c3, .bool false, .slice a4 n4 c4] 59) := ⟨_, rfl⟩
  have HEXT : Below w.heap.size w L := by rw [hL]; exact ((Below.refl w.heap.size w).alloc (Nat.le_refl _) _).alloc (by simp) _
  have HL := Lib.hid hL
  have y1 := (ha.later HEXT (Nat.le_refl _))
  have y2 := (hb.later HEXT (Nat.le_refl _))
  clear hL ha hb
  go_enter Tryd.func49, Tryd.ntmps49
  go_wp2_with fail
  rw [← HL.out]
  refine subQ_any _ _ a b L y1 y2 hla hla2 hlb hlb2 _ ?_
  intro v1 w1 hv1 hb1
  dsimp only
  go_wp2_with fail
  refine signQ_any v1 (a - b) w1 hv1 _ ?_
  intro w2 hb2
  dsimp only
  go_wp2
  first | go_ret | skip
  exact HR.out _ (HEXT.trans ((hb1.mono HEXT.size).trans (hb2.mono (Nat.le_trans HEXT.size hb1.size))))
end Go.Proofs.YtpncfhfjnnpgdaaDoor

namespace Go.Proofs.YtpncfhfjnnpgdaaDoor
open Go Go.RowKit

theorem cmp_rat (a b : Rat) : (a - b).num.sign = cmpZ (a.num * (b.den : Int)) (b.num * (a.den : Int)) := by
  have h1 : 0 ≤ (a - b).num ↔ b.num * (a.den : Int) ≤ a.num * (b.den : Int) := by
    rw [Rat.num_nonneg, ← Rat.le_iff_sub_nonneg, Rat.le_iff]
  have h2 : (a - b).num ≤ 0 ↔ a.num * (b.den : Int) ≤ b.num * (a.den : Int) := by
    have e : (b - a).num = -(a - b).num := by rw [← Rat.neg_sub, Rat.neg_num]
    rw [← Rat.le_iff, Rat.le_iff_sub_nonneg, ← Rat.num_nonneg, e]
    omega
  unfold cmpZ
  generalize (a - b).num = n at *
  generalize a.num * (b.den : Int) = x at *
  generalize b.num * (a.den : Int) = y at *
  rcases Int.lt_trichotomy n 0 with h | h | h
  · rw [Int.sign_eq_neg_one_of_neg h, if_pos (by omega)]
  · subst h; rw [if_neg (by omega), if_neg (by omega)]; rfl
  · rw [Int.sign_eq_one_of_pos h, if_neg (by omega), if_pos (by omega)]

/-- a product has few limbs where its factors have -/
theorem mul_limbs (x y N M : Nat) (hx : (dig W64 x).length ≤ N) (hy : (dig W64 y).length ≤ M) : (dig W64 (x * y)).length ≤ N + M := by
  apply dig_length_le W64_two
  have h1 := Nat.lt_of_lt_of_le (lt_pow_dig W64_two x) (Nat.pow_le_pow_right (by rw [W64_eq]; omega) hx)
  have h2 := Nat.lt_of_lt_of_le (lt_pow_dig W64_two y) (Nat.pow_le_pow_right (by rw [W64_eq]; omega) hy)
  rw [Nat.pow_add]
  exact Nat.mul_lt_mul'' h1 h2

set_option maxRecDepth 100000 in
set_option maxHeartbeats 4000000 in
theorem rcmp_any (va vb : Value) (a b : Rat) (w : World) (ha : IsR w va a) (hb : IsR w vb b) (hla : (dig W64 a.num.natAbs).length ≤ 1000000) (hla2 : (dig W64 a.den).length ≤ 1000000)
    (hlb : (dig W64 b.num.natAbs).length ≤ 1000000) (hlb2 : (dig W64 b.den).length ≤ 1000000) (R : Ending → World → Prop)
    (hR : ∀ w', Below w.heap.size w w' → R (.returned (.int .i64 (cmpZ (a.num * (b.den : Int)) (b.num * (a.den : Int))))) w') :
    Calls Tryd.prog 51 #[va, vb] w R := by
  have HR := Lib.hid hR; clear hR
  obtain ⟨na, a1, n1, c1, a2, n2, c2, hna, rfl, hn1, hn2⟩ := ha.parts
  obtain ⟨nb, a3, n3, c3, a4, n4, c4, hnb, rfl, hn3, hn4⟩ := hb.parts
  obtain ⟨L, hL⟩ : ∃ L, L = (w.alloc (.cells #[.bool na, .slice a1 n1 c1, .slice a2 n2 c2] 49)).alloc (.cells #[.bool nb, .slice a3 n3 c3, .slice a4 n4 c4] 49) := ⟨_, rfl⟩
  have hb1 : Below (w.heap.size + 1) (w.alloc (.cells #[.bool na, .slice a1 n1 c1, .slice a2 n2 c2] 49)) L := by rw [hL]; exact (Below.refl _ _).alloc (by simp) _
  have B0 : Box3 L w.heap.size (.bool na) (.slice a1 n1 c1) (.slice a2 n2 c2) 49 := (Box3.made w _ _ _ _).later hb1 (by omega)
  have B1 : Box3 L (w.heap.size + 1) (.bool nb) (.slice a3 n3 c3) (.slice a4 n4 c4) 49 := by
    have := Box3.made (w.alloc (.cells #[.bool na, .slice a1 n1 c1, .slice a2 n2 c2] 49)) (.bool nb) (.slice a3 n3 c3) (.slice a4 n4 c4) 49
    rw [World.size_alloc, ← hL] at this; exact this
  have HEXT : Hid (Below w.heap.size w L) := Lib.hid (by rw [hL]; exact ((Below.refl w.heap.size w).alloc (Nat.le_refl _) _).alloc (by simp) _)
  have hLs : L.heap.size = w.heap.size + 2 := by rw [hL]; simp
  have HL := Lib.hid hL
  have HLS := Lib.hid hLs
  have X1 : Hid (IsI L (.agg #[.bool na, .slice a1 n1 c1]) a.num) := Lib.hid (IsI.mk hna (hn1.later HEXT.out (Nat.le_refl _)))
  have X2 := Lib.hid (hn2.later HEXT.out (Nat.le_refl _))
  have X3 : Hid (IsI L (.agg #[.bool nb, .slice a3 n3 c3]) b.num) := Lib.hid (IsI.mk hnb (hn3.later HEXT.out (Nat.le_refl _)))
  have X4 := Lib.hid (hn4.later HEXT.out (Nat.le_refl _))
  have HLN := Lib.hid (And.intro hla (And.intro hla2 (And.intro hlb hlb2)))
  have HP1 : Hid ((dig W64 (a.num * (b.den : Int)).natAbs).length ≤ 2000000) := Lib.hid (by rw [Int.natAbs_mul, Int.natAbs_natCast]; exact mul_limbs _ _ _ _ hla hlb2)
  have HP2 : Hid ((dig W64 (b.num * (a.den : Int)).natAbs).length ≤ 2000000) := Lib.hid (by rw [Int.natAbs_mul, Int.natAbs_natCast]; exact mul_limbs _ _ _ _ hlb hla2)
  have HSOF : Hid (∀ w', Below (w.heap.size + 2) L w' → (Below (w.heap.size + 2) L w' ∧ (w'.cell? ⟨w.heap.size, 0, none⟩ = some (.bool na) ∧ w'.cell? ⟨w.heap.size, 1, none⟩ = some (.slice a1 n1 c1) ∧ w'.cell? ⟨w.heap.size, 2, none⟩ = some (.slice a2 n2 c2)) ∧
      (w'.cell? ⟨w.heap.size + 1, 0, none⟩ = some (.bool nb) ∧ w'.cell? ⟨w.heap.size + 1, 1, none⟩ = some (.slice a3 n3 c3) ∧ w'.cell? ⟨w.heap.size + 1, 2, none⟩ = some (.slice a4 n4 c4)))) :=
    Lib.hid fun w' hb => ⟨hb, (B0.later hb (by omega)).cells.1, (B1.later hb (by omega)).cells.1⟩
  clear hna hnb ha hb hn1 hn2 hn3 hn4 hla hlb hla2 hlb2 hb1 B0 B1 hL hLs
  go_enter Tryd.func51, Tryd.ntmps51
  go_wp2_with fail
  rw [← HL.out]
  go_region_held3 (fun w' => Below (w.heap.size + 2) L w' ∧ (w'.cell? ⟨w.heap.size, 0, none⟩ = some (.bool na) ∧ w'.cell? ⟨w.heap.size, 1, none⟩ = some (.slice a1 n1 c1) ∧ w'.cell? ⟨w.heap.size, 2, none⟩ = some (.slice a2 n2 c2)) ∧
      (w'.cell? ⟨w.heap.size + 1, 0, none⟩ = some (.bool nb) ∧ w'.cell? ⟨w.heap.size + 1, 1, none⟩ = some (.slice a3 n3 c3) ∧ w'.cell? ⟨w.heap.size + 1, 2, none⟩ = some (.slice a4 n4 c4)))
    (first
      | exact HSOF.out _ HQ3.out
      | exact HSOF.out _ HQ2.out
      | exact HSOF.out _ HQ1.out
      | exact HSOF.out _ (Below.refl _ _).drew)
    (first
      | (go_at_call 79; refine icmp_any v1 v2 (a.num * (b.den : Int)) (b.num * (a.den : Int)) _ (HV1.out.later HB2.out (Nat.le_refl _)) HV2.out (Nat.le_trans HP1.out (by omega)) (Nat.le_trans HP2.out (by omega)) _ ?_; intro w3 hb3; have HQ3 := Lib.hid (HQ2.out.trans (hb3.mono (Nat.le_trans (Nat.le_of_eq HLS.out.symm) HQ2.out.size))); clear hb3; dsimp only)
      | (have hguard := HQ1; go_at_call 78; refine scaled_any _ _ b.num a.den _ (X3.out.later HT1.out (Nat.le_refl _)) (X2.out.later HT1.out (Nat.le_refl _)) (Nat.le_trans HLN.out.2.2.1 (by omega)) (Nat.le_trans HLN.out.2.1 (by omega)) _ ?_; intro v2 w2 hv2 hb2; have HV2 := Lib.hid hv2; have HB2 := Lib.hid hb2; have HQ2 : Hid (Below (w.heap.size + 2) L w2) := Lib.hid (HQ1.out.trans (hb2.mono (Nat.le_trans (Nat.le_of_eq HLS.out.symm) HQ1.out.size))); clear hguard hv2 hb2; dsimp only)
      | (go_at_call 78; refine scaled_any _ _ a.num b.den _ (X1.out.later (Below.refl _ _).drew (Nat.le_refl _)) (X4.out.later (Below.refl _ _).drew (Nat.le_refl _)) (Nat.le_trans HLN.out.1 (by omega)) (Nat.le_trans HLN.out.2.2.2 (by omega)) _ ?_; intro v1 w1 hv1 hb1; have HV1 := Lib.hid hv1; have HT1 : Hid (Below L.heap.size L w1) := Lib.hid (below_unDrew hb1); have HQ1 : Hid (Below (w.heap.size + 2) L w1) := Lib.hid (by rw [← HLS.out]; exact HT1.out); clear hv1 hb1; dsimp only))
  all_goals
    go_wp2
    first | go_ret | skip
    exact HR.out _ (HEXT.out.trans (HQ3.out.mono (by omega)))

theorem IsR.drew {w : World} {v : Value} {q : Rat} (h : IsR w v q) : IsR w.drew v q := h
theorem NoInt.set3 {w : World} {b c : Nat} (h : NoInt w b) {y0 y1 y2 : Value} (h0 : notInt y0 = true) (h1 : notInt y1 = true) (h2 : notInt y2 = true) : NoInt (((w.setCell ⟨c, 0, none⟩ y0).setCell ⟨c, 1, none⟩ y1).setCell ⟨c, 2, none⟩ y2) b :=
  ((h.set 0 c h0).set 1 c h1).set 2 c h2
theorem IsR.set3 {w : World} {v : Value} {q : Rat} (h : IsR w v q) {b : Nat} (hb : NoInt w b) (y0 y1 y2 : Value) (h0 : notInt y0 = true) (h1 : notInt y1 = true) : IsR (((w.setCell ⟨b, 0, none⟩ y0).setCell ⟨b, 1, none⟩ y1).setCell ⟨b, 2, none⟩ y2) v q := by
  obtain ⟨s1, s2, e, h3, h4⟩ := h
  exact ⟨s1, s2, e, h3.set3 hb _ _ _ h0 h1, h4.set3 hb _ _ _ h0 h1⟩

set_option maxRecDepth 100000 in
set_option maxHeartbeats 4000000 in
theorem read2_any (s t : ByteArray) (w : World) (hE : Env w) (R : Ending → World → Prop)
    (hR : ∀ va vb a b w', numO s.data.toList = some a → numO t.data.toList = some b → IsR w' va a → IsR w' vb b → Below w.heap.size w w' → R (.returned (.tuple #[va, vb, .nilIface])) w')
    (hR2 : ∀ e w', (numO s.data.toList = none ∨ numO t.data.toList = none) → ErrV e → Below w.heap.size w w' → R (.returned (.tuple #[zeroR, zeroR, e])) w') :
    Calls Tryd.prog 50 #[.string s, .string t] w R := by
  have HR := Lib.hid hR; clear hR
  have HR2 := Lib.hid hR2; clear hR2
  have HE := Lib.hid hE; clear hE
  obtain ⟨L, hL⟩ : ∃ L, L = (w.alloc (.cells #[.bool false, .slice none 0 0, .slice none 0 0] 49)).alloc (.cells #[.bool false, .slice none 0 0, .slice none 0 0] 49) := ⟨_, rfl⟩
  have hb1 : Below (w.heap.size + 1) (w.alloc (.cells #[.bool false, .slice none 0 0, .slice none 0 0] 49)) L := by rw [hL]; exact (Below.refl _ _).alloc (by simp) _
  have B0 : Hid (Box3 L w.heap.size (.bool false) (.slice none 0 0) (.slice none 0 0) 49) := Lib.hid ((Box3.made w _ _ _ _).later hb1 (by omega))
  have B1 : Hid (Box3 L (w.heap.size + 1) (.bool false) (.slice none 0 0) (.slice none 0 0) 49) := Lib.hid (by
    have := Box3.made (w.alloc (.cells #[.bool false, .slice none 0 0, .slice none 0 0] 49)) (.bool false) (.slice none 0 0) (.slice none 0 0) 49
    rw [World.size_alloc, ← hL] at this; exact this)
  have HEXT : Hid (Below w.heap.size w L) := Lib.hid (by rw [hL]; exact ((Below.refl w.heap.size w).alloc (Nat.le_refl _) _).alloc (by simp) _)
  have HLS : Hid (L.heap.size = w.heap.size + 2) := Lib.hid (by rw [hL]; simp)
  have HL := Lib.hid hL
  clear hb1 hL
  go_enter Tryd.func50, Tryd.ntmps50
  go_wp2_with fail
  rw [← HL.out]
  refine readq_any s L (HE.out.later HEXT.out (Nat.le_refl _)) _ ?_ ?_
  · intro v1 a w1 ha hv1 hb1
    obtain ⟨na, a1, n1, c1, a2, n2, c2, hna, rfl, hn1, hn2⟩ := hv1.parts
    obtain ⟨W, hW⟩ : ∃ W, W = w1.alloc (.cells #[.bool na, .slice a1 n1 c1, .slice a2 n2 c2] 49) := ⟨_, rfl⟩
    have hbW : Below w1.heap.size w1 W := by rw [hW]; exact (Below.refl _ _).alloc (Nat.le_refl _) _
    have hLW : Below L.heap.size L W := hb1.trans (hbW.mono hb1.size)
    have HLW := Lib.hid hLW
    have HBW := Lib.hid (HEXT.out.trans (hLW.mono HEXT.out.size))
    have B2 : Hid (Box3 W w1.heap.size (.bool na) (.slice a1 n1 c1) (.slice a2 n2 c2) 49) := Lib.hid (by rw [hW]; exact Box3.made _ _ _ _ _)
    have HQA : Hid (IsR W (.agg #[.bool na, .slice a1 n1 c1, .slice a2 n2 c2]) a) := Lib.hid (hv1.later hbW (Nat.le_refl _))
    have HA := Lib.hid ha
    have HW := Lib.hid hW
    have HWS : Hid (W.heap.size = w1.heap.size + 1) := Lib.hid (by rw [hW]; simp)
    have HL1 := Lib.hid hb1.size
    clear hb1 hbW hLW hW ha hv1 hna hn1 hn2
    dsimp only
    go_wp2_with fail
    rw [← HW.out]
    refine readq_any t W (HE.out.later HBW.out (Nat.le_refl _)) _ ?_ ?_
    · intro v2 b w2 hb hv2 hb2
      obtain ⟨nb, a3, n3, c3, a4, n4, c4, hnb, rfl, hn3, hn4⟩ := hv2.parts
      obtain ⟨V, hV⟩ : ∃ V, V = w2.alloc (.cells #[.bool nb, .slice a3 n3 c3, .slice a4 n4 c4] 49) := ⟨_, rfl⟩
      have hbV : Below w2.heap.size w2 V := by rw [hV]; exact (Below.refl _ _).alloc (Nat.le_refl _) _
      have hWV : Below W.heap.size W V := hb2.trans (hbV.mono hb2.size)
      have hLV : Below L.heap.size L V := HLW.out.trans (hWV.mono HLW.out.size)
      have HBV := Lib.hid (HBW.out.trans (hWV.mono HBW.out.size))
      have B3 : Hid (Box3 V w2.heap.size (.bool nb) (.slice a3 n3 c3) (.slice a4 n4 c4) 49) := Lib.hid (by rw [hV]; exact Box3.made _ _ _ _ _)
      have B2' := Lib.hid (B2.out.later hWV (lt_of_block B2.out))
      have B0' := Lib.hid (B0.out.later hLV (lt_of_block B0.out))
      have B1' := Lib.hid (B1.out.later hLV (lt_of_block B1.out))
      have HQA' := Lib.hid (HQA.out.later hWV (Nat.le_refl _))
      have HQB : Hid (IsR V (.agg #[.bool nb, .slice a3 n3 c3, .slice a4 n4 c4]) b) := Lib.hid (hv2.later hbV (Nat.le_refl _))
      have hs1 : w.heap.size + 2 ≤ w1.heap.size := by rw [← HLS.out]; exact HL1.out
      have hs2 : w1.heap.size + 1 ≤ w2.heap.size := by rw [← HWS.out]; exact hb2.size
      have HBB := Lib.hid hb
      have HV := Lib.hid hV
      obtain ⟨⟨hP0, hP1, hP2⟩, _, _, _⟩ := B2'.out.cells
      obtain ⟨⟨hQ0, hQ1, hQ2⟩, _, _, _⟩ := B3.out.cells
      obtain ⟨⟨hR0, hR1, hR2⟩, hF0, hF1, hF2⟩ := B0'.out.cells
      obtain ⟨⟨hS0, hS1, hS2⟩, hG0, hG1, hG2⟩ := B1'.out.cells
      have e1 : ¬ w1.heap.size = w.heap.size := by omega
      have e2 : ¬ w1.heap.size = w.heap.size + 1 := by omega
      have e3 : ¬ w2.heap.size = w.heap.size := by omega
      have e4 : ¬ w2.heap.size = w.heap.size + 1 := by omega
      have e5 : ¬ w.heap.size = w.heap.size + 1 := by omega
      have e6 : ¬ w.heap.size + 1 = w.heap.size := by omega
      clear hb2 hbV hWV hLV hV hb hv2 hnb hn3 hn4 hs1 hs2
      dsimp only
      go_wp2
      rw [← HV.out]
      go_region
      all_goals
        go_wp2
        refine bodyPost_ret_at (by simp [results, Tryd.results50, go_sem, hR0, hR1, hR2, hF0, hF1, hF2, hS0, hS1, hS2, hG0, hG1, hG2] <;> rfl) rfl ?_
        have n0 := B0'.out.noInt rfl rfl rfl
        have n1' := B1'.out.noInt rfl rfl rfl
        refine HR.out _ _ a b _ HA.out HBB.out (IsR.drew ?_) (IsR.drew ?_) (below_set3 (below_set3 HBV.out (Nat.le_refl _) _ _ _) (by omega) _ _ _).drew
        · exact IsR.set3 (IsR.set3 HQA'.out n0 _ _ _ rfl rfl) (NoInt.set3 n1' rfl rfl rfl) _ _ _ rfl rfl
        · exact IsR.set3 (IsR.set3 HQB.out n0 _ _ _ rfl rfl) (NoInt.set3 n1' rfl rfl rfl) _ _ _ rfl rfl
    · intro e w2 hb he hb2
      obtain ⟨t', p, rfl⟩ := he
      obtain ⟨V, hV⟩ : ∃ V, V = w2.alloc (.cells #[.bool false, .slice none 0 0, .slice none 0 0] 49) := ⟨_, rfl⟩
      have hbV : Below w2.heap.size w2 V := by rw [hV]; exact (Below.refl _ _).alloc (Nat.le_refl _) _
      have hWV : Below W.heap.size W V := hb2.trans (hbV.mono hb2.size)
      have hLV : Below L.heap.size L V := HLW.out.trans (hWV.mono HLW.out.size)
      have HBV := Lib.hid (HBW.out.trans (hWV.mono HBW.out.size))
      have B0' := Lib.hid (B0.out.later hLV (lt_of_block B0.out))
      have B1' := Lib.hid (B1.out.later hLV (lt_of_block B1.out))
      have HNN : Hid (numO s.data.toList = none ∨ numO t.data.toList = none) := Lib.hid (.inr hb)
      obtain ⟨⟨hR0, hR1, hR2⟩, hF0, hF1, hF2⟩ := B0'.out.cells
      obtain ⟨⟨hS0, hS1, hS2⟩, hG0, hG1, hG2⟩ := B1'.out.cells
      have e5 : ¬ w.heap.size = w.heap.size + 1 := by omega
      have e6 : ¬ w.heap.size + 1 = w.heap.size := by omega
      have HV := Lib.hid hV
      clear hb2 hbV hWV hLV hV hb
      rw [HV.out] at hR0 hR1 hR2 hF0 hF1 hF2 hS0 hS1 hS2 hG0 hG1 hG2
      unfold zeroR
      dsimp only
      go_wp2
      rw [← HV.out] at hR0 hR1 hR2 hF0 hF1 hF2 hS0 hS1 hS2 hG0 hG1 hG2
      try rw [← HV.out]
      refine bodyPost_ret_at (by simp [results, Tryd.results50, go_sem, hR0, hR1, hR2, hF0, hF1, hF2, hS0, hS1, hS2, hG0, hG1, hG2] <;> rfl) rfl ?_
      exact HR2.out _ _ HNN.out ⟨_, _, rfl⟩ (below_set3 (below_set3 HBV.out (Nat.le_refl _) _ _ _) (by omega) _ _ _)
  · intro e w1 ha he hb1
    obtain ⟨t', p, rfl⟩ := he
    obtain ⟨W, hW⟩ : ∃ W, W = w1.alloc (.cells #[.bool false, .slice none 0 0, .slice none 0 0] 49) := ⟨_, rfl⟩
    have hbW : Below w1.heap.size w1 W := by rw [hW]; exact (Below.refl _ _).alloc (Nat.le_refl _) _
    have hLW : Below L.heap.size L W := hb1.trans (hbW.mono hb1.size)
    have HBW := Lib.hid (HEXT.out.trans (hLW.mono HEXT.out.size))
    have B0' := Lib.hid (B0.out.later hLW (lt_of_block B0.out))
    have B1' := Lib.hid (B1.out.later hLW (lt_of_block B1.out))
    have HNN : Hid (numO s.data.toList = none ∨ numO t.data.toList = none) := Lib.hid (.inl ha)
    obtain ⟨⟨hR0, hR1, hR2⟩, hF0, hF1, hF2⟩ := B0'.out.cells
    obtain ⟨⟨hS0, hS1, hS2⟩, hG0, hG1, hG2⟩ := B1'.out.cells
    have e5 : ¬ w.heap.size = w.heap.size + 1 := by omega
    have e6 : ¬ w.heap.size + 1 = w.heap.size := by omega
    have HW := Lib.hid hW
    clear hb1 hbW hLW hW ha
    rw [HW.out] at hR0 hR1 hR2 hF0 hF1 hF2 hS0 hS1 hS2 hG0 hG1 hG2
    unfold zeroR
    dsimp only
    go_wp2
    rw [← HW.out] at hR0 hR1 hR2 hF0 hF1 hF2 hS0 hS1 hS2 hG0 hG1 hG2
    try rw [← HW.out]
    refine bodyPost_ret_at (by simp [results, Tryd.results50, go_sem, hR0, hR1, hR2, hF0, hF1, hF2, hS0, hS1, hS2, hG0, hG1, hG2] <;> rfl) rfl ?_
    exact HR2.out _ _ HNN.out ⟨_, _, rfl⟩ (below_set3 (below_set3 HBW.out (Nat.le_refl _) _ _ _) (by omega) _ _ _)
end Go.Proofs.YtpncfhfjnnpgdaaDoor

namespace Go.Proofs.YtpncfhfjnnpgdaaDoor
open Go Go.RowKit

theorem cmpZ_cases (a b : Int) : cmpZ a b = -1 ∨ cmpZ a b = 0 ∨ cmpZ a b = 1 := by unfold cmpZ; split <;> (try split) <;> simp

set_option maxRecDepth 100000 in
set_option maxHeartbeats 2000000 in
theorem spec_compare (s t : ByteArray) (w : World) (hs : s.size ≤ 1100000) (ht : t.size ≤ 1100000) (R : Ending → World → Prop)
    (hR : ∀ a b w', numO s.data.toList = some a → numO t.data.toList = some b → Below w.heap.size w w' → R (.returned (.tuple #[.int .i64 (cmpZ (a.num * (b.den : Int)) (b.num * (a.den : Int))), .bool true])) w')
    (hR2 : ∀ w', (numO s.data.toList = none ∨ numO t.data.toList = none) → Below w.heap.size w w' → R (.returned (.tuple #[.int .i64 0, .bool false])) w') :
    Calls Tryd.prog 25 #[.string s, .string t] w R := by
  have HR := Lib.hid hR; clear hR
  have HR2 := Lib.hid hR2; clear hR2
  have HTS := Lib.hid ht
  clear ht
  go_enter Tryd.func25, Tryd.ntmps25
  go_wp2_with fail
  refine isq_any s _ hs _ ?_
  intro w1 hb1
  cases ha : numO s.data.toList with
  | none =>
    have HF := Lib.hid (HR2.out w1 (.inl ha) hb1)
    clear hb1 ha
    simp only [Option.isSome_none]
    go_wp2
    first | go_ret | skip
    exact HF.out
  | some a =>
    have HA := Lib.hid ha
    have HB1 := Lib.hid hb1
    clear hb1 ha
    simp only [Option.isSome_some]
    go_wp2_with fail
    refine isq_any t _ HTS.out _ ?_
    intro w2 hb2
    have HB2 := Lib.hid (HB1.out.trans (hb2.mono HB1.out.size))
    clear hb2
    cases hb : numO t.data.toList with
    | none =>
      have HF := Lib.hid (HR2.out w2 (.inr hb) HB2.out)
      clear hb
      simp only [Option.isSome_none]
      go_wp2
      first | go_ret | skip
      exact HF.out
    | some b =>
      have HB := Lib.hid hb
      clear hb
      simp only [Option.isSome_some]
      go_wp2_with fail
      refine ofq_any s a _ HA.out _ ?_
      intro v3 w3 hq3 hb3
      have HB3 := Lib.hid (HB2.out.trans (hb3.mono HB2.out.size))
      have HQ3 := Lib.hid hq3
      clear hb3
      obtain ⟨ng, a1, n1, c1, a2, n2, c2, rfl, _, _⟩ := hq3.parts
      dsimp only
      go_wp2_with fail
      refine ofq_any t b _ HB.out _ ?_
      intro v4 w4 hq4 hb4
      have HB4 := Lib.hid (HB3.out.trans (hb4.mono HB3.out.size))
      have HQ3' := Lib.hid (HQ3.out.later hb4 (Nat.le_refl _))
      have HQ4 := Lib.hid hq4
      obtain ⟨nh, a3, n3, c3, a4, n4, c4, rfl, _, _⟩ := hq4.parts
      have hl1 := few_len (numO_few HA.out) (B := 10000) (by omega)
      have hl2 := few_len (numO_few HB.out) (B := 10000) (by omega)
      have HLL := Lib.hid (And.intro hl1 hl2)
      clear hb4 hq3 hq4 hl1 hl2
      dsimp only
      go_wp2_with fail
      refine cmpQ_any _ _ a b _ HQ3'.out HQ4.out (by have := HLL.out.1.1; omega) (by have := HLL.out.1.2; omega) (by have := HLL.out.2.1; omega) (by have := HLL.out.2.2; omega) _ ?_
      intro w5 hb5
      rw [cmp_rat]
      obtain ⟨z, hz⟩ : ∃ z, z = cmpZ (a.num * (b.den : Int)) (b.num * (a.den : Int)) := ⟨_, rfl⟩
      have HF := Lib.hid (HR.out a b w5 HA.out HB.out (HB4.out.trans (hb5.mono HB4.out.size)))
      rw [← hz] at HF ⊢
      clear hb5 hz
      dsimp only
      go_wp2
      first | go_ret | skip
      exact HF.out

set_option maxRecDepth 100000 in
set_option maxHeartbeats 2000000 in
theorem impl_compare (s t : ByteArray) (w : World) (hE : Env w) (R : Ending → World → Prop)
    (hR : ∀ a b w', numO s.data.toList = some a → numO t.data.toList = some b → Below w.heap.size w w' → R (.returned (.tuple #[.int .i64 (cmpZ (a.num * (b.den : Int)) (b.num * (a.den : Int))), .bool true])) w')
    (hR2 : ∀ w', (numO s.data.toList = none ∨ numO t.data.toList = none) → Below w.heap.size w w' → R (.returned (.tuple #[.int .i64 0, .bool false])) w') :
    Calls Tryd.prog 26 #[.string s, .string t] w R := by
  have HR := Lib.hid hR; clear hR
  have HR2 := Lib.hid hR2; clear hR2
  have HE := Lib.hid hE; clear hE
  go_enter Tryd.func26, Tryd.ntmps26
  go_wp2_with fail
  refine read2_any s t _ HE.out _ ?_ ?_
  · intro va vb a b w1 ha hb hva hvb hb1
    have hl1 := few_len (numO_few ha) (B := W64) (by rw [W64_eq]; omega)
    have hl2 := few_len (numO_few hb) (B := W64) (by rw [W64_eq]; omega)
    have HLL := Lib.hid (And.intro hl1 hl2)
    obtain ⟨na, a1, n1, c1, a2, n2, c2, _, rfl, _, _⟩ := hva.parts
    obtain ⟨nb, a3, n3, c3, a4, n4, c4, _, rfl, _, _⟩ := hvb.parts
    obtain ⟨L, hL⟩ : ∃ L, L = (w1.alloc (.cells #[.bool na, .slice a1 n1 c1, .slice a2 n2 c2] 49)).alloc (.cells #[.bool nb, .slice a3 n3 c3, .slice a4 n4 c4] 49) := ⟨_, rfl⟩
    have hbL : Below w1.heap.size w1 L := by rw [hL]; exact ((Below.refl _ _).alloc (Nat.le_refl _) _).alloc (by simp) _
    have HBL := Lib.hid (hb1.trans (hbL.mono hb1.size))
    have HVA := Lib.hid (hva.later hbL (Nat.le_refl _))
    have HVB := Lib.hid (hvb.later hbL (Nat.le_refl _))
    have HA := Lib.hid ha
    have HB := Lib.hid hb
    have HL := Lib.hid hL
    rename_i e1 _ _ e2 _ _
    clear e1 e2 hl1 hl2 hL hbL hva hvb ha hb hb1
    dsimp only
    go_wp2_with fail
    rw [← HL.out]
    refine rcmp_any _ _ a b _ HVA.out HVB.out (by have := HLL.out.1.1; omega) (by have := HLL.out.1.2; omega) (by have := HLL.out.2.1; omega) (by have := HLL.out.2.2; omega) _ ?_
    intro w2 hb2
    obtain ⟨z, hz⟩ : ∃ z, z = cmpZ (a.num * (b.den : Int)) (b.num * (a.den : Int)) := ⟨_, rfl⟩
    have HF := Lib.hid (HR.out a b w2 HA.out HB.out (HBL.out.trans (hb2.mono HBL.out.size)))
    rw [← hz] at HF ⊢
    clear hb2 hz
    dsimp only
    go_wp2
    first | go_ret | skip
    exact HF.out
  · intro e w1 hn he hb1
    obtain ⟨t', p, rfl⟩ := he
    have HF := Lib.hid (HR2.out ((w1.alloc (.cells #[.bool false, .slice none 0 0, .slice none 0 0] 49)).alloc (.cells #[.bool false, .slice none 0 0, .slice none 0 0] 49)) hn ((hb1.alloc hb1.size _).alloc (by have := hb1.size; simp; omega) _))
    clear hb1 hn
    unfold zeroR
    dsimp only
    go_wp2
    first | go_ret | skip
    exact HF.out

set_option maxRecDepth 100000 in
set_option maxHeartbeats 1000000 in
theorem law_compareNumbers (s t : ByteArray) (w : World) (hE : Env w) (R : Ending → World → Prop)
    (hR : ∀ w', Below w.heap.size w w' → R (.returned (.bool true)) w') :
    Calls Tryd.prog 8 #[.string s, .string t] w R := by
  have HR := Lib.hid hR; clear hR
  have HE := Lib.hid hE; clear hE
  by_cases hs : s.size ≤ 1048576
  · have hsi : ¬ (1048576 : Int) < (s.size : Int) := by omega
    by_cases ht : t.size ≤ 1048576
    · have hti : ¬ (1048576 : Int) < (t.size : Int) := by omega
      have HS := Lib.hid hs
      have HT := Lib.hid ht
      clear hs ht
      go_enter Tryd.func8, Tryd.ntmps8
      go_wp2_with fail
      refine spec_compare s t _ (by have := HS.out; omega) (by have := HT.out; omega) _ ?_ ?_
      · intro a b w1 ha hb hb1
        have HA := Lib.hid ha
        have HB := Lib.hid hb
        have HB1 := Lib.hid hb1
        obtain ⟨z, hz⟩ : ∃ z, z = cmpZ (a.num * (b.den : Int)) (b.num * (a.den : Int)) := ⟨_, rfl⟩
        have HZ := Lib.hid hz
        rw [← hz]
        clear ha hb hb1 hz
        dsimp only
        go_wp2_with fail
        refine impl_compare s t _ (HE.out.later HB1.out (Nat.le_refl _)) _ ?_ ?_
        · intro a' b' w2 ha hb hb2
          rw [HA.out] at ha
          rw [HB.out] at hb
          obtain rfl := Option.some.inj ha
          obtain rfl := Option.some.inj hb
          rw [← HZ.out]
          have HB2 := Lib.hid (HB1.out.trans (hb2.mono HB1.out.size))
          have hzz : (z != z) = false := by simp
          clear ha hb hb2
          dsimp only
          go_wp2
          first | go_ret | skip
          exact HR.out _ HB2.out
        · intro w2 hn _
          rw [HA.out, HB.out] at hn
          rcases hn with h | h <;> cases h
      · intro w1 hn hb1
        have HN := Lib.hid hn
        have HB1 := Lib.hid hb1
        clear hn hb1
        dsimp only
        go_wp2_with fail
        refine impl_compare s t _ (HE.out.later HB1.out (Nat.le_refl _)) _ ?_ ?_
        · intro a b w2 ha hb _
          have hn := HN.out
          rw [ha, hb] at hn
          rcases hn with h | h <;> cases h
        · intro w2 _ hb2
          have HB2 := Lib.hid (HB1.out.trans (hb2.mono HB1.out.size))
          clear hb2
          dsimp only
          go_wp2
          first | go_ret | skip
          exact HR.out _ HB2.out
    · have hti : (1048576 : Int) < (t.size : Int) := by omega
      clear hs ht
      go_enter Tryd.func8, Tryd.ntmps8
      go_wp2
      first | go_ret | skip
      exact HR.out _ (Below.refl _ _)
  · have hsi : (1048576 : Int) < (s.size : Int) := by omega
    clear hs
    go_enter Tryd.func8, Tryd.ntmps8
    go_wp2
    first | go_ret | skip
    exact HR.out _ (Below.refl _ _)
end Go.Proofs.YtpncfhfjnnpgdaaDoor
