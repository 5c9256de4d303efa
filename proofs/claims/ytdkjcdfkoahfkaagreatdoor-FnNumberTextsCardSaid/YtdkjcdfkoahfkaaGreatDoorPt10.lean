/- Contracts of functions of the program and of the model: Rats, NumsB, Pieces, Mark, MarkL, SplitS, ReadLS, ReadLI, ShapedR, NText, SumI, DotI, PowN, PowI, PowQ, Set4, PowS, In, LawPow, LawFnNumberTexts. -/
import Derived.Test.YtdkjcdfkoahfkaaGreatDoorPk9
import Derived.Lib.IndexMore
import Derived.Deep.RegionHeld3
import Derived.Deep.RegionLaw
import Derived.HandedShaped
import Derived.Lib.Join
import Derived.Test.YtdkjcdfkoahfkaaGreatDoorProg
set_option linter.all false
set_option linter.unusedVariables false
set_option linter.unusedSimpArgs false
set_option linter.unnecessarySimpa false
set_option linter.deprecated false
namespace Go.Proofs.YtdkjcdfkoahfkaaGreatDoor
open Go Go.RowKit

theorem OwE.alloc {α : Type} {sz : Nat} {E : World → List Value → α → Prop} (hE : Elem sz E) {e : TypeId} {w : World} {B : Nat} {v : Value} {xs : List α} (h : OwE sz E e w B v xs) (o : Obj) : OwE sz E e (w.alloc o) B v xs :=
  h.later hE ((Below.refl w.heap.size w).alloc (Nat.le_refl _) o) (Nat.le_refl _)

theorem cells_alloc (w : World) (cs : Array Value) (t : TypeId) (g : Nat) (hg : g = w.heap.size) : ∀ j u, cs.toList[j]? = some u → (w.alloc (.cells cs t)).cell? ⟨g, j, none⟩ = some u := by
  intro j u hj
  subst hg
  have : (w.alloc (.cells cs t)).heap[w.heap.size]? = some (.cells cs t (0, 0)) := by
    show (w.heap.push _)[_]? = _
    simp
  simp only [World.cell?, this, Option.isSome_none, Bool.false_eq_true, if_false]
  rw [← Array.getElem?_toList]; exact hj

theorem madeCells_ints (z : Array Value) (n : Nat) (hz : 0 < z.size) (h : ∀ u ∈ z.toList, notInt u = true) : ∀ u ∈ (madeCells z n).toList, notInt u = true := by
  intro u hu
  simp only [madeCells, Array.toList_map, List.mem_map] at hu
  obtain ⟨i, _, rfl⟩ := hu
  have hm : i % z.size < z.size := Nat.mod_lt _ hz
  rw [getElem!_pos z _ hm]
  exact h _ (Array.mem_toList_iff.2 (Array.getElem_mem hm))

/-- make([]T, 0, n) -/
theorem wpList_make0 {α : Type} {P : Program} {w : World} {ops : Array Oper} {rest : List Oper} {o : Oper} {a : Act} {Q : Exit → Act → World → Prop} {sz : Nat} {E : World → List Value → α → Prop} (hsz : 0 < sz)
    (hg : o.guard = none) (l c : Operand) (t : TypeId) (hop : o.op = Op.makeSlice t l c)
    (e : TypeId) (bytes : Nat) (z : Value) (h1 : P.underlying t = some (.slice e)) (hi : (P.info? e).map (fun i => (i.zero, i.size, i.bytes)) = some (some z, sz, bytes)) (hzs : z.cells.size = sz) (hzi : ∀ u ∈ z.cells.toList, notInt u = true) (hby : bytes ≤ 100)
    (B : Nat) (hB : B ≤ w.heap.size) (kl kc : IntKind) (L C : Int) (n : Nat) (hl : a.eval l = .int kl L) (hc : a.eval c = .int kc C) (hL : L = 0) (hC : C = (n : Int)) (hn : n ≤ 1000000000)
    (hK : ∀ w', OwE sz E e w' B (.slice (some ⟨w.heap.size, 0, none⟩) 0 n) ([] : List α) → Below w.heap.size w w' → w'.heap.size = w.heap.size + 1 → wpList P ops Q rest (a.put o.dst (.slice (some ⟨w.heap.size, 0, none⟩) 0 n)) w') :
    wpList P ops Q (o :: rest) a w := by
  obtain ⟨i0, hi0, hz0, hz1, hz2⟩ := info_parts hi
  refine wpList_plain hg fun K hK' => ?_
  subst hL hC
  have hb : (i0.bytes : Int) * (n : Int) ≤ 281474976710656 := by
    rw [hz2]
    have : bytes * n ≤ 100 * n := Nat.mul_le_mul_right n hby
    have h2 : ((bytes * n : Nat) : Int) ≤ 281474976710656 := by omega
    rwa [Int.natCast_mul] at h2
  have hr := run_make (P := P) w t e i0 z h1 hi0 hz0 kl kc 0 n (by omega) (by omega) hb (by omega)
  simp only [Int.toNat_natCast, hz1, Int.toNat_zero] at hr
  unfold Oper.wp
  simp [execOp, hop, hl, hc, hr, Result.andThen]
  refine hK' _ _ (hK _ ?_ ?_ ?_)
  · refine .inr ⟨w.heap.size, n, madeCells z.cells (n * sz), rfl, hB, ?_, Nat.zero_le _, by rw [maxLen_eq]; omega, size_madeCells _ _, madeCells_ints _ _ (by omega) hzi, fun i x h => by simp at h⟩
    show (w.heap.push _)[_]? = _
    simp
  · exact (Below.refl _ _).alloc (Nat.le_refl _) _
  · simp

theorem IsN.keep {w w' : World} {v : Value} {n g : Nat} (h : IsN w v n) (hb : But g w w') (hg : NoInt w g) : IsN w' v n := by
  refine Sl.but h hb fun h0 e => ?_
  rcases Sl.cases h with ⟨h1, _⟩ | ⟨_, b, off, cap, rfl, _, hbl, hc⟩
  · rw [h1] at h0; simp at h0
  · simp [blk] at e
    subst e
    have := hg _ _ (hc 0 h0)
    cases this

/-- a fraction of the program as an element -/
def ER (w : World) (cs : List Value) (q : Rat) : Prop := ∃ a1 n1 c1 a2 n2 c2, cs = [.bool (decide (q.num < 0)), .slice a1 n1 c1, .slice a2 n2 c2] ∧ IsN w (.slice a1 n1 c1) q.num.natAbs ∧ IsN w (.slice a2 n2 c2) q.den
theorem elemR : Elem 3 ER where
  len := by rintro w cs x ⟨_, _, _, _, _, _, rfl, _⟩; rfl
  ints := by
    rintro w cs x ⟨_, _, _, _, _, _, rfl, _⟩ u hu
    simp only [List.mem_cons, List.not_mem_nil, or_false] at hu
    rcases hu with rfl | rfl | rfl <;> rfl
  one := by
    rintro w cs x ⟨_, _, _, _, _, _, rfl, _⟩ u hu
    simp only [List.mem_cons, List.not_mem_nil, or_false] at hu
    rcases hu with rfl | rfl | rfl <;> rfl
  keep := by
    rintro w w' g cs x ⟨a1, n1, c1, a2, n2, c2, rfl, h1, h2⟩ hb hg
    exact ⟨a1, n1, c1, a2, n2, c2, rfl, h1.keep hb hg, h2.keep hb hg⟩

/-- a slice value reads as a list of the program's fractions -/
def RsL (w : World) (v : Value) (qs : List Rat) : Prop := SlE 3 ER w v qs

theorem info_ratio : (Tryz.prog.info? 85).map (fun i => (i.zero, i.size, i.bytes)) = some (some zeroR, 3, 56) := by kernel_rfl
theorem zeroR_ints : ∀ u ∈ zeroR.cells.toList, notInt u = true := by
  intro u hu
  simp only [zeroR, Value.cells, List.mem_cons, List.not_mem_nil, or_false] at hu
  rcases hu with rfl | rfl | rfl <;> rfl

/-- whether a text is a number -/
noncomputable def isNum (s : ByteArray) : Bool := (numO s.data.toList).isSome
/-- the number that a text is -/
noncomputable def qOf (s : ByteArray) : Rat := (numO s.data.toList).getD 0
theorem isNum_some {s : ByteArray} (h : isNum s = true) : numO s.data.toList = some (qOf s) := by
  unfold isNum at h; unfold qOf
  cases hn : numO s.data.toList with
  | none => rw [hn] at h; cases h
  | some q => rfl
theorem isNum_of {s : ByteArray} {q : Rat} (h : numO s.data.toList = some q) : isNum s = true ∧ qOf s = q := by
  unfold isNum qOf; rw [h]; exact ⟨rfl, rfl⟩
theorem isNum_not {s : ByteArray} (h : numO s.data.toList = none) : isNum s = false := by
  unfold isNum; rw [h]; rfl

theorem all_take_one {α : Type} (p : α → Bool) (L : List α) (k : Nat) (s : α) (h : L[k]? = some s) : (L.take (k + 1)).all p = ((L.take k).all p && p s) := by
  rw [List.take_add_one, h, List.all_append]; simp
theorem all_not_at {α : Type} (p : α → Bool) (L : List α) (k : Nat) (s : α) (h : L[k]? = some s) (hp : p s = false) : L.all p = false := by
  rw [List.all_eq_false]
  exact ⟨s, List.mem_of_getElem? h, by simp [hp]⟩

set_option maxRecDepth 100000 in
set_option maxHeartbeats 1000000 in
theorem all_any (v : Value) (L : List ByteArray) (w : World) (h : TxL w v L) (hn : L.length ≤ 1048576) (hs : ∀ s ∈ L, s.size ≤ 1048576) (R : Ending → World → Prop)
    (hR : ∀ w', Below w.heap.size w w' → R (.returned (.bool (L.all isNum))) w') :
    Calls Tryz.prog 90 #[v] w R := by
  have HR := Lib.hid hR; clear hR
  obtain ⟨ao, n, cap, rfl, hnl, hc, hh⟩ := h.open
  have HH := Lib.hid hh
  have HN := Lib.hid hnl
  have HS := Lib.hid hs
  rw [← hnl] at hn
  clear h hnl hh hs
  go_enter Tryz.func90, Tryz.ntmps90
  go_wp2
  go_loopw [3] (fun i wr => ∃ k : Nat, i = .int .i64 (k : Int) ∧ k ≤ n ∧ (L.take k).all isNum = true ∧ Below w.heap.size w wr) (fun i _ => n - (intOf i).toNat)
  case atStart => exact ⟨0, rfl, Nat.zero_le _, by simp, Below.refl _ _⟩
  case round =>
    obtain ⟨k, rfl, hk, hall, hbel⟩ := hrel
    have HALL := Lib.hid hall
    have HB := Lib.hid hbel
    clear hall
    by_cases hkn : k = n
    · subst hkn
      have he : L.all isNum = true := by have := HALL.out; rw [HN.out, List.take_length] at this; exact this
      rw [he] at HR
      clear hbel he
      go_wp2
      first | go_ret | skip
      exact HR.out _ HB.out
    · have hkl : k < n := by omega
      obtain ⟨s, hs⟩ : ∃ s, L[k]? = some s := ⟨_, List.getElem?_eq_getElem (by rw [← HN.out]; exact hkl)⟩
      have HSS := Lib.hid hs
      have hsz := HS.out s (List.mem_of_getElem? hs)
      obtain ⟨b, off, rfl, hb, hcell⟩ := TxL.at HH.out k s hs
      rw [← hbel.cell (p := ⟨b, off + k, none⟩) hb] at hcell
      have hw1 : IntKind.i64.wrap ((k : Int) + 1) = ((k + 1 : Nat) : Int) := by rw [IntWalk.i64_in _ (by omega)]; omega
      clear hs hbel
      go_wp2_with fail
      refine isq_any s _ (by omega) _ ?_
      intro w1 hb1
      have HB1 := Lib.hid (HB.out.trans (hb1.mono HB.out.size))
      obtain ⟨x, hx⟩ : ∃ x, x = isNum s := ⟨_, rfl⟩
      have hx' : (numO s.data.toList).isSome = x := by rw [hx]; rfl
      rw [hx']
      have HX := Lib.hid hx
      clear hb1 hx hx' hsz hcell
      cases x
      · have hf := all_not_at isNum L k s HSS.out HX.out.symm
        rw [hf] at HR
        clear hf
        dsimp only
        go_wp2
        first | go_ret | skip
        exact HR.out _ HB1.out
      · have ht : Hid ((L.take (k + 1)).all isNum = true) := Lib.hid (by rw [all_take_one isNum L k s HSS.out, HALL.out, ← HX.out]; rfl)
        dsimp only
        go_wp2
        go_roundw
        case rel => exact ⟨k + 1, by first | rfl | go_num, by omega, ht.out, HB1.out⟩
        case measure => simp [intOf]; omega

set_option maxRecDepth 100000 in
set_option maxHeartbeats 1000000 in
theorem isList_any (v : Value) (L : List ByteArray) (w : World) (h : TxL w v L) (hn : L.length ≤ 1048576) (hs : ∀ s ∈ L, s.size ≤ 1048576) (R : Ending → World → Prop)
    (hR : ∀ w', Below w.heap.size w w' → R (.returned (.bool (decide (L.length ≤ 60) && L.all isNum))) w') :
    Calls Tryz.prog 160 #[v] w R := by
  have HR := Lib.hid hR; clear hR
  obtain ⟨ao, n, cap, rfl, hnl, hc, hh⟩ := h.open
  have HH := Lib.hid hh
  have HN := Lib.hid hnl
  have HS := Lib.hid hs
  rw [← hnl] at hn HR
  clear h hnl hh hs
  by_cases h60 : n ≤ 60
  · have e1 : ((n : Int) ≤ 60) := by omega
    rw [decide_eq_true h60, Bool.true_and] at HR
    clear h60
    go_enter Tryz.func160, Tryz.ntmps160
    go_wp2_with fail
    refine all_any _ L _ HH.out (by rw [← HN.out]; exact hn) HS.out _ ?_
    intro w1 hb1
    obtain ⟨x, hx⟩ : ∃ x, x = L.all isNum := ⟨_, rfl⟩
    rw [← hx] at HR ⊢
    have HB := Lib.hid hb1
    clear hb1 hx
    dsimp only
    go_wp2
    first | go_ret | skip
    exact HR.out _ HB.out
  · have e1 : ¬ ((n : Int) ≤ 60) := by omega
    rw [decide_eq_false h60, Bool.false_and] at HR
    clear h60
    go_enter Tryz.func160, Tryz.ntmps160
    go_wp2
    first | go_ret | skip
    exact HR.out _ (Below.refl _ _)

def RatsRel (w : World) (n : Nat) (L : List ByteArray) (i v : Value) (wr : World) : Prop :=
  ∃ k : Nat, i = .int .i64 (k : Int) ∧ k ≤ n ∧ (L.take k).all isNum = true ∧ OwE 3 ER 85 wr w.heap.size v ((L.take k).map qOf) ∧ Below w.heap.size w wr

theorem map_take_one {α β : Type} (f : α → β) (L : List α) (k : Nat) (s : α) (h : L[k]? = some s) : (L.take (k + 1)).map f = (L.take k).map f ++ [f s] := by
  rw [List.take_add_one, h, List.map_append]; rfl

set_option maxRecDepth 100000 in
set_option maxHeartbeats 2000000 in
theorem readrs_own (v : Value) (L : List ByteArray) (w : World) (hE : Env w) (h : TxL w v L) (hn : L.length ≤ 1048576) (R : Ending → World → Prop)
    (hR : ∀ v' w', L.length ≤ 60 → L.all isNum = true → OwE 3 ER 85 w' w.heap.size v' (L.map qOf) → Below w.heap.size w w' → R (.returned (.tuple #[v', .nilIface])) w')
    (hR2 : ∀ e w', (decide (L.length ≤ 60) && L.all isNum) = false → ErrV e → Below w.heap.size w w' → R (.returned (.tuple #[.slice none 0 0, e])) w') :
    Calls Tryz.prog 88 #[v] w R := by
  have HR := Lib.hid hR; clear hR
  have HR2 := Lib.hid hR2; clear hR2
  have HE := Lib.hid hE
  obtain ⟨ao, n, cap, rfl, hnl, hc, hh⟩ := h.open
  have HH := Lib.hid hh
  have HN := Lib.hid hnl
  rw [← hnl] at hn
  clear h hnl hh
  by_cases h60 : n ≤ 60
  · have e1 : ¬ ((60 : Int) < (n : Int)) := by omega
    have H60 := Lib.hid h60
    clear h60 hE
    go_enter Tryz.func88, Tryz.ntmps88
    go_wp2_with (at_make; go_must (refine wpList_make0 (sz := 3) (E := ER) (by omega) rfl _ (.tmp 14) 110 rfl 85 56 zeroR Tryz.underlying110 info_ratio rfl zeroR_ints (by omega) w.heap.size (Nat.le_refl _) .i64 .i64 _ _ n rfl rfl rfl rfl (by omega) ?_))
    intro W hA hbW hsW
    have HST : Hid (RatsRel w n L (.int .i64 0) (.slice (some ⟨w.heap.size, 0, none⟩) 0 n) W) := Lib.hid ⟨0, rfl, Nat.zero_le _, by simp, by simpa using hA, hbW⟩
    clear hA hbW hsW
    go_wp2
    go_loopw [4, 18] (fun v i wr => RatsRel w n L i v wr) (fun _ i _ => n - (intOf i).toNat)
    case atStart => exact HST.out
    case round =>
      clear HST
      obtain ⟨k, rfl, hk, hall, hown, hbel⟩ := hrel
      have HALL := Lib.hid hall
      have HB := Lib.hid hbel
      have HOWN := Lib.hid hown
      clear hall
      obtain ⟨a3, n3, c3, rfl, hn3⟩ := hown.shape
      by_cases hkn : k = n
      · subst hkn
        have he : L.take k = L := by rw [HN.out, List.take_length]
        rw [he] at HALL HOWN
        have HF := Lib.hid (HR.out _ _ (by rw [← HN.out]; exact H60.out) HALL.out HOWN.out HB.out)
        clear hbel he hown hn3
        go_wp2
        first | go_ret | skip
        exact HF.out
      · have hkl : k < n := by omega
        obtain ⟨s, hs⟩ : ∃ s, L[k]? = some s := ⟨_, List.getElem?_eq_getElem (by rw [← HN.out]; exact hkl)⟩
        have HSS := Lib.hid hs
        obtain ⟨b, off, rfl, hb, hcell⟩ := TxL.at HH.out k s hs
        rw [← hbel.cell (p := ⟨b, off + k, none⟩) hb] at hcell
        have hw1 : IntKind.i64.wrap ((k : Int) + 1) = ((k + 1 : Nat) : Int) := by rw [IntWalk.i64_in _ (by omega)]; omega
        have HK := Lib.hid hkl
        have H3 := Lib.hid hn3
        clear hs hbel hown hn3
        go_wp2_with fail
        refine readq_any s _ (HE.out.later HB.out (Nat.le_refl _)) _ ?_ ?_
        · intro v q w1 hq hv hb1
          obtain ⟨s1, s2, rfl, hn1, hn2⟩ := hv
          obtain ⟨x1, m1, y1, rfl, hn1'⟩ := hn1.op
          obtain ⟨x2, m2, y2, rfl, hn2'⟩ := hn2.op
          have HB1 := Lib.hid (HB.out.trans (hb1.mono HB.out.size))
          have HOW1 := Lib.hid (HOWN.out.later elemR hb1 (Nat.le_refl _))
          have HER : Hid (ER w1 [.bool (decide (q.num < 0)), .slice x1 m1 y1, .slice x2 m2 y2] q) := Lib.hid ⟨_, _, _, _, _, _, rfl, hn1', hn2'⟩
          obtain ⟨ng, hng⟩ : ∃ ng, ng = decide (q.num < 0) := ⟨_, rfl⟩
          rw [← hng] at HER ⊢
          obtain ⟨hq1, hq2⟩ := isNum_of hq
          have HA2 : Hid ((L.take (k + 1)).all isNum = true) := Lib.hid (by rw [all_take_one isNum L k s HSS.out, HALL.out, hq1]; rfl)
          have HM2 : Hid ((L.take (k + 1)).map qOf = (L.take k).map qOf ++ [q]) := Lib.hid (by rw [map_take_one qOf L k s HSS.out, hq2])
          have HLK : Hid (((L.take k).map qOf).length ≤ 100000000) := Lib.hid (by rw [List.length_map, List.length_take]; omega)
          have hwB := HB1.out.size
          clear hb1 hq hn1 hn2 hn1' hn2' hq1 hq2 hng hcell
          dsimp only
          go_wp2_with (at_builtin; go_must (refine wpList_pushE elemR (by omega) rfl (.tmp 30) (.tmp 32) 110 rfl 85 56 zeroR Tryz.underlying110 info_ratio rfl zeroR_ints (by omega) w.heap.size _ ((HOW1.out.alloc elemR _).alloc elemR _) HLK.out (by simp; omega) (w1.heap.size + 1) [.bool ng, .slice x1 m1 y1, .slice x2 m2 y2] q rfl (elemR.below HER.out (((Below.refl _ _).alloc (Nat.le_refl _) _).alloc (by simp) _) (Nat.le_refl _)) (cells_alloc _ #[.bool ng, .slice x1 m1 y1, .slice x2 m2 y2] _ _ (by simp)) ?_))
          intro ao n4 c4 w4 hown4 hn4 hgr hb4
          have HOW4 : Hid (OwE 3 ER 85 w4 w.heap.size (.slice ao n4 c4) ((L.take (k + 1)).map qOf)) := Lib.hid (by rw [HM2.out, List.map_take]; exact hown4)
          have HB4 := Lib.hid (((HB1.out.alloc hwB _).alloc (by simp; omega) _).trans (hb4))
          clear hown4 hn4 hgr hb4
          go_wp2
          go_roundw
          case rel => exact ⟨k + 1, by first | rfl | go_num, HK.out, HA2.out, HOW4.out, HB4.out⟩
          case measure => simp [intOf]; have := HK.out; omega
        · intro e w1 hnone he hb1
          obtain ⟨t, p, rfl⟩ := he
          have HB1 := Lib.hid (HB.out.trans (hb1.mono HB.out.size))
          have hf : (decide (L.length ≤ 60) && L.all isNum) = false := by rw [all_not_at isNum L k s HSS.out (isNum_not hnone), Bool.and_false]
          have HF := Lib.hid (HR2.out (.iface t (.pointer (some p))) (w1.alloc (.cells #[.bool false, .slice none 0 0, .slice none 0 0] 85)) hf ⟨_, _, rfl⟩ (HB1.out.alloc HB1.out.size _))
          clear hb1 hnone hf hcell
          unfold zeroR
          dsimp only
          go_wp2
          first | go_ret | skip
          exact HF.out
  · have e1 : ((60 : Int) < (n : Int)) := by omega
    have hf : (decide (L.length ≤ 60) && L.all isNum) = false := by rw [← HN.out, decide_eq_false h60, Bool.false_and]
    have HF := Lib.hid (fun p w' => HR2.out (.iface 299 (.pointer (some p))) w' hf ⟨_, _, rfl⟩)
    obtain ⟨_, ⟨pf, hpf⟩, _⟩ := hE
    clear h60 hf
    go_enter Tryz.func88, Tryz.ntmps88
    go_wp2
    go_quiet (fail)
    go_wp2
    first | go_ret | skip
    exact HF.out _ _ (below_draws (Below.refl _ _) _)

theorem readrs_any (v : Value) (L : List ByteArray) (w : World) (hE : Env w) (h : TxL w v L) (hn : L.length ≤ 1048576) (R : Ending → World → Prop)
    (hR : ∀ v' w', L.length ≤ 60 → L.all isNum = true → RsL w' v' (L.map qOf) → Below w.heap.size w w' → R (.returned (.tuple #[v', .nilIface])) w')
    (hR2 : ∀ e w', (decide (L.length ≤ 60) && L.all isNum) = false → ErrV e → Below w.heap.size w w' → R (.returned (.tuple #[.slice none 0 0, e])) w') :
    Calls Tryz.prog 88 #[v] w R :=
  readrs_own v L w hE h hn R (fun v' w' h1 h2 h3 h4 => hR v' w' h1 h2 h3.sl h4) hR2

/-- a store into an older block without numbers leaves an owned list as it is -/
theorem OwE.setOld {α : Type} {sz : Nat} {E : World → List Value → α → Prop} (hE : Elem sz E) {e : TypeId} {w : World} {B : Nat} {v : Value} {xs : List α} (h : OwE sz E e w B v xs) {b : Nat} (hb : b < B) (hn : NoInt w b) (o : Nat) (u : Value) : OwE sz E e (w.setCell ⟨b, o, none⟩ u) B v xs := by
  rcases h with h | ⟨g, cap, cur, h1, h2, h3, h4, h5, h6, h7, h8⟩
  · exact .inl h
  · exact .inr ⟨g, cap, cur, h1, h2, by rw [Below.heap_setCell _ _ _ _ (show g ≠ b by omega)]; exact h3, h4, h5, h6, h7, fun i x hi => hE.keep (h8 i x hi) ((But.refl b w).setCell o u) hn⟩
end Go.Proofs.YtdkjcdfkoahfkaaGreatDoor

namespace Go.Proofs.YtdkjcdfkoahfkaaGreatDoor
open Go Go.RowKit

theorem sizes_each {L : List ByteArray} (h : tot L ≤ 1048576) : L.length ≤ 1048576 ∧ ∀ s ∈ L, s.size ≤ 1048576 := by
  unfold tot at h
  exact ⟨by omega, fun s hs => by have := size_le_sizes hs; omega⟩

/-- whether texts are numbers, and not too many -/
noncomputable def numsB (L : List ByteArray) : Bool := decide (L.length ≤ 60) && L.all isNum

set_option maxRecDepth 100000 in
set_option maxHeartbeats 1000000 in
theorem impl_isNumbers (v : Value) (L : List ByteArray) (w : World) (hE : Env w) (h : TxL w v L) (hn : L.length ≤ 1048576) (R : Ending → World → Prop)
    (hR : ∀ w', Below w.heap.size w w' → R (.returned (.bool (numsB L))) w') :
    Calls Tryz.prog 84 #[v] w R := by
  have HR := Lib.hid hR; clear hR
  have HE := Lib.hid hE; clear hE
  obtain ⟨ao, n, cap, rfl, hh⟩ := h.op
  have HH := Lib.hid hh
  have HN := Lib.hid hn
  clear h hh hn
  go_enter Tryz.func84, Tryz.ntmps84
  go_wp2_with fail
  refine readrs_any _ L _ HE.out HH.out HN.out _ ?_ ?_
  · intro v' w1 h1 h2 hv hb1
    have ht : numsB L = true := by unfold numsB; rw [decide_eq_true h1, h2]; rfl
    rw [ht] at HR
    obtain ⟨a9, n9, c9, rfl, _⟩ := SlE.op hv
    have HB := Lib.hid hb1
    clear hb1 ht h1 h2 hv
    dsimp only
    go_wp2
    first | go_ret | skip
    exact HR.out _ HB.out
  · intro e w1 hf he hb1
    have ht : numsB L = false := hf
    rw [ht] at HR
    obtain ⟨t, p, rfl⟩ := he
    have HB := Lib.hid hb1
    clear hb1 ht hf
    dsimp only
    go_wp2
    first | go_ret | skip
    exact HR.out _ HB.out

end Go.Proofs.YtdkjcdfkoahfkaaGreatDoor

namespace Go.Proofs.YtdkjcdfkoahfkaaGreatDoor
open Go Go.RowKit

/-- the pieces between commas -/
def pieces : List UInt8 → List (List UInt8)
  | [] => [[]]
  | c :: l => if c = 44 then [] :: pieces l else match pieces l with | [] => [[c]] | p :: r => (c :: p) :: r

theorem pieces_none : ∀ (a : List UInt8), (44 : UInt8) ∉ a → pieces a = [a]
  | [], _ => rfl
  | c :: l, h => by
    have h1 : c ≠ 44 := fun e => h (by simp [e])
    have h2 : (44 : UInt8) ∉ l := fun e => h (by simp [e])
    unfold pieces
    rw [if_neg h1, pieces_none l h2]

theorem pieces_cut : ∀ (a b : List UInt8), (44 : UInt8) ∉ a → pieces (a ++ 44 :: b) = a :: pieces b
  | [], b, _ => by show pieces (44 :: b) = _; rw [pieces]; simp
  | c :: l, b, h => by
    have h1 : c ≠ 44 := fun e => h (by simp [e])
    have h2 : (44 : UInt8) ∉ l := fun e => h (by simp [e])
    show pieces (c :: (l ++ 44 :: b)) = _
    rw [pieces, if_neg h1, pieces_cut l b h2]

theorem pieces_len : ∀ (a : List UInt8), (pieces a).length ≤ a.length + 1
  | [] => by simp [pieces]
  | c :: l => by
    have h := pieces_len l
    rw [pieces]
    split
    · simp; omega
    · split
      · simp
      · rename_i p r hp
        rw [hp] at h
        simp at h ⊢
        omega

theorem pieces_sizes : ∀ (a : List UInt8), ∀ p ∈ pieces a, p.length ≤ a.length
  | [], p, h => by simp [pieces] at h; subst h; simp
  | c :: l, p, h => by
    have ih := pieces_sizes l
    rw [pieces] at h
    split at h
    · rcases List.mem_cons.1 h with rfl | h
      · simp
      · have := ih p h; simp; omega
    · split at h
      · simp at h; subst h; simp
      · rename_i q r hp
        rcases List.mem_cons.1 h with rfl | h
        · have := ih q (by rw [hp]; simp); simp; omega
        · have := ih p (by rw [hp]; simp [h]); simp; omega

theorem index_comma : ∀ (l : List UInt8), ((44 : UInt8) ∉ l ∧ Lib.index l [44] = -1) ∨ ∃ a b, l = a ++ 44 :: b ∧ (44 : UInt8) ∉ a ∧ Lib.index l [44] = (a.length : Int)
  | [] => .inl ⟨by simp, by simp [Lib.index]⟩
  | c :: l => by
    by_cases hc : c = 44
    · subst hc
      exact .inr ⟨[], l, rfl, by simp, by simp [Lib.index]⟩
    · have hp : ([44] : List UInt8).isPrefixOf (c :: l) = false := by
        simp [List.isPrefixOf]; exact fun e => hc e.symm
      rcases index_comma l with ⟨h1, h2⟩ | ⟨a, b, h1, h2, h3⟩
      · refine .inl ⟨by simp [h1]; exact fun e => hc e.symm, ?_⟩
        rw [Lib.index, hp, h2]; rfl
      · refine .inr ⟨c :: a, b, by rw [h1]; rfl, by simp [h2]; exact fun e => hc e.symm, ?_⟩
        rw [Lib.index, hp, h3]
        have : ((a.length : Int) == -1) = false := by rw [beq_eq_false_iff_ne]; omega
        rw [this]
        simp

/-- what strings.Cut makes at a comma -/
theorem cut_comma (l : List UInt8) : ((44 : UInt8) ∉ l ∧ Lib.cut l [44] = (l, [], false)) ∨ ∃ a b, l = a ++ 44 :: b ∧ (44 : UInt8) ∉ a ∧ Lib.cut l [44] = (a, b, true) := by
  rcases index_comma l with ⟨h1, h2⟩ | ⟨a, b, h1, h2, h3⟩
  · refine .inl ⟨h1, ?_⟩
    unfold Lib.cut; rw [h2]; rfl
  · refine .inr ⟨a, b, h1, h2, ?_⟩
    unfold Lib.cut; rw [h3, if_pos (by omega)]
    rw [h1]; simp

/-- the texts between commas; of the text 'none' none -/
def splitB (s : ByteArray) : List ByteArray := if s.data.toList = [110, 111, 110, 101] then [] else (pieces s.data.toList).map fun l => ⟨l.toArray⟩

theorem splitB_len (s : ByteArray) : (splitB s).length ≤ s.size + 1 := by
  unfold splitB
  split
  · simp
  · rw [List.length_map]
    have := pieces_len s.data.toList
    have e : s.size = s.data.toList.length := by rw [Array.length_toList]; rfl
    omega

theorem splitB_sizes (s : ByteArray) : ∀ t ∈ splitB s, t.size ≤ s.size := by
  intro t ht
  unfold splitB at ht
  split at ht
  · simp at ht
  · obtain ⟨p, hp, rfl⟩ := List.mem_map.1 ht
    have := pieces_sizes s.data.toList p hp
    have e : s.size = s.data.toList.length := by rw [Array.length_toList]; rfl
    have e2 : (⟨p.toArray⟩ : ByteArray).size = p.length := by simp [ByteArray.size]
    omega

/-- the list that ReadNumbers answers -/
noncomputable def readL (s : ByteArray) : List ByteArray := if numsB (splitB s) then splitB s else []
theorem readL_len (s : ByteArray) : (readL s).length ≤ 60 := by
  unfold readL
  split
  · rename_i h
    unfold numsB at h
    simp at h
    exact h.1
  · simp
end Go.Proofs.YtdkjcdfkoahfkaaGreatDoor

namespace Go.Proofs.YtdkjcdfkoahfkaaGreatDoor
open Go Go.RowKit

/-- decimal digits, none of 0 -/
def mkD (k : Nat) : List UInt8 := (dig 10 k).reverse.map chr
theorem mkD_zero : mkD 0 = [] := by simp [mkD, dig]
theorem mkD_step {k : Nat} (h : 0 < k) : mkD k = mkD (k / 10) ++ [chr (k % 10)] := by
  unfold mkD
  rw [show dig 10 k = (k % 10) :: dig 10 (k / 10) by rw [dig]; rw [dif_neg (by omega)]]
  simp
theorem mkD_len {k : Nat} (h : k < 10 ^ 20) : (mkD k).length ≤ 20 := by
  unfold mkD
  rw [List.length_map, List.length_reverse]
  exact dig_length_le (by omega) _ _ h
/-- the mark of a number -/
def mkT (k : Nat) : ByteArray := if k = 0 then ⟨#[109, 48]⟩ else ⟨#[109]⟩ ++ ⟨(mkD k).toArray⟩

set_option maxRecDepth 100000 in
/-- a byte as a text -/
theorem conv1 (W : World) (x : Nat) :
    (convert 22 9 (.slice (some ⟨W.heap.size, 0, none⟩) 1 1)).run Tryz.prog (W.alloc (.cells #[.int .u8 (48 + (x : Int))] 5)) =
      .ok (.string ⟨([chr x] : List UInt8).toArray⟩) (W.alloc (.cells #[.int .u8 (48 + (x : Int))] 5)) := by
  rw [run_convert_bytes_string _ _ _ 5 _ _ _ Tryz.underlying22 Tryz.underlying5 Tryz.underlying9]
  rw [run_bytesToString _ _ _ _ [48 + (x : Int)] (by simp [go_sem])]
  have e : [48 + (x : Int)].foldl (fun r n => r.push (UInt8.ofNat n.toNat)) ByteArray.empty = ⟨([chr x] : List UInt8).toArray⟩ := by
    have h1 := chr_int x
    simp only [List.foldl_cons, List.foldl_nil, h1]
    rfl
  rw [e]

set_option maxRecDepth 100000 in
set_option maxHeartbeats 1000000 in
theorem markText_any (K : Nat) (w : World) (hK : K ≤ 1000000000000) (R : Ending → World → Prop)
    (hR : ∀ w', Below w.heap.size w w' → R (.returned (.string (mkT K))) w') :
    Calls Tryz.prog 100 #[.int .i64 (K : Int)] w R := by
  have HR := Lib.hid hR; clear hR
  by_cases h0 : K = 0
  · subst h0
    go_enter Tryz.func100, Tryz.ntmps100
    go_wp2
    first | go_ret | skip
    exact HR.out _ (Below.refl _ _)
  · have hp : ¬ ((K : Int) ≤ 0) := by omega
    have HT : Hid (mkT K = ⟨#[109]⟩ ++ ⟨(mkD K).toArray⟩) := Lib.hid (by unfold mkT; rw [if_neg h0])
    have HLK : Hid ((mkD K).length ≤ 20) := Lib.hid (mkD_len (by omega))
    have HKK := Lib.hid hK
    clear h0
    go_enter Tryz.func100, Tryz.ntmps100
    go_wp2
    clear hp
    go_loopw [0, 3] (fun kv ov wr => ∃ (j : Nat) (l : List UInt8), kv = .int .i64 (j : Int) ∧ ov = .string ⟨l.toArray⟩ ∧ j ≤ K ∧ mkD j ++ l = mkD K ∧ Below w.heap.size w wr) (fun kv _ _ => (intOf kv).toNat)
    case atStart => exact ⟨K, [], rfl, rfl, Nat.le_refl _, by simp, Below.refl _ _⟩
    case round =>
      obtain ⟨j, l, rfl, rfl, hj, hl, hbel⟩ := hrel
      have HL := Lib.hid hl
      have HB := Lib.hid hbel
      have hll : l.length ≤ 20 := by have := congrArg List.length hl; rw [List.length_append] at this; have := HLK.out; omega
      clear hl hbel
      by_cases hj0 : j = 0
      · subst hj0
        have hfin : l = mkD K := by rw [← HL.out, mkD_zero, List.nil_append]
        have HF := Lib.hid (show R (.returned (.string (⟨#[109]⟩ ++ ⟨l.toArray⟩))) wr by have := HR.out _ HB.out; rw [HT.out, ← hfin] at this; exact this)
        clear hfin
        go_wp2
        first | go_ret | skip
        exact HF.out
      · obtain ⟨r, hr⟩ : ∃ r, r = j % 10 := ⟨_, rfl⟩
        obtain ⟨q, hq⟩ : ∃ q, q = j / 10 := ⟨_, rfl⟩
        have hr10 : r < 10 := by omega
        have hqj : q < j := by omega
        have HN : Hid (mkD q ++ (chr r :: l) = mkD K) := Lib.hid (by
          have := HL.out
          rw [mkD_step (by omega), ← hr, ← hq] at this
          rw [← this]; simp)
        have hcv := conv1 wr r
        have e1 : (j : Int) % 10 = (r : Int) := by omega
        have e2 : Int.tmod (j : Int) 10 = (r : Int) := by rw [Int.tmod_eq_emod_of_nonneg (by omega)]; exact e1
        have e3 : IntKind.i64.wrap (r : Int) = (r : Int) := IntWalk.i64_in _ (by omega)
        have e4 : IntKind.i64.wrap (48 + (r : Int)) = 48 + (r : Int) := IntWalk.i64_in _ (by omega)
        have e5 : IntKind.u8.wrap (48 + (r : Int)) = 48 + (r : Int) := by rw [IntKind.wrap_u8]; omega
        have e6 : (j : Int) / 10 = (q : Int) := by omega
        have e7 : Int.tdiv (j : Int) 10 = (q : Int) := by rw [Int.tdiv_eq_ediv_of_nonneg (by omega)]; exact e6
        have e8 : IntKind.i64.wrap (q : Int) = (q : Int) := IntWalk.i64_in _ (by have := HKK.out; omega)
        have HBA := Lib.hid (HB.out.alloc HB.out.size (.cells #[.int .u8 (48 + (r : Int))] 5))
        have hqK : q ≤ K := by omega
        clear hr hq hj0
        go_wp2
        go_roundw
        case rel => exact ⟨q, chr r :: l, by first | rfl | go_num, by first | rfl | (rw [ByteArray.mk_append_mk]; rfl), hqK, HN.out, HBA.out⟩
        case measure => simp [intOf]; omega
end Go.Proofs.YtdkjcdfkoahfkaaGreatDoor

namespace Go.Proofs.YtdkjcdfkoahfkaaGreatDoor
open Go Go.RowKit

/-- of what there was, nothing but one block has turned, if any has -/
structure ButO (o : Option Nat) (w w' : World) : Prop where
  os : w'.os = w.os
  tape : w'.tape = w.tape
  output : w'.output = w.output
  size : w.heap.size ≤ w'.heap.size
  block : ∀ k, k < w.heap.size → o ≠ some k → w'.heap[k]? = w.heap[k]?

theorem ButO.refl (o : Option Nat) (w : World) : ButO o w w := ⟨rfl, rfl, rfl, Nat.le_refl _, fun _ _ _ => rfl⟩
theorem ButO.trans {o : Option Nat} {a b c : World} (h : ButO o a b) (k : ButO o b c) : ButO o a c :=
  ⟨k.os.trans h.os, k.tape.trans h.tape, k.output.trans h.output, Nat.le_trans h.size k.size, fun i hi ho => (k.block i (Nat.lt_of_lt_of_le hi h.size) ho).trans (h.block i hi ho)⟩
theorem ButO.of {o : Option Nat} {w w' : World} (h : Below w.heap.size w w') : ButO o w w' := ⟨h.os, h.tape, h.output, h.size, fun k hk _ => h.block k hk⟩
theorem ButO.set {g : Nat} (w : World) (i : Nat) (u : Value) : ButO (some g) w (w.setCell ⟨g, i, none⟩ u) :=
  ⟨rfl, rfl, rfl, by simp [World.setCell], fun k _ ho => Below.heap_setCell _ _ _ _ (fun e => ho (by rw [e]))⟩
theorem ButO.below {o : Option Nat} {B : Nat} {w w' : World} (h : ButO o w w') (ho : ∀ g, o = some g → B ≤ g) (hB : B ≤ w.heap.size) : Below B w w' :=
  ⟨h.os, h.tape, h.output, h.size, fun k hk => h.block k (by omega) (fun e => by have := ho k e; omega)⟩
theorem OwE.base {α : Type} {sz : Nat} {E : World → List Value → α → Prop} {e : TypeId} {w : World} {B : Nat} {v : Value} {xs : List α} (h : OwE sz E e w B v xs) : ∀ g, v.ownBlock = some g → B ≤ g := by
  rcases h with ⟨rfl, _⟩ | ⟨g, cap, cur, rfl, h2, _⟩
  · intro g hg; cases hg
  · intro g' hg
    obtain rfl : g = g' := by simpa [Value.ownBlock] using hg
    exact h2
theorem OwE.butO {e : TypeId} {w w' : World} {B : Nat} {v : Value} {xs : List ByteArray} {o : Option Nat} (h : OwE 1 ET e w B v xs) (hb : ButO o w w') (hne : ∀ g, v.ownBlock = some g → o ≠ some g) : OwE 1 ET e w' B v xs := by
  rcases h with h | ⟨g, cap, cur, rfl, h2, h3, h4, h5, h6, h7, h8⟩
  · exact .inl h
  · exact .inr ⟨g, cap, cur, rfl, h2, by rw [hb.block g (lt_of_block h3) (hne g (by simp [Value.ownBlock]))]; exact h3, h4, h5, h6, h7, fun i x hi => h8 i x hi⟩

/-- a text of an own list is replaced -/
theorem OwE.setT {e : TypeId} {w : World} {B : Nat} {v : Value} {L : List ByteArray} (h : OwE 1 ET e w B v L) (i : Nat) (hi : i < L.length) :
    ∃ g cap u, v = .slice (some ⟨g, 0, none⟩) L.length cap ∧ v.ownBlock = some g ∧ g < w.heap.size ∧ w.cell? ⟨g, i, none⟩ = some u ∧ w.frozen? ⟨g, i, none⟩ = false ∧ ∀ s, OwE 1 ET e (w.setCell ⟨g, i, none⟩ (.string s)) B v (L.set i s) := by
  rcases h with ⟨_, rfl⟩ | ⟨g, cap, cur, rfl, h2, h3, h4, h5, h6, h7, h8⟩
  · simp at hi
  · have hic : i < cur.size := by rw [h6]; omega
    refine ⟨g, cap, cur[i], rfl, by simp [Value.ownBlock], lt_of_block h3, ?_, ?_, fun s => ?_⟩
    · simp only [World.cell?, h3, Option.isSome_none, Bool.false_eq_true, if_false]
      exact Array.getElem?_eq_getElem hic
    · simp [World.frozen?, h3]
    · refine .inr ⟨g, cap, cur.setIfInBounds i (.string s), by rw [List.length_set], h2, ?_, by rw [List.length_set]; exact h4, h5, by rw [Array.size_setIfInBounds]; exact h6, ?_, fun j x hj => ?_⟩
      · simp only [World.setCell, Array.getElem?_modify, h3]
        simp
      · intro u hu
        rw [Array.toList_setIfInBounds] at hu
        rcases List.mem_or_eq_of_mem_set hu with hu | rfl
        · exact h7 u hu
        · rfl
      · show ((cur.setIfInBounds i (.string s)).toList.drop (j * 1)).take 1 = [.string x]
        rw [Array.toList_setIfInBounds, Nat.mul_one]
        rw [List.getElem?_set] at hj
        by_cases hij : i = j
        · subst hij
          rw [if_pos rfl, if_pos hi] at hj
          cases hj
          rw [List.drop_eq_getElem_cons (by rw [List.length_set, Array.length_toList]; exact hic)]
          simp
        · rw [if_neg hij] at hj
          have := h8 j x hj
          rw [Nat.mul_one] at this
          have hj2 : j < cur.size := by have := (List.getElem?_eq_some_iff.1 hj).1; rw [h6]; omega
          have h9 : (cur.toList.drop j).take 1 = [cur.toList[j]'(by rw [Array.length_toList]; exact hj2)] := by
            rw [List.drop_eq_getElem_cons (by rw [Array.length_toList]; exact hj2)]; simp
          have h10 : ((cur.toList.set i (.string s)).drop j).take 1 = [cur.toList[j]'(by rw [Array.length_toList]; exact hj2)] := by
            rw [List.drop_eq_getElem_cons (by rw [List.length_set, Array.length_toList]; exact hj2)]
            simp [List.getElem_set_ne hij]
          rw [h10, ← h9]; exact this

theorem below_unD {B : Nat} {w w' : World} (h : Below B w.drew w') : Below B w w' := ⟨h.os, h.tape, h.output, h.size, h.block⟩

/-- the marks from a number on -/
def marks (k0 n : Nat) : List ByteArray := (List.range n).map fun i => mkT (k0 + i)
theorem marks_len (k0 n : Nat) : (marks k0 n).length = n := by simp [marks]
theorem marks_at {k0 n i : Nat} (h : i < n) : (marks k0 n)[i]? = some (mkT (k0 + i)) := by
  simp [marks, h]
theorem marks_set {k0 k : Nat} {L : List ByteArray} (h : k < L.length) : (marks k0 k ++ L.drop k).set k (mkT (k0 + k)) = marks k0 (k + 1) ++ L.drop (k + 1) := by
  rw [List.set_append_right _ _ (by rw [marks_len]; exact Nat.le_refl _), marks_len, Nat.sub_self, List.drop_eq_getElem_cons h, List.set_cons_zero]
  unfold marks
  rw [List.range_succ, List.map_append]
  simp

/-- the loop that marks -/
def MarkRel (e : TypeId) (w : World) (B : Nat) (v : Value) (k0 n : Nat) (L : List ByteArray) (kv iv : Value) (wr : World) : Prop :=
  ∃ k, iv = .int .i64 ((k : Nat) : Int) ∧ kv = .int .i64 ((k0 + k : Nat) : Int) ∧ k ≤ n ∧ OwE 1 ET e wr B v (marks k0 k ++ L.drop k) ∧ ButO v.ownBlock w wr

set_option maxRecDepth 100000 in
set_option maxHeartbeats 1000000 in
theorem mark_any (v : Value) (L : List ByteArray) (k0 : Nat) (B : Nat) (w : World) (h : OwE 1 ET 9 w B v L) (hn : L.length ≤ 1000000000) (hk : k0 ≤ 1000000000) (R : Ending → World → Prop)
    (hR : ∀ w', OwE 1 ET 9 w' B v (marks k0 L.length) → ButO v.ownBlock w w' → R (.returned (.int .i64 ((k0 + L.length : Nat) : Int))) w') :
    Calls Tryz.prog 40 #[v, .int .i64 (k0 : Int)] w R := by
  have HR := Lib.hid hR; clear hR
  have HST : Hid (MarkRel 9 w B v k0 L.length L (.int .i64 (k0 : Int)) (.int .i64 0) w) := Lib.hid ⟨0, rfl, rfl, Nat.zero_le _, by simpa [marks] using h, ButO.refl _ _⟩
  obtain ⟨ao, n, cap, rfl, hnl⟩ := h.shape
  obtain ⟨v0, hv0⟩ : ∃ v0, v0 = Value.slice ao n cap := ⟨_, rfl⟩
  rw [← hv0] at HST HR
  have HV0 := Lib.hid hv0
  have HN := Lib.hid hnl
  have hn9 : n ≤ 1000000000 := by omega
  clear h hnl hv0 hn
  rw [← HN.out] at HST HR
  go_enter Tryz.func40, Tryz.ntmps40
  go_wp2
  go_loopw [1, 5] (fun kv iv wr => MarkRel 9 w B v0 k0 n L kv iv wr) (fun _ iv _ => n - (intOf iv).toNat)
  case atStart => exact HST.out
  case round =>
    clear HST
    obtain ⟨k, rfl, rfl, hkn, hown, hbut⟩ := hrel
    have HBUT := Lib.hid hbut
    clear hbut
    by_cases hke : k = n
    · subst hke
      have he : marks k0 k ++ L.drop k = marks k0 k := by rw [HN.out, List.drop_length, List.append_nil]
      rw [he] at hown
      have HF := Lib.hid (HR.out wr hown HBUT.out)
      have hk0 : ¬ ((k : Int) < (k : Int)) := by omega
      clear hown he
      go_wp2
      first | go_ret | skip
      exact HF.out
    · have hkl : k < n := by omega
      have hlen : k < (marks k0 k ++ L.drop k).length := by rw [List.length_append, marks_len, List.length_drop, ← HN.out]; omega
      have HOWN := Lib.hid hown
      have HKL := Lib.hid hkl
      have hw1 : IntKind.i64.wrap ((k : Int) + 1) = ((k + 1 : Nat) : Int) := by rw [IntWalk.i64_in _ (by omega)]; omega
      have hw2 : IntKind.i64.wrap (((k0 + k : Nat) : Int) + 1) = ((k0 + (k + 1) : Nat) : Int) := by rw [IntWalk.i64_in _ (by omega)]; omega
      have HLEN := Lib.hid hlen
      obtain ⟨z, hz⟩ : ∃ z, z = k0 + k := ⟨_, rfl⟩
      have HZ := Lib.hid hz
      rw [← hz] at hw2 ⊢
      have hzl : z ≤ 1000000000000 := by omega
      obtain ⟨z2, hz2⟩ : ∃ z2 : Nat, z2 = k0 + (k + 1) := ⟨_, rfl⟩
      have HZ2 := Lib.hid hz2
      rw [← hz2] at hw2
      have hi0 : (0 : Int) ≤ (k : Int) := by omega
      have hi1 : (k : Int) < (n : Int) := by omega
      clear hown hlen hke hz hz2 hk
      go_wp2_with fail
      refine markText_any z _ hzl _ ?_
      intro w1 hb1
      have HB1 := Lib.hid hb1
      have hown1 := HOWN.out.later elemT hb1 (Nat.le_refl _)
      obtain ⟨g, cap', u, hv, hob, hg, hc, hf, hset⟩ := hown1.setT k HLEN.out
      have hs := hset (mkT z)
      rw [HZ.out, marks_set (show k < L.length by rw [← HN.out]; exact HKL.out)] at hs
      rw [← HZ.out] at hs
      have HS := Lib.hid hs
      have HOB := Lib.hid hob
      have hv' : some (⟨g, 0, none⟩ : Addr) = ao := by
        have := HV0.out
        rw [hv] at this
        simp only [Value.slice.injEq] at this
        exact this.1
      subst hv'
      clear hb1 hown1 hset hs hob hv
      dsimp only
      go_wp2
      go_roundw
      case rel =>
        refine ⟨k + 1, by first | rfl | go_num, by rw [← HZ2.out], HKL.out, HS.out, HBUT.out.trans ((ButO.of HB1.out).trans ?_)⟩
        rw [HOB.out]; exact ButO.set _ _ _
      case measure => simp [intOf]; have := HKL.out; omega

set_option maxRecDepth 100000 in
set_option maxHeartbeats 1000000 in
theorem held_any (v : Value) (k0 n : Nat) (w : World) (h : TxL w v (marks k0 n)) (hn : n ≤ 1000000000) (hk : k0 ≤ 1000000000) (R : Ending → World → Prop)
    (hR : ∀ w', Below w.heap.size w w' → R (.returned (.int .i64 ((k0 + n : Nat) : Int))) w') :
    Calls Tryz.prog 52 #[v, .int .i64 (k0 : Int)] w R := by
  have HR := Lib.hid hR; clear hR
  obtain ⟨ao, n', cap, rfl, hnl, hc, hh⟩ := h.open
  rw [marks_len] at hnl
  subst hnl
  have HH := Lib.hid hh
  clear h hh hc
  go_enter Tryz.func52, Tryz.ntmps52
  go_wp2
  go_loopw [1, 5] (fun kv iv wr => ∃ k, iv = .int .i64 ((k : Nat) : Int) ∧ kv = .int .i64 ((k0 + k : Nat) : Int) ∧ k ≤ n' ∧ Below w.heap.size w wr) (fun _ iv _ => n' - (intOf iv).toNat)
  case atStart => exact ⟨0, rfl, rfl, Nat.zero_le _, Below.refl _ _⟩
  case round =>
    obtain ⟨k, rfl, rfl, hkn, hbel⟩ := hrel
    have HB := Lib.hid hbel
    by_cases hke : k = n'
    · subst hke
      have HF := Lib.hid (HR.out wr HB.out)
      have hk0 : ¬ ((k : Int) < (k : Int)) := by omega
      clear hbel
      go_wp2
      first | go_ret | skip
      exact HF.out
    · have hkl : k < n' := by omega
      have HKL := Lib.hid hkl
      obtain ⟨b, off, rfl, hb, hcell⟩ := TxL.at HH.out k _ (marks_at hkl)
      rw [← hbel.cell (p := ⟨b, off + k, none⟩) hb] at hcell
      have hw1 : IntKind.i64.wrap ((k : Int) + 1) = ((k + 1 : Nat) : Int) := by rw [IntWalk.i64_in _ (by omega)]; omega
      have hw2 : IntKind.i64.wrap (((k0 + k : Nat) : Int) + 1) = ((k0 + (k + 1) : Nat) : Int) := by rw [IntWalk.i64_in _ (by omega)]; omega
      obtain ⟨z, hz⟩ : ∃ z, z = k0 + k := ⟨_, rfl⟩
      rw [← hz] at hw2 hcell ⊢
      have hzl : z ≤ 1000000000000 := by omega
      obtain ⟨z2, hz2⟩ : ∃ z2 : Nat, z2 = k0 + (k + 1) := ⟨_, rfl⟩
      have HZ2 := Lib.hid hz2
      rw [← hz2] at hw2
      obtain ⟨s, hs⟩ : ∃ s, s = mkT z := ⟨_, rfl⟩
      have HS := Lib.hid hs
      rw [← hs] at hcell
      have hss : (s.toList == s.toList) = true := by simp
      have hss2 : (s.toList != s.toList) = false := by simp
      have hi0 : (0 : Int) ≤ (k : Int) := by omega
      have hi1 : (k : Int) < (n' : Int) := by omega
      have hbl : b < wr.heap.size := Nat.lt_of_lt_of_le hb hbel.size
      have HSOF : Hid (∀ w', Below wr.heap.size wr w' → (Below wr.heap.size wr w' ∧ w'.cell? ⟨b, off + k, none⟩ = some (.string s))) :=
        Lib.hid fun w' hb' => ⟨hb', by rw [hb'.cell (p := ⟨b, off + k, none⟩) hbl]; exact hcell⟩
      clear hke hz hz2 hk hs hbel hkl
      go_wp2_with fail
      go_region_law (first
        | ((try go_simp); go_at_call 100; refine markText_any z _ hzl _ ?_; rw [← HS.out]; intro w1 hb1; have HB1 : Hid (Below wr.heap.size wr w1) := Lib.hid (below_unD hb1); have hc1 := (HSOF.out w1 HB1.out).2; clear hb1; dsimp only))
      all_goals
        go_wp2
        go_roundw
        case rel => exact ⟨k + 1, by first | rfl | go_num, by rw [← HZ2.out], HKL.out, HB.out.trans (HB1.out.mono HB.out.size)⟩
        case measure => simp [intOf]; have := HKL.out; omega

theorem OwE.tx {e : TypeId} {w : World} {B : Nat} {v : Value} {L : List ByteArray} (h : OwE 1 ET e w B v L) : TxL w v L := h.sl
theorem OwE.mono {α : Type} {sz : Nat} {E : World → List Value → α → Prop} {e : TypeId} {w : World} {B B' : Nat} {v : Value} {xs : List α} (h : OwE sz E e w B v xs) (hB : B' ≤ B) : OwE sz E e w B' v xs := by
  rcases h with h | ⟨g, cap, cur, h1, h2, h3⟩
  · exact .inl h
  · exact .inr ⟨g, cap, cur, h1, Nat.le_trans hB h2, h3⟩
theorem OwE.own_lt {α : Type} {sz : Nat} {E : World → List Value → α → Prop} {e : TypeId} {w : World} {B : Nat} {v : Value} {xs : List α} (h : OwE sz E e w B v xs) : ∀ g, v.ownBlock = some g → g < w.heap.size := by
  rcases h with ⟨rfl, _⟩ | ⟨g', cap, cur, rfl, _, h3, _⟩
  · intro g hg; cases hg
  · intro g hg
    obtain rfl : g' = g := by simpa [Value.ownBlock] using hg
    exact lt_of_block h3
end Go.Proofs.YtdkjcdfkoahfkaaGreatDoor

namespace Go.Proofs.YtdkjcdfkoahfkaaGreatDoor
open Go Go.RowKit

theorem piece_end (l : List UInt8) (f : Nat) (h : (44 : UInt8) ∉ (l.drop f).take (l.length - f)) : pieces (l.drop f) = [l.drop f] := by
  refine pieces_none _ ?_
  rwa [List.take_of_length_le (by rw [List.length_drop]; exact Nat.le_refl _)] at h
theorem piece_cut (l : List UInt8) (f i : Nat) (hfi : f ≤ i) (hi : i < l.length) (h : (44 : UInt8) ∉ (l.drop f).take (i - f)) (he : l[i] = 44) : pieces (l.drop f) = (l.drop f).take (i - f) :: pieces (l.drop (i + 1)) := by
  have e : l.drop f = (l.drop f).take (i - f) ++ 44 :: l.drop (i + 1) := by
    have h1 : (l.drop f).drop (i - f) = l.drop i := by rw [List.drop_drop]; congr 1; omega
    rw [← he, ← List.drop_eq_getElem_cons hi, ← h1, List.take_append_drop]
  conv => lhs; rw [e]
  rw [pieces_cut _ _ h]
theorem piece_no (l : List UInt8) (f i : Nat) (hfi : f ≤ i) (hi : i < l.length) (h : (44 : UInt8) ∉ (l.drop f).take (i - f)) (he : l[i] ≠ 44) : (44 : UInt8) ∉ (l.drop f).take (i + 1 - f) := by
  have e : i + 1 - f = (i - f) + 1 := by omega
  rw [e, List.take_add_one, List.getElem?_drop]
  have e2 : f + (i - f) = i := by omega
  rw [e2, List.getElem?_eq_getElem hi]
  intro hm
  rcases List.mem_append.1 hm with hm | hm
  · exact h hm
  · simp at hm; exact he hm.symm

theorem zeroS_ints : ∀ u ∈ (Value.string .empty).cells.toList, notInt u = true := by
  intro u hu; simp [Value.cells] at hu; subst hu; rfl

def SplitRel (s : ByteArray) (w : World) (iv fv v : Value) (wr : World) : Prop :=
  ∃ (i f : Nat) (xs : List ByteArray), iv = .int .i64 (i : Int) ∧ fv = .int .i64 (f : Int) ∧ f ≤ i ∧ i ≤ s.size + 1 ∧ xs.length ≤ i ∧
    ((i ≤ s.size ∧ f ≤ s.size ∧ (44 : UInt8) ∉ (s.data.toList.drop f).take (i - f) ∧ xs ++ (pieces (s.data.toList.drop f)).map (fun l => (⟨l.toArray⟩ : ByteArray)) = (pieces s.data.toList).map (fun l => ⟨l.toArray⟩)) ∨
      (i = s.size + 1 ∧ xs = (pieces s.data.toList).map (fun l => ⟨l.toArray⟩))) ∧
    OwE 1 ET 9 wr w.heap.size v xs ∧ Below w.heap.size w wr

end Go.Proofs.YtdkjcdfkoahfkaaGreatDoor

namespace Go.Proofs.YtdkjcdfkoahfkaaGreatDoor
open Go Go.RowKit

theorem readL_true {s : ByteArray} (h : numsB (splitB s) = true) : readL s = splitB s := by unfold readL; rw [if_pos h]
theorem readL_false {s : ByteArray} (h : numsB (splitB s) = false) : readL s = [] := by unfold readL; rw [if_neg (by rw [h]; decide)]

set_option maxRecDepth 100000 in
set_option maxHeartbeats 1000000 in
theorem isListB_any (v : Value) (L : List ByteArray) (w : World) (h : TxL w v L) (hs : ∀ s ∈ L, s.size ≤ 1048576) (R : Ending → World → Prop)
    (hR : ∀ w', Below w.heap.size w w' → R (.returned (.bool (decide (L.length ≤ 60) && L.all isNum))) w') :
    Calls Tryz.prog 160 #[v] w R := by
  by_cases h60 : L.length ≤ 60
  · exact isList_any v L w h (by omega) hs R hR
  · have HR := Lib.hid hR; clear hR
    obtain ⟨ao, n, cap, rfl, hnl, hc, hh⟩ := h.open
    rw [decide_eq_false h60, Bool.false_and] at HR
    have e1 : ¬ ((n : Int) ≤ 60) := by omega
    clear h60 hnl hh h hs hc
    go_enter Tryz.func160, Tryz.ntmps160
    go_wp2
    first | go_ret | skip
    exact HR.out _ (Below.refl _ _)

end Go.Proofs.YtdkjcdfkoahfkaaGreatDoor

namespace Go.Proofs.YtdkjcdfkoahfkaaGreatDoor
open Go Go.RowKit

/-- the library's number that strings.Cut looks at is one -/
def HasMax (w : World) : Prop := ∃ m, w.cell? ⟨6, 0, none⟩ = some (.int .i64 m)
theorem HasMax.later {w w' : World} {B : Nat} (h : HasMax w) (hb : Below B w w') (hB : w.heap.size ≤ B) : HasMax w' := by
  obtain ⟨m, hm⟩ := h
  exact ⟨m, by rw [hb.cell (p := ⟨6, 0, none⟩) (Nat.lt_of_lt_of_le (lt_of_cell hm) hB)]; exact hm⟩

theorem below_dn (w : World) (n : Nat) : Below w.heap.size w (w.drewN n) := ⟨rfl, rfl, rfl, Nat.le_refl _, fun _ _ => rfl⟩

/-- what comes behind the first piece -/
def more (m : Bool) (r : ByteArray) : List ByteArray := if m then (pieces r.data.toList).map (fun l => ⟨l.toArray⟩) else []

theorem cutc_any (s : ByteArray) (w : World) (hM : HasMax w) (hs : s.size ≤ 1048576) (R : Ending → World → Prop)
    (hR : ∀ a b m w', (pieces s.data.toList).map (fun l => (⟨l.toArray⟩ : ByteArray)) = a :: more m b → a.size ≤ s.size → b.size ≤ s.size → (m = true → b.size < s.size) → Below w.heap.size w w' → R (.returned (.tuple #[.string a, .string b, .bool m])) w') :
    Calls Tryz.prog 86 #[.string s, .string { data := #[44] }] w R := by
  obtain ⟨m, hm⟩ := hM
  refine (Tryz.strings_Cut s { data := #[44] } m w (by omega) hm).mono ?_
  rintro e w' ⟨rfl, n, rfl⟩
  have hb : Below w.heap.size w (w.drewN n) := below_dn w n
  have hsz : ∀ l : List UInt8, (⟨l.toArray⟩ : ByteArray).size = l.length := fun l => by simp [ByteArray.size]
  have hls := size_list s
  rcases cut_comma s.data.toList with ⟨h1, h2⟩ | ⟨a, b, h1, h2, h3⟩
  · have e2 : Lib.cut s.data.toList (⟨#[44]⟩ : ByteArray).data.toList = (s.data.toList, [], false) := h2
    rw [e2]
    exact hR _ _ false _ (by rw [pieces_none _ h1]; rfl) (by rw [hsz]; omega) (by rw [hsz]; simp) (fun h => by cases h) hb
  · have e2 : Lib.cut s.data.toList (⟨#[44]⟩ : ByteArray).data.toList = (a, b, true) := h3
    rw [e2]
    have hl : s.data.toList.length = a.length + (b.length + 1) := by rw [h1]; simp
    exact hR ⟨a.toArray⟩ ⟨b.toArray⟩ true _ (by rw [h1, pieces_cut _ _ h2]; simp [more]) (by rw [hsz]; omega) (by rw [hsz]; omega) (fun _ => by rw [hsz]; omega) hb

theorem clone_any (s : ByteArray) (w : World) (hs : s.size ≤ 1048576) (R : Ending → World → Prop)
    (hR : ∀ w', Below w.heap.size w w' → R (.returned (.string s)) w') :
    Calls Tryz.prog 87 #[.string s] w R := by
  have HR := Lib.hid hR; clear hR
  go_enter Tryz.func87, Tryz.ntmps87
  go_wp2_with fail
  refine (Tryz.stringslite_Clone s _ (by omega)).mono ?_
  rintro e w1 ⟨rfl, hb⟩
  have HB := Lib.hid hb
  clear hb
  dsimp only
  go_wp2
  first | go_ret | skip
  exact HR.out _ HB.out

def readMeas (rv mv : Value) : Nat := match mv, rv with | .bool true, .string r => r.size + 1 | _, _ => 0

def ReadRel (s : ByteArray) (w : World) (rv v mv : Value) (wr : World) : Prop :=
  ∃ (r : ByteArray) (xs : List ByteArray) (m : Bool), rv = .string r ∧ mv = .bool m ∧ r.size ≤ s.size ∧ xs.length ≤ 60 ∧ xs.all isNum = true ∧ xs ++ more m r = splitB s ∧
    OwE 1 ET 9 wr w.heap.size v xs ∧ Below w.heap.size w wr

theorem numsB_long {s : ByteArray} {xs zs : List ByteArray} {a : ByteArray} (h : xs ++ a :: zs = splitB s) (hx : xs.length = 60) : numsB (splitB s) = false := by
  unfold numsB
  rw [← h, decide_eq_false (by simp; omega)]; rfl
theorem numsB_not {s : ByteArray} {xs zs : List ByteArray} {a : ByteArray} (h : xs ++ a :: zs = splitB s) (ha : isNum a = false) : numsB (splitB s) = false := by
  unfold numsB
  rw [← h]
  simp [ha]
theorem numsB_all {s : ByteArray} {xs : List ByteArray} (h : xs = splitB s) (h1 : xs.length ≤ 60) (h2 : xs.all isNum = true) : numsB (splitB s) = true := by
  unfold numsB
  rw [← h, decide_eq_true h1, h2]; rfl

set_option maxRecDepth 100000 in
set_option maxHeartbeats 2000000 in
theorem impl_readNumbers (s : ByteArray) (w : World) (hE : Env w) (hM : HasMax w) (hs : s.size ≤ 1048576) (R : Ending → World → Prop)
    (hR : ∀ v w', OwE 1 ET 9 w' w.heap.size v (readL s) → Below w.heap.size w w' → R (.returned (.tuple #[v, .bool (numsB (splitB s))])) w') :
    Calls Tryz.prog 29 #[.string s] w R := by
  have HR := Lib.hid hR; clear hR
  have HE := Lib.hid hE
  have HM := Lib.hid hM
  have HS := Lib.hid hs
  clear hE hM hs
  by_cases hno : s.data.toList = [110, 111, 110, 101]
  · have hsp : splitB s = [] := by unfold splitB; rw [if_pos hno]
    have hrd : readL s = [] := by unfold readL; rw [hsp]; split <;> rfl
    have hnb : numsB (splitB s) = true := by rw [hsp]; unfold numsB; simp
    rw [hrd, hnb] at HR
    have hse : s = ⟨#[110, 111, 110, 101]⟩ := by
      apply ByteArray.ext; apply Array.toList_inj.1; exact hno
    subst hse
    have HF := Lib.hid (HR.out (.slice (some ⟨w.heap.size, 0, none⟩) 0 0) (w.alloc (.cells #[] 9)) (OwE.lit _ _ _ (Nat.le_refl _)) ((Below.refl _ _).alloc (Nat.le_refl _) _))
    clear hno hsp hrd hnb
    go_enter Tryz.func29, Tryz.ntmps29
    go_wp2
    first | go_ret | skip
    exact HF.out
  · have hsp : splitB s = (pieces s.data.toList).map fun l => ⟨l.toArray⟩ := by unfold splitB; rw [if_neg hno]
    have cEq : (s.toList == [110, 111, 110, 101]) = false := by rw [beq_eq_false_iff_ne, Lib.toList_data]; exact hno
    have HSP := Lib.hid hsp
    clear hsp hno
    go_enter Tryz.func29, Tryz.ntmps29
    go_wp2
    go_loopw [0, 4, 5, 6] (fun rv v mv _ wr => ReadRel s w rv v mv wr) (fun rv _ mv _ _ => readMeas rv mv)
    case atStart =>
      exact ⟨s, [], true, rfl, rfl, Nat.le_refl _, by simp, rfl, by rw [HSP.out]; rfl, OwE.lit _ _ _ (Nat.le_refl _), (Below.refl _ _).alloc (Nat.le_refl _) _⟩
    case round =>
      obtain ⟨r, xs, m, rfl, rfl, hrs, hx60, hxn, hsp, hown, hbel⟩ := hrel
      have HOWN := Lib.hid hown
      have HB := Lib.hid hbel
      have HX := Lib.hid (And.intro hx60 hxn)
      have HP := Lib.hid hsp
      obtain ⟨a3, n3, c3, rfl, hn3⟩ := hown.shape
      have HN3 := Lib.hid hn3
      clear hown hbel hn3 hx60 hxn hsp
      cases m
      · have hfin : xs = splitB s := by have := HP.out; simpa [more] using this
        have hnb := numsB_all hfin HX.out.1 HX.out.2
        rw [hnb] at HR
        have HF := Lib.hid (HR.out _ _ (by rw [readL_true hnb, ← hfin]; exact HOWN.out) HB.out)
        clear hfin hnb HP
        go_wp2
        first | go_ret | skip
        exact HF.out
      · have HRS := Lib.hid hrs
        clear hrs
        go_wp2_with fail
        refine cutc_any r _ (HM.out.later HB.out (Nat.le_refl _)) (by have := HRS.out; have := HS.out; omega) _ ?_
        intro it r2 m2 w1 hpc hit hr2 hm2 hb1
        have HP1 : Hid (xs ++ it :: more m2 r2 = splitB s) := Lib.hid (by rw [← hpc]; exact HP.out)
        have HB1 := Lib.hid (HB.out.trans (hb1.mono HB.out.size))
        have HOW1 := Lib.hid (HOWN.out.later elemT hb1 (Nat.le_refl _))
        have HZ := Lib.hid (And.intro hit (And.intro hr2 hm2))
        clear hpc hit hr2 hm2 hb1 HP HOWN HB
        dsimp only
        by_cases h60 : n3 = 60
        · have hnb := numsB_long HP1.out (by rw [← HN3.out]; exact h60)
          rw [hnb] at HR
          have HF := Lib.hid (HR.out (.slice none 0 0) w1 (by rw [readL_false hnb]; exact OwE.nil _ _ _) HB1.out)
          have c60 : ((n3 : Int) == 60) = true := by rw [h60]; rfl
          clear h60 hnb
          go_wp2
          first | go_ret | skip
          exact HF.out
        · have c60 : ((n3 : Int) == 60) = false := by rw [beq_eq_false_iff_ne]; omega
          have H60 := Lib.hid h60
          clear h60
          go_wp2_with fail
          refine isnumber_any it _ (HE.out.later HB1.out (Nat.le_refl _)) _ ?_
          intro w2 hb2
          have HB2 := Lib.hid (HB1.out.trans (hb2.mono HB1.out.size))
          have HOW2 := Lib.hid (HOW1.out.later elemT hb2 (Nat.le_refl _))
          obtain ⟨x, hx⟩ : ∃ x, x = isNum it := ⟨_, rfl⟩
          have hx2 : numB it.data.toList = x := by rw [hx, numB_numO]; rfl
          rw [hx2]
          have HXX := Lib.hid hx
          clear hb2 hx hx2 HB1 HOW1
          cases x
          · have hnb := numsB_not HP1.out HXX.out.symm
            rw [hnb] at HR
            have HF := Lib.hid (HR.out (.slice none 0 0) w2 (by rw [readL_false hnb]; exact OwE.nil _ _ _) HB2.out)
            clear hnb
            dsimp only
            go_wp2
            first | go_ret | skip
            exact HF.out
          · dsimp only
            go_wp2_with fail
            refine clone_any it _ (by have := HZ.out.1; have := HRS.out; have := HS.out; omega) _ ?_
            intro w3 hb3
            have HB3 := Lib.hid (HB2.out.trans (hb3.mono HB2.out.size))
            have HOW3 := Lib.hid (HOW2.out.later elemT hb3 (Nat.le_refl _))
            clear hb3 HB2 HOW2
            dsimp only
            go_wp2_with (at_builtin; go_must (refine wpList_pushE elemT (by omega) rfl (.tmp 26) (.tmp 29) 38 rfl 9 16 (.string .empty) Tryz.underlying38 info_str rfl zeroS_ints (by omega) w.heap.size _ (HOW3.out.alloc elemT _) (by have := HX.out.1; omega) (by have := HB3.out.size; simp; omega) w3.heap.size [.string it] it rfl rfl (cells_alloc _ #[.string it] _ _ rfl) ?_))
            intro ao n4 c4 w4 hown4 hn4 hgr hb4
            have HOW4 := Lib.hid hown4
            have HB4 : Hid (Below w.heap.size w w4) := Lib.hid ((HB3.out.alloc HB3.out.size _).trans hb4)
            clear hown4 hn4 hgr hb4
            go_wp2
            go_roundw
            case rel => exact ⟨r2, xs ++ [it], m2, rfl, rfl, by have := HZ.out.2.1; have := HRS.out; omega, by rw [List.length_append]; have := HX.out.1; have := H60.out; have := HN3.out; simp; omega, by rw [List.all_append, HX.out.2]; simp; exact HXX.out.symm, by rw [List.append_assoc]; exact HP1.out, HOW4.out, HB4.out⟩
            case measure =>
              have h9 := HZ.out.2.2
              cases m2
              · simp [readMeas]
              · have := h9 rfl
                simp [readMeas]; omega
end Go.Proofs.YtdkjcdfkoahfkaaGreatDoor

namespace Go.Proofs.YtdkjcdfkoahfkaaGreatDoor.EnvLaid
open Go Go.ChangeShapes Go.WideShapes Go.ChangeAt Go.RowKit

theorem hasMax_of {W : World} (h : W.ShapedOpen Tryz.prog) : HasMax W := Tryz.laysM145.s1_3 W h

theorem handed_shaped {H : Type} {enc : TypeId × Value → H} {a : Assume} {C : Checked} {os : Os} {f : FuncId} {fn : Func} {s : ChangeSpec} {conds : List PathCond} {apart fresh handsOn again : Bool} {X : World → Array Value → Prop}
    (hX : ∀ (w w' : World) (args : Array Value), w.heap = w'.heap → X w args → X w' args)
    (own : ownKnob C.prog.godebug = none) (started : os.Started) (noInit : C.prog.inits.idxOf? f = none) (hfn : C.prog.funcs[f]? = some fn)
    (witness : ∃ (w : World) (tape : Tape) (i : Input), w.os = os ∧ (w.forCall tape i).Shaped C.prog ∧ i.vars = [] ∧ Input.okWide C.prog (w.forCall tape i) .any w.heap.size f i ∧
      ((s.pre enc C.prog fn conds apart (w.forCall tape i).memory i.args ∧ X (w.forCall tape i).memory i.args) ∧ sizedMet enc C.prog fn (OpenSpec.ofChange s) apart (w.forCall tape i).memory i.args) ∧ a.holds C.prog (lone (Frame.enter C.prog f i.args .normal) [] (w.forCall tape i)))
    (contract : ∀ (W : World) (base : Nat) (args : Array Value) (ds gs : List (DataW H)) (before : List MemPlace),
      (∀ (j : Nat) t v, fn.params[j]? = some t → args[j]? = some v → Value.okWide C.prog W .any base t v) →
      DataW.Whole enc C.prog fn.params.toList s.vars apart W args.toList ds gs before → X W args → W.ShapedOpen C.prog →
      Calls C.prog f args W fun e W' => ∃ v, e = .returned v ∧ s.post enc C.prog fn apart fresh handsOn again W args v W') :
    ReturnsInHanded a C os f .any (fun w args => (s.pre enc C.prog fn conds apart w args ∧ X w args) ∧ sizedMet enc C.prog fn (OpenSpec.ofChange s) apart w args) (s.post enc C.prog fn apart fresh handsOn again) := by
  refine returnsInHanded_of_calls own started noInit witness ?_
  intro w tape i _ hsh _ hok hpre _
  obtain ⟨_, _, _, fn', hfn', _, _, _, _, hval⟩ := hok
  obtain rfl : fn' = fn := Option.some.inj (hfn'.symm.trans hfn)
  obtain ⟨⟨⟨ds, gs, before, hw, _⟩, hx⟩, _⟩ := hpre
  refine (contract (w.forCall tape i) w.heap.size i.args ds gs before hval (DataW.Whole.of_heap (w' := w.forCall tape i) (by rfl) hw) (hX _ _ _ (by rfl) hx) hsh).mono fun e W' ⟨v, he, hp⟩ => ?_
  subst he
  exact ChangeSpec.post_blind hp
end Go.Proofs.YtdkjcdfkoahfkaaGreatDoor.EnvLaid

namespace Go.Proofs.YtdkjcdfkoahfkaaGreatDoor
open Go Go.RowKit

/-- a list of texts with commas between -/
def textL (L : List ByteArray) : ByteArray := if L = [] then ⟨#[110, 111, 110, 101]⟩ else ⟨(Lib.join (L.map (·.data.toList)) [44]).toArray⟩
/-- what is returned -/
noncomputable def ntS (L : List ByteArray) : ByteArray := if numsB L = true then textL L else ⟨#[]⟩

theorem take_one {L : List ByteArray} {x : ByteArray} (h : L[0]? = some x) : L.take 1 = [x] := by
  cases L with
  | nil => cases h
  | cons y l => simp at h; subst h; rfl

theorem join_snoc (X : List (List UInt8)) (y sep : List UInt8) (h : X ≠ []) : Lib.join (X ++ [y]) sep = Lib.join X sep ++ (sep ++ y) := by
  cases X with
  | nil => exact absurd rfl h
  | cons x r => rw [List.cons_append, Lib.join_cons, Lib.join_cons]; simp [Lib.joinTail]

theorem lens_le (L : List ByteArray) (h : ∀ s ∈ L, s.size ≤ 122) : Lib.lens (L.map (·.data.toList)) ≤ 122 * L.length := by
  induction L with
  | nil => simp [Lib.lens]
  | cons x l ih =>
    have h1 := ih (fun s hs => h s (by simp [hs]))
    have h2 : x.size ≤ 122 := h x (by simp)
    have e : x.data.toList.length = x.size := size_list x
    simp only [Lib.lens, List.map_cons, List.sum_cons, List.length_cons] at *
    omega

theorem join_len (L : List ByteArray) (h : ∀ s ∈ L, s.size ≤ 122) : (Lib.join (L.map (·.data.toList)) [44]).length ≤ 123 * L.length := by
  have h1 := lens_le L h
  cases L with
  | nil => simp [Lib.join_nil]
  | cons x l =>
    rw [List.map_cons, Lib.join_length]
    rw [List.map_cons] at h1
    simp only [List.length_cons, List.length_nil, List.length_map] at *
    omega

theorem nums_size {L : List ByteArray} (h : numsB L = true) : L.length ≤ 60 ∧ ∀ s ∈ L, s.size ≤ 122 := by
  unfold numsB at h
  rw [Bool.and_eq_true, decide_eq_true_iff, List.all_eq_true] at h
  exact ⟨h.1, fun s hs => numO_size (isNum_some (h.2 s hs))⟩

set_option maxRecDepth 100000 in
theorem joinI_any (b off n cap : Nat) (L : List ByteArray) (w : World) (h : TxL w (.slice (some ⟨b, off, none⟩) n cap) L) (hnl : n = L.length) (h0 : 0 < n) (hc : n ≤ cap) (hn : L.length ≤ 60) (hs : ∀ s ∈ L, s.size ≤ 122) (R : Ending → World → Prop)
    (hR : ∀ w', Below w.heap.size w w' → R (.returned (.string (textL L))) w') :
    Calls Tryz.prog 85 #[.slice (some ⟨b, off, none⟩) n cap, .string ⟨#[44]⟩] w R := by
  subst hnl
  have hat : ∀ j x, L[j]? = some x → b < w.heap.size ∧ w.cell? ⟨b, off + j, none⟩ = some (.string x) := by
    intro j x hj
    obtain ⟨b', off', e', h2, hck⟩ := h.at j x hj
    simp only [Option.some.injEq, Addr.mk.injEq, and_true] at e'
    obtain ⟨rfl, rfl⟩ := e'
    exact ⟨h2, hck⟩
  have hb : b < w.heap.size := (hat 0 (L[0]'h0) (by simp)).1
  refine (Tryz.strings_Join b off cap L ⟨#[44]⟩ w (fun j x hj => (hat j x hj).2) hb (by omega) hc (by have := join_len L hs; rw [show (⟨#[44]⟩ : ByteArray).data.toList = [44] from rfl]; omega)).mono ?_
  rintro e w' ⟨rfl, hbl⟩
  have := hR w' hbl
  unfold textL at this
  rw [if_neg (by intro e; rw [e] at h0; simp at h0)] at this
  exact this

set_option maxRecDepth 100000 in
set_option maxHeartbeats 1000000 in
theorem impl_numbersText (v : Value) (L : List ByteArray) (w : World) (hE : Env w) (h : TxL w v L) (hn : L.length ≤ 1048576) (R : Ending → World → Prop)
    (hR : ∀ w', Below w.heap.size w w' → R (.returned (.tuple #[.string (ntS L), .bool (numsB L)])) w') :
    Calls Tryz.prog 28 #[v] w R := by
  have HR := Lib.hid hR; clear hR
  have HE := Lib.hid hE; clear hE
  obtain ⟨ao, n, cap, rfl, hnl, hcc, hh⟩ := h.open
  have HH := Lib.hid hh
  have HN := Lib.hid hn
  have HNL := Lib.hid hnl
  have HCC := Lib.hid hcc
  clear h hh hn hnl hcc
  go_enter Tryz.func28, Tryz.ntmps28
  go_wp2_with fail
  refine impl_isNumbers _ L _ HE.out HH.out HN.out _ ?_
  intro w1 hb1
  have HB := Lib.hid hb1
  clear hb1
  cases hx : numsB L with
  | true =>
    have HX := Lib.hid (nums_size hx)
    rw [hx, show ntS L = textL L by unfold ntS; rw [if_pos hx]] at HR
    clear hx
    by_cases h0 : n = 0
    · have e0 : ((n : Int) == 0) = true := by simp [h0]
      have hL : textL L = ⟨#[110, 111, 110, 101]⟩ := by
        have : L = [] := List.eq_nil_of_length_eq_zero (by rw [← HNL.out]; exact h0)
        unfold textL; rw [if_pos this]
      rw [hL] at HR
      clear hL h0
      dsimp only
      go_wp2
      first | go_ret | skip
      exact HR.out _ HB.out
    · have e0 : ((n : Int) == 0) = false := by simp; omega
      have HH1 := Lib.hid (HH.out.later HB.out (Nat.le_refl _))
      obtain ⟨b, off, rfl⟩ : ∃ b off, ao = some ⟨b, off, none⟩ := by
        obtain ⟨b, off, e, _, _⟩ := HH1.out.at 0 (L[0]'(by rw [← HNL.out]; omega)) (by simp)
        exact ⟨b, off, e⟩
      have H0 : Hid (0 < n) := Lib.hid (by omega)
      clear h0
      dsimp only
      go_wp2_with fail
      refine joinI_any b off n cap L _ HH1.out HNL.out H0.out HCC.out HX.out.1 HX.out.2 _ ?_
      intro w2 hb2
      have HB2 := Lib.hid (HB.out.trans (hb2.mono HB.out.size))
      obtain ⟨T, hT⟩ : ∃ T, T = textL L := ⟨_, rfl⟩
      rw [← hT] at HR ⊢
      clear hT hb2
      dsimp only
      go_wp2
      first | go_ret | skip
      exact HR.out _ HB2.out
  | false =>
    rw [hx, show ntS L = ⟨#[]⟩ by unfold ntS; rw [hx]; rfl] at HR
    clear hx
    dsimp only
    go_wp2
    first | go_ret | skip
    exact HR.out _ HB.out

end Go.Proofs.YtdkjcdfkoahfkaaGreatDoor

namespace Go.Proofs.YtdkjcdfkoahfkaaGreatDoor
open Go Go.RowKit

theorem Box3.set012 {w : World} {b : Nat} {x0 x1 x2 : Value} {t : TypeId} (h : Box3 w b x0 x1 x2 t) (y0 y1 y2 : Value) : Box3 (((w.setCell ⟨b, 0, none⟩ y0).setCell ⟨b, 1, none⟩ y1).setCell ⟨b, 2, none⟩ y2) b y0 y1 y2 t := by
  unfold Box3 at *
  simp [World.setCell, Array.getElem?_modify, h]

/-- the sum of a list of fractions -/
def sumQ (l : List Rat) : Rat := l.foldl (· + ·) 0
theorem sumQ_nil : sumQ [] = 0 := rfl
theorem sumQ_take {l : List Rat} {k : Nat} {q : Rat} (h : l[k]? = some q) : sumQ (l.take (k + 1)) = sumQ (l.take k) + q := by
  rw [List.take_add_one, h]
  unfold sumQ
  rw [List.foldl_append]; rfl

theorem IsI.nil (w : World) : IsI w (.agg #[.bool false, .slice none 0 0]) 0 := ⟨_, rfl, by
  show Sl .u64 w _ (dig W64 0)
  have : dig W64 0 = [] := by simp [dig]
  rw [this]; exact Sl.nil _ _ _ _⟩

/-- what all numbers of a list keep to -/
def AllBd (N : Nat) (l : List Rat) : Prop := ∀ (k : Nat) (q : Rat), l[k]? = some q → Bd N q
theorem allBd_of {L : List ByteArray} (h : L.all isNum = true) : AllBd 60 (L.map qOf) := by
  intro k q hq
  rw [List.getElem?_map] at hq
  cases hs : L[k]? with
  | none => rw [hs] at hq; cases hq
  | some s =>
    rw [hs] at hq
    simp only [Option.map_some, Option.some.injEq] at hq
    subst hq
    exact Bd.of (numO_few (isNum_some (List.all_eq_true.1 h s (List.mem_of_getElem? hs))))

/-- what is told of a list -/
noncomputable def sumO (L : List ByteArray) : Option Rat := if (decide (L.length ≤ 60) && L.all isNum) = true then some (sumQ (L.map qOf)) else none

/-- the loop of the program's sum -/
def SumRel (w1 : World) (n : Nat) (qs : List Rat) (i : Value) (wr : World) : Prop :=
  ∃ k m a5 n5 c5 a6 n6 c6, i = .int .i64 ((k : Nat) : Int) ∧ k ≤ n ∧ Box3 wr w1.heap.size (.bool m) (.slice a5 n5 c5) (.slice a6 n6 c6) 85 ∧ IsR wr (.agg #[.bool m, .slice a5 n5 c5, .slice a6 n6 c6]) (sumQ (qs.take k)) ∧
    Bd (61 * k + 1) (sumQ (qs.take k)) ∧ Below w1.heap.size w1 wr

set_option maxRecDepth 100000 in
set_option maxHeartbeats 4000000 in
theorem impl_sum (v : Value) (L : List ByteArray) (w : World) (hE : Env w) (htab : Lib.TabIs Tryz.prog w "internal/strconv.uint64pow10" .u64 Lib.pow10Tab) (h : TxL w v L) (hn : L.length ≤ 1048576) (R : Ending → World → Prop)
    (hR : ∀ w', Below w.heap.size w w' → R (.returned (.tuple #[.string (outS (sumO L)), .bool (outB (sumO L))])) w') :
    Calls Tryz.prog 31 #[v] w R := by
  have HR := Lib.hid hR; clear hR
  have HE := Lib.hid hE
  have HTAB := Lib.hid htab
  obtain ⟨a0, n0, c0, rfl, h'⟩ := h.op
  have HH := Lib.hid h'
  have HN := Lib.hid hn
  clear hE htab h h' hn
  go_enter Tryz.func31, Tryz.ntmps31
  go_wp2_with fail
  refine readrs_own _ L _ HE.out HH.out HN.out _ ?_ ?_
  · intro v1 w1 h60 hall hown hb1
    have hO : sumO L = some (sumQ (L.map qOf)) := by unfold sumO; rw [if_pos (by rw [Bool.and_eq_true]; exact ⟨decide_eq_true h60, hall⟩)]
    rw [hO] at HR
    have HBD := Lib.hid (allBd_of hall)
    obtain ⟨qs, hqs⟩ : ∃ qs, qs = L.map qOf := ⟨_, rfl⟩
    have hql : qs.length ≤ 60 := by rw [hqs, List.length_map]; exact h60
    rw [← hqs] at hown HBD HR
    have hsl := hown.sl
    obtain ⟨a1, n1, c1, rfl, hn1, hc1, hsl'⟩ := hsl.open
    have HSL := Lib.hid hsl'
    have HN1 := Lib.hid hn1
    have HB1 := Lib.hid hb1
    have hn60 : n1 ≤ 60 := by omega
    clear hqs h60 hall hown hsl hsl' hn1 hb1 hO hql hc1
    dsimp only
    go_wp2_with fail
    refine ratioOf_any _ 0 _ (IsI.nil _) _ ?_
    intro v2 w2 hr2 hb2
    obtain ⟨m0, a5, n5, c5, a6, n6, c6, hm0, rfl, hx1, hx2⟩ := hr2.parts
    obtain ⟨W, hW⟩ : ∃ W, W = w2.alloc (.cells #[.bool m0, .slice a5 n5 c5, .slice a6 n6 c6] 85) := ⟨_, rfl⟩
    have HW := Lib.hid hW
    have hbW : Below w2.heap.size w2 W := by rw [hW]; exact (Below.refl _ _).alloc (Nat.le_refl _) _
    have HSL2 := Lib.hid (HSL.out.later elemR hb2 (Nat.le_refl _))
    have HB2 := Lib.hid (HB1.out.trans (hb2.mono HB1.out.size))
    have HST : Hid (SumRel w2 n1 qs (.int .i64 0) W) := Lib.hid ⟨0, m0, a5, n5, c5, a6, n6, c6, rfl, Nat.zero_le _, by rw [hW]; exact Box3.made _ _ _ _ _, by rw [List.take_zero, sumQ_nil]; exact hr2.later hbW (Nat.le_refl _), by rw [List.take_zero, sumQ_nil]; exact Bd.zero, hbW⟩
    clear hr2 hb2 hm0 hx1 hx2 hW hbW
    dsimp only
    go_wp2_with fail
    rw [← HW.out]
    go_loopw [20] (fun i wr => SumRel w2 n1 qs i wr) (fun i _ => n1 - (intOf i).toNat)
    case atStart => exact HST.out
    case round =>
      clear HST
      obtain ⟨k, m, a7, n7, c7, a8, n8, c8, rfl, hk, hbox, hr, hbd, hbel⟩ := hrel
      have HBOX := Lib.hid hbox
      have HRR := Lib.hid hr
      have HBDK := Lib.hid hbd
      have HB := Lib.hid hbel
      clear hr hbd
      by_cases hkn : k = n1
      · subst hkn
        have he : qs.take k = qs := by rw [HN1.out, List.take_length]
        rw [he] at HRR
        obtain ⟨⟨hP0, hP1, hP2⟩, _, _, _⟩ := HBOX.out.cells
        have HB3 := Lib.hid (HB2.out.trans (hbel.mono HB2.out.size))
        clear he hbox hbel
        go_wp2_with fail
        refine rtext_o _ (sumQ qs) _ HRR.out (tab_later HTAB.out HB3.out (Nat.le_refl _)) _ ?_
        intro w3 hb3
        have HB4 := Lib.hid (HB3.out.trans (hb3.mono HB3.out.size))
        obtain ⟨S, hS⟩ : ∃ S, S = outS (some (sumQ qs)) := ⟨_, rfl⟩
        obtain ⟨B, hB⟩ : ∃ B, B = outB (some (sumQ qs)) := ⟨_, rfl⟩
        rw [← hS, ← hB] at HR ⊢
        clear hS hB hb3
        dsimp only
        go_wp2
        first | go_ret | skip
        exact HR.out _ HB4.out
      · have hkl : k < n1 := by omega
        obtain ⟨q, hq⟩ : ∃ q, qs[k]? = some q := ⟨_, List.getElem?_eq_getElem (by rw [← HN1.out]; exact hkl)⟩
        have HQ := Lib.hid hq
        have HBQ := Lib.hid (HBD.out k q hq)
        obtain ⟨b, off, cs, rfl, hb, hcell, hE⟩ := HSL2.out.at k q hq
        obtain ⟨x1, y1, z1, x2, y2, z2, hcs, hi1, hi2⟩ := hE
        obtain ⟨ng, hng⟩ : ∃ ng, ng = decide (q.num < 0) := ⟨_, rfl⟩
        rw [← hng] at hcs
        have hd0 : wr.cell? ⟨b, off + k * 3, none⟩ = some (.bool ng) := by rw [hbel.cell (p := ⟨b, off + k * 3, none⟩) hb]; exact hcell 0 _ (by rw [hcs]; rfl)
        have hd1 : wr.cell? ⟨b, off + k * 3 + 1, none⟩ = some (.slice x1 y1 z1) := by rw [hbel.cell (p := ⟨b, off + k * 3 + 1, none⟩) hb]; exact hcell 1 _ (by rw [hcs]; rfl)
        have hd2 : wr.cell? ⟨b, off + k * 3 + 2, none⟩ = some (.slice x2 y2 z2) := by rw [hbel.cell (p := ⟨b, off + k * 3 + 2, none⟩) hb]; exact hcell 2 _ (by rw [hcs]; rfl)
        have HX : Hid (IsR w2 (.agg #[.bool ng, .slice x1 y1 z1, .slice x2 y2 z2]) q) := Lib.hid ⟨_, _, by rw [hng], hi1, hi2⟩
        have hw1 : IntKind.i64.wrap ((k : Int) + 1) = ((k + 1 : Nat) : Int) := by rw [IntWalk.i64_in _ (by omega)]; omega
        obtain ⟨V, hV⟩ : ∃ V, V = wr.alloc (.cells #[.bool ng, .slice x1 y1 z1, .slice x2 y2 z2] 85) := ⟨_, rfl⟩
        have hbV : Below wr.heap.size wr V := by rw [hV]; exact (Below.refl _ _).alloc (Nat.le_refl _) _
        have HBV : Hid (Below w2.heap.size w2 V) := Lib.hid (hbel.trans (hbV.mono hbel.size))
        have HKB := Lib.hid (HBOX.out.later hbV (lt_of_block HBOX.out))
        have HXV := Lib.hid (HX.out.later HBV.out (Nat.le_refl _))
        have HRV := Lib.hid (HRR.out.later hbV (Nat.le_refl _))
        have HV := Lib.hid hV
        obtain ⟨⟨hP0, hP1, hP2⟩, _, _, _⟩ := HKB.out.cells
        rw [hV] at hP0 hP1 hP2
        have HL1 := Lib.hid (HBDK.out.len (B := W64) (by rw [W64_eq]; omega))
        have HL2 := Lib.hid (HBQ.out.len (B := W64) (by rw [W64_eq]; omega))
        have hk60 : k < 60 := by omega
        have HKL := Lib.hid hkl
        clear hq hcell hcs hi1 hi2 hng hV hbV hbox hbel hkn
        go_wp2_with fail
        rw [← HV.out]
        refine rplus_any _ _ (sumQ (qs.take k)) q _ HRV.out HXV.out (Nat.le_trans HL1.out.1 (by omega)) (Nat.le_trans HL1.out.2 (by omega)) (Nat.le_trans HL2.out.1 (by omega)) (Nat.le_trans HL2.out.2 (by omega)) _ ?_
        rw [← sumQ_take HQ.out]
        intro v3 w3 hr3 hb3
        obtain ⟨m3, a9, n9, c9, b9, d9, e9, hm3, rfl, _, _⟩ := hr3.parts
        have HR3 := Lib.hid hr3
        have HB3 := Lib.hid (HBV.out.trans (hb3.mono HBV.out.size))
        have HK3 := Lib.hid (HKB.out.later hb3 (lt_of_block HKB.out))
        have HBD3 : Hid (Bd (61 * (k + 1) + 1) (sumQ (qs.take (k + 1)))) := Lib.hid (by
          rw [sumQ_take HQ.out]
          exact (HBDK.out.add HBQ.out).mono (by omega))
        clear hr3 hb3 hm3 hP0 hP1 hP2 hd0 hd1 hd2
        obtain ⟨⟨hP0, hP1, hP2⟩, hF0, hF1, hF2⟩ := HK3.out.cells
        have HNI := Lib.hid (HK3.out.noInt rfl rfl rfl)
        dsimp only
        go_wp2
        go_roundw
        case rel => exact ⟨k + 1, m3, a9, n9, c9, b9, d9, e9, by first | rfl | go_num, HKL.out, HK3.out.set012 _ _ _, HR3.out.set3 HNI.out _ _ _ rfl rfl, HBD3.out, below_set3 HB3.out (Nat.le_refl _) _ _ _⟩
        case measure => simp [intOf]; have := HKL.out; omega
  · intro e w1 hnone he hb1
    obtain ⟨t, p, rfl⟩ := he
    have hO : sumO L = none := by unfold sumO; rw [if_neg (by rw [hnone]; decide)]
    rw [hO] at HR
    have HF := Lib.hid (HR.out w1 hb1)
    clear hb1 hnone hO
    dsimp only
    go_wp2
    first | go_ret | skip
    exact HF.out
end Go.Proofs.YtdkjcdfkoahfkaaGreatDoor

namespace Go.Proofs.YtdkjcdfkoahfkaaGreatDoor
open Go Go.RowKit

/-- the sum of the products of two lists -/
def dotQ (l m : List Rat) : Rat := sumQ (List.zipWith (· * ·) l m)
theorem dotQ_nil : dotQ [] [] = 0 := rfl
theorem dotQ_take {l m : List Rat} {k : Nat} {q r : Rat} (hl : l[k]? = some q) (hm : m[k]? = some r) : dotQ (l.take (k + 1)) (m.take (k + 1)) = dotQ (l.take k) (m.take k) + q * r := by
  unfold dotQ
  rw [List.zipWith_take_both, List.zipWith_take_both]
  refine sumQ_take ?_
  rw [List.getElem?_zipWith, hl, hm]
where
  List.zipWith_take_both : ∀ {l m : List Rat} {k : Nat}, List.zipWith (· * ·) (l.take k) (m.take k) = (List.zipWith (· * ·) l m).take k := by
    intro l m k
    exact List.take_zipWith.symm

/-- what is told of two lists -/
noncomputable def dotO (L M : List ByteArray) : Option Rat := if ((decide (L.length ≤ 60) && L.all isNum) && (decide (M.length ≤ 60) && M.all isNum) && decide (L.length = M.length)) = true then some (dotQ (L.map qOf) (M.map qOf)) else none

/-- the loop of the program's sum -/
def DotRel (w1 : World) (n : Nat) (qs rs : List Rat) (i : Value) (wr : World) : Prop :=
  ∃ k m a5 n5 c5 a6 n6 c6, i = .int .i64 ((k : Nat) : Int) ∧ k ≤ n ∧ Box3 wr w1.heap.size (.bool m) (.slice a5 n5 c5) (.slice a6 n6 c6) 85 ∧ IsR wr (.agg #[.bool m, .slice a5 n5 c5, .slice a6 n6 c6]) (dotQ (qs.take k) (rs.take k)) ∧
    Bd (121 * k + 1) (dotQ (qs.take k) (rs.take k)) ∧ Below w1.heap.size w1 wr

set_option maxRecDepth 100000 in
set_option maxHeartbeats 4000000 in
theorem impl_dot (v v' : Value) (L M : List ByteArray) (w : World) (hE : Env w) (htab : Lib.TabIs Tryz.prog w "internal/strconv.uint64pow10" .u64 Lib.pow10Tab) (h : TxL w v L) (h2 : TxL w v' M) (hn : L.length ≤ 1048576) (hn2 : M.length ≤ 1048576) (R : Ending → World → Prop)
    (hR : ∀ w', Below w.heap.size w w' → R (.returned (.tuple #[.string (outS (dotO L M)), .bool (outB (dotO L M))])) w') :
    Calls Tryz.prog 30 #[v, v'] w R := by
  have HR := Lib.hid hR; clear hR
  have HE := Lib.hid hE
  have HTAB := Lib.hid htab
  obtain ⟨a0, n0, c0, rfl, h'⟩ := h.op
  obtain ⟨a9, n9, c9, rfl, h2'⟩ := h2.op
  have HH := Lib.hid h'
  have HM := Lib.hid h2'
  have HN := Lib.hid (And.intro hn hn2)
  clear hE htab h h' hn h2 h2' hn2
  go_enter Tryz.func30, Tryz.ntmps30
  go_wp2_with fail
  refine readrs_own _ L _ HE.out HH.out HN.out.1 _ ?_ ?_
  · intro v1 w1 h60 hall hown hb1
    have HG1 := Lib.hid (show (decide (L.length ≤ 60) && L.all isNum) = true by rw [Bool.and_eq_true]; exact ⟨decide_eq_true h60, hall⟩)
    have HBD := Lib.hid (allBd_of hall)
    obtain ⟨qs, hqs⟩ : ∃ qs, qs = L.map qOf := ⟨_, rfl⟩
    have HQL := Lib.hid (show qs.length = L.length by rw [hqs, List.length_map])
    have HQS := Lib.hid hqs
    rw [← hqs] at hown HBD
    have hsl := hown.sl
    obtain ⟨a1, n1, c1, rfl, hn1, hc1, hsl'⟩ := hsl.open
    have HSL := Lib.hid hsl'
    have HN1 := Lib.hid hn1
    have HB1 := Lib.hid hb1
    have hn60 : n1 ≤ 60 := by have := HQL.out; omega
    clear hqs h60 hall hown hsl hsl' hn1 hb1 hc1
    dsimp only
    go_wp2_with fail
    refine readrs_own _ M _ (HE.out.later HB1.out (Nat.le_refl _)) (HM.out.later HB1.out (Nat.le_refl _)) HN.out.2 _ ?_ ?_
    · intro v3 w3 h60 hall hown hb3
      have HG2 := Lib.hid (show (decide (M.length ≤ 60) && M.all isNum) = true by rw [Bool.and_eq_true]; exact ⟨decide_eq_true h60, hall⟩)
      have HBE := Lib.hid (allBd_of hall)
      obtain ⟨rs, hrs⟩ : ∃ rs, rs = M.map qOf := ⟨_, rfl⟩
      have HRL := Lib.hid (show rs.length = M.length by rw [hrs, List.length_map])
      have HRS := Lib.hid hrs
      rw [← hrs] at hown HBE
      have hsl := hown.sl
      obtain ⟨a3, n3, c3, rfl, hn3, hc3, hsl'⟩ := hsl.open
      have HSM := Lib.hid hsl'
      have HN3 := Lib.hid hn3
      have HB3 := Lib.hid (HB1.out.trans (hb3.mono HB1.out.size))
      have HSL3 := Lib.hid (HSL.out.later elemR hb3 (Nat.le_refl _))
      have hm60 : n3 ≤ 60 := by have := HRL.out; omega
      clear hrs h60 hall hown hsl hsl' hn3 hb3 hc3
      by_cases hnm : n1 = n3
      · have hO : dotO L M = some (dotQ qs rs) := by
          unfold dotO
          rw [HG1.out, HG2.out, decide_eq_true (show L.length = M.length by rw [← HQL.out, ← HRL.out, ← HN1.out, ← HN3.out]; exact hnm), HQS.out, HRS.out]; rfl
        rw [hO] at HR
        have t1 : ((n1 : Int) != (n3 : Int)) = false := by rw [hnm]; simp
        subst hnm
        clear hO
        dsimp only
        go_wp2_with fail
        refine ratioOf_any _ 0 _ (IsI.nil _) _ ?_
        intro v2 w2 hr2 hb2
        obtain ⟨m0, a5, n5, c5, a6, n6, c6, hm0, rfl, hx1, hx2⟩ := hr2.parts
        obtain ⟨W, hW⟩ : ∃ W, W = w2.alloc (.cells #[.bool m0, .slice a5 n5 c5, .slice a6 n6 c6] 85) := ⟨_, rfl⟩
        have HW := Lib.hid hW
        have hbW : Below w2.heap.size w2 W := by rw [hW]; exact (Below.refl _ _).alloc (Nat.le_refl _) _
        have HSL2 := Lib.hid (HSL3.out.later elemR hb2 (Nat.le_refl _))
        have HSM2 := Lib.hid (HSM.out.later elemR hb2 (Nat.le_refl _))
        have HB2 := Lib.hid (HB3.out.trans (hb2.mono HB3.out.size))
        have HST : Hid (DotRel w2 n1 qs rs (.int .i64 0) W) := Lib.hid ⟨0, m0, a5, n5, c5, a6, n6, c6, rfl, Nat.zero_le _, by rw [hW]; exact Box3.made _ _ _ _ _, by rw [List.take_zero, List.take_zero, dotQ_nil]; exact hr2.later hbW (Nat.le_refl _), by rw [List.take_zero, List.take_zero, dotQ_nil]; exact Bd.zero, hbW⟩
        clear hr2 hb2 hm0 hx1 hx2 hW hbW
        dsimp only
        go_wp2_with fail
        rw [← HW.out]
        go_loopw [37] (fun i wr => DotRel w2 n1 qs rs i wr) (fun i _ => n1 - (intOf i).toNat)
        case atStart => exact HST.out
        case round =>
          clear HST
          obtain ⟨k, m, a7, n7, c7, a8, n8, c8, rfl, hk, hbox, hr, hbd, hbel⟩ := hrel
          have HBOX := Lib.hid hbox
          have HRR := Lib.hid hr
          have HBDK := Lib.hid hbd
          have HB := Lib.hid hbel
          clear hr hbd
          by_cases hkn : k = n1
          · subst hkn
            have he : qs.take k = qs := by rw [HN1.out, List.take_length]
            have he2 : rs.take k = rs := by rw [HN3.out, List.take_length]
            rw [he, he2] at HRR
            obtain ⟨⟨hP0, hP1, hP2⟩, _, _, _⟩ := HBOX.out.cells
            have HB3 := Lib.hid (HB2.out.trans (hbel.mono HB2.out.size))
            clear he he2 hbox hbel
            go_wp2_with fail
            refine rtext_o _ (dotQ qs rs) _ HRR.out (tab_later HTAB.out HB3.out (Nat.le_refl _)) _ ?_
            intro w3 hb3
            have HB4 := Lib.hid (HB3.out.trans (hb3.mono HB3.out.size))
            obtain ⟨S, hS⟩ : ∃ S, S = outS (some (dotQ qs rs)) := ⟨_, rfl⟩
            obtain ⟨B, hB⟩ : ∃ B, B = outB (some (dotQ qs rs)) := ⟨_, rfl⟩
            rw [← hS, ← hB] at HR ⊢
            clear hS hB hb3
            dsimp only
            go_wp2
            first | go_ret | skip
            exact HR.out _ HB4.out
          · have hkl : k < n1 := by omega
            obtain ⟨q, hq⟩ : ∃ q, qs[k]? = some q := ⟨_, List.getElem?_eq_getElem (by rw [← HN1.out]; exact hkl)⟩
            obtain ⟨r, hr⟩ : ∃ r, rs[k]? = some r := ⟨_, List.getElem?_eq_getElem (by rw [← HN3.out]; exact hkl)⟩
            have HQ := Lib.hid hq
            have HRQ := Lib.hid hr
            have HBQ := Lib.hid (HBD.out k q hq)
            have HBR := Lib.hid (HBE.out k r hr)
            obtain ⟨b, off, cs, rfl, hb, hcell, hE⟩ := HSL2.out.at k q hq
            obtain ⟨b2, off2, cs2, rfl, hb2, hcell2, hE2⟩ := HSM2.out.at k r hr
            obtain ⟨x1, y1, z1, x2, y2, z2, hcs, hi1, hi2⟩ := hE
            obtain ⟨x3, y3, z3, x4, y4, z4, hcs2, hi3, hi4⟩ := hE2
            obtain ⟨ng, hng⟩ : ∃ ng, ng = decide (q.num < 0) := ⟨_, rfl⟩
            obtain ⟨mg, hmg⟩ : ∃ mg, mg = decide (r.num < 0) := ⟨_, rfl⟩
            rw [← hng] at hcs
            rw [← hmg] at hcs2
            have hd0 : wr.cell? ⟨b, off + k * 3, none⟩ = some (.bool ng) := by rw [hbel.cell (p := ⟨b, off + k * 3, none⟩) hb]; exact hcell 0 _ (by rw [hcs]; rfl)
            have hd1 : wr.cell? ⟨b, off + k * 3 + 1, none⟩ = some (.slice x1 y1 z1) := by rw [hbel.cell (p := ⟨b, off + k * 3 + 1, none⟩) hb]; exact hcell 1 _ (by rw [hcs]; rfl)
            have hd2 : wr.cell? ⟨b, off + k * 3 + 2, none⟩ = some (.slice x2 y2 z2) := by rw [hbel.cell (p := ⟨b, off + k * 3 + 2, none⟩) hb]; exact hcell 2 _ (by rw [hcs]; rfl)
            have HX : Hid (IsR w2 (.agg #[.bool ng, .slice x1 y1 z1, .slice x2 y2 z2]) q) := Lib.hid ⟨_, _, by rw [hng], hi1, hi2⟩
            have HY : Hid (IsR w2 (.agg #[.bool mg, .slice x3 y3 z3, .slice x4 y4 z4]) r) := Lib.hid ⟨_, _, by rw [hmg], hi3, hi4⟩
            have hw1 : IntKind.i64.wrap ((k : Int) + 1) = ((k + 1 : Nat) : Int) := by rw [IntWalk.i64_in _ (by omega)]; omega
            obtain ⟨V, hV⟩ : ∃ V, V = wr.alloc (.cells #[.bool ng, .slice x1 y1 z1, .slice x2 y2 z2] 85) := ⟨_, rfl⟩
            have hbV : Below wr.heap.size wr V := by rw [hV]; exact (Below.refl _ _).alloc (Nat.le_refl _) _
            have HBV : Hid (Below w2.heap.size w2 V) := Lib.hid (hbel.trans (hbV.mono hbel.size))
            have HKB := Lib.hid (HBOX.out.later hbV (lt_of_block HBOX.out))
            have HKX : Hid (Box3 V wr.heap.size (.bool ng) (.slice x1 y1 z1) (.slice x2 y2 z2) 85) := Lib.hid (by rw [hV]; exact Box3.made _ _ _ _ _)
            have HXV := Lib.hid (HX.out.later HBV.out (Nat.le_refl _))
            have HYV := Lib.hid (HY.out.later HBV.out (Nat.le_refl _))
            have HRV := Lib.hid (HRR.out.later hbV (Nat.le_refl _))
            have HV := Lib.hid hV
            have HL1 := Lib.hid (HBDK.out.len (B := W64) (by rw [W64_eq]; omega))
            have HL2 := Lib.hid (HBQ.out.len (B := W64) (by rw [W64_eq]; omega))
            have HL3 := Lib.hid (HBR.out.len (B := W64) (by rw [W64_eq]; omega))
            have HL4 := Lib.hid ((HBQ.out.mul HBR.out).len (B := W64) (by rw [W64_eq]; omega))
            have hk60 : k < 60 := by omega
            have HKL := Lib.hid hkl
            have hi0 : (0 : Int) ≤ (k : Int) := by omega
            have hi1 : (k : Int) < (n1 : Int) := by omega
            have HD2 : Hid (wr.heap.size < V.heap.size) := Lib.hid (lt_of_block HKX.out)
            have hy0 : V.cell? ⟨b2, off2 + k * 3, none⟩ = some (.bool mg) := by rw [HBV.out.cell (p := ⟨b2, off2 + k * 3, none⟩) hb2]; exact hcell2 0 _ (by rw [hcs2]; rfl)
            have hy1 : V.cell? ⟨b2, off2 + k * 3 + 1, none⟩ = some (.slice x3 y3 z3) := by rw [HBV.out.cell (p := ⟨b2, off2 + k * 3 + 1, none⟩) hb2]; exact hcell2 1 _ (by rw [hcs2]; rfl)
            have hy2 : V.cell? ⟨b2, off2 + k * 3 + 2, none⟩ = some (.slice x4 y4 z4) := by rw [HBV.out.cell (p := ⟨b2, off2 + k * 3 + 2, none⟩) hb2]; exact hcell2 2 _ (by rw [hcs2]; rfl)
            clear hq hr hcell hcs hcell2 hcs2 hi2 hi3 hi4 hng hmg hV hbV hbox hbel hkn
            go_wp2_with fail
            rw [← HV.out]
            clear hd0 hd1 hd2
            obtain ⟨⟨hP0, hP1, hP2⟩, _, _, _⟩ := HKB.out.cells
            obtain ⟨⟨hX0, hX1, hX2⟩, _, _, _⟩ := HKX.out.cells
            go_region_law (first
              | (have hguard := HB5; go_simp; go_at_call 63; refine rplus_any _ _ (dotQ (qs.take k) (rs.take k)) (q * r) _ (HRV.out.later HB5.out (Nat.le_refl _)) HV5.out (Nat.le_trans HL1.out.1 (by omega)) (Nat.le_trans HL1.out.2 (by omega)) (Nat.le_trans HL4.out.1 (by omega)) (Nat.le_trans HL4.out.2 (by omega)) _ ?_; rw [← dotQ_take HQ.out HRQ.out]; intro v6 w6 hv6 hb6; obtain ⟨m6, a10, n10, c10, a11, n11, c11, hm6, rfl, _, _⟩ := hv6.parts; have HV6 := Lib.hid hv6; have HB6 := Lib.hid (HB5.out.trans (hb6.mono HB5.out.size)); have k6 := HKB.out.later HB6.out (lt_of_block HKB.out); obtain ⟨⟨hT0, hT1, hT2⟩, hT3, hT4, hT5⟩ := k6.cells; have HK6 := Lib.hid k6; clear hguard hm6 hv6 hb6 k6; dsimp only)
              | (go_simp; go_at_call 65; refine rtimes_any _ _ q r _ (HXV.out.later (Below.refl _ _).drew (Nat.le_refl _)) (HYV.out.later (Below.refl _ _).drew (Nat.le_refl _)) (Nat.le_trans HL2.out.1 (by omega)) (Nat.le_trans HL2.out.2 (by omega)) (Nat.le_trans HL3.out.1 (by omega)) (Nat.le_trans HL3.out.2 (by omega)) _ ?_; intro v5 w5 hv5 hb5; obtain ⟨m5, a12, n12, c12, a13, n13, c13, hm5, rfl, _, _⟩ := hv5.parts; have HV5 := Lib.hid hv5; have HB5 : Hid (Below V.heap.size V w5) := Lib.hid (below_unDrew hb5); have k5 := HKB.out.later HB5.out (lt_of_block HKB.out); obtain ⟨⟨hS0, hS1, hS2⟩, _, _, _⟩ := k5.cells; clear hm5 hv5 hb5 k5; dsimp only))
            all_goals
              have HNI := Lib.hid (HK6.out.noInt rfl rfl rfl)
              have HBD6 : Hid (Bd (121 * (k + 1) + 1) (dotQ (qs.take (k + 1)) (rs.take (k + 1)))) := Lib.hid (by
                rw [dotQ_take HQ.out HRQ.out]
                exact (HBDK.out.add (HBQ.out.mul HBR.out)).mono (by omega))
              have HREL : Hid (DotRel w2 n1 qs rs (.int .i64 ((k + 1 : Nat) : Int)) (((w6.setCell ⟨w2.heap.size, 0, none⟩ (.bool m6)).setCell ⟨w2.heap.size, 1, none⟩ (.slice a10 n10 c10)).setCell ⟨w2.heap.size, 2, none⟩ (.slice a11 n11 c11))) := Lib.hid
                ⟨k + 1, m6, a10, n10, c10, a11, n11, c11, rfl, HKL.out, HK6.out.set012 _ _ _, HV6.out.set3 HNI.out _ _ _ rfl rfl, HBD6.out, below_set3 (HBV.out.trans (HB6.out.mono HBV.out.size)) (Nat.le_refl _) _ _ _⟩
              go_wp2
              go_roundw
              case rel => exact HREL.out
              case measure => simp [intOf]; have := HKL.out; omega
      · have hO : dotO L M = none := by
          unfold dotO
          rw [HG1.out, HG2.out, decide_eq_false (show ¬ L.length = M.length by rw [← HQL.out, ← HRL.out, ← HN1.out, ← HN3.out]; exact hnm)]; rfl
        rw [hO] at HR
        have t1 : ((n1 : Int) != (n3 : Int)) = true := by rw [bne_iff_ne]; omega
        have HF := Lib.hid (HR.out w3 HB3.out)
        clear hO hnm
        dsimp only
        go_wp2
        first | go_ret | skip
        exact HF.out
    · intro e w3 hnone he hb3
      obtain ⟨t, p, rfl⟩ := he
      have hO : dotO L M = none := by unfold dotO; rw [hnone, Bool.and_false, Bool.false_and]; rfl
      rw [hO] at HR
      have HF := Lib.hid (HR.out w3 (HB1.out.trans (hb3.mono HB1.out.size)))
      clear hb3 hnone hO
      dsimp only
      go_wp2
      first | go_ret | skip
      exact HF.out
  · intro e w1 hnone he hb1
    obtain ⟨t, p, rfl⟩ := he
    have hO : dotO L M = none := by unfold dotO; rw [hnone, Bool.false_and, Bool.false_and]; rfl
    rw [hO] at HR
    have HF := Lib.hid (HR.out w1 hb1)
    clear hb1 hnone hO
    dsimp only
    go_wp2
    first | go_ret | skip
    exact HF.out
end Go.Proofs.YtdkjcdfkoahfkaaGreatDoor

namespace Go.Proofs.YtdkjcdfkoahfkaaGreatDoor
open Go Go.RowKit

theorem dig_pow_len {x k N : Nat} (h : (dig W64 x).length ≤ N) : (dig W64 (x ^ k)).length ≤ k * N + 1 := by
  by_cases hk : k = 0
  · subst hk
    rw [Nat.pow_zero, Nat.zero_mul, Nat.zero_add]
    exact dig_length_le W64_two 1 1 (by rw [W64_eq]; omega)
  · refine Nat.le_trans (dig_length_le W64_two (N * k) _ ?_) (by rw [Nat.mul_comm]; omega)
    have h1 := Nat.lt_of_lt_of_le (lt_pow_dig W64_two x) (Nat.pow_le_pow_right (by rw [W64_eq]; omega) h)
    rw [Nat.pow_mul]
    exact Nat.pow_lt_pow_left h1 hk

set_option maxRecDepth 100000 in
set_option maxHeartbeats 1000000 in
theorem npow_any (v : Value) (a n : Nat) (w : World) (h : IsN w v a) (hn : n ≤ 60) (hla : (dig W64 a).length ≤ 1000) (R : Ending → World → Prop)
    (hR : ∀ v' w', IsN w' v' (a ^ n) → Below w.heap.size w w' → R (.returned v') w') :
    Calls Tryz.prog 152 #[v, .int .i64 (n : Int)] w R := by
  have HR := Lib.hid hR; clear hR
  obtain ⟨a1, n1, c1, rfl, h'⟩ := h.op
  have HA := Lib.hid h'
  have HN := Lib.hid hn
  have HLA := Lib.hid hla
  obtain ⟨L, hL⟩ : ∃ L, L = w.alloc (.cells #[.int .u64 1] 99) := ⟨_, rfl⟩
  have HEXT : Hid (Below w.heap.size w L) := Lib.hid (by rw [hL]; exact (Below.refl _ _).alloc (Nat.le_refl _) _)
  have HONE : Hid (IsN L (.slice (some ⟨w.heap.size, 0, none⟩) 1 1) 1) := Lib.hid (by rw [hL]; exact IsN.one w w.heap.size (Nat.le_refl _))
  have HL := Lib.hid hL
  clear h h' hla hL
  go_enter Tryz.func152, Tryz.ntmps152
  go_wp2_with fail
  rw [← HL.out]
  go_loopw [5, 8] (fun pv iv wr => ∃ k : Nat, iv = .int .i64 (k : Int) ∧ k ≤ n ∧ IsN wr pv (a ^ k) ∧ Below w.heap.size w wr) (fun _ iv _ => n - (intOf iv).toNat)
  case atStart => exact ⟨0, rfl, Nat.zero_le _, by rw [Nat.pow_zero]; exact HONE.out, HEXT.out⟩
  case round =>
    obtain ⟨k, rfl, hk, hv, hbel⟩ := hrel
    obtain ⟨a2, n2, c2, rfl, hv'⟩ := hv.op
    have HV := Lib.hid hv'
    have HB := Lib.hid hbel
    clear hv hv' hbel
    by_cases hkn : k < n
    · have HLP : Hid ((dig W64 (a ^ k)).length ≤ 100000) := Lib.hid (by
        have h1 := dig_pow_len (k := k) HLA.out
        have h2 : k * 1000 ≤ 60 * 1000 := Nat.mul_le_mul_right _ (by omega)
        omega)
      have hkn2 : (k : Int) < (n : Int) := by omega
      go_wp2_with fail
      refine ntimes_any _ _ (a ^ k) a _ HV.out (HA.out.later HB.out (Nat.le_refl _)) (Nat.le_trans HLP.out (by omega)) (Nat.le_trans HLA.out (by omega)) _ ?_
      intro v2 w2 hv2 hb2
      rw [← Nat.pow_succ] at hv2
      have HV2 := Lib.hid hv2
      have HB2 := Lib.hid (HB.out.trans (hb2.mono HB.out.size))
      clear hv2 hb2
      dsimp only
      go_wp2
      go_roundw
      case rel => exact ⟨k + 1, by first | rfl | go_num, by omega, HV2.out, HB2.out⟩
      case measure => simp [intOf]; omega
    · obtain rfl : k = n := by omega
      go_wp2
      first | go_ret | skip
      exact HR.out _ _ HV.out HB.out
end Go.Proofs.YtdkjcdfkoahfkaaGreatDoor

namespace Go.Proofs.YtdkjcdfkoahfkaaGreatDoor
open Go Go.RowKit

theorem neg_pow_nat (m n : Nat) : (-(m : Int)) ^ n = if n % 2 = 1 then -((m ^ n : Nat) : Int) else ((m ^ n : Nat) : Int) := by
  induction n with
  | zero => simp
  | succ n ih =>
    rw [Int.pow_succ, ih, Nat.pow_succ]
    by_cases h : n % 2 = 1
    · rw [if_pos h, if_neg (by omega), Int.neg_mul_neg, Int.natCast_mul]
    · rw [if_neg h, if_pos (by omega), Int.mul_neg, Int.natCast_mul]

theorem pow_pos_sgn (z : Int) (n : Nat) (h : ¬ z < 0) : sgn false (z.natAbs ^ n) = z ^ n := by
  obtain ⟨m, rfl⟩ : ∃ m : Nat, z = (m : Int) := ⟨z.natAbs, by omega⟩
  rw [Int.natAbs_natCast, ← Int.natCast_pow]; rfl

theorem pow_neg_sgn (z : Int) (n : Nat) (h : z < 0) : sgn ((n : Int) % 2 == 1) (z.natAbs ^ n) = z ^ n := by
  obtain ⟨m, rfl⟩ : ∃ m : Nat, z = -(m : Int) := ⟨z.natAbs, by omega⟩
  rw [Int.natAbs_neg, Int.natAbs_natCast, neg_pow_nat]
  by_cases h1 : n % 2 = 1
  · rw [if_pos h1, show ((n : Int) % 2 == 1) = true by simp; omega]; rfl
  · rw [if_neg h1, show ((n : Int) % 2 == 1) = false by simp; omega]; rfl

set_option maxRecDepth 100000 in
set_option maxHeartbeats 2000000 in
theorem ipow_any (v : Value) (z : Int) (n : Nat) (w : World) (h : IsI w v z) (hn : n ≤ 60) (hla : (dig W64 z.natAbs).length ≤ 1000) (R : Ending → World → Prop)
    (hR : ∀ v' w', IsI w' v' (z ^ n) → Below w.heap.size w w' → R (.returned v') w') :
    Calls Tryz.prog 151 #[v, .int .i64 (n : Int)] w R := by
  have HR := Lib.hid hR; clear hR
  obtain ⟨ng, a1, n1, c1, hng, rfl, hn1⟩ := h.parts
  obtain ⟨L, hL⟩ : ∃ L, L = (w.alloc (.cells #[.bool ng, .slice a1 n1 c1] 83)).alloc (.cells #[.bool false, .slice none 0 0] 83) := ⟨_, rfl⟩
  have HEXT : Hid (Below w.heap.size w L) := Lib.hid (by rw [hL]; exact ((Below.refl w.heap.size w).alloc (Nat.le_refl _) _).alloc (by simp) _)
  have hLs : L.heap.size = w.heap.size + 2 := by rw [hL]; simp
  have B0 : Box2 L w.heap.size (.bool ng) (.slice a1 n1 c1) 83 := by rw [hL]; exact (Box2.made w _ _ _).alloc _
  have B1 : Box2 L (w.heap.size + 1) (.bool false) (.slice none 0 0) 83 := by
    have := Box2.made (w.alloc (.cells #[.bool ng, .slice a1 n1 c1] 83)) (.bool false) (.slice none 0 0) 83
    rw [World.size_alloc, ← hL] at this; exact this
  have HK : Hid (w.heap.size + 1 < L.heap.size) := Lib.hid (by omega)
  have HL := Lib.hid hL
  have HNG := Lib.hid hng
  have HB1 := Lib.hid B1
  have Y1 := Lib.hid (hn1.later HEXT.out (Nat.le_refl _))
  obtain ⟨hA, hB, _, _⟩ := B0.cells
  rw [hL] at hA hB
  have HLA := Lib.hid hla
  cases ng with
  | false =>
      clear hng h hn1 hL hLs B0 B1 hla
      go_enter Tryz.func151, Tryz.ntmps151
      go_wp2_with fail
      rw [← HL.out]
      refine npow_any _ z.natAbs n _ Y1.out hn HLA.out _ ?_
      intro v1 w1 hv1 hb1
      obtain ⟨a7, n7, c7, rfl, hv1'⟩ := hv1.op
      have HV1 := Lib.hid hv1'
      have HT1 := Lib.hid hb1
      clear hv1 hv1' hb1 hA hB
      dsimp only
      go_wp2_with fail
      refine integerOf_z (false) _ (z.natAbs ^ n) _ HV1.out _ ?_
      intro v2 w2 hv2 hb2
      rw [pow_pos_sgn z n (of_decide_eq_false HNG.out.symm)] at hv2
      obtain ⟨m2, a5, m5, c5, hm2, rfl, hn5⟩ := hv2.parts
      have HV5 := Lib.hid hn5
      have HM2 := Lib.hid hm2
      have HT2 := Lib.hid (HT1.out.trans (hb2.mono HT1.out.size))
      have d2 := HB1.out.later HT2.out HK.out
      clear hv2 hb2 hm2 hn5
      obtain ⟨hR0, hR1, hR2, hR3⟩ := d2.cells
      have HD2 := Lib.hid d2
      clear d2
      dsimp only
      go_wp2
      refine bodyPost_ret_at (by simp [results, Tryz.results151, go_sem, hR0, hR1, hR2, hR3] <;> rfl) rfl ?_
      exact HR.out _ _ (IsI.mk HM2.out (HV5.out.set2 (HD2.out.noInt rfl rfl) _ _ rfl)) (((HEXT.out.trans (HT2.out.mono HEXT.out.size)).setCell (show w.heap.size ≤ w.heap.size + 1 by omega) _).setCell (show w.heap.size ≤ w.heap.size + 1 by omega) _)
  | true =>
      clear hng h hn1 hL hLs B0 B1 hla
      go_enter Tryz.func151, Tryz.ntmps151
      go_wp2_with fail
      rw [← HL.out]
      refine npow_any _ z.natAbs n _ Y1.out hn HLA.out _ ?_
      intro v1 w1 hv1 hb1
      obtain ⟨a7, n7, c7, rfl, hv1'⟩ := hv1.op
      have HV1 := Lib.hid hv1'
      have HT1 := Lib.hid hb1
      clear hv1 hv1' hb1 hA hB
      dsimp only
      go_wp2_with fail
      refine integerOf_z (((n : Int) % 2 == 1)) _ (z.natAbs ^ n) _ HV1.out _ ?_
      intro v2 w2 hv2 hb2
      rw [pow_neg_sgn z n (of_decide_eq_true HNG.out.symm)] at hv2
      obtain ⟨m2, a5, m5, c5, hm2, rfl, hn5⟩ := hv2.parts
      have HV5 := Lib.hid hn5
      have HM2 := Lib.hid hm2
      have HT2 := Lib.hid (HT1.out.trans (hb2.mono HT1.out.size))
      have d2 := HB1.out.later HT2.out HK.out
      clear hv2 hb2 hm2 hn5
      obtain ⟨hR0, hR1, hR2, hR3⟩ := d2.cells
      have HD2 := Lib.hid d2
      clear d2
      dsimp only
      go_wp2
      refine bodyPost_ret_at (by simp [results, Tryz.results151, go_sem, hR0, hR1, hR2, hR3] <;> rfl) rfl ?_
      exact HR.out _ _ (IsI.mk HM2.out (HV5.out.set2 (HD2.out.noInt rfl rfl) _ _ rfl)) (((HEXT.out.trans (HT2.out.mono HEXT.out.size)).setCell (show w.heap.size ≤ w.heap.size + 1 by omega) _).setCell (show w.heap.size ≤ w.heap.size + 1 by omega) _)
end Go.Proofs.YtdkjcdfkoahfkaaGreatDoor

namespace Go.Proofs.YtdkjcdfkoahfkaaGreatDoor
open Go Go.RowKit

set_option maxRecDepth 100000 in
set_option maxHeartbeats 4000000 in
theorem rpow_any (v : Value) (a : Rat) (n : Nat) (w : World) (h : IsR w v a) (hn : n ≤ 60) (hla : (dig W64 a.num.natAbs).length ≤ 1000) (hla2 : (dig W64 a.den).length ≤ 1000) (R : Ending → World → Prop)
    (hR : ∀ v' w', IsR w' v' (a ^ n) → Below w.heap.size w w' → R (.returned v') w') :
    Calls Tryz.prog 89 #[v, .int .i64 (n : Int)] w R := by
  have HR := Lib.hid hR; clear hR
  obtain ⟨na, a1, n1, c1, a2, n2, c2, hna, rfl, hn1, hn2⟩ := h.parts
  obtain ⟨L, hL⟩ : ∃ L, L = (w.alloc (.cells #[.bool na, .slice a1 n1 c1, .slice a2 n2 c2] 85)).alloc (.cells #[.bool false, .slice none 0 0, .slice none 0 0] 85) := ⟨_, rfl⟩
  have HEXT : Hid (Below w.heap.size w L) := Lib.hid (by rw [hL]; exact ((Below.refl w.heap.size w).alloc (Nat.le_refl _) _).alloc (by simp) _)
  have hLs : L.heap.size = w.heap.size + 2 := by rw [hL]; simp
  have hb1 : Below (w.heap.size + 1) (w.alloc (.cells #[.bool na, .slice a1 n1 c1, .slice a2 n2 c2] 85)) L := by rw [hL]; exact (Below.refl _ _).alloc (by simp) _
  have B0 : Box3 L w.heap.size (.bool na) (.slice a1 n1 c1) (.slice a2 n2 c2) 85 := (Box3.made w _ _ _ _).later hb1 (by omega)
  have B2 : Box3 L (w.heap.size + 1) (.bool false) (.slice none 0 0) (.slice none 0 0) 85 := by
    have := Box3.made (w.alloc (.cells #[.bool na, .slice a1 n1 c1, .slice a2 n2 c2] 85)) (.bool false) (.slice none 0 0) (.slice none 0 0) 85
    rw [World.size_alloc, ← hL] at this; exact this
  have HL := Lib.hid hL
  have HLS := Lib.hid hLs
  have HB2 := Lib.hid B2
  have HNA := Lib.hid hna
  have XI : Hid (IsI L (.agg #[.bool na, .slice a1 n1 c1]) a.num) := Lib.hid (IsI.mk hna (hn1.later HEXT.out (Nat.le_refl _)))
  have X1 := Lib.hid (hn1.later HEXT.out (Nat.le_refl _))
  have X2 := Lib.hid (hn2.later HEXT.out (Nat.le_refl _))
  have HIV : Hid (a.num ^ n = (a ^ n).num ∧ a.den ^ n = (a ^ n).den) := Lib.hid ⟨(Rat.num_pow a n).symm, (Rat.den_pow a n).symm⟩
  have HLL := Lib.hid (And.intro hn (And.intro hla hla2))
  have HSOF : Hid (∀ w', Below (w.heap.size + 1) L w' → (Below (w.heap.size + 1) L w' ∧ (w'.cell? ⟨w.heap.size, 0, none⟩ = some (.bool na) ∧ w'.cell? ⟨w.heap.size, 1, none⟩ = some (.slice a1 n1 c1) ∧ w'.cell? ⟨w.heap.size, 2, none⟩ = some (.slice a2 n2 c2)))) :=
    Lib.hid fun w' hb => ⟨hb, (B0.later hb (by omega)).cells.1⟩
  clear hna h hn hla hla2 hn1 hn2 hb1 B0 B2 hL hLs
  go_enter Tryz.func89, Tryz.ntmps89
  go_wp2_with fail
  rw [← HL.out]
  go_region_held3 (fun w' => Below (w.heap.size + 1) L w' ∧ (w'.cell? ⟨w.heap.size, 0, none⟩ = some (.bool na) ∧ w'.cell? ⟨w.heap.size, 1, none⟩ = some (.slice a1 n1 c1) ∧ w'.cell? ⟨w.heap.size, 2, none⟩ = some (.slice a2 n2 c2)))
    (first
      | exact HSOF.out _ HQ2.out
      | exact HSOF.out _ HQ1.out
      | exact HSOF.out _ (Below.refl _ _).drew
      | exact HSOF.out _ (((HQ2.out.setCell (by simp) _).setCell (by simp) _).setCell (by simp) _))
    (first
      | (go_at_call 152; refine npow_any _ a.den n _ (X2.out.later HT1.out (Nat.le_refl _)) HLL.out.1 HLL.out.2.2 _ ?_; rw [HIV.out.2]; intro v2 w2 hv2 hb2; obtain ⟨a6, m6, c6, rfl, hn6⟩ := hv2.op; have HV2 := Lib.hid hn6; have HV1' := Lib.hid (HV1.out.later hb2 (Nat.le_refl _)); have HT2 := Lib.hid (HT1.out.trans (hb2.mono HT1.out.size)); have HQ2 : Hid (Below (w.heap.size + 1) L w2) := Lib.hid (HT2.out.mono (by have := HLS.out; omega)); have d1 := HB2.out.later HT2.out (by have := HLS.out; omega); obtain ⟨⟨hR0, hR1, hR2⟩, hF0, hF1, hF2⟩ := d1.cells; have HD1 := Lib.hid d1; clear hv2 hb2 hn6 d1; dsimp only)
      | (go_at_call 151; refine ipow_any _ a.num n _ (XI.out.later (Below.refl _ _).drew (Nat.le_refl _)) HLL.out.1 HLL.out.2.1 _ ?_; rw [HIV.out.1]; intro v1 w1 hv1 hb1; obtain ⟨m1, a5, m5, c5, hm1, rfl, hn5⟩ := hv1.parts; have HM1 := Lib.hid hm1; have HV1 := Lib.hid hn5; have HT1 : Hid (Below L.heap.size L w1) := Lib.hid (below_unDrew hb1); have HQ1 : Hid (Below (w.heap.size + 1) L w1) := Lib.hid (HT1.out.mono (by have := HLS.out; omega)); clear hv1 hb1 hm1 hn5; dsimp only))
  all_goals
    go_wp2
    refine bodyPost_ret_at (by simp [results, Tryz.results89, go_sem, hR0, hR1, hR2, hF0, hF1, hF2] <;> rfl) rfl ?_
    have hq : IsR w2 (.agg #[.bool m1, .slice a5 m5 c5, .slice a6 m6 c6]) (a ^ n) := ⟨_, _, by rw [HM1.out], HV1'.out, HV2.out⟩
    refine HR.out _ _ (IsR.set3 hq (HD1.out.noInt rfl rfl rfl) _ _ _ rfl rfl) ?_
    exact (((HEXT.out.trans (HT2.out.mono HEXT.out.size)).setCell (show w.heap.size ≤ w.heap.size + 1 by omega) _).setCell (show w.heap.size ≤ w.heap.size + 1 by omega) _).setCell (show w.heap.size ≤ w.heap.size + 1 by omega) _

end Go.Proofs.YtdkjcdfkoahfkaaGreatDoor

namespace Go.Proofs.YtdkjcdfkoahfkaaGreatDoor
open Go Go.RowKit

theorem IsZ.set4 {w : World} {v : Value} {z : Int} (h : IsZ w v z) {b : Nat} (hb : NoInt w b) (y0 y1 y2 y3 : Value) (h0 : notInt y0 = true) (h1 : notInt y1 = true) (h2 : notInt y2 = true) :
    IsZ ((((w.setCell ⟨b, 0, none⟩ y0).setCell ⟨b, 1, none⟩ y1).setCell ⟨b, 2, none⟩ y2).setCell ⟨b, 3, none⟩ y3) v z := by
  obtain ⟨s, e, hs⟩ := h
  exact ⟨s, e, (((hs.set hb 0 y0).set (hb.set 0 _ h0) 1 y1).set ((hb.set 0 _ h0).set 1 _ h1) 2 y2).set (((hb.set 0 _ h0).set 1 _ h1).set 2 _ h2) 3 y3⟩

theorem IsQ.set4 {w : World} {v : Value} {q : Rat} (h : IsQ w v q) {b : Nat} (hb : NoInt w b) (y0 y1 y2 y3 : Value) (h0 : notInt y0 = true) (h1 : notInt y1 = true) (h2 : notInt y2 = true) :
    IsQ ((((w.setCell ⟨b, 0, none⟩ y0).setCell ⟨b, 1, none⟩ y1).setCell ⟨b, 2, none⟩ y2).setCell ⟨b, 3, none⟩ y3) v q := by
  obtain ⟨s1, s2, e, k1, k2⟩ := h
  exact ⟨s1, s2, e, (((k1.set hb 0 y0).set (hb.set 0 _ h0) 1 y1).set ((hb.set 0 _ h0).set 1 _ h1) 2 y2).set (((hb.set 0 _ h0).set 1 _ h1).set 2 _ h2) 3 y3,
    (((k2.set hb 0 y0).set (hb.set 0 _ h0) 1 y1).set ((hb.set 0 _ h0).set 1 _ h1) 2 y2).set (((hb.set 0 _ h0).set 1 _ h1).set 2 _ h2) 3 y3⟩

end Go.Proofs.YtdkjcdfkoahfkaaGreatDoor

namespace Go.Proofs.YtdkjcdfkoahfkaaGreatDoor
open Go Go.RowKit

theorem zpow_len {z : Int} {k N : Nat} (h : (dig 10000 z.natAbs).length ≤ N) : (dig 10000 (z ^ k).natAbs).length ≤ k * N + 1 := by
  rw [Int.natAbs_pow]
  by_cases hk : k = 0
  · subst hk
    rw [Nat.pow_zero, Nat.zero_mul, Nat.zero_add]
    exact dig_length_le (by omega) 1 1 (by omega)
  · refine Nat.le_trans (dig_length_le (by omega) (N * k) _ ?_) (by rw [Nat.mul_comm]; omega)
    have h1 := Nat.lt_of_lt_of_le (lt_pow_dig (by omega : 2 ≤ 10000) z.natAbs) (Nat.pow_le_pow_right (by omega) h)
    rw [Nat.pow_mul]
    exact Nat.pow_lt_pow_left h1 hk

theorem IsQ.ofPow {w : World} {b1 b2 : Bool} {a1 a2 : Option Addr} {n1 c1 n2 c2 k : Nat} {q : Rat} (h1 : IsZ w (.agg #[.bool b1, .slice a1 n1 c1]) (q.num ^ k)) (h2 : IsZ w (.agg #[.bool b2, .slice a2 n2 c2]) ((q.den : Int) ^ k)) :
    IsQ w (.agg #[.bool b1, .slice a1 n1 c1, .bool b2, .slice a2 n2 c2]) (q ^ k) := by
  obtain ⟨s1, e1, k1⟩ := h1
  obtain ⟨s2, e2, k2⟩ := h2
  have e3 : ((q.den : Int) ^ k) = ((q.den ^ k : Nat) : Int) := (Int.natCast_pow _ _).symm
  rw [e3] at e2 k2
  have f1 : b1 = decide (q.num ^ k < 0) ∧ Value.slice a1 n1 c1 = s1 := by simpa using e1
  have f2 : b2 = decide (((q.den ^ k : Nat) : Int) < 0) ∧ Value.slice a2 n2 c2 = s2 := by simpa using e2
  refine ⟨s1, s2, ?_, ?_, ?_⟩
  · rw [f1.1, f1.2, f2.1, f2.2, Rat.num_pow, decide_eq_false (by omega : ¬ ((q.den ^ k : Nat) : Int) < 0)]
  · rw [Rat.num_pow]; exact k1
  · rw [Rat.den_pow]; simpa using k2

/-- what the loop of a power keeps -/
def PowRel (g n : Nat) (a : Rat) (W : World) (iv : Value) (wr : World) : Prop :=
  ∃ k m1 a5 n5 c5 m2 a6 n6 c6, k ≤ n ∧ iv = .int .i64 ((n : Int) - (k : Nat)) ∧ Box4 wr g (.bool m1) (.slice a5 n5 c5) (.bool m2) (.slice a6 n6 c6) 75 ∧
    IsZ wr (.agg #[.bool m1, .slice a5 n5 c5]) (a.num ^ k) ∧ IsZ wr (.agg #[.bool m2, .slice a6 n6 c6]) ((a.den : Int) ^ k) ∧ Below g W wr

end Go.Proofs.YtdkjcdfkoahfkaaGreatDoor

namespace Go.Proofs.YtdkjcdfkoahfkaaGreatDoor
open Go Go.RowKit

set_option maxRecDepth 100000 in
theorem in_any (n low high : Int) (w : World) (R : Ending → World → Prop) (hR : R (.returned (.bool (decide (low ≤ n ∧ n ≤ high)))) w) :
    Calls Tryz.prog 161 #[.int .i64 n, .int .i64 low, .int .i64 high] w R := by
  have HR := Lib.hid hR; clear hR
  by_cases h1 : low ≤ n
  · by_cases h2 : n ≤ high
    · rw [decide_eq_true ⟨h1, h2⟩] at HR
      go_enter Tryz.func161, Tryz.ntmps161
      go_wp2
      first | go_ret | skip
      exact HR.out
    · rw [decide_eq_false (fun h => h2 h.2)] at HR
      go_enter Tryz.func161, Tryz.ntmps161
      go_wp2
      first | go_ret | skip
      exact HR.out
  · rw [decide_eq_false (fun h => h1 h.1)] at HR
    go_enter Tryz.func161, Tryz.ntmps161
    go_wp2
    first | go_ret | skip
    exact HR.out

end Go.Proofs.YtdkjcdfkoahfkaaGreatDoor

namespace Go.Proofs.YtdkjcdfkoahfkaaGreatDoor
open Go Go.RowKit

/-- the power of the number that a text is -/
noncomputable def powO (s : List UInt8) (n : Int) : Option Rat := match numO s with
  | some a => if 0 ≤ n ∧ n ≤ 60 then some (a ^ n.toNat) else none
  | none => none
theorem powO_some {s : List UInt8} {a : Rat} {k : Nat} (ha : numO s = some a) (hk : k ≤ 60) : powO s (k : Int) = some (a ^ k) := by unfold powO; rw [ha]; simp; omega
theorem powO_none {s : List UInt8} {n : Int} (h : numO s = none) : powO s n = none := by unfold powO; rw [h]
theorem powO_out {s : List UInt8} {n : Int} (h : ¬ (0 ≤ n ∧ n ≤ 60)) : powO s n = none := by
  unfold powO
  cases numO s with
  | none => rfl
  | some a => simp only [if_neg h]

theorem pow_len {a : Rat} {k : Nat} (hk : k ≤ 60) (h1 : (dig 10000 a.num.natAbs).length ≤ 60) (h2 : (dig 10000 a.den).length ≤ 60) : (dig 10000 (a ^ k).num.natAbs).length ≤ 1000000000 ∧ (dig 10000 (a ^ k).den).length ≤ 1000000000 := by
  rw [Rat.num_pow, Rat.den_pow]
  have e1 := zpow_len (k := k) h1
  have e2 := zpow_len (z := (a.den : Int)) (k := k) (N := 60) (by rw [Int.natAbs_natCast]; exact h2)
  rw [Int.natAbs_pow, Int.natAbs_natCast] at e2
  have e3 : k * 60 ≤ 60 * 60 := Nat.mul_le_mul_right _ hk
  omega

set_option maxRecDepth 100000 in
set_option maxHeartbeats 2000000 in
theorem impl_powerOf (s : ByteArray) (n : Int) (w : World) (hE : Env w) (htab : Lib.TabIs Tryz.prog w "internal/strconv.uint64pow10" .u64 Lib.pow10Tab) (R : Ending → World → Prop)
    (hR : ∀ w', Below w.heap.size w w' → R (.returned (.tuple #[.string (outS (powO s.data.toList n)), .bool (outB (powO s.data.toList n))])) w') :
    Calls Tryz.prog 32 #[.string s, .int .i64 n] w R := by
  have HR := Lib.hid hR; clear hR
  have HE := Lib.hid hE; clear hE
  have HTAB := Lib.hid htab; clear htab
  go_enter Tryz.func32, Tryz.ntmps32
  go_wp2_with fail
  refine readq_any s _ HE.out _ ?_ ?_
  · intro va a w1 ha hva hb1
    obtain ⟨na, a1, n1, c1, a2, n2, c2, hna, rfl, hn1, hn2⟩ := hva.parts
    obtain ⟨L, hL⟩ : ∃ L, L = w1.alloc (.cells #[.bool na, .slice a1 n1 c1, .slice a2 n2 c2] 85) := ⟨_, rfl⟩
    have B0 : Box3 L w1.heap.size (.bool na) (.slice a1 n1 c1) (.slice a2 n2 c2) 85 := by rw [hL]; exact Box3.made w1 _ _ _ _
    have hw1 : Below w1.heap.size w1 L := by rw [hL]; exact (Below.refl w1.heap.size w1).alloc (Nat.le_refl _) _
    have HL := Lib.hid hL
    have HA := Lib.hid (hva.later hw1 (Nat.le_refl _))
    have HEX := Lib.hid (hb1.trans (hw1.mono hb1.size))
    have HLA := Lib.hid (few_len (numO_few ha) (B := W64) (by rw [W64_eq]; omega))
    obtain ⟨⟨hA, hB, hC⟩, _, _, _⟩ := B0.cells
    rw [hL] at hA hB hC
    have HNA := Lib.hid ha
    clear ha hva hb1 hna hn1 hn2 hL B0 hw1
    by_cases hb : 0 ≤ n ∧ n ≤ 60
    · obtain ⟨k, rfl⟩ : ∃ k : Nat, n = (k : Int) := ⟨n.toNat, by omega⟩
      have hk : k ≤ 60 := by omega
      rw [powO_some HNA.out hk] at HR
      have h8 : ¬ ((k : Int) < 0) := by omega
      have h9 : ¬ ((60 : Int) < (k : Int)) := by omega
      have HKK := Lib.hid hk
      clear hb
      dsimp only
      go_wp2_with fail
      rw [← HL.out]
      refine rpow_any _ a k _ HA.out HKK.out (Nat.le_trans HLA.out.1 (by omega)) (Nat.le_trans HLA.out.2 (by omega)) _ ?_
      intro vr w3 hr hb3
      obtain ⟨q, hq⟩ : ∃ q : Rat, q = a ^ k := ⟨_, rfl⟩
      rw [← hq] at HR hr
      obtain ⟨nr, a5, n5, c5, a6, n6, c6, hnr, rfl, _, _⟩ := hr.parts
      have HR3 := Lib.hid hr
      have HB3 := Lib.hid (HEX.out.trans (hb3.mono HEX.out.size))
      clear hr hb3 hnr hq hA hB hC
      dsimp only
      go_wp2_with fail
      refine rtext_o _ q _ HR3.out (tab_later HTAB.out HB3.out (Nat.le_refl _)) _ ?_
      intro w9 hb9
      have HB9 := Lib.hid (HB3.out.trans (hb9.mono HB3.out.size))
      obtain ⟨S, hS⟩ : ∃ S, S = outS (some q) := ⟨_, rfl⟩
      obtain ⟨B, hB⟩ : ∃ B, B = outB (some q) := ⟨_, rfl⟩
      rw [← hS, ← hB] at HR ⊢
      clear hS hB hb9
      dsimp only
      go_wp2
      first | go_ret | skip
      exact HR.out _ HB9.out
    · rw [powO_out hb] at HR
      by_cases h8 : n < 0
      · clear hb
        dsimp only
        go_wp2_with fail
        first | go_ret | skip
        try rw [← HL.out]
        exact HR.out _ HEX.out
      · have h9 : (60 : Int) < n := by omega
        clear hb
        dsimp only
        go_wp2_with fail
        first | go_ret | skip
        try rw [← HL.out]
        exact HR.out _ HEX.out
  · intro e w1 hn he hb1
    rw [powO_none hn] at HR
    obtain ⟨t', p, rfl⟩ := he
    have HB := Lib.hid hb1
    clear hb1 hn
    unfold zeroR
    dsimp only
    go_wp2
    first | go_ret | skip
    exact HR.out _ (HB.out.alloc HB.out.size _)

end Go.Proofs.YtdkjcdfkoahfkaaGreatDoor

namespace Go.Proofs.YtdkjcdfkoahfkaaGreatDoor
open Go Go.RowKit

theorem dig_no_comma {l : List UInt8} (h : l.all isDig = true) : (44 : UInt8) ∉ l := by
  intro hm
  have := List.all_eq_true.1 h 44 hm
  exact absurd this (by decide)
theorem textQ_no_comma (q : Rat) : (44 : UInt8) ∉ textQ q := by
  unfold textQ
  intro hm
  rcases List.mem_append.1 hm with hm | hm
  · split at hm
    · simp at hm
    · simp at hm
  · rcases List.mem_append.1 hm with hm | hm
    · exact dig_no_comma (decs_all _) hm
    · split at hm
      · simp at hm
      · rcases List.mem_cons.1 hm with hm | hm
        · simp at hm
        · exact dig_no_comma (decs_all _) hm
theorem IsT.comma {A : ByteArray} {p : Rat} (h : IsT A p) : (44 : UInt8) ∉ A.data.toList := by
  rw [h.1]; simpa using textQ_no_comma p
theorem isNum_t {A : ByteArray} {p : Rat} (h : IsT A p) : isNum A = true := by unfold isNum; rw [h.num]; rfl
theorem qOf_t {A : ByteArray} {p : Rat} (h : IsT A p) : qOf A = p := by unfold qOf; rw [h.num]; rfl
theorem numsB3 {A B C : ByteArray} {p q r : Rat} (hA : IsT A p) (hB : IsT B q) (hC : IsT C r) : numsB [A, B, C] = true := by
  unfold numsB
  simp [isNum_t hA, isNum_t hB, isNum_t hC]
theorem split3 {A B C : ByteArray} {p q r : Rat} (hA : IsT A p) (hB : IsT B q) (hC : IsT C r) : splitB (textL [A, B, C]) = [A, B, C] := by
  have e : (textL [A, B, C]).data.toList = A.data.toList ++ 44 :: (B.data.toList ++ 44 :: C.data.toList) := by
    unfold textL
    rw [if_neg (by simp)]
    simp [Lib.join]
  unfold splitB
  rw [e, if_neg, pieces_cut _ _ hA.comma, pieces_cut _ _ hB.comma, pieces_none _ hC.comma]
  · simp
  · intro h
    have : (44 : UInt8) ∈ A.data.toList ++ 44 :: (B.data.toList ++ 44 :: C.data.toList) := by simp
    rw [h] at this
    simp at this
theorem size3 {A B C : ByteArray} {p q r : Rat} (hA : IsT A p) (hB : IsT B q) (hC : IsT C r) : (textL [A, B, C]).size ≤ 1000 := by
  have e : (textL [A, B, C]).data.toList = A.data.toList ++ 44 :: (B.data.toList ++ 44 :: C.data.toList) := by
    unfold textL
    rw [if_neg (by simp)]
    simp [Lib.join]
  have h1 := hA.size
  have h2 := hB.size
  have h3 := hC.size
  have h4 := congrArg List.length e
  rw [size_list, List.length_append, List.length_cons, List.length_append, List.length_cons, size_list, size_list, size_list] at h4
  omega

/-- a literal list of texts -/
theorem txL_lit (w : World) (L : List ByteArray) (t : TypeId) (n : Nat) (hn : n = L.length) (cs : Array Value) (hc : cs = (L.map Value.string).toArray) : TxL (w.alloc (.cells cs t)) (.slice (some ⟨w.heap.size, 0, none⟩) n n) L := by
  subst hn
  subst hc
  refine ⟨some ⟨w.heap.size, 0, none⟩, L.length, rfl, Nat.le_refl _, fun i x hi => ⟨w.heap.size, 0, [.string x], rfl, by simp, fun j u hj => ?_, rfl⟩⟩
  rcases j with _ | j
  · simp at hj
    subst hj
    have : (w.alloc (.cells (L.map Value.string).toArray t)).heap[w.heap.size]? = some (.cells (L.map Value.string).toArray t (0, 0)) := by
      show (w.heap.push _)[_]? = _
      simp
    simp only [World.cell?, this]
    simp [hi]
  · simp at hj

set_option maxRecDepth 100000 in
set_option maxHeartbeats 2000000 in
theorem b10texts_any (v1 v2 : Value) (L : List ByteArray) (w : World) (h1 : TxL w v1 L) (h2 : TxL w v2 L) (hn : L.length ≤ 1000) (R : Ending → World → Prop)
    (hR : ∀ w', Below w.heap.size w w' → R (.returned (.bool true)) w') :
    Calls Tryz.prog 33 #[v1, v2] w R := by
  have HR := Lib.hid hR; clear hR
  obtain ⟨a1, n, c1, rfl, hn1, hc1, hh1⟩ := h1.open
  obtain ⟨a2, n2, c2, rfl, hn2', hc2, hh2⟩ := h2.open
  obtain rfl : n2 = n := by omega
  have HH1 := Lib.hid hh1
  have HH2 := Lib.hid hh2
  have HN1 := Lib.hid hn1
  rw [← hn1] at hn
  clear h1 h2 hn1 hn2' hh1 hh2
  have e0 : ((n2 : Int) != (n2 : Int)) = false := by simp
  go_enter Tryz.func33, Tryz.ntmps33
  go_wp2
  clear e0
  go_loopw [5] (fun i wr => ∃ k : Nat, i = .int .i64 (k : Int) ∧ k ≤ n2 ∧ Below w.heap.size w wr) (fun i _ => n2 - (intOf i).toNat)
  case atStart => exact ⟨0, rfl, Nat.zero_le _, Below.refl _ _⟩
  case round =>
    obtain ⟨k, rfl, hk, hbel⟩ := hrel
    have HB := Lib.hid hbel
    by_cases hkn : k = n2
    · subst hkn
      have hkk : ¬ ((k : Int) < (k : Int)) := by omega
      clear hbel
      go_wp2
      first | go_ret | skip
      exact HR.out _ HB.out
    · have hkl : k < n2 := by omega
      obtain ⟨s, hs⟩ : ∃ s, L[k]? = some s := ⟨_, List.getElem?_eq_getElem (by rw [← HN1.out]; exact hkl)⟩
      obtain ⟨b1, o1, rfl, hb1, hcell1⟩ := TxL.at HH1.out k s hs
      obtain ⟨b2, o2, rfl, hb2, hcell2⟩ := TxL.at HH2.out k s hs
      rw [← hbel.cell (p := ⟨b1, o1 + k, none⟩) hb1] at hcell1
      rw [← hbel.cell (p := ⟨b2, o2 + k, none⟩) hb2] at hcell2
      have hw1 : IntKind.i64.wrap ((k : Int) + 1) = ((k + 1 : Nat) : Int) := by rw [IntWalk.i64_in _ (by omega)]; omega
      have hk0 : (0 : Int) ≤ (k : Int) := by omega
      have hk1 : (k : Int) < (n2 : Int) := by omega
      have e9 : (s.toList == s.toList) = true := by simp
      clear hs hbel
      go_wp2
      go_quiet (fail)
      go_wp2
      go_roundw
      case rel => exact ⟨k + 1, by first | rfl | go_num, by omega, below_draws HB.out _⟩
      case measure => simp [intOf]; omega

theorem two_t : IsT ⟨#[50]⟩ 2 := by
  have h1 : (2 : Rat).num = 2 := rfl
  have h2 : (2 : Rat).den = 1 := rfl
  refine ⟨?_, few_bd ⟨?_, ?_⟩⟩
  · unfold textQ
    rw [h1, h2]
    simp [decs, dig_small]
    rfl
  · rw [h1]; show 2 < _; omega
  · rw [h2]; show 1 < _; omega
theorem bd_two : Bd 1 2 := ⟨by show (2 : Int).natAbs < _; omega, by show 1 < _; omega⟩

set_option maxRecDepth 100000 in
set_option maxHeartbeats 4000000 in
theorem law_fnNumberTexts (v1 v2 : Value) (w : World) (hE : Env w) (hM : HasMax w) (htab : Lib.TabIs Tryz.prog w "internal/strconv.uint64pow10" .u64 Lib.pow10Tab) (h1 : ByB w v1) (h2 : ByB w v2) (R : Ending → World → Prop)
    (hR : ∀ w', Below w.heap.size w w' → R (.returned (.bool true)) w') :
    Calls Tryz.prog 5 #[v1, v2] w R := by
  have HR := Lib.hid hR; clear hR
  have HE := Lib.hid hE; clear hE
  have HM := Lib.hid hM; clear hM
  have HTAB := Lib.hid htab; clear htab
  have H1 := Lib.hid h1
  have H2 := Lib.hid h2
  obtain ⟨a1, n1, c1, rfl, _⟩ := h1
  obtain ⟨a2, n2, c2, rfl, _⟩ := h2
  go_enter Tryz.func5, Tryz.ntmps5
  go_wp2_with fail
  refine b10long_any _ _ _ H1.out H2.out _ ?_
  intro b0
  cases b0
  rotate_left
  · dsimp only
    go_wp2
    first | go_ret | skip
    exact HR.out _ (Below.refl _ _)
  dsimp only
  go_wp2_with fail
  refine b10number_any _ _ H1.out _ ?_
  intro A p w1 hA hp hb1
  have HA := Lib.hid hA
  have HP := Lib.hid hp
  have HB1 := Lib.hid hb1
  have H2a := Lib.hid (H2.out.later hb1)
  clear hA hp hb1
  dsimp only
  go_wp2_with fail
  refine b10number_any _ _ H2a.out _ ?_
  intro B q w2 hA hp hb2
  have HB := Lib.hid hA
  have HQ := Lib.hid hp
  have HB2 := Lib.hid (HB1.out.trans (hb2.mono HB1.out.size))
  clear hA hp hb2
  dsimp only
  go_wp2_with fail
  have hbl := (Below.refl w2.heap.size w2).alloc (Nat.le_refl _) (.cells #[.string A, .string B, .string A] 9)
  have HBL := Lib.hid (HB2.out.trans (hbl.mono HB2.out.size))
  refine impl_numbersText _ [A, B, A] _ (HE.out.later HBL.out (Nat.le_refl _)) (txL_lit w2 [A, B, A] _ 3 rfl _ (by simp)) (by simp) _ ?_
  intro w3 hb3
  rw [numsB3 HA.out HB.out HA.out]
  obtain ⟨T, hT⟩ : ∃ T, T = ntS [A, B, A] := ⟨_, rfl⟩
  have HT : Hid (splitB T = [A, B, A] ∧ T.size ≤ 1000) := Lib.hid (by
    have e : T = textL [A, B, A] := by rw [hT]; unfold ntS; rw [if_pos (numsB3 HA.out HB.out HA.out)]
    rw [e]; exact ⟨split3 HA.out HB.out HA.out, size3 HA.out HB.out HA.out⟩)
  rw [← hT]
  have HB3 := Lib.hid (HBL.out.trans (hb3.mono HBL.out.size))
  clear hb3 hT hbl
  dsimp only
  go_wp2_with fail
  refine impl_readNumbers T _ (HE.out.later HB3.out (Nat.le_refl _)) (HM.out.later HB3.out (Nat.le_refl _)) (by have := HT.out.2; omega) _ ?_
  intro v4 w4 hv4 hb4
  have hr : readL T = [A, B, A] := by unfold readL; rw [HT.out.1, if_pos (numsB3 HA.out HB.out HA.out)]
  rw [hr] at hv4
  rw [HT.out.1, numsB3 HA.out HB.out HA.out]
  obtain ⟨x4, y4, z4, rfl, ey⟩ := hv4.shape
  obtain rfl : y4 = 3 := ey
  have HV4 := Lib.hid hv4
  have HB4 := Lib.hid (HB3.out.trans (hb4.mono HB3.out.size))
  clear hb4 hv4 hr
  dsimp only
  go_wp2_with fail
  have hbl1 := (Below.refl w4.heap.size w4).alloc (Nat.le_refl _) (.cells #[.string A, .string B] 9)
  have hbl2 := hbl1.alloc (by simp) (.cells #[.string B, .string ⟨#[50]⟩] 9)
  have hx1 := (txL_lit w4 [A, B] 9 2 rfl #[.string A, .string B] (by simp)).later ((Below.refl (w4.alloc (.cells #[.string A, .string B] 9)).heap.size _).alloc (Nat.le_refl _) (.cells #[.string B, .string ⟨#[50]⟩] 9)) (Nat.le_refl _)
  have hx2 := txL_lit (w4.alloc (.cells #[.string A, .string B] 9)) [B, ⟨#[50]⟩] 9 2 rfl #[.string B, .string ⟨#[50]⟩] (by simp)
  rw [World.size_alloc] at hx2
  have HBL2 := Lib.hid (HB4.out.trans (hbl2.mono HB4.out.size))
  refine impl_dot _ _ [A, B] [B, ⟨#[50]⟩] _ (HE.out.later HBL2.out (Nat.le_refl _)) (tab_later HTAB.out HBL2.out (Nat.le_refl _)) hx1 hx2 (by simp) (by simp) _ ?_
  intro w5 hb5
  obtain ⟨d, hd⟩ : ∃ d : Rat, d = p * q + q * 2 := ⟨_, rfl⟩
  have HDB : Hid (Bd 60 d) := Lib.hid (by rw [hd]; exact ((HP.out.mul HQ.out).add (HQ.out.mul bd_two)).mono (by omega))
  have hdot : dotO [A, B] [B, ⟨#[50]⟩] = some d := by
    unfold dotO
    rw [if_pos (by simp [isNum_t HA.out, isNum_t HB.out, isNum_t two_t])]
    simp only [List.map_cons, List.map_nil, qOf_t HA.out, qOf_t HB.out, qOf_t two_t, dotQ, sumQ, List.zipWith, List.foldl, Rat.zero_add]
    rw [hd]
  rw [hdot, (out_t (few_bd HDB.out)).2]
  have hDT := (out_t (few_bd HDB.out)).1
  obtain ⟨D, hD⟩ : ∃ D, D = outS (some d) := ⟨_, rfl⟩
  rw [← hD] at hDT ⊢
  have HDT := Lib.hid hDT
  have HDD := Lib.hid hd
  have HB5 := Lib.hid (HBL2.out.trans (hb5.mono HBL2.out.size))
  have HV5 := Lib.hid (HV4.out.later elemT (hbl2.trans (hb5.mono hbl2.size)) (Nat.le_refl _))
  clear hb5 hD hDT hdot hd hbl1 hbl2 hx1 hx2
  dsimp only
  go_wp2_with fail
  refine bmul_t A B p q _ _ HA.out HB.out ((HP.out.mul HQ.out).mono (by omega)) ?_
  intro C w6 hC hb6
  have HC := Lib.hid hC
  have HB6 := Lib.hid (HB5.out.trans (hb6.mono HB5.out.size))
  have HV6 := Lib.hid (HV5.out.later elemT hb6 (Nat.le_refl _))
  clear hC hb6
  dsimp only
  go_wp2_with fail
  have hbl3 := (Below.refl w6.heap.size w6).alloc (Nat.le_refl _) (.cells #[.string C, .string B, .string B] 9)
  have HBL3 := Lib.hid (HB6.out.trans (hbl3.mono HB6.out.size))
  refine impl_sum _ [C, B, B] _ (HE.out.later HBL3.out (Nat.le_refl _)) (tab_later HTAB.out HBL3.out (Nat.le_refl _)) (txL_lit w6 [C, B, B] 9 3 rfl #[.string C, .string B, .string B] (by simp)) (by simp) _ ?_
  intro w7 hb7
  have hsum : sumO [C, B, B] = some d := by
    unfold sumO
    rw [if_pos (by simp [isNum_t HC.out, isNum_t HB.out])]
    simp only [List.map_cons, List.map_nil, qOf_t HC.out, qOf_t HB.out, sumQ, List.foldl, Rat.zero_add]
    rw [HDD.out, show (2 : Rat) = 1 + 1 by decide +kernel, Rat.mul_add, Rat.mul_one, Rat.add_assoc]
  rw [hsum, (out_t (few_bd HDB.out)).2]
  have hST := (out_t (few_bd HDB.out)).1
  obtain ⟨S, hS⟩ : ∃ S, S = outS (some d) := ⟨_, rfl⟩
  rw [← hS] at hST ⊢
  obtain rfl : S = D := hST.eq HDT.out rfl
  have HB7 := Lib.hid (HBL3.out.trans (hb7.mono HBL3.out.size))
  have HV7 := Lib.hid (HV6.out.later elemT (hbl3.trans (hb7.mono hbl3.size)) (Nat.le_refl _))
  clear hb7 hS hST hsum hbl3
  dsimp only
  go_wp2_with fail
  refine impl_powerOf A 2 _ (HE.out.later HB7.out (Nat.le_refl _)) (tab_later HTAB.out HB7.out (Nat.le_refl _)) _ ?_
  intro w8 hb8
  have hpow : powO A.data.toList 2 = some (p * p) := by
    have h9 := powO_some (k := 2) HA.out.num (by omega)
    have e : p ^ 2 = p * p := by rw [Rat.pow_succ, Rat.pow_succ, Rat.pow_zero, Rat.one_mul]
    rw [e] at h9
    exact h9
  have HPB : Hid (Bd 60 (p * p)) := Lib.hid ((HP.out.mul HP.out).mono (by omega))
  rw [hpow, (out_t (few_bd HPB.out)).2]
  have hPT := (out_t (few_bd HPB.out)).1
  obtain ⟨E, hE⟩ : ∃ E, E = outS (some (p * p)) := ⟨_, rfl⟩
  rw [← hE] at hPT ⊢
  have HPT := Lib.hid hPT
  have HB8 := Lib.hid (HB7.out.trans (hb8.mono HB7.out.size))
  have HV8 := Lib.hid (HV7.out.later elemT hb8 (Nat.le_refl _))
  clear hb8 hE hPT hpow
  dsimp only
  go_wp2_with fail
  have hbl4 := (Below.refl w8.heap.size w8).alloc (Nat.le_refl _) (.cells #[.string A, .string B, .string A] 9)
  have HBL4 := Lib.hid (HB8.out.trans (hbl4.mono HB8.out.size))
  refine b10texts_any _ _ [A, B, A] _ (HV8.out.tx.later hbl4 (Nat.le_refl _)) (txL_lit w8 [A, B, A] 9 3 rfl #[.string A, .string B, .string A] (by simp)) (by simp) _ ?_
  intro w9 hb9
  have HB9 := Lib.hid (HBL4.out.trans (hb9.mono HBL4.out.size))
  clear hb9 hbl4
  dsimp only
  go_wp2_with fail
  refine bmul_t A A p p _ _ HA.out HA.out HPB.out ?_
  intro F w10 hF hb10
  obtain rfl : F = E := hF.eq HPT.out rfl
  have HB10 := Lib.hid (HB9.out.trans (hb10.mono HB9.out.size))
  clear hF hb10
  dsimp only
  go_wp2
  first | go_ret | skip
  exact HR.out _ HB10.out
end Go.Proofs.YtdkjcdfkoahfkaaGreatDoor
