/- Contracts of functions of the program and of the model: Lst, Tx, Rats, AddQ, EQ, Mark, MarkL, FitQ, TextL, Spread, NumLen, ZeroQ, TrimS, Give, Chunk, FmtU, Bld. -/
import Derived.Test.YtegdcmcfeaohhaaGreatDoorPk5
import Derived.Deep.RegionHeld3
import Derived.Deep.RegionLaw
import Derived.Lib.AppendIntMem
import Derived.Lib.ItoaMem
import Derived.Shelf.Strings.Builder1
set_option linter.all false
set_option linter.unusedVariables false
set_option linter.unusedSimpArgs false
set_option linter.unnecessarySimpa false
set_option linter.deprecated false
namespace Go.Proofs.YtegdcmcfeaohhaaGreatDoor
open Go Go.RowKit

/-- what is asked of the reading of an element -/
structure Elem {α : Type} (sz : Nat) (E : World → List Value → α → Prop) : Prop where
  len : ∀ {w cs x}, E w cs x → cs.length = sz
  ints : ∀ {w cs x}, E w cs x → ∀ u ∈ cs, notInt u = true
  one : ∀ {w cs x}, E w cs x → ∀ u ∈ cs, u.oneCell' = true
  keep : ∀ {w w' g cs x}, E w cs x → But g w w' → NoInt w g → E w' cs x

theorem NoInt.new (w : World) (b : Nat) (h : w.heap.size ≤ b) : NoInt w b := by
  intro o u hu
  simp [World.cell?, Array.getElem?_eq_none h] at hu

theorem NoInt.of {w : World} {g : Nat} {cur : Array Value} {e : TypeId} (h : w.heap[g]? = some (.cells cur e (0, 0))) (hc : ∀ u ∈ cur.toList, notInt u = true) : NoInt w g := by
  intro o u hu
  simp only [World.cell?, h, Option.isSome_none, Bool.false_eq_true, if_false] at hu
  exact hc u (by rw [← Array.getElem?_toList] at hu; exact List.mem_of_getElem? hu)

theorem Elem.below {α : Type} {sz : Nat} {E : World → List Value → α → Prop} (hE : Elem sz E) {w w' : World} {cs : List Value} {x : α} {B : Nat} (h : E w cs x) (hb : Below B w w') (hB : w.heap.size ≤ B) : E w' cs x :=
  hE.keep (g := w.heap.size) h (But.ofBelow (hb.mono hB)) (NoInt.new _ _ (Nat.le_refl _))

/-- a slice value reads as a list -/
def SlE {α : Type} (sz : Nat) (E : World → List Value → α → Prop) (w : World) (v : Value) (xs : List α) : Prop :=
  ∃ ao cap, v = .slice ao xs.length cap ∧ xs.length ≤ cap ∧ ∀ i x, xs[i]? = some x → ∃ b off cs, ao = some ⟨b, off, none⟩ ∧ b < w.heap.size ∧ (∀ j u, cs[j]? = some u → w.cell? ⟨b, off + (i * sz + j), none⟩ = some u) ∧ E w cs x

theorem SlE.later {α : Type} {sz : Nat} {E : World → List Value → α → Prop} (hE : Elem sz E) {w w' : World} {v : Value} {xs : List α} {B : Nat} (h : SlE sz E w v xs) (hb : Below B w w') (hB : w.heap.size ≤ B) : SlE sz E w' v xs := by
  obtain ⟨ao, cap, hv, hc, hx⟩ := h
  refine ⟨ao, cap, hv, hc, fun i x hi => ?_⟩
  obtain ⟨b, off, cs, h1, h2, h3, h4⟩ := hx i x hi
  exact ⟨b, off, cs, h1, Nat.lt_of_lt_of_le h2 hb.size, fun j u hj => by rw [hb.cell (by exact Nat.lt_of_lt_of_le h2 hB)]; exact h3 j u hj, hE.below h4 hb hB⟩

theorem SlE.open {α : Type} {sz : Nat} {E : World → List Value → α → Prop} {w : World} {v : Value} {xs : List α} (h : SlE sz E w v xs) : ∃ ao n cap, v = .slice ao n cap ∧ n = xs.length ∧ n ≤ cap ∧ SlE sz E w (.slice ao n cap) xs := by
  obtain ⟨ao, cap, rfl, hc, hx⟩ := h
  exact ⟨ao, _, cap, rfl, rfl, hc, ao, cap, rfl, hc, hx⟩

theorem SlE.at {α : Type} {sz : Nat} {E : World → List Value → α → Prop} {w : World} {ao : Option Addr} {n cap : Nat} {xs : List α} (h : SlE sz E w (.slice ao n cap) xs) (i : Nat) (x : α) (hi : xs[i]? = some x) :
    ∃ b off cs, ao = some ⟨b, off, none⟩ ∧ b < w.heap.size ∧ (∀ j u, cs[j]? = some u → w.cell? ⟨b, off + (i * sz + j), none⟩ = some u) ∧ E w cs x := by
  obtain ⟨_, _, hv, _, hx⟩ := h
  simp only [Value.slice.injEq] at hv
  obtain ⟨rfl, _, _⟩ := hv
  exact hx i x hi

theorem SlE.nil {α : Type} {sz : Nat} {E : World → List Value → α → Prop} (w : World) (ao : Option Addr) (cap : Nat) : SlE sz E w (.slice ao 0 cap) ([] : List α) :=
  ⟨ao, cap, rfl, Nat.zero_le _, fun i x h => by simp at h⟩

/-- a slice that the call has made itself, from block B on; no cell of its block holds a number -/
def OwE {α : Type} (sz : Nat) (E : World → List Value → α → Prop) (e : TypeId) (w : World) (B : Nat) (v : Value) (xs : List α) : Prop :=
  (v = .slice none 0 0 ∧ xs = []) ∨ ∃ g cap cur, v = .slice (some ⟨g, 0, none⟩) xs.length cap ∧ B ≤ g ∧ w.heap[g]? = some (.cells cur e (0, 0)) ∧ xs.length ≤ cap ∧ cap ≤ maxLen ∧ cur.size = cap * sz ∧
    (∀ u ∈ cur.toList, notInt u = true) ∧ ∀ i x, xs[i]? = some x → E w ((cur.toList.drop (i * sz)).take sz) x

theorem OwE.nil {α : Type} {sz : Nat} {E : World → List Value → α → Prop} (e : TypeId) (w : World) (B : Nat) : OwE sz E e w B (.slice none 0 0) ([] : List α) := .inl ⟨rfl, rfl⟩

theorem OwE.lit {α : Type} {sz : Nat} {E : World → List Value → α → Prop} (e : TypeId) (w : World) (B : Nat) (hB : B ≤ w.heap.size) : OwE sz E e (w.alloc (.cells #[] e)) B (.slice (some ⟨w.heap.size, 0, none⟩) 0 0) ([] : List α) := by
  refine .inr ⟨w.heap.size, 0, #[], rfl, hB, ?_, Nat.le_refl _, by simp only [maxLen]; omega, by simp, by simp, fun i x h => by simp at h⟩
  show (w.heap.push _)[_]? = _
  simp

theorem OwE.shape {α : Type} {sz : Nat} {E : World → List Value → α → Prop} {e : TypeId} {w : World} {B : Nat} {v : Value} {xs : List α} (h : OwE sz E e w B v xs) : ∃ ao n c, v = .slice ao n c ∧ n = xs.length := by
  rcases h with ⟨rfl, rfl⟩ | ⟨g, cap, cur, rfl, _⟩
  · exact ⟨none, 0, 0, rfl, rfl⟩
  · exact ⟨_, _, _, rfl, rfl⟩

theorem OwE.later {α : Type} {sz : Nat} {E : World → List Value → α → Prop} (hE : Elem sz E) {e : TypeId} {w w' : World} {B B' : Nat} {v : Value} {xs : List α} (h : OwE sz E e w B v xs) (hb : Below B' w w') (hB : w.heap.size ≤ B') : OwE sz E e w' B v xs := by
  rcases h with h | ⟨g, cap, cur, h1, h2, h3, h4, h5, h6, h7, h8⟩
  · exact .inl h
  · exact .inr ⟨g, cap, cur, h1, h2, by rw [hb.block g (Nat.lt_of_lt_of_le (lt_of_block h3) hB)]; exact h3, h4, h5, h6, h7, fun i x hi => hE.below (h8 i x hi) hb hB⟩

theorem OwE.drew {α : Type} {sz : Nat} {E : World → List Value → α → Prop} (hE : Elem sz E) {e : TypeId} {w : World} {B : Nat} {v : Value} {xs : List α} (h : OwE sz E e w B v xs) : OwE sz E e w.drew B v xs :=
  h.later hE (Below.refl w.heap.size w).drew (Nat.le_refl _)

theorem OwE.noInt {α : Type} {sz : Nat} {E : World → List Value → α → Prop} {e : TypeId} {w : World} {B : Nat} {v : Value} {xs : List α} (h : OwE sz E e w B v xs) : ∀ g, v.ownBlock = some g → NoInt w g := by
  rcases h with ⟨rfl, _⟩ | ⟨g, cap, cur, rfl, h2, h3, h4, h5, h6, h7, h8⟩
  · intro g hg; cases hg
  · intro g' hg
    obtain rfl : g = g' := by simpa [Value.ownBlock] using hg
    exact NoInt.of h3 h7

theorem seg_le {i n sz : Nat} (h : i < n) : i * sz + sz ≤ n * sz := by
  have := Nat.mul_le_mul_right sz (show i + 1 ≤ n from h)
  rw [Nat.add_mul, Nat.one_mul] at this
  exact this

theorem OwE.sl {α : Type} {sz : Nat} {E : World → List Value → α → Prop} {e : TypeId} {w : World} {B : Nat} {v : Value} {xs : List α} (h : OwE sz E e w B v xs) : SlE sz E w v xs := by
  rcases h with ⟨rfl, rfl⟩ | ⟨g, cap, cur, rfl, h2, h3, h4, h5, h6, h7, h8⟩
  · exact SlE.nil _ _ _
  · refine ⟨_, cap, rfl, h4, fun i x hi => ⟨g, 0, _, rfl, lt_of_block h3, fun j u hj => ?_, h8 i x hi⟩⟩
    simp only [World.cell?, h3, Option.isSome_none, Bool.false_eq_true, if_false, Nat.zero_add]
    rw [← Array.getElem?_toList]
    rw [List.getElem?_take] at hj
    split at hj
    · rw [List.getElem?_drop] at hj; exact hj
    · cases hj

theorem seg_lt {A B : List Value} {n sz i : Nat} (hA : A.length = n * sz) (hi : i < n) : ((A ++ B).drop (i * sz)).take sz = (A.drop (i * sz)).take sz := by
  have h := seg_le (sz := sz) hi
  rw [List.drop_append_of_le_length (by omega), List.take_append_of_le_length (by rw [List.length_drop]; omega)]

theorem seg_take {C : List Value} {n sz i : Nat} (hi : i < n) : ((C.take (n * sz)).drop (i * sz)).take sz = (C.drop (i * sz)).take sz := by
  have h := seg_le (sz := sz) hi
  rw [List.drop_take, List.take_take]
  congr 1
  omega

theorem seg_at {A news Z : List Value} {n sz : Nat} (hA : A.length = n * sz) (hn : news.length = sz) : ((A ++ (news ++ Z)).drop (n * sz)).take sz = news := by
  rw [← hA, List.drop_left, ← hn, List.take_left]

theorem zeroCells_ints (z : Array Value) (n : Nat) (h : ∀ u ∈ z.toList, notInt u = true) : ∀ u ∈ (Builtin.zeroCells z n).toList, notInt u = true := by
  intro u hu
  simp only [Builtin.zeroCells, Array.toList_map, List.mem_map] at hu
  obtain ⟨i, hi, rfl⟩ := hu
  have hi' : i < n * z.size := by simpa using hi
  have hz : 0 < z.size := by
    rcases Nat.eq_zero_or_pos z.size with h0 | h0
    · rw [h0] at hi'; simp at hi'
    · exact h0
  have hm : i % z.size < z.size := Nat.mod_lt _ hz
  rw [getElem!_pos z _ hm]
  exact h _ (Array.mem_toList_iff.2 (Array.getElem_mem hm))

theorem get_snoc {α : Type} {xs : List α} {x y : α} {i : Nat} (h : (xs ++ [x])[i]? = some y) : (i < xs.length ∧ xs[i]? = some y) ∨ (i = xs.length ∧ x = y) := by
  rcases Nat.lt_trichotomy i xs.length with h1 | h1 | h1
  · rw [List.getElem?_append_left h1] at h; exact .inl ⟨h1, h⟩
  · subst h1; rw [List.getElem?_append_right (Nat.le_refl _)] at h; simp at h; exact .inr ⟨rfl, h⟩
  · rw [List.getElem?_eq_none (by simp; omega)] at h; cases h

/-- one element is appended to a slice that the call has made -/
theorem run_pushE {α : Type} {P : Program} {w : World} {sz : Nat} {E : World → List Value → α → Prop} (hE : Elem sz E) (hsz : 0 < sz) (t ty e : TypeId) (bytes : Nat) (z : Value) (ht : P.underlying t = some (.slice e))
    (hi : (P.info? e).map (fun i => (i.zero, i.size, i.bytes)) = some (some z, sz, bytes)) (hzs : z.cells.size = sz) (hzi : ∀ u ∈ z.cells.toList, notInt u = true) (hby : bytes ≤ 100)
    (B : Nat) (v : Value) (xs : List α) (h : OwE sz E e w B v xs) (hlen : xs.length ≤ 100000000) (hB : B ≤ w.heap.size) (g : Nat) (cs : List Value) (x : α) (hcs : E w cs x) (hc : ∀ j u, cs[j]? = some u → w.cell? ⟨g, j, none⟩ = some u) :
    ∃ v' w', (Builtin.append_ #[t, t] ty #[v, .slice (some ⟨g, 0, none⟩) 1 1]).run P w = .ok v' w' ∧ OwE sz E e w' B v' (xs ++ [x]) ∧ w.grownBy w' v.ownBlock ∧ Below B w w' := by
  obtain ⟨i0, hi0, hz0, hz1, hz2⟩ := info_parts hi
  subst hz1
  have hl : cs.length = 1 * i0.size := by rw [hE.len hcs, Nat.one_mul]
  have hnews : ∀ j u, cs[j]? = some u → w.cell? ((⟨g, 0, none⟩ : Addr).add j) = some u := fun j u hj => by
    rw [Addr.add_lit, Nat.zero_add]; exact hc j u hj
  have hbyt : ∀ k : Nat, k ≤ 100000001 → k * i0.bytes ≤ 140737488355328 := fun k hk => by
    have : k * i0.bytes ≤ 100000001 * 100 := Nat.mul_le_mul hk (by omega)
    omega
  have fresh : ∀ (o : Obj), Below w.heap.size w (w.drew.alloc o) := fun o => (Below.refl _ _).drew.alloc (Nat.le_refl _) o
  have hzl : ∀ k : Nat, (Builtin.zeroCells z.cells k).toList.length = k * i0.size := fun k => by rw [Array.length_toList, size_zeroCells, hzs]
  have grownAll : ∀ (A Z : List Value) (cap : Nat), A.length = xs.length * i0.size → xs.length + 1 ≤ cap → cap ≤ maxLen → (A ++ (cs ++ Z)).length = cap * i0.size → (∀ u ∈ A, notInt u = true) → (∀ u ∈ Z, notInt u = true) →
      (∀ i y, xs[i]? = some y → E w ((A.drop (i * i0.size)).take i0.size) y) →
      OwE i0.size E e (w.drew.alloc (.cells (A ++ (cs ++ Z)).toArray e)) B (.slice (some ⟨w.heap.size, 0, none⟩) (xs.length + 1) cap) (xs ++ [x]) := by
    intro A Z cap hA hcap hmax hsize hAi hZi hel
    refine .inr ⟨w.heap.size, cap, (A ++ (cs ++ Z)).toArray, by rw [List.length_append]; rfl, hB, ?_, by rw [List.length_append]; exact hcap, hmax, hsize, ?_, ?_⟩
    · show (w.heap.push _)[_]? = _
      simp
    · intro u hu
      simp only [List.mem_append] at hu
      rcases hu with hu | hu | hu
      · exact hAi u hu
      · exact hE.ints hcs u hu
      · exact hZi u hu
    · intro i y hy
      rcases get_snoc hy with ⟨h1, h2⟩ | ⟨rfl, rfl⟩
      · show E _ (((A ++ (cs ++ Z)).drop (i * i0.size)).take i0.size) y
        rw [seg_lt hA h1]
        exact hE.below (hel i y h2) (fresh _) (Nat.le_refl _)
      · show E _ (((A ++ (cs ++ Z)).drop (xs.length * i0.size)).take i0.size) x
        rw [seg_at hA (hE.len hcs)]
        exact hE.below hcs (fresh _) (Nat.le_refl _)
  rcases h with ⟨rfl, rfl⟩ | ⟨g0, cap, cur, rfl, h2, h3, h4, h5, h6, h7, h8⟩
  · have hr := run_append_nil (P := P) w t ty e i0 z ht hi0 hz0 ⟨g, 0, none⟩ 1 1 cs hl hnews (by omega) (by omega) (by have := hbyt 1 (by omega); omega)
    have hge := grownCap_ge w 1 0 e
    have e1 : cs.toArray ++ Builtin.zeroCells z.cells (grownCap w 1 0 e - 1) = ([] ++ (cs ++ (Builtin.zeroCells z.cells (grownCap w 1 0 e - 1)).toList)).toArray := Array.toList_inj.1 (by simp)
    rw [e1] at hr
    refine ⟨_, _, hr, ?_, ⟨rfl, rfl, rfl, by simp, fun k hk _ => (fresh _).block k hk⟩, (fresh _).mono hB⟩
    refine grownAll [] _ _ (by simp) hge (grownCap_le_maxLen w 1 0 e (by simp only [maxLen]; omega)) ?_ (by simp) (zeroCells_ints _ _ hzi) (fun i y hy => by simp at hy)
    rw [List.nil_append, List.length_append, hzl, hl, ← Nat.add_mul]
    congr 1; omega
  · have hnc : cur.toList.length = cap * i0.size := by rw [Array.length_toList]; exact h6
    have hle : xs.length * i0.size ≤ cap * i0.size := Nat.mul_le_mul_right _ h4
    have hA : (cur.toList.take (xs.length * i0.size)).length = xs.length * i0.size := by rw [List.length_take]; omega
    by_cases hroom : xs.length + 1 ≤ cap
    · have hfit : xs.length * i0.size + cs.length ≤ cur.size := by
        rw [hl, h6, ← Nat.add_mul]; exact Nat.mul_le_mul_right _ hroom
      have hr := run_append_room (P := P) w t ty e i0 ht hi0 g0 xs.length cap cur h3 ⟨g, 0, none⟩ 1 1 cs hl hnews (hE.one hcs) hroom hfit
      have hbut : But g0 w (w.setRow g0 (cur.toList.take (xs.length * i0.size) ++ cs ++ cur.toList.drop (xs.length * i0.size + cs.length)).toArray) :=
        ⟨rfl, rfl, rfl, by simp, fun k _ hk => setRow_other w g0 k _ hk⟩
      have hni := NoInt.of h3 h7
      refine ⟨_, _, hr, ?_, ⟨rfl, rfl, rfl, by simp, fun k _ hk => setRow_other w g0 k _ (fun e9 => hk (by simp [Value.ownBlock, e9]))⟩, hbut.below h2 hB⟩
      refine .inr ⟨g0, cap, _, by rw [List.length_append]; rfl, h2, setRow_heap w g0 cur _ e _ h3, by rw [List.length_append]; exact hroom, h5, ?_, ?_, ?_⟩
      · simp only [List.size_toArray, List.length_append, List.length_take, List.length_drop, Array.length_toList]
        omega
      · intro u hu
        simp only [List.mem_append] at hu
        rcases hu with (hu | hu) | hu
        · exact h7 u (List.mem_of_mem_take hu)
        · exact hE.ints hcs u hu
        · exact h7 u (List.mem_of_mem_drop hu)
      · intro i y hy
        rcases get_snoc hy with ⟨q1, q2⟩ | ⟨rfl, rfl⟩
        · show E _ (((cur.toList.take (xs.length * i0.size) ++ cs ++ cur.toList.drop (xs.length * i0.size + cs.length)).drop (i * i0.size)).take i0.size) y
          have e9 : ((cur.toList.take (xs.length * i0.size) ++ cs ++ cur.toList.drop (xs.length * i0.size + cs.length)).drop (i * i0.size)).take i0.size = (cur.toList.drop (i * i0.size)).take i0.size := by
            rw [List.append_assoc, seg_lt hA q1, seg_take q1]
          rw [e9]
          exact hE.keep (h8 i y q2) hbut hni
        · show E _ (((cur.toList.take (xs.length * i0.size) ++ cs ++ cur.toList.drop (xs.length * i0.size + cs.length)).drop (xs.length * i0.size)).take i0.size) x
          have e9 : ((cur.toList.take (xs.length * i0.size) ++ cs ++ cur.toList.drop (xs.length * i0.size + cs.length)).drop (xs.length * i0.size)).take i0.size = cs := by
            rw [List.append_assoc, seg_at hA (hE.len hcs)]
          rw [e9]
          exact hE.keep hcs hbut hni
    · have holds : ∀ j u, (cur.toList.take (xs.length * i0.size))[j]? = some u → w.cell? ((⟨g0, 0, none⟩ : Addr).add j) = some u := by
        intro j u hj
        rw [Addr.add_lit, Nat.zero_add]
        simp only [World.cell?, h3, Option.isSome_none, Bool.false_eq_true, if_false]
        rw [← Array.getElem?_toList]
        rw [List.getElem?_take] at hj
        split at hj
        · exact hj
        · cases hj
      have hr := run_append_grow (P := P) w t ty e i0 z ht hi0 hz0 ⟨g0, 0, none⟩ xs.length cap (cur.toList.take (xs.length * i0.size)) hA holds ⟨g, 0, none⟩ 1 1 cs hl hnews (by omega) (by omega) (growslice_fits (by omega) (hbyt _ (by omega)))
      have hge := grownCap_ge w (xs.length + 1) cap e
      have e1 : (cur.toList.take (xs.length * i0.size)).toArray ++ cs.toArray ++ Builtin.zeroCells z.cells (grownCap w (xs.length + 1) cap e - (xs.length + 1)) =
          (cur.toList.take (xs.length * i0.size) ++ (cs ++ (Builtin.zeroCells z.cells (grownCap w (xs.length + 1) cap e - (xs.length + 1))).toList)).toArray := Array.toList_inj.1 (by simp)
      rw [e1] at hr
      refine ⟨_, _, hr, ?_, ⟨rfl, rfl, rfl, by simp, fun k hk _ => (fresh _).block k hk⟩, (fresh _).mono hB⟩
      refine grownAll _ _ _ hA hge (grownCap_le_maxLen w (xs.length + 1) cap e (by simp only [maxLen]; omega)) ?_ (fun u hu => h7 u (List.mem_of_mem_take hu)) (zeroCells_ints _ _ hzi) (fun i y hy => ?_)
      · rw [List.length_append, List.length_append, hA, hzl, hl, ← Nat.add_assoc, ← Nat.add_mul, ← Nat.add_mul]
        congr 1; omega
      · have hi9 : i < xs.length := (List.getElem?_eq_some_iff.1 hy).1
        rw [seg_take hi9]
        exact h8 i y hy

/-- the same as an operation of a walk -/
theorem wpList_pushE {α : Type} {P : Program} {w : World} {ops : Array Oper} {rest : List Oper} {o : Oper} {a : Act} {Q : Exit → Act → World → Prop} {sz : Nat} {E : World → List Value → α → Prop} (hE : Elem sz E) (hsz : 0 < sz) (hgd : o.guard = none) (s x : Operand) (t : TypeId)
    (ho : o.op = .call { callee := .builtin .append, args := #[s, x], argTypes := #[t, t] })
    (e : TypeId) (bytes : Nat) (z : Value) (ht : P.underlying t = some (.slice e))
    (hi : (P.info? e).map (fun i => (i.zero, i.size, i.bytes)) = some (some z, sz, bytes)) (hzs : z.cells.size = sz) (hzi : ∀ u ∈ z.cells.toList, notInt u = true) (hby : bytes ≤ 100)
    (B : Nat) (xs : List α) (h : OwE sz E e w B (a.eval s) xs) (hlen : xs.length ≤ 100000000) (hB : B ≤ w.heap.size) (g : Nat) (cs : List Value) (y : α) (hx : a.eval x = .slice (some ⟨g, 0, none⟩) 1 1) (hcs : E w cs y) (hc : ∀ j u, cs[j]? = some u → w.cell? ⟨g, j, none⟩ = some u)
    (hK : ∀ ao n c w', OwE sz E e w' B (.slice ao n c) (xs ++ [y]) → n = xs.length + 1 → w.grownBy w' (a.eval s).ownBlock → Below B w w' → wpList P ops Q rest (a.put o.dst (.slice ao n c)) w') : wpList P ops Q (o :: rest) a w := by
  obtain ⟨v', w', hr, h2, h3, h4⟩ := run_pushE (P := P) hE hsz t o.type e bytes z ht hi hzs hzi hby B _ xs h hlen hB g cs y hcs hc
  refine wpList_plain hgd fun K hK' => ?_
  unfold Oper.wp execOp
  obtain ⟨ao, n, c, rfl, hn⟩ := h2.shape
  simp only [ho, resolve, invoke, builtin, Sem.run_bind, Sem.run_pure, Result.andThen_ok, List.map_toArray, List.map_cons, List.map_nil, hx, hr]
  exact hK' _ _ (hK ao n c w' h2 (by simpa using hn) h3 h4)

/-- the same as a step of a region that draws its order -/
theorem step_pushE {α : Type} {P : Program} {w : World} {ops : Array Oper} {o : Oper} {a : Act} {K : Act → World → Prop} {Q : Exit → Act → World → Prop} {E0 : Prop} {sz : Nat} {E : World → List Value → α → Prop} (hE : Elem sz E) (hsz : 0 < sz) (hgd : o.guard = none) (s x : Operand) (t : TypeId)
    (ho : o.op = .call { callee := .builtin .append, args := #[s, x], argTypes := #[t, t] })
    (e : TypeId) (bytes : Nat) (z : Value) (ht : P.underlying t = some (.slice e))
    (hi : (P.info? e).map (fun i => (i.zero, i.size, i.bytes)) = some (some z, sz, bytes)) (hzs : z.cells.size = sz) (hzi : ∀ u ∈ z.cells.toList, notInt u = true) (hby : bytes ≤ 100)
    (B : Nat) (xs : List α) (h : OwE sz E e w B (a.eval s) xs) (hlen : xs.length ≤ 100000000) (hB : B ≤ w.heap.size) (g : Nat) (cs : List Value) (y : α) (hx : a.eval x = .slice (some ⟨g, 0, none⟩) 1 1) (hcs : E w cs y) (hc : ∀ j u, cs[j]? = some u → w.cell? ⟨g, j, none⟩ = some u)
    (hK : ∀ ao n c w', OwE sz E e w' B (.slice ao n c) (xs ++ [y]) → n = xs.length + 1 → w.grownBy w' (a.eval s).ownBlock → Below B w w' → K (a.put o.dst (.slice ao n c)) w') :
    if Region.wanted o (yielded ops a.tmps) = true then Oper.wp P o a w K Q else E0 := by
  have hw : Region.wanted o (yielded ops a.tmps) = true := by simp [Region.wanted, hgd]
  rw [if_pos hw]
  obtain ⟨v', w', hr, h2, h3, h4⟩ := run_pushE (P := P) hE hsz t o.type e bytes z ht hi hzs hzi hby B _ xs h hlen hB g cs y hcs hc
  unfold Oper.wp execOp
  obtain ⟨ao, n, c, rfl, hn⟩ := h2.shape
  simp only [ho, resolve, invoke, builtin, Sem.run_bind, Sem.run_pure, Result.andThen_ok, List.map_toArray, List.map_cons, List.map_nil, hx, hr]
  exact hK ao n c w' h2 (by simpa using hn) h3 h4

/-- a text as an element -/
def ET (_ : World) (cs : List Value) (s : ByteArray) : Prop := cs = [.string s]
theorem elemT : Elem 1 ET where
  len := by intro w cs x h; rw [h]; rfl
  ints := by intro w cs x h u hu; rw [h] at hu; simp at hu; subst hu; rfl
  one := by intro w cs x h u hu; rw [h] at hu; simp at hu; subst hu; rfl
  keep := by intro w w' g cs x h _ _; exact h

/-- a slice value reads as a list of texts -/
def TxL (w : World) (v : Value) (L : List ByteArray) : Prop := SlE 1 ET w v L

theorem TxL.later {w w' : World} {v : Value} {L : List ByteArray} {B : Nat} (h : TxL w v L) (hb : Below B w w') (hB : w.heap.size ≤ B) : TxL w' v L := SlE.later elemT h hb hB
theorem TxL.at {w : World} {ao : Option Addr} {n cap : Nat} {L : List ByteArray} (h : TxL w (.slice ao n cap) L) (i : Nat) (s : ByteArray) (hi : L[i]? = some s) :
    ∃ b off, ao = some ⟨b, off, none⟩ ∧ b < w.heap.size ∧ w.cell? ⟨b, off + i, none⟩ = some (.string s) := by
  obtain ⟨b, off, cs, h1, h2, h3, rfl⟩ := SlE.at h i s hi
  refine ⟨b, off, h1, h2, ?_⟩
  have := h3 0 _ rfl
  rwa [Nat.mul_one, Nat.add_zero] at this
theorem TxL.open {w : World} {v : Value} {L : List ByteArray} (h : TxL w v L) : ∃ ao n cap, v = .slice ao n cap ∧ n = L.length ∧ n ≤ cap ∧ TxL w (.slice ao n cap) L := SlE.open h

theorem SlE.op {α : Type} {sz : Nat} {E : World → List Value → α → Prop} {w : World} {v : Value} {xs : List α} (h : SlE sz E w v xs) : ∃ ao n cap, v = .slice ao n cap ∧ SlE sz E w (.slice ao n cap) xs := by
  obtain ⟨ao, n, cap, h1, _, _, h2⟩ := h.open
  exact ⟨ao, n, cap, h1, h2⟩
theorem TxL.op {w : World} {v : Value} {L : List ByteArray} (h : TxL w v L) : ∃ ao n cap, v = .slice ao n cap ∧ TxL w (.slice ao n cap) L := SlE.op h

/-- a slice without room or not is one of cells that lie there -/
theorem TxL.mk {w : World} {b off n cap : Nat} {L : List ByteArray} (hn : n = L.length) (hc : n ≤ cap) (hb : b < w.heap.size) (hx : ∀ i s, L[i]? = some s → w.cell? ⟨b, off + i, none⟩ = some (.string s)) : TxL w (.slice (some ⟨b, off, none⟩) n cap) L := by
  subst hn
  refine ⟨_, cap, rfl, hc, fun i s hi => ⟨b, off, [.string s], rfl, hb, fun j u hj => ?_, rfl⟩⟩
  match j, hj with
  | 0, hj => simp at hj; subst hj; rw [Nat.mul_one, Nat.add_zero]; exact hx i s hi
  | (k + 1), hj => simp at hj

/-- a block of texts that is known whole -/
def TArr (e : TypeId) (w : World) (g : Nat) (L : List ByteArray) : Prop := w.heap[g]? = some (.cells (L.map Value.string).toArray e (0, 0))
theorem TArr.lt {e : TypeId} {w : World} {g : Nat} {L : List ByteArray} (h : TArr e w g L) : g < w.heap.size := lt_of_block h
theorem TArr.cell {e : TypeId} {w : World} {g : Nat} {L : List ByteArray} (h : TArr e w g L) (i : Nat) (s : ByteArray) (hi : L[i]? = some s) : w.cell? ⟨g, i, none⟩ = some (.string s) := by
  unfold TArr at h
  simp [World.cell?, h, hi]
theorem TArr.frozen {e : TypeId} {w : World} {g : Nat} {L : List ByteArray} (h : TArr e w g L) (i : Nat) : w.frozen? ⟨g, i, none⟩ = false := by
  unfold TArr at h
  simp [World.frozen?, h]
theorem TArr.set {e : TypeId} {w : World} {g : Nat} {L : List ByteArray} (h : TArr e w g L) (i : Nat) (s : ByteArray) : TArr e (w.setCell ⟨g, i, none⟩ (.string s)) g (L.set i s) := by
  unfold TArr at *
  simp only [World.setCell, Array.getElem?_modify, h, if_true, Option.map_some]
  congr 2
  simp [List.map_set]
theorem TArr.drewN {e : TypeId} {w : World} {g : Nat} {L : List ByteArray} (h : TArr e w g L) (n : Nat) : TArr e (w.drewN n) g L := h
theorem TArr.sl {e : TypeId} {w : World} {g : Nat} {L : List ByteArray} (h : TArr e w g L) (n cap : Nat) (hn : n = L.length) (hc : n ≤ cap) : TxL w (.slice (some ⟨g, 0, none⟩) n cap) L :=
  TxL.mk hn hc h.lt fun i s hi => by rw [Nat.zero_add]; exact h.cell i s hi

/-- make of texts with a length that is a number of the walk's -/
theorem wpList_maket {P : Program} (w : World) {ops : Array Oper} {rest : List Oper} {o : Oper} {a : Act} {Q : Exit → Act → World → Prop}
    (hg : o.guard = none) (l : Operand) (t : TypeId) (hop : o.op = Op.makeSlice t l l)
    (e : TypeId) (bytes : Nat) (h1 : P.underlying t = some (.slice e)) (hi : (P.info? e).map (fun i => (i.zero, i.size, i.bytes)) = some (some (.string ByteArray.empty), 1, bytes)) (hby : bytes ≤ 16)
    (kl : IntKind) (L : Int) (n : Nat) (hl : a.eval l = .int kl L) (hL : L = (n : Int)) (hn : n ≤ 1000000000000)
    (hK : ∀ w', TArr e w' w.heap.size (List.replicate n ByteArray.empty) → Below w.heap.size w w' → w'.heap.size = w.heap.size + 1 → wpList P ops Q rest (a.put o.dst (.slice (some ⟨w.heap.size, 0, none⟩) n n)) w') :
    wpList P ops Q (o :: rest) a w := by
  obtain ⟨i0, hi0, hz0, hz1, hz2⟩ := info_parts hi
  refine wpList_plain hg fun K hK' => ?_
  subst hL
  have hb : (i0.bytes : Int) * (n : Int) ≤ 281474976710656 := by
    rw [hz2]
    have : bytes * n ≤ 16 * n := Nat.mul_le_mul_right n hby
    have h2 : ((bytes * n : Nat) : Int) ≤ 281474976710656 := by omega
    rwa [Int.natCast_mul] at h2
  have hr := run_make (P := P) w t e i0 (.string ByteArray.empty) h1 hi0 hz0 kl kl n n (by omega) (Int.le_refl _) hb (by omega)
  simp only [Int.toNat_natCast, hz1, Nat.mul_one] at hr
  unfold Oper.wp
  simp [execOp, hop, hl, hr, Result.andThen]
  refine hK' _ _ (hK _ ?_ ?_ ?_)
  · show (w.heap.push _)[_]? = _
    rw [Array.getElem?_push, if_pos rfl]
    congr 2
    apply Array.toList_inj.1
    have h3 := toList_madeCells_one (.string ByteArray.empty) n
    simp only [Value.cells] at h3 ⊢
    rw [h3]
    simp
  · exact (Below.refl _ _).alloc (Nat.le_refl _) _
  · simp
end Go.Proofs.YtegdcmcfeaohhaaGreatDoor

namespace Go.Proofs.YtegdcmcfeaohhaaGreatDoor
open Go Go.RowKit

def sizes (L : List ByteArray) : Nat := (L.map (·.size)).sum
def tot (L : List ByteArray) : Nat := L.length + sizes L

theorem sizes_succ (L : List ByteArray) (k : Nat) (s : ByteArray) (h : L[k]? = some s) : sizes (L.take (k + 1)) = sizes (L.take k) + s.size := by
  have hk := (List.getElem?_eq_some_iff.1 h).1
  have : L.take (k + 1) = L.take k ++ [s] := by rw [List.take_add_one, h]; rfl
  simp [sizes, this]
theorem sizes_take_le (L : List ByteArray) (k : Nat) : sizes (L.take k) ≤ sizes L := by
  have : sizes L = sizes (L.take k) + sizes (L.drop k) := by
    rw [sizes, sizes, sizes, ← List.sum_append, ← List.map_append, List.take_append_drop]
  omega
theorem size_le_sizes {L : List ByteArray} {s : ByteArray} (h : s ∈ L) : s.size ≤ sizes L := by
  obtain ⟨k, hk, rfl⟩ := List.mem_iff_getElem.1 h
  have := sizes_succ L k L[k] (List.getElem?_eq_getElem hk)
  have h2 := sizes_take_le L (k + 1)
  omega

theorem maxLen_eq : maxLen = 9223372036854775807 := rfl

set_option maxRecDepth 100000 in
set_option maxHeartbeats 1000000 in
theorem szT_any (v : Value) (L : List ByteArray) (w : World) (left : Nat) (h : TxL w v L) (hn : L.length ≤ maxLen) (hs : ∀ s ∈ L, s.size ≤ maxLen) (hl : left ≤ 1048576) (R : Ending → World → Prop)
    (hR : tot L ≤ left → R (.returned (.int .i64 ((left - tot L : Nat) : Int))) w) (hR2 : left < tot L → R (.returned (.int .i64 (-1))) w) :
    Calls Tryz.prog 14 #[v, .int .i64 (left : Int)] w R := by
  have HR := Lib.hid hR; clear hR
  have HR2 := Lib.hid hR2; clear hR2
  obtain ⟨ao, n, cap, rfl, hnl, hc, hh⟩ := h.open
  have HH := Lib.hid hh
  rw [maxLen_eq] at hn
  have HS := Lib.hid hs
  have HN := Lib.hid hnl
  rw [← hnl] at hn
  clear h hs hnl hh
  by_cases h0 : left < n
  · obtain ⟨y, hy⟩ : ∃ y : Int, y = (left : Int) - (n : Int) := ⟨_, rfl⟩
    have hw : IntKind.i64.wrap ((left : Int) - (n : Int)) = y := by rw [hy]; exact IntWalk.i64_in _ (by omega)
    have hyn : y < 0 := by omega
    have HF := Lib.hid (HR2.out (by unfold tot; rw [← HN.out]; omega))
    clear hy h0
    go_enter Tryz.func14, Tryz.ntmps14
    go_wp2
    first | go_ret | skip
    exact HF.out
  · obtain ⟨y, hy⟩ : ∃ y : Nat, left = y + n := ⟨left - n, by omega⟩
    have hw : IntKind.i64.wrap ((left : Int) - (n : Int)) = (y : Int) := by rw [IntWalk.i64_in _ (by omega)]; omega
    have HY := Lib.hid hy
    clear hy h0
    go_enter Tryz.func14, Tryz.ntmps14
    go_wp2
    clear hw
    go_loop [5, 1] (fun i l => ∃ k x : Nat, i = .int .i64 (k : Int) ∧ k ≤ n ∧ l = .int .i64 (x : Int) ∧ y = x + sizes (L.take k)) (fun i _ => n - (intOf i).toNat)
    case atStart => exact ⟨0, y, rfl, Nat.zero_le _, rfl, by simp [sizes]⟩
    case round =>
      obtain ⟨k, x, rfl, hk, rfl, hx⟩ := hrel
      have HX := Lib.hid hx
      clear hx
      by_cases hkn : k = n
      · subst hkn
        have hfin : R (.returned (.int .i64 (x : Int))) w := by
          have h1 := HX.out
          rw [HN.out, List.take_length] at h1
          have h2 := HY.out
          have h3 := HR.out (by unfold tot; rw [← HN.out]; omega)
          rw [show left - tot L = x by unfold tot; rw [← HN.out]; omega] at h3
          exact h3
        have HF := Lib.hid hfin
        clear hfin
        go_wp2
        first | go_ret | skip
        exact HF.out
      · have hkl : k < n := by omega
        obtain ⟨s, hs⟩ : ∃ s, L[k]? = some s := ⟨_, List.getElem?_eq_getElem (by rw [← HN.out]; exact hkl)⟩
        have hsz := HS.out s (List.mem_of_getElem? hs)
        rw [maxLen_eq] at hsz
        obtain ⟨b, off, rfl, hb, hcell⟩ := TxL.at HH.out k s hs
        have HSZ := Lib.hid (sizes_succ L k s hs)
        have HLE := Lib.hid (sizes_take_le L (k + 1))
        clear hs
        obtain ⟨m, hm⟩ : ∃ m, m = s.size := ⟨_, rfl⟩
        have HM := Lib.hid hm
        have hxb : x ≤ 1048576 := by have := HX.out; have := HY.out; omega
        by_cases hxm : x < m
        · obtain ⟨z, hz⟩ : ∃ z : Int, z = (x : Int) - (s.size : Int) := ⟨_, rfl⟩
          have hw : IntKind.i64.wrap ((x : Int) - (s.size : Int)) = z := by rw [hz]; exact IntWalk.i64_in _ (by omega)
          have hzn : z < 0 := by omega
          have HF := Lib.hid (HR2.out (by have h1 := HX.out; have h2 := HY.out; have h3 := HSZ.out; have h4 := HLE.out; unfold tot; rw [← HN.out]; omega))
          clear hz hm hxm hsz
          go_wp2
          first | go_ret | skip
          exact HF.out
        · obtain ⟨z, hz⟩ : ∃ z : Nat, x = z + s.size := ⟨x - s.size, by omega⟩
          have hw : IntKind.i64.wrap ((x : Int) - (s.size : Int)) = (z : Int) := by rw [IntWalk.i64_in _ (by omega)]; omega
          have hw1 : IntKind.i64.wrap ((k : Int) + 1) = ((k + 1 : Nat) : Int) := by rw [IntWalk.i64_in _ (by omega)]; omega
          have HZ := Lib.hid (show y = z + sizes (L.take (k + 1)) by have h1 := HX.out; have h3 := HSZ.out; omega)
          clear hz hm hxm hsz hxb
          go_wp2
          go_round
          case rel => exact ⟨k + 1, z, by first | rfl | go_num, by omega, rfl, HZ.out⟩
          case measure => simp [intOf]; omega

theorem set_copy {α : Type} (L : List α) (k n : Nat) (e s : α) (hk : k < n) (h : L[k]? = some s) : (L.take k ++ List.replicate (n - k) e).set k s = L.take (k + 1) ++ List.replicate (n - (k + 1)) e := by
  have hl : k < L.length := (List.getElem?_eq_some_iff.1 h).1
  have h1 : n - k = (n - (k + 1)) + 1 := by omega
  have h2 : (L.take k).length = k := by rw [List.length_take]; omega
  rw [h1, List.replicate_succ, List.set_append_right _ _ (by omega), h2, Nat.sub_self, List.set_cons_zero, List.take_add_one, h]
  simp

theorem info_str : (Tryz.prog.info? 9).map (fun i => (i.zero, i.size, i.bytes)) = some (some (.string ByteArray.empty), 1, 16) := by kernel_rfl

def CopyRel (w : World) (n : Nat) (L : List ByteArray) (i : Value) (wr : World) : Prop :=
  ∃ k : Nat, i = .int .i64 (k : Int) ∧ k ≤ n ∧ TArr 9 wr w.heap.size (L.take k ++ List.replicate (n - k) ByteArray.empty) ∧ Below w.heap.size w wr

set_option maxRecDepth 100000 in
set_option maxHeartbeats 1000000 in
theorem toT_any (v : Value) (L : List ByteArray) (w : World) (h : TxL w v L) (hn : L.length ≤ 1048576) (R : Ending → World → Prop)
    (hR : ∀ v' w', TxL w' v' L → Below w.heap.size w w' → R (.returned v') w') :
    Calls Tryz.prog 16 #[v] w R := by
  have HR := Lib.hid hR; clear hR
  obtain ⟨ao, n, cap, rfl, hnl, hc, hh⟩ := h.open
  have HH := Lib.hid hh
  have HN := Lib.hid hnl
  rw [← hnl] at hn
  clear h hnl hh
  go_enter Tryz.func16, Tryz.ntmps16
  go_wp2_with (at_make; go_must (refine wpList_maket _ rfl (.tmp 6) 22 rfl 9 16 Tryz.underlying22 info_str (by omega) .i64 _ n rfl (by omega) (by omega) ?_))
  intro W hA hbW hsW
  have HST : Hid (CopyRel w n L (.int .i64 0) W) := Lib.hid ⟨0, rfl, Nat.zero_le _, by simpa using hA, hbW⟩
  clear hA hbW hsW
  go_wp2
  go_loopw [4] (fun i wr => CopyRel w n L i wr) (fun i _ => n - (intOf i).toNat)
  case atStart => exact HST.out
  case round =>
    clear HST
    obtain ⟨k, rfl, hk, hA, hbel⟩ := hrel
    have HB := Lib.hid hbel
    by_cases hkn : k = n
    · subst hkn
      have hL : L.take k ++ List.replicate (k - k) ByteArray.empty = L := by rw [Nat.sub_self, HN.out, List.take_length]; simp
      rw [hL] at hA
      have HT := Lib.hid (hA.sl k k HN.out (Nat.le_refl _))
      clear hA hbel hL
      go_wp2
      first | go_ret | skip
      exact HR.out _ _ HT.out HB.out
    · have hkl : k < n := by omega
      obtain ⟨s, hs⟩ : ∃ s, L[k]? = some s := ⟨_, List.getElem?_eq_getElem (by rw [← HN.out]; exact hkl)⟩
      obtain ⟨b, off, rfl, hb, hcell⟩ := TxL.at HH.out k s hs
      rw [← hbel.cell (p := ⟨b, off + k, none⟩) hb] at hcell
      have hlen : (L.take k ++ List.replicate (n - k) ByteArray.empty).length = n := by rw [List.length_append, List.length_take, List.length_replicate, ← HN.out]; omega
      have hc2 := hA.cell k _ (List.getElem?_eq_getElem (by rw [hlen]; exact hkl))
      have hf2 := hA.frozen k
      have hA2 := hA.set k s
      rw [set_copy L k n ByteArray.empty s hkl hs] at hA2
      have HA2 := Lib.hid hA2
      obtain ⟨u, hu⟩ : ∃ u, u = (L.take k ++ List.replicate (n - k) ByteArray.empty)[k]'(by rw [hlen]; exact hkl) := ⟨_, rfl⟩
      rw [← hu] at hc2
      have hw1 : IntKind.i64.wrap ((k : Int) + 1) = ((k + 1 : Nat) : Int) := by rw [IntWalk.i64_in _ (by omega)]; omega
      clear hA hA2 hbel hlen hs hu
      go_wp2
      go_roundw
      case rel => exact ⟨k + 1, by first | rfl | go_num, by omega, HA2.out, HB.out.setCell (Nat.le_refl _) _⟩
      case measure => simp [intOf]; omega

set_option maxRecDepth 100000 in
set_option maxHeartbeats 1000000 in
theorem eqT_any (v1 v2 : Value) (L1 L2 : List ByteArray) (w : World) (h1 : TxL w v1 L1) (h2 : TxL w v2 L2) (hn : L1.length ≤ 281474976710656) (hn2 : L2.length ≤ 281474976710656) (R : Ending → World → Prop)
    (hR : ∀ w', Below w.heap.size w w' → R (.returned (.bool (decide (L1 = L2)))) w') :
    Calls Tryz.prog 18 #[v1, v2] w R := by
  have HR := Lib.hid hR; clear hR
  obtain ⟨a1, n, c1, rfl, hn1, hc1, hh1⟩ := h1.open
  obtain ⟨a2, n2, c2, rfl, hn2', hc2, hh2⟩ := h2.open
  have HH1 := Lib.hid hh1
  have HH2 := Lib.hid hh2
  have HN1 := Lib.hid hn1
  have HN2 := Lib.hid hn2'
  rw [← hn1] at hn
  rw [← hn2'] at hn2
  clear h1 h2 hn1 hn2' hh1 hh2
  by_cases hne : n = n2
  · subst hne
    have e0 : ((n : Int) != (n : Int)) = false := by simp
    go_enter Tryz.func18, Tryz.ntmps18
    go_wp2
    clear e0
    go_loopw [5] (fun i wr => ∃ k : Nat, i = .int .i64 (k : Int) ∧ k ≤ n ∧ L1.take k = L2.take k ∧ Below w.heap.size w wr) (fun i _ => n - (intOf i).toNat)
    case atStart => exact ⟨0, rfl, Nat.zero_le _, by simp, Below.refl _ _⟩
    case round =>
      obtain ⟨k, rfl, hk, htk, hbel⟩ := hrel
      have HTK := Lib.hid htk
      have HB := Lib.hid hbel
      clear htk
      by_cases hkn : k = n
      · subst hkn
        have he : L1 = L2 := by
          have := HTK.out
          rw [HN1.out, List.take_length] at this
          rw [this, ← HN1.out, HN2.out, List.take_length]
        rw [decide_eq_true he] at HR
        clear hbel he
        go_wp2
        first | go_ret | skip
        exact HR.out _ HB.out
      · have hkl : k < n := by omega
        obtain ⟨s, hs⟩ : ∃ s, L1[k]? = some s := ⟨_, List.getElem?_eq_getElem (by rw [← HN1.out]; exact hkl)⟩
        obtain ⟨t, ht⟩ : ∃ t, L2[k]? = some t := ⟨_, List.getElem?_eq_getElem (by rw [← HN2.out]; exact hkl)⟩
        obtain ⟨b1, o1, rfl, hb1, hcell1⟩ := TxL.at HH1.out k s hs
        obtain ⟨b2, o2, rfl, hb2, hcell2⟩ := TxL.at HH2.out k t ht
        rw [← hbel.cell (p := ⟨b1, o1 + k, none⟩) hb1] at hcell1
        rw [← hbel.cell (p := ⟨b2, o2 + k, none⟩) hb2] at hcell2
        have hw1 : IntKind.i64.wrap ((k : Int) + 1) = ((k + 1 : Nat) : Int) := by rw [IntWalk.i64_in _ (by omega)]; omega
        have hk0 : (0 : Int) ≤ (k : Int) := by omega
        have hk1 : (k : Int) < (n : Int) := by omega
        by_cases hst : s = t
        · have HT2 := Lib.hid (show L1.take (k + 1) = L2.take (k + 1) by rw [List.take_add_one, List.take_add_one, hs, ht, HTK.out, hst])
          have e9 : (s.toList == t.toList) = true := by subst hst; simp
          clear hs ht hbel hst
          go_wp2
          go_quiet (fail)
          go_wp2
          go_roundw
          case rel => exact ⟨k + 1, by first | rfl | go_num, by omega, HT2.out, below_draws HB.out _⟩
          case measure => simp [intOf]; omega
        · have hne : L1 ≠ L2 := fun e => by subst e; rw [hs] at ht; exact hst (Option.some.inj ht)
          have e9 : (s.toList == t.toList) = false := by
            rw [beq_eq_false_iff_ne]
            intro e
            rw [Lib.toList_data, Lib.toList_data] at e
            exact hst (by cases s; cases t; simpa [← Array.toList_inj] using e)
          rw [decide_eq_false hne] at HR
          clear hs ht hbel hst hne
          go_wp2
          go_quiet (fail)
          go_wp2
          first | go_ret | skip
          exact HR.out _ (below_draws HB.out _)
  · have e0 : ((n : Int) != (n2 : Int)) = true := by simp; omega
    have hd : L1 ≠ L2 := fun e => hne (by rw [HN1.out, HN2.out, e])
    rw [decide_eq_false hd] at HR
    clear hne hd
    go_enter Tryz.func18, Tryz.ntmps18
    go_wp2
    first | go_ret | skip
    exact HR.out _ (Below.refl _ _)
end Go.Proofs.YtegdcmcfeaohhaaGreatDoor

namespace Go.Proofs.YtegdcmcfeaohhaaGreatDoor
open Go Go.RowKit

theorem OwE.alloc {α : Type} {sz : Nat} {E : World → List Value → α → Prop} (hE : Elem sz E) {e : TypeId} {w : World} {B : Nat} {v : Value} {xs : List α} (h : OwE sz E e w B v xs) (o : Obj) : OwE sz E e (w.alloc o) B v xs :=
  h.later hE ((Below.refl w.heap.size w).alloc (Nat.le_refl _) o) (Nat.le_refl _)

theorem cells_alloc (w : World) (cs : Array Value) (t : TypeId) (g : Nat) (hg : g = w.heap.size) : ∀ j u, cs.toList[j]? = some u → (w.alloc (.cells cs t)).cell? ⟨g, j, none⟩ = some u := by
  intro j u hj
  subst hg
  have : (w.alloc (.cells cs t)).heap[w.heap.size]? = some (.cells cs t (0, 0)) := by
    show (w.heap.push _)[_]? = _
    simp
  simp only [World.cell?, this, Option.isSome_none, Bool.false_eq_true, if_false]
  rw [← Array.getElem?_toList]; exact hj

theorem madeCells_ints (z : Array Value) (n : Nat) (hz : 0 < z.size) (h : ∀ u ∈ z.toList, notInt u = true) : ∀ u ∈ (madeCells z n).toList, notInt u = true := by
  intro u hu
  simp only [madeCells, Array.toList_map, List.mem_map] at hu
  obtain ⟨i, _, rfl⟩ := hu
  have hm : i % z.size < z.size := Nat.mod_lt _ hz
  rw [getElem!_pos z _ hm]
  exact h _ (Array.mem_toList_iff.2 (Array.getElem_mem hm))

/-- make([]T, 0, n) -/
theorem wpList_make0 {α : Type} {P : Program} {w : World} {ops : Array Oper} {rest : List Oper} {o : Oper} {a : Act} {Q : Exit → Act → World → Prop} {sz : Nat} {E : World → List Value → α → Prop} (hsz : 0 < sz)
    (hg : o.guard = none) (l c : Operand) (t : TypeId) (hop : o.op = Op.makeSlice t l c)
    (e : TypeId) (bytes : Nat) (z : Value) (h1 : P.underlying t = some (.slice e)) (hi : (P.info? e).map (fun i => (i.zero, i.size, i.bytes)) = some (some z, sz, bytes)) (hzs : z.cells.size = sz) (hzi : ∀ u ∈ z.cells.toList, notInt u = true) (hby : bytes ≤ 100)
    (B : Nat) (hB : B ≤ w.heap.size) (kl kc : IntKind) (L C : Int) (n : Nat) (hl : a.eval l = .int kl L) (hc : a.eval c = .int kc C) (hL : L = 0) (hC : C = (n : Int)) (hn : n ≤ 1000000000)
    (hK : ∀ w', OwE sz E e w' B (.slice (some ⟨w.heap.size, 0, none⟩) 0 n) ([] : List α) → Below w.heap.size w w' → w'.heap.size = w.heap.size + 1 → wpList P ops Q rest (a.put o.dst (.slice (some ⟨w.heap.size, 0, none⟩) 0 n)) w') :
    wpList P ops Q (o :: rest) a w := by
  obtain ⟨i0, hi0, hz0, hz1, hz2⟩ := info_parts hi
  refine wpList_plain hg fun K hK' => ?_
  subst hL hC
  have hb : (i0.bytes : Int) * (n : Int) ≤ 281474976710656 := by
    rw [hz2]
    have : bytes * n ≤ 100 * n := Nat.mul_le_mul_right n hby
    have h2 : ((bytes * n : Nat) : Int) ≤ 281474976710656 := by omega
    rwa [Int.natCast_mul] at h2
  have hr := run_make (P := P) w t e i0 z h1 hi0 hz0 kl kc 0 n (by omega) (by omega) hb (by omega)
  simp only [Int.toNat_natCast, hz1, Int.toNat_zero] at hr
  unfold Oper.wp
  simp [execOp, hop, hl, hc, hr, Result.andThen]
  refine hK' _ _ (hK _ ?_ ?_ ?_)
  · refine .inr ⟨w.heap.size, n, madeCells z.cells (n * sz), rfl, hB, ?_, Nat.zero_le _, by rw [maxLen_eq]; omega, size_madeCells _ _, madeCells_ints _ _ (by omega) hzi, fun i x h => by simp at h⟩
    show (w.heap.push _)[_]? = _
    simp
  · exact (Below.refl _ _).alloc (Nat.le_refl _) _
  · simp

theorem IsN.keep {w w' : World} {v : Value} {n g : Nat} (h : IsN w v n) (hb : But g w w') (hg : NoInt w g) : IsN w' v n := by
  refine Sl.but h hb fun h0 e => ?_
  rcases Sl.cases h with ⟨h1, _⟩ | ⟨_, b, off, cap, rfl, _, hbl, hc⟩
  · rw [h1] at h0; simp at h0
  · simp [blk] at e
    subst e
    have := hg _ _ (hc 0 h0)
    cases this

/-- a fraction of the program as an element -/
def ER (w : World) (cs : List Value) (q : Rat) : Prop := ∃ a1 n1 c1 a2 n2 c2, cs = [.bool (decide (q.num < 0)), .slice a1 n1 c1, .slice a2 n2 c2] ∧ IsN w (.slice a1 n1 c1) q.num.natAbs ∧ IsN w (.slice a2 n2 c2) q.den
theorem elemR : Elem 3 ER where
  len := by rintro w cs x ⟨_, _, _, _, _, _, rfl, _⟩; rfl
  ints := by
    rintro w cs x ⟨_, _, _, _, _, _, rfl, _⟩ u hu
    simp only [List.mem_cons, List.not_mem_nil, or_false] at hu
    rcases hu with rfl | rfl | rfl <;> rfl
  one := by
    rintro w cs x ⟨_, _, _, _, _, _, rfl, _⟩ u hu
    simp only [List.mem_cons, List.not_mem_nil, or_false] at hu
    rcases hu with rfl | rfl | rfl <;> rfl
  keep := by
    rintro w w' g cs x ⟨a1, n1, c1, a2, n2, c2, rfl, h1, h2⟩ hb hg
    exact ⟨a1, n1, c1, a2, n2, c2, rfl, h1.keep hb hg, h2.keep hb hg⟩

/-- a slice value reads as a list of the program's fractions -/
def RsL (w : World) (v : Value) (qs : List Rat) : Prop := SlE 3 ER w v qs

theorem info_ratio : (Tryz.prog.info? 70).map (fun i => (i.zero, i.size, i.bytes)) = some (some zeroR, 3, 56) := by kernel_rfl
theorem zeroR_ints : ∀ u ∈ zeroR.cells.toList, notInt u = true := by
  intro u hu
  simp only [zeroR, Value.cells, List.mem_cons, List.not_mem_nil, or_false] at hu
  rcases hu with rfl | rfl | rfl <;> rfl

/-- whether a text is a number -/
noncomputable def isNum (s : ByteArray) : Bool := (numO s.data.toList).isSome
/-- the number that a text is -/
noncomputable def qOf (s : ByteArray) : Rat := (numO s.data.toList).getD 0
theorem isNum_some {s : ByteArray} (h : isNum s = true) : numO s.data.toList = some (qOf s) := by
  unfold isNum at h; unfold qOf
  cases hn : numO s.data.toList with
  | none => rw [hn] at h; cases h
  | some q => rfl
theorem isNum_of {s : ByteArray} {q : Rat} (h : numO s.data.toList = some q) : isNum s = true ∧ qOf s = q := by
  unfold isNum qOf; rw [h]; exact ⟨rfl, rfl⟩
theorem isNum_not {s : ByteArray} (h : numO s.data.toList = none) : isNum s = false := by
  unfold isNum; rw [h]; rfl

theorem all_take_one {α : Type} (p : α → Bool) (L : List α) (k : Nat) (s : α) (h : L[k]? = some s) : (L.take (k + 1)).all p = ((L.take k).all p && p s) := by
  rw [List.take_add_one, h, List.all_append]; simp
theorem all_not_at {α : Type} (p : α → Bool) (L : List α) (k : Nat) (s : α) (h : L[k]? = some s) (hp : p s = false) : L.all p = false := by
  rw [List.all_eq_false]
  exact ⟨s, List.mem_of_getElem? h, by simp [hp]⟩

set_option maxRecDepth 100000 in
set_option maxHeartbeats 1000000 in
theorem all_any (v : Value) (L : List ByteArray) (w : World) (h : TxL w v L) (hn : L.length ≤ 1048576) (hs : ∀ s ∈ L, s.size ≤ 1048576) (R : Ending → World → Prop)
    (hR : ∀ w', Below w.heap.size w w' → R (.returned (.bool (L.all isNum))) w') :
    Calls Tryz.prog 114 #[v] w R := by
  have HR := Lib.hid hR; clear hR
  obtain ⟨ao, n, cap, rfl, hnl, hc, hh⟩ := h.open
  have HH := Lib.hid hh
  have HN := Lib.hid hnl
  have HS := Lib.hid hs
  rw [← hnl] at hn
  clear h hnl hh hs
  go_enter Tryz.func114, Tryz.ntmps114
  go_wp2
  go_loopw [3] (fun i wr => ∃ k : Nat, i = .int .i64 (k : Int) ∧ k ≤ n ∧ (L.take k).all isNum = true ∧ Below w.heap.size w wr) (fun i _ => n - (intOf i).toNat)
  case atStart => exact ⟨0, rfl, Nat.zero_le _, by simp, Below.refl _ _⟩
  case round =>
    obtain ⟨k, rfl, hk, hall, hbel⟩ := hrel
    have HALL := Lib.hid hall
    have HB := Lib.hid hbel
    clear hall
    by_cases hkn : k = n
    · subst hkn
      have he : L.all isNum = true := by have := HALL.out; rw [HN.out, List.take_length] at this; exact this
      rw [he] at HR
      clear hbel he
      go_wp2
      first | go_ret | skip
      exact HR.out _ HB.out
    · have hkl : k < n := by omega
      obtain ⟨s, hs⟩ : ∃ s, L[k]? = some s := ⟨_, List.getElem?_eq_getElem (by rw [← HN.out]; exact hkl)⟩
      have HSS := Lib.hid hs
      have hsz := HS.out s (List.mem_of_getElem? hs)
      obtain ⟨b, off, rfl, hb, hcell⟩ := TxL.at HH.out k s hs
      rw [← hbel.cell (p := ⟨b, off + k, none⟩) hb] at hcell
      have hw1 : IntKind.i64.wrap ((k : Int) + 1) = ((k + 1 : Nat) : Int) := by rw [IntWalk.i64_in _ (by omega)]; omega
      clear hs hbel
      go_wp2_with fail
      refine isq_any s _ (by omega) _ ?_
      intro w1 hb1
      have HB1 := Lib.hid (HB.out.trans (hb1.mono HB.out.size))
      obtain ⟨x, hx⟩ : ∃ x, x = isNum s := ⟨_, rfl⟩
      have hx' : (numO s.data.toList).isSome = x := by rw [hx]; rfl
      rw [hx']
      have HX := Lib.hid hx
      clear hb1 hx hx' hsz hcell
      cases x
      · have hf := all_not_at isNum L k s HSS.out HX.out.symm
        rw [hf] at HR
        clear hf
        dsimp only
        go_wp2
        first | go_ret | skip
        exact HR.out _ HB1.out
      · have ht : Hid ((L.take (k + 1)).all isNum = true) := Lib.hid (by rw [all_take_one isNum L k s HSS.out, HALL.out, ← HX.out]; rfl)
        dsimp only
        go_wp2
        go_roundw
        case rel => exact ⟨k + 1, by first | rfl | go_num, by omega, ht.out, HB1.out⟩
        case measure => simp [intOf]; omega

set_option maxRecDepth 100000 in
set_option maxHeartbeats 1000000 in
theorem isList_any (v : Value) (L : List ByteArray) (w : World) (h : TxL w v L) (hn : L.length ≤ 1048576) (hs : ∀ s ∈ L, s.size ≤ 1048576) (R : Ending → World → Prop)
    (hR : ∀ w', Below w.heap.size w w' → R (.returned (.bool (decide (L.length ≤ 60) && L.all isNum))) w') :
    Calls Tryz.prog 94 #[v] w R := by
  have HR := Lib.hid hR; clear hR
  obtain ⟨ao, n, cap, rfl, hnl, hc, hh⟩ := h.open
  have HH := Lib.hid hh
  have HN := Lib.hid hnl
  have HS := Lib.hid hs
  rw [← hnl] at hn HR
  clear h hnl hh hs
  by_cases h60 : n ≤ 60
  · have e1 : ((n : Int) ≤ 60) := by omega
    rw [decide_eq_true h60, Bool.true_and] at HR
    clear h60
    go_enter Tryz.func94, Tryz.ntmps94
    go_wp2_with fail
    refine all_any _ L _ HH.out (by rw [← HN.out]; exact hn) HS.out _ ?_
    intro w1 hb1
    obtain ⟨x, hx⟩ : ∃ x, x = L.all isNum := ⟨_, rfl⟩
    rw [← hx] at HR ⊢
    have HB := Lib.hid hb1
    clear hb1 hx
    dsimp only
    go_wp2
    first | go_ret | skip
    exact HR.out _ HB.out
  · have e1 : ¬ ((n : Int) ≤ 60) := by omega
    rw [decide_eq_false h60, Bool.false_and] at HR
    clear h60
    go_enter Tryz.func94, Tryz.ntmps94
    go_wp2
    first | go_ret | skip
    exact HR.out _ (Below.refl _ _)

def RatsRel (w : World) (n : Nat) (L : List ByteArray) (i v : Value) (wr : World) : Prop :=
  ∃ k : Nat, i = .int .i64 (k : Int) ∧ k ≤ n ∧ (L.take k).all isNum = true ∧ OwE 3 ER 70 wr w.heap.size v ((L.take k).map qOf) ∧ Below w.heap.size w wr

theorem map_take_one {α β : Type} (f : α → β) (L : List α) (k : Nat) (s : α) (h : L[k]? = some s) : (L.take (k + 1)).map f = (L.take k).map f ++ [f s] := by
  rw [List.take_add_one, h, List.map_append]; rfl

set_option maxRecDepth 100000 in
set_option maxHeartbeats 2000000 in
theorem readrs_own (v : Value) (L : List ByteArray) (w : World) (hE : Env w) (h : TxL w v L) (hn : L.length ≤ 1048576) (R : Ending → World → Prop)
    (hR : ∀ v' w', L.length ≤ 60 → L.all isNum = true → OwE 3 ER 70 w' w.heap.size v' (L.map qOf) → Below w.heap.size w w' → R (.returned (.tuple #[v', .nilIface])) w')
    (hR2 : ∀ e w', (decide (L.length ≤ 60) && L.all isNum) = false → ErrV e → Below w.heap.size w w' → R (.returned (.tuple #[.slice none 0 0, e])) w') :
    Calls Tryz.prog 102 #[v] w R := by
  have HR := Lib.hid hR; clear hR
  have HR2 := Lib.hid hR2; clear hR2
  have HE := Lib.hid hE
  obtain ⟨ao, n, cap, rfl, hnl, hc, hh⟩ := h.open
  have HH := Lib.hid hh
  have HN := Lib.hid hnl
  rw [← hnl] at hn
  clear h hnl hh
  by_cases h60 : n ≤ 60
  · have e1 : ¬ ((60 : Int) < (n : Int)) := by omega
    have H60 := Lib.hid h60
    clear h60 hE
    go_enter Tryz.func102, Tryz.ntmps102
    go_wp2_with (at_make; go_must (refine wpList_make0 (sz := 3) (E := ER) (by omega) rfl _ (.tmp 14) 63 rfl 70 56 zeroR Tryz.underlying63 info_ratio rfl zeroR_ints (by omega) w.heap.size (Nat.le_refl _) .i64 .i64 _ _ n rfl rfl rfl rfl (by omega) ?_))
    intro W hA hbW hsW
    have HST : Hid (RatsRel w n L (.int .i64 0) (.slice (some ⟨w.heap.size, 0, none⟩) 0 n) W) := Lib.hid ⟨0, rfl, Nat.zero_le _, by simp, by simpa using hA, hbW⟩
    clear hA hbW hsW
    go_wp2
    go_loopw [4, 18] (fun v i wr => RatsRel w n L i v wr) (fun _ i _ => n - (intOf i).toNat)
    case atStart => exact HST.out
    case round =>
      clear HST
      obtain ⟨k, rfl, hk, hall, hown, hbel⟩ := hrel
      have HALL := Lib.hid hall
      have HB := Lib.hid hbel
      have HOWN := Lib.hid hown
      clear hall
      obtain ⟨a3, n3, c3, rfl, hn3⟩ := hown.shape
      by_cases hkn : k = n
      · subst hkn
        have he : L.take k = L := by rw [HN.out, List.take_length]
        rw [he] at HALL HOWN
        have HF := Lib.hid (HR.out _ _ (by rw [← HN.out]; exact H60.out) HALL.out HOWN.out HB.out)
        clear hbel he hown hn3
        go_wp2
        first | go_ret | skip
        exact HF.out
      · have hkl : k < n := by omega
        obtain ⟨s, hs⟩ : ∃ s, L[k]? = some s := ⟨_, List.getElem?_eq_getElem (by rw [← HN.out]; exact hkl)⟩
        have HSS := Lib.hid hs
        obtain ⟨b, off, rfl, hb, hcell⟩ := TxL.at HH.out k s hs
        rw [← hbel.cell (p := ⟨b, off + k, none⟩) hb] at hcell
        have hw1 : IntKind.i64.wrap ((k : Int) + 1) = ((k + 1 : Nat) : Int) := by rw [IntWalk.i64_in _ (by omega)]; omega
        have HK := Lib.hid hkl
        have H3 := Lib.hid hn3
        clear hs hbel hown hn3
        go_wp2_with fail
        refine readq_any s _ (HE.out.later HB.out (Nat.le_refl _)) _ ?_ ?_
        · intro v q w1 hq hv hb1
          obtain ⟨s1, s2, rfl, hn1, hn2⟩ := hv
          obtain ⟨x1, m1, y1, rfl, hn1'⟩ := hn1.op
          obtain ⟨x2, m2, y2, rfl, hn2'⟩ := hn2.op
          have HB1 := Lib.hid (HB.out.trans (hb1.mono HB.out.size))
          have HOW1 := Lib.hid (HOWN.out.later elemR hb1 (Nat.le_refl _))
          have HER : Hid (ER w1 [.bool (decide (q.num < 0)), .slice x1 m1 y1, .slice x2 m2 y2] q) := Lib.hid ⟨_, _, _, _, _, _, rfl, hn1', hn2'⟩
          obtain ⟨ng, hng⟩ : ∃ ng, ng = decide (q.num < 0) := ⟨_, rfl⟩
          rw [← hng] at HER ⊢
          obtain ⟨hq1, hq2⟩ := isNum_of hq
          have HA2 : Hid ((L.take (k + 1)).all isNum = true) := Lib.hid (by rw [all_take_one isNum L k s HSS.out, HALL.out, hq1]; rfl)
          have HM2 : Hid ((L.take (k + 1)).map qOf = (L.take k).map qOf ++ [q]) := Lib.hid (by rw [map_take_one qOf L k s HSS.out, hq2])
          have HLK : Hid (((L.take k).map qOf).length ≤ 100000000) := Lib.hid (by rw [List.length_map, List.length_take]; omega)
          have hwB := HB1.out.size
          clear hb1 hq hn1 hn2 hn1' hn2' hq1 hq2 hng hcell
          dsimp only
          go_wp2_with (at_builtin; go_must (refine wpList_pushE elemR (by omega) rfl (.tmp 30) (.tmp 32) 63 rfl 70 56 zeroR Tryz.underlying63 info_ratio rfl zeroR_ints (by omega) w.heap.size _ ((HOW1.out.alloc elemR _).alloc elemR _) HLK.out (by simp; omega) (w1.heap.size + 1) [.bool ng, .slice x1 m1 y1, .slice x2 m2 y2] q rfl (elemR.below HER.out (((Below.refl _ _).alloc (Nat.le_refl _) _).alloc (by simp) _) (Nat.le_refl _)) (cells_alloc _ #[.bool ng, .slice x1 m1 y1, .slice x2 m2 y2] _ _ (by simp)) ?_))
          intro ao n4 c4 w4 hown4 hn4 hgr hb4
          have HOW4 : Hid (OwE 3 ER 70 w4 w.heap.size (.slice ao n4 c4) ((L.take (k + 1)).map qOf)) := Lib.hid (by rw [HM2.out, List.map_take]; exact hown4)
          have HB4 := Lib.hid (((HB1.out.alloc hwB _).alloc (by simp; omega) _).trans (hb4))
          clear hown4 hn4 hgr hb4
          go_wp2
          go_roundw
          case rel => exact ⟨k + 1, by first | rfl | go_num, HK.out, HA2.out, HOW4.out, HB4.out⟩
          case measure => simp [intOf]; have := HK.out; omega
        · intro e w1 hnone he hb1
          obtain ⟨t, p, rfl⟩ := he
          have HB1 := Lib.hid (HB.out.trans (hb1.mono HB.out.size))
          have hf : (decide (L.length ≤ 60) && L.all isNum) = false := by rw [all_not_at isNum L k s HSS.out (isNum_not hnone), Bool.and_false]
          have HF := Lib.hid (HR2.out (.iface t (.pointer (some p))) (w1.alloc (.cells #[.bool false, .slice none 0 0, .slice none 0 0] 70)) hf ⟨_, _, rfl⟩ (HB1.out.alloc HB1.out.size _))
          clear hb1 hnone hf hcell
          unfold zeroR
          dsimp only
          go_wp2
          first | go_ret | skip
          exact HF.out
  · have e1 : ((60 : Int) < (n : Int)) := by omega
    have hf : (decide (L.length ≤ 60) && L.all isNum) = false := by rw [← HN.out, decide_eq_false h60, Bool.false_and]
    have HF := Lib.hid (fun p w' => HR2.out (.iface 239 (.pointer (some p))) w' hf ⟨_, _, rfl⟩)
    obtain ⟨_, ⟨pf, hpf⟩, _⟩ := hE
    clear h60 hf
    go_enter Tryz.func102, Tryz.ntmps102
    go_wp2
    go_quiet (fail)
    go_wp2
    first | go_ret | skip
    exact HF.out _ _ (below_draws (Below.refl _ _) _)

theorem readrs_any (v : Value) (L : List ByteArray) (w : World) (hE : Env w) (h : TxL w v L) (hn : L.length ≤ 1048576) (R : Ending → World → Prop)
    (hR : ∀ v' w', L.length ≤ 60 → L.all isNum = true → RsL w' v' (L.map qOf) → Below w.heap.size w w' → R (.returned (.tuple #[v', .nilIface])) w')
    (hR2 : ∀ e w', (decide (L.length ≤ 60) && L.all isNum) = false → ErrV e → Below w.heap.size w w' → R (.returned (.tuple #[.slice none 0 0, e])) w') :
    Calls Tryz.prog 102 #[v] w R :=
  readrs_own v L w hE h hn R (fun v' w' h1 h2 h3 h4 => hR v' w' h1 h2 h3.sl h4) hR2

/-- a store into an older block without numbers leaves an owned list as it is -/
theorem OwE.setOld {α : Type} {sz : Nat} {E : World → List Value → α → Prop} (hE : Elem sz E) {e : TypeId} {w : World} {B : Nat} {v : Value} {xs : List α} (h : OwE sz E e w B v xs) {b : Nat} (hb : b < B) (hn : NoInt w b) (o : Nat) (u : Value) : OwE sz E e (w.setCell ⟨b, o, none⟩ u) B v xs := by
  rcases h with h | ⟨g, cap, cur, h1, h2, h3, h4, h5, h6, h7, h8⟩
  · exact .inl h
  · exact .inr ⟨g, cap, cur, h1, h2, by rw [Below.heap_setCell _ _ _ _ (show g ≠ b by omega)]; exact h3, h4, h5, h6, h7, fun i x hi => hE.keep (h8 i x hi) ((But.refl b w).setCell o u) hn⟩
end Go.Proofs.YtegdcmcfeaohhaaGreatDoor

namespace Go.Proofs.YtegdcmcfeaohhaaGreatDoor
open Go Go.RowKit

theorem add_divint (a b : Rat) : Rat.divInt (a.num * (b.den : Int) + b.num * (a.den : Int)) ((a.den : Int) * (b.den : Int)) = a + b := by
  have h1 := a.den_pos; have h2 := b.den_pos
  rw [← Rat.divInt_add_divInt _ _ (by omega) (by omega), Rat.num_divInt_den, Rat.num_divInt_den]
theorem add_len (x y : Int) (N : Nat) (hx : (dig 10000 x.natAbs).length ≤ N) (hy : (dig 10000 y.natAbs).length ≤ N) : (dig 10000 (x + y).natAbs).length ≤ N + 1 := by
  apply dig_length_le (by omega)
  have h1 := Nat.lt_of_lt_of_le (lt_pow_dig (by omega : 2 ≤ 10000) x.natAbs) (Nat.pow_le_pow_right (by omega) hx)
  have h2 := Nat.lt_of_lt_of_le (lt_pow_dig (by omega : 2 ≤ 10000) y.natAbs) (Nat.pow_le_pow_right (by omega) hy)
  rw [Nat.pow_succ]
  omega

set_option maxRecDepth 100000 in
set_option maxHeartbeats 8000000 in
theorem addQ_any (va vb : Value) (a b : Rat) (w : World) (ha : IsQ w va a) (hb : IsQ w vb b) (hla : (dig 10000 a.num.natAbs).length ≤ 400000) (hla2 : (dig 10000 a.den).length ≤ 400000)
    (hlb : (dig 10000 b.num.natAbs).length ≤ 400000) (hlb2 : (dig 10000 b.den).length ≤ 400000)
    (R : Ending → World → Prop) (hR : ∀ v w', IsQ w' v (a + b) → Below w.heap.size w w' → R (.returned v) w') :
    Calls Tryz.prog 96 #[va, vb] w R := by
  have HR := Lib.hid hR; clear hR
  obtain ⟨na, a1, n1, c1, a2, n2, c2, rfl, hz1, hz2⟩ := ha.parts
  obtain ⟨nb, a3, n3, c3, a4, n4, c4, rfl, hz3, hz4⟩ := hb.parts
  clear ha hb
  obtain ⟨L, hL⟩ : ∃ L, L = ((w.alloc (.cells #[.bool na, .slice a1 n1 c1, .bool false, .slice a2 n2 c2] 58)).alloc (.cells #[.bool nb, .slice a3 n3 c3, .bool false, .slice a4 n4 c4] 58)).alloc (.cells #[.bool false, .slice none 0 0, .bool false, .slice none 0 0] 58) := ⟨_, rfl⟩
  have hLs : L.heap.size = w.heap.size + 3 := by rw [hL]; simp
  have B0 : Box4 L w.heap.size (.bool na) (.slice a1 n1 c1) (.bool false) (.slice a2 n2 c2) 58 := by
    rw [hL]; exact ((Box4.made w _ _ _ _ _).later (B := w.heap.size + 1) ((Below.refl _ _).alloc (by simp) _) (by omega)).later (B := w.heap.size + 2) ((Below.refl _ _).alloc (by simp) _) (by omega)
  have B1 : Box4 L (w.heap.size + 1) (.bool nb) (.slice a3 n3 c3) (.bool false) (.slice a4 n4 c4) 58 := by
    rw [hL]; have := (Box4.made (w.alloc (.cells #[.bool na, .slice a1 n1 c1, .bool false, .slice a2 n2 c2] 58)) (.bool nb) (.slice a3 n3 c3) (.bool false) (.slice a4 n4 c4) 58).later (B := w.heap.size + 2) ((Below.refl _ _).alloc (by simp) (.cells #[.bool false, .slice none 0 0, .bool false, .slice none 0 0] 58)) (by simp); simpa using this
  have B2 : Box4 L (w.heap.size + 2) (.bool false) (.slice none 0 0) (.bool false) (.slice none 0 0) 58 := by
    rw [hL]; have := Box4.made ((w.alloc (.cells #[.bool na, .slice a1 n1 c1, .bool false, .slice a2 n2 c2] 58)).alloc (.cells #[.bool nb, .slice a3 n3 c3, .bool false, .slice a4 n4 c4] 58)) (.bool false) (.slice none 0 0) (.bool false) (.slice none 0 0) 58; simpa using this
  have HEXT : Below w.heap.size w L := by rw [hL]; exact (((Below.refl w.heap.size w).alloc (Nat.le_refl _) _).alloc (by simp) _).alloc (by simp; omega) _
  have HL := Lib.hid hL
  have y1 := (hz1.later HEXT (Nat.le_refl _))
  have y2 := (hz2.later HEXT (Nat.le_refl _))
  have y3 := (hz3.later HEXT (Nat.le_refl _))
  have y4 := (hz4.later HEXT (Nat.le_refl _))
  clear hL hz1 hz2 hz3 hz4
  go_enter Tryz.func96, Tryz.ntmps96
  go_wp2_with fail
  rw [← HL.out]
  obtain ⟨⟨hA0, hA1, hA2, hA3⟩, _, _, _, _⟩ := B0.cells
  obtain ⟨⟨hB0, hB1, hB2, hB3⟩, _, _, _, _⟩ := B1.cells
  have hk0 : w.heap.size < L.heap.size := by omega
  have hk1 : w.heap.size + 1 < L.heap.size := by omega
  have hk2 : w.heap.size + 2 < L.heap.size := by omega
  have hla' : (dig 10000 (a.num.natAbs)).length ≤ 10000000 := by omega
  have hlb' : (dig 10000 (b.num.natAbs)).length ≤ 10000000 := by omega
  have hla2' : (dig 10000 ((a.den : Int).natAbs)).length ≤ 10000000 := by rw [Int.natAbs_natCast]; omega
  have hlb2' : (dig 10000 ((b.den : Int).natAbs)).length ≤ 10000000 := by rw [Int.natAbs_natCast]; omega
  have hp1 : (dig 10000 ((a.num * (b.den : Int)).natAbs)).length ≤ 800000 := by rw [Int.natAbs_mul, Int.natAbs_natCast]; have := mul_len _ _ _ _ hla hlb2; omega
  have hp2 : (dig 10000 ((b.num * (a.den : Int)).natAbs)).length ≤ 800000 := by rw [Int.natAbs_mul, Int.natAbs_natCast]; have := mul_len _ _ _ _ hlb hla2; omega
  have hp3 : (dig 10000 ((a.num * (b.den : Int) + b.num * (a.den : Int)).natAbs)).length ≤ 1000000 := by
    have := add_len _ _ _ hp1 hp2; omega
  have hm2 : (dig 10000 (((a.den : Int) * (b.den : Int)).natAbs)).length ≤ 1000000 := by rw [Int.natAbs_mul, Int.natAbs_natCast, Int.natAbs_natCast]; have := mul_len _ _ _ _ hla2 hlb2; omega
  have hd0 : (a.den : Int) * (b.den : Int) ≠ 0 := by
    have h1 := a.den_pos; have h2 := b.den_pos
    have := Nat.mul_pos h1 h2
    intro h; rw [← Int.natCast_mul] at h; omega
  have HLN := Lib.hid (And.intro hla' (And.intro hlb' (And.intro hla2' (And.intro hlb2' (And.intro hp1 (And.intro hp2 (And.intro hp3 (And.intro hm2 hd0))))))))
  clear hla hlb hla2 hlb2 hla' hlb' hla2' hlb2' hp1 hp2 hp3 hm2 hd0
  have hSof : ∀ w', Below (w.heap.size + 2) L w' → (Below (w.heap.size + 2) L w' ∧ (w'.cell? ⟨w.heap.size, 0, none⟩ = some (.bool na) ∧ w'.cell? ⟨w.heap.size, 1, none⟩ = some (.slice a1 n1 c1) ∧ w'.cell? ⟨w.heap.size, 2, none⟩ = some (.bool false) ∧ w'.cell? ⟨w.heap.size, 3, none⟩ = some (.slice a2 n2 c2)) ∧
      (w'.cell? ⟨w.heap.size + 1, 0, none⟩ = some (.bool nb) ∧ w'.cell? ⟨w.heap.size + 1, 1, none⟩ = some (.slice a3 n3 c3) ∧ w'.cell? ⟨w.heap.size + 1, 2, none⟩ = some (.bool false) ∧ w'.cell? ⟨w.heap.size + 1, 3, none⟩ = some (.slice a4 n4 c4))) :=
    fun w' hb => ⟨hb, (B0.later hb (by omega)).cells.1, (B1.later hb (by omega)).cells.1⟩
  have HSOF := Lib.hid hSof
  have HB2L := Lib.hid B2
  clear hA0 hA1 hA2 hA3 hB0 hB1 hB2 hB3 hSof B0 B1 B2
  go_region_held3 (fun w' => Below (w.heap.size + 2) L w' ∧ (w'.cell? ⟨w.heap.size, 0, none⟩ = some (.bool na) ∧ w'.cell? ⟨w.heap.size, 1, none⟩ = some (.slice a1 n1 c1) ∧ w'.cell? ⟨w.heap.size, 2, none⟩ = some (.bool false) ∧ w'.cell? ⟨w.heap.size, 3, none⟩ = some (.slice a2 n2 c2)) ∧
      (w'.cell? ⟨w.heap.size + 1, 0, none⟩ = some (.bool nb) ∧ w'.cell? ⟨w.heap.size + 1, 1, none⟩ = some (.slice a3 n3 c3) ∧ w'.cell? ⟨w.heap.size + 1, 2, none⟩ = some (.bool false) ∧ w'.cell? ⟨w.heap.size + 1, 3, none⟩ = some (.slice a4 n4 c4)))
    (first
      | exact HSOF.out _ HQ5.out
      | exact HSOF.out _ HQ4.out
      | exact HSOF.out _ HQ3.out
      | exact HSOF.out _ HQ2.out
      | exact HSOF.out _ HQ1.out
      | exact HSOF.out _ (Below.refl _ _).drew
      | exact HSOF.out _ ((((HQ5.out.setCell (by simp) _).setCell (by simp) _).setCell (by simp) _).setCell (by simp) _))
    (first
      | (go_at_call 119; refine make_any v3 v4 (a.num * (b.den : Int) + b.num * (a.den : Int)) ((a.den : Int) * (b.den : Int)) _ (HV3.out.later HB4.out (Nat.le_refl _)) HV4.out HLN.out.2.2.2.2.2.2.1 HLN.out.2.2.2.2.2.2.2.1 HLN.out.2.2.2.2.2.2.2.2 _ ?_; intro v5 w5 hv5 hb5; obtain ⟨n5, a5, m5, c5, a6, m6, c6, rfl, _, _⟩ := hv5.parts; have HV5 := Lib.hid hv5; have HT5 := Lib.hid (HT4.out.trans (hb5.mono HT4.out.size)); have HQ5 := Lib.hid (HT5.out.mono (Nat.le_of_lt hk2)); have d2 := HB2L.out.later HT5.out hk2; obtain ⟨⟨hR0, hR1, hR2, hR3⟩, hR4, hR5, hR6, hR7⟩ := d2.cells; have HD2 := Lib.hid d2; clear hv5 hb5 d2; dsimp only)
      | (have hguard := HQ3; go_at_call 135; refine zmul_any (.agg #[.bool false, .slice a2 n2 c2]) (.agg #[.bool false, .slice a4 n4 c4]) (a.den : Int) (b.den : Int) _ (y2.later HT3.out (Nat.le_refl _)) (y4.later HT3.out (Nat.le_refl _)) HLN.out.2.2.1 HLN.out.2.2.2.1 _ ?_; intro v4 w4 hv4 hb4; have HV4 := Lib.hid hv4; have HB4 := Lib.hid hb4; have HT4 := Lib.hid (HT3.out.trans (hb4.mono HT3.out.size)); have HQ4 := Lib.hid (HT4.out.mono (Nat.le_of_lt hk2)); clear hguard hv4 hb4; dsimp only)
      | (go_at_call 134; refine zadd_any v1 v2 (a.num * (b.den : Int)) (b.num * (a.den : Int)) _ (HV1.out.later HB2.out (Nat.le_refl _)) HV2.out (Nat.le_trans HLN.out.2.2.2.2.1 (by omega)) (Nat.le_trans HLN.out.2.2.2.2.2.1 (by omega)) _ ?_; intro v3 w3 hv3 hb3; have HV3 := Lib.hid hv3; have HB3 := Lib.hid hb3; have HT3 := Lib.hid (HT2.out.trans (hb3.mono HT2.out.size)); have HQ3 := Lib.hid (HT3.out.mono (Nat.le_of_lt hk2)); clear hv3 hb3; dsimp only)
      | (have hguard := HQ1; go_at_call 135; refine zmul_any (.agg #[.bool nb, .slice a3 n3 c3]) (.agg #[.bool false, .slice a2 n2 c2]) b.num (a.den : Int) _ (y3.later HT1.out (Nat.le_refl _)) (y2.later HT1.out (Nat.le_refl _)) HLN.out.2.1 HLN.out.2.2.1 _ ?_; intro v2 w2 hv2 hb2; have HV2 := Lib.hid hv2; have HB2 := Lib.hid hb2; have HT2 := Lib.hid (HT1.out.trans (hb2.mono HT1.out.size)); have HQ2 := Lib.hid (HT2.out.mono (Nat.le_of_lt hk2)); clear hguard hv2 hb2; dsimp only)
      | (go_at_call 135; refine zmul_any (.agg #[.bool na, .slice a1 n1 c1]) (.agg #[.bool false, .slice a4 n4 c4]) a.num (b.den : Int) _ y1.drew y4.drew HLN.out.1 HLN.out.2.2.2.1 _ ?_; intro v1 w1 hv1 hb1; have HV1 := Lib.hid hv1; have HT1 : Hid (Below L.heap.size L w1) := Lib.hid (below_ofDrew hb1); have HQ1 := Lib.hid (HT1.out.mono (Nat.le_of_lt hk2)); clear hv1 hb1; dsimp only))
  all_goals
    go_wp2
    refine bodyPost_ret_at (by simp [results, Tryz.results96, go_sem, hR0, hR1, hR2, hR3, hR4, hR5, hR6, hR7] <;> rfl) rfl ?_
    have hv5 := HV5.out
    rw [add_divint] at hv5
    have hn := HD2.out.noInt rfl rfl rfl rfl
    obtain ⟨s1, s2, e, h1, h2⟩ := hv5
    refine HR.out _ _ ⟨s1, s2, e, h1.set4 hn _ _ _ _ rfl rfl rfl, h2.set4 hn _ _ _ _ rfl rfl rfl⟩ (((((HEXT.trans (HT5.out.mono (by omega))).setCell (by simp <;> omega) _).setCell (by simp <;> omega) _).setCell (by simp <;> omega) _).setCell (by simp <;> omega) _)
end Go.Proofs.YtegdcmcfeaohhaaGreatDoor

namespace Go.Proofs.YtegdcmcfeaohhaaGreatDoor
open Go Go.RowKit

theorem isNum_at {L : List ByteArray} (h : L.all isNum = true) {k : Nat} {s : ByteArray} (hs : L[k]? = some s) : numO s.data.toList = some (qOf s) :=
  isNum_some (List.all_eq_true.1 h s (List.mem_of_getElem? hs))

/-- a fraction of the model as an element -/
def EQ (w : World) (cs : List Value) (q : Rat) : Prop := ∃ a1 n1 c1 a2 n2 c2, cs = [.bool (decide (q.num < 0)), .slice a1 n1 c1, .bool false, .slice a2 n2 c2] ∧ IsQ w (.agg #[.bool (decide (q.num < 0)), .slice a1 n1 c1, .bool false, .slice a2 n2 c2]) q
theorem Sl.keepB {k : IntKind} {w w' : World} {v : Value} {xs : List Nat} {g : Nat} (h : Sl k w v xs) (hb : But g w w') (hg : NoInt w g) : Sl k w' v xs := by
  refine Sl.but h hb fun h0 e => ?_
  rcases Sl.cases h with ⟨h1, _⟩ | ⟨_, b, off, cap, rfl, _, hbl, hc⟩
  · rw [h1] at h0; simp at h0
  · simp [blk] at e
    subst e
    have := hg _ _ (hc 0 h0)
    cases this
theorem elemQ : Elem 4 EQ where
  len := by rintro w cs x ⟨_, _, _, _, _, _, rfl, _⟩; rfl
  ints := by
    rintro w cs x ⟨_, _, _, _, _, _, rfl, _⟩ u hu
    simp only [List.mem_cons, List.not_mem_nil, or_false] at hu
    rcases hu with rfl | rfl | rfl | rfl <;> rfl
  one := by
    rintro w cs x ⟨_, _, _, _, _, _, rfl, _⟩ u hu
    simp only [List.mem_cons, List.not_mem_nil, or_false] at hu
    rcases hu with rfl | rfl | rfl | rfl <;> rfl
  keep := by
    rintro w w' g cs x ⟨a1, n1, c1, a2, n2, c2, rfl, h⟩ hb hg
    refine ⟨a1, n1, c1, a2, n2, c2, rfl, ?_⟩
    obtain ⟨s1, s2, e, k1, k2⟩ := h
    exact ⟨s1, s2, e, k1.keepB hb hg, k2.keepB hb hg⟩

def zeroQ : Value := .agg #[.bool false, .slice none 0 0, .bool false, .slice none 0 0]
theorem info_q : (Tryz.prog.info? 58).map (fun i => (i.zero, i.size, i.bytes)) = some (some zeroQ, 4, 64) := by kernel_rfl
theorem zeroQ_ints : ∀ u ∈ zeroQ.cells.toList, notInt u = true := by
  intro u hu
  simp only [zeroQ, Value.cells, List.mem_cons, List.not_mem_nil, or_false] at hu
  rcases hu with rfl | rfl | rfl | rfl <;> rfl

/-- the loop of the model's reading of a list -/
def OfRel (w : World) (n : Nat) (L : List ByteArray) (v i : Value) (wr : World) : Prop :=
  ∃ k : Nat, i = .int .i64 (k : Int) ∧ k ≤ n ∧ OwE 4 EQ 58 wr w.heap.size v ((L.take k).map qOf) ∧ Below w.heap.size w wr

set_option maxRecDepth 100000 in
set_option maxHeartbeats 2000000 in
theorem oflist_any (v : Value) (L : List ByteArray) (w : World) (h : TxL w v L) (hall : L.all isNum = true) (hn : L.length ≤ 1048576) (R : Ending → World → Prop)
    (hR : ∀ v' w', OwE 4 EQ 58 w' w.heap.size v' (L.map qOf) → Below w.heap.size w w' → R (.returned v') w') :
    Calls Tryz.prog 51 #[v] w R := by
  have HR := Lib.hid hR; clear hR
  obtain ⟨ao, n, cap, rfl, hnl, hc, hh⟩ := h.open
  have HH := Lib.hid hh
  have HN := Lib.hid hnl
  have HALL := Lib.hid hall
  rw [← hnl] at hn
  obtain ⟨W, hW⟩ : ∃ W, W = w.alloc (.cells #[] 58) := ⟨_, rfl⟩
  have hbW : Below w.heap.size w W := by rw [hW]; exact (Below.refl _ _).alloc (Nat.le_refl _) _
  have HST : Hid (OfRel w n L (.slice (some ⟨w.heap.size, 0, none⟩) 0 0) (.int .i64 0) W) := Lib.hid ⟨0, rfl, Nat.zero_le _, by rw [hW]; simpa using OwE.lit _ w w.heap.size (Nat.le_refl _), hbW⟩
  have HW := Lib.hid hW
  clear h hnl hh hall hW hbW hc
  go_enter Tryz.func51, Tryz.ntmps51
  go_wp2_with fail
  rw [← HW.out]
  go_loopw [3, 4] (fun v i wr => OfRel w n L v i wr) (fun _ i _ => n - (intOf i).toNat)
  case atStart => exact HST.out
  case round =>
    clear HST
    obtain ⟨k, rfl, hk, hown, hbel⟩ := hrel
    have HB := Lib.hid hbel
    have HOWN := Lib.hid hown
    obtain ⟨a3, n3, c3, rfl, hn3⟩ := hown.shape
    by_cases hkn : k = n
    · subst hkn
      have he : L.take k = L := by rw [HN.out, List.take_length]
      rw [he] at HOWN
      have HF := Lib.hid (HR.out _ _ HOWN.out HB.out)
      clear hbel he hown hn3
      go_wp2
      first | go_ret | skip
      exact HF.out
    · have hkl : k < n := by omega
      obtain ⟨s, hs⟩ : ∃ s, L[k]? = some s := ⟨_, List.getElem?_eq_getElem (by rw [← HN.out]; exact hkl)⟩
      have HS := Lib.hid (isNum_at HALL.out hs)
      have HM2 : Hid ((L.take (k + 1)).map qOf = (L.take k).map qOf ++ [qOf s]) := Lib.hid (by rw [map_take_one qOf L k s hs])
      have HLK : Hid (((L.take k).map qOf).length ≤ 100000000) := Lib.hid (by rw [List.length_map, List.length_take]; omega)
      obtain ⟨q, hq⟩ : ∃ q, q = qOf s := ⟨_, rfl⟩
      rw [← hq] at HS HM2
      obtain ⟨b, off, rfl, hb, hcell⟩ := TxL.at HH.out k s hs
      rw [← hbel.cell (p := ⟨b, off + k, none⟩) hb] at hcell
      have hw1 : IntKind.i64.wrap ((k : Int) + 1) = ((k + 1 : Nat) : Int) := by rw [IntWalk.i64_in _ (by omega)]; omega
      have HK := Lib.hid hkl
      clear hs hbel hown hn3 hq hkn
      go_wp2_with fail
      refine ofq_any s q _ HS.out _ ?_
      intro v1 w1 hq1 hb1
      obtain ⟨x1, m1, y1, x2, m2, y2, rfl, e1, e2, _, _⟩ := hq1.open
      have HB1 := Lib.hid (HB.out.trans (hb1.mono HB.out.size))
      have HOW1 := Lib.hid (HOWN.out.later elemQ hb1 (Nat.le_refl _))
      have HEQ : Hid (EQ w1 [.bool (decide (q.num < 0)), .slice x1 m1 y1, .bool false, .slice x2 m2 y2] q) := Lib.hid ⟨_, _, _, _, _, _, rfl, hq1⟩
      obtain ⟨ng, hng⟩ : ∃ ng, ng = decide (q.num < 0) := ⟨_, rfl⟩
      rw [← hng] at HEQ ⊢
      have hwB := HB1.out.size
      clear hb1 hq1 e1 e2 hng hcell
      dsimp only
      go_wp2_with (at_builtin; go_must (refine wpList_pushE elemQ (by omega) rfl (.tmp 12) (.tmp 18) 51 rfl 58 64 zeroQ Tryz.underlying51 info_q rfl zeroQ_ints (by omega) w.heap.size _ (HOW1.out.alloc elemQ _) HLK.out (by simp; omega) w1.heap.size [.bool ng, .slice x1 m1 y1, .bool false, .slice x2 m2 y2] q rfl (elemQ.below HEQ.out ((Below.refl _ _).alloc (Nat.le_refl _) _) (Nat.le_refl _)) (cells_alloc _ #[.bool ng, .slice x1 m1 y1, .bool false, .slice x2 m2 y2] _ _ rfl) ?_))
      intro ao n4 c4 w4 hown4 hn4 hgr hb4
      have HOW4 : Hid (OwE 4 EQ 58 w4 w.heap.size (.slice ao n4 c4) ((L.take (k + 1)).map qOf)) := Lib.hid (by rw [HM2.out, List.map_take]; exact hown4)
      have HB4 := Lib.hid ((HB1.out.alloc hwB _).trans hb4)
      clear hown4 hn4 hgr hb4
      go_wp2
      go_roundw
      case rel => exact ⟨k + 1, by first | rfl | go_num, HK.out, HOW4.out, HB4.out⟩
      case measure => simp [intOf]; have := HK.out; omega
end Go.Proofs.YtegdcmcfeaohhaaGreatDoor

namespace Go.Proofs.YtegdcmcfeaohhaaGreatDoor
open Go Go.RowKit

/-- decimal digits, none of 0 -/
def mkD (k : Nat) : List UInt8 := (dig 10 k).reverse.map chr
theorem mkD_zero : mkD 0 = [] := by simp [mkD, dig]
theorem mkD_step {k : Nat} (h : 0 < k) : mkD k = mkD (k / 10) ++ [chr (k % 10)] := by
  unfold mkD
  rw [show dig 10 k = (k % 10) :: dig 10 (k / 10) by rw [dig]; rw [dif_neg (by omega)]]
  simp
theorem mkD_len {k : Nat} (h : k < 10 ^ 20) : (mkD k).length ≤ 20 := by
  unfold mkD
  rw [List.length_map, List.length_reverse]
  exact dig_length_le (by omega) _ _ h
/-- the mark of a number -/
def mkT (k : Nat) : ByteArray := if k = 0 then ⟨#[109, 48]⟩ else ⟨#[109]⟩ ++ ⟨(mkD k).toArray⟩

set_option maxRecDepth 100000 in
/-- a byte as a text -/
theorem conv1 (W : World) (x : Nat) :
    (convert 86 9 (.slice (some ⟨W.heap.size, 0, none⟩) 1 1)).run Tryz.prog (W.alloc (.cells #[.int .u8 (48 + (x : Int))] 5)) =
      .ok (.string ⟨([chr x] : List UInt8).toArray⟩) (W.alloc (.cells #[.int .u8 (48 + (x : Int))] 5)) := by
  rw [run_convert_bytes_string _ _ _ 5 _ _ _ Tryz.underlying86 Tryz.underlying5 Tryz.underlying9]
  rw [run_bytesToString _ _ _ _ [48 + (x : Int)] (by simp [go_sem])]
  have e : [48 + (x : Int)].foldl (fun r n => r.push (UInt8.ofNat n.toNat)) ByteArray.empty = ⟨([chr x] : List UInt8).toArray⟩ := by
    have h1 := chr_int x
    simp only [List.foldl_cons, List.foldl_nil, h1]
    rfl
  rw [e]

set_option maxRecDepth 100000 in
set_option maxHeartbeats 1000000 in
theorem markText_any (K : Nat) (w : World) (hK : K ≤ 1000000000000) (R : Ending → World → Prop)
    (hR : ∀ w', Below w.heap.size w w' → R (.returned (.string (mkT K))) w') :
    Calls Tryz.prog 55 #[.int .i64 (K : Int)] w R := by
  have HR := Lib.hid hR; clear hR
  by_cases h0 : K = 0
  · subst h0
    go_enter Tryz.func55, Tryz.ntmps55
    go_wp2
    first | go_ret | skip
    exact HR.out _ (Below.refl _ _)
  · have hp : ¬ ((K : Int) ≤ 0) := by omega
    have HT : Hid (mkT K = ⟨#[109]⟩ ++ ⟨(mkD K).toArray⟩) := Lib.hid (by unfold mkT; rw [if_neg h0])
    have HLK : Hid ((mkD K).length ≤ 20) := Lib.hid (mkD_len (by omega))
    have HKK := Lib.hid hK
    clear h0
    go_enter Tryz.func55, Tryz.ntmps55
    go_wp2
    clear hp
    go_loopw [0, 3] (fun kv ov wr => ∃ (j : Nat) (l : List UInt8), kv = .int .i64 (j : Int) ∧ ov = .string ⟨l.toArray⟩ ∧ j ≤ K ∧ mkD j ++ l = mkD K ∧ Below w.heap.size w wr) (fun kv _ _ => (intOf kv).toNat)
    case atStart => exact ⟨K, [], rfl, rfl, Nat.le_refl _, by simp, Below.refl _ _⟩
    case round =>
      obtain ⟨j, l, rfl, rfl, hj, hl, hbel⟩ := hrel
      have HL := Lib.hid hl
      have HB := Lib.hid hbel
      have hll : l.length ≤ 20 := by have := congrArg List.length hl; rw [List.length_append] at this; have := HLK.out; omega
      clear hl hbel
      by_cases hj0 : j = 0
      · subst hj0
        have hfin : l = mkD K := by rw [← HL.out, mkD_zero, List.nil_append]
        have HF := Lib.hid (show R (.returned (.string (⟨#[109]⟩ ++ ⟨l.toArray⟩))) wr by have := HR.out _ HB.out; rw [HT.out, ← hfin] at this; exact this)
        clear hfin
        go_wp2
        first | go_ret | skip
        exact HF.out
      · obtain ⟨r, hr⟩ : ∃ r, r = j % 10 := ⟨_, rfl⟩
        obtain ⟨q, hq⟩ : ∃ q, q = j / 10 := ⟨_, rfl⟩
        have hr10 : r < 10 := by omega
        have hqj : q < j := by omega
        have HN : Hid (mkD q ++ (chr r :: l) = mkD K) := Lib.hid (by
          have := HL.out
          rw [mkD_step (by omega), ← hr, ← hq] at this
          rw [← this]; simp)
        have hcv := conv1 wr r
        have e1 : (j : Int) % 10 = (r : Int) := by omega
        have e2 : Int.tmod (j : Int) 10 = (r : Int) := by rw [Int.tmod_eq_emod_of_nonneg (by omega)]; exact e1
        have e3 : IntKind.i64.wrap (r : Int) = (r : Int) := IntWalk.i64_in _ (by omega)
        have e4 : IntKind.i64.wrap (48 + (r : Int)) = 48 + (r : Int) := IntWalk.i64_in _ (by omega)
        have e5 : IntKind.u8.wrap (48 + (r : Int)) = 48 + (r : Int) := by rw [IntKind.wrap_u8]; omega
        have e6 : (j : Int) / 10 = (q : Int) := by omega
        have e7 : Int.tdiv (j : Int) 10 = (q : Int) := by rw [Int.tdiv_eq_ediv_of_nonneg (by omega)]; exact e6
        have e8 : IntKind.i64.wrap (q : Int) = (q : Int) := IntWalk.i64_in _ (by have := HKK.out; omega)
        have HBA := Lib.hid (HB.out.alloc HB.out.size (.cells #[.int .u8 (48 + (r : Int))] 5))
        have hqK : q ≤ K := by omega
        clear hr hq hj0
        go_wp2
        go_roundw
        case rel => exact ⟨q, chr r :: l, by first | rfl | go_num, by first | rfl | (rw [ByteArray.mk_append_mk]; rfl), hqK, HN.out, HBA.out⟩
        case measure => simp [intOf]; omega
end Go.Proofs.YtegdcmcfeaohhaaGreatDoor

namespace Go.Proofs.YtegdcmcfeaohhaaGreatDoor
open Go Go.RowKit

/-- of what there was, nothing but one block has turned, if any has -/
structure ButO (o : Option Nat) (w w' : World) : Prop where
  os : w'.os = w.os
  tape : w'.tape = w.tape
  output : w'.output = w.output
  size : w.heap.size ≤ w'.heap.size
  block : ∀ k, k < w.heap.size → o ≠ some k → w'.heap[k]? = w.heap[k]?

theorem ButO.refl (o : Option Nat) (w : World) : ButO o w w := ⟨rfl, rfl, rfl, Nat.le_refl _, fun _ _ _ => rfl⟩
theorem ButO.trans {o : Option Nat} {a b c : World} (h : ButO o a b) (k : ButO o b c) : ButO o a c :=
  ⟨k.os.trans h.os, k.tape.trans h.tape, k.output.trans h.output, Nat.le_trans h.size k.size, fun i hi ho => (k.block i (Nat.lt_of_lt_of_le hi h.size) ho).trans (h.block i hi ho)⟩
theorem ButO.of {o : Option Nat} {w w' : World} (h : Below w.heap.size w w') : ButO o w w' := ⟨h.os, h.tape, h.output, h.size, fun k hk _ => h.block k hk⟩
theorem ButO.set {g : Nat} (w : World) (i : Nat) (u : Value) : ButO (some g) w (w.setCell ⟨g, i, none⟩ u) :=
  ⟨rfl, rfl, rfl, by simp [World.setCell], fun k _ ho => Below.heap_setCell _ _ _ _ (fun e => ho (by rw [e]))⟩
theorem ButO.below {o : Option Nat} {B : Nat} {w w' : World} (h : ButO o w w') (ho : ∀ g, o = some g → B ≤ g) (hB : B ≤ w.heap.size) : Below B w w' :=
  ⟨h.os, h.tape, h.output, h.size, fun k hk => h.block k (by omega) (fun e => by have := ho k e; omega)⟩
theorem OwE.base {α : Type} {sz : Nat} {E : World → List Value → α → Prop} {e : TypeId} {w : World} {B : Nat} {v : Value} {xs : List α} (h : OwE sz E e w B v xs) : ∀ g, v.ownBlock = some g → B ≤ g := by
  rcases h with ⟨rfl, _⟩ | ⟨g, cap, cur, rfl, h2, _⟩
  · intro g hg; cases hg
  · intro g' hg
    obtain rfl : g = g' := by simpa [Value.ownBlock] using hg
    exact h2
theorem OwE.butO {e : TypeId} {w w' : World} {B : Nat} {v : Value} {xs : List ByteArray} {o : Option Nat} (h : OwE 1 ET e w B v xs) (hb : ButO o w w') (hne : ∀ g, v.ownBlock = some g → o ≠ some g) : OwE 1 ET e w' B v xs := by
  rcases h with h | ⟨g, cap, cur, rfl, h2, h3, h4, h5, h6, h7, h8⟩
  · exact .inl h
  · exact .inr ⟨g, cap, cur, rfl, h2, by rw [hb.block g (lt_of_block h3) (hne g (by simp [Value.ownBlock]))]; exact h3, h4, h5, h6, h7, fun i x hi => h8 i x hi⟩

/-- a text of an own list is replaced -/
theorem OwE.setT {e : TypeId} {w : World} {B : Nat} {v : Value} {L : List ByteArray} (h : OwE 1 ET e w B v L) (i : Nat) (hi : i < L.length) :
    ∃ g cap u, v = .slice (some ⟨g, 0, none⟩) L.length cap ∧ v.ownBlock = some g ∧ g < w.heap.size ∧ w.cell? ⟨g, i, none⟩ = some u ∧ w.frozen? ⟨g, i, none⟩ = false ∧ ∀ s, OwE 1 ET e (w.setCell ⟨g, i, none⟩ (.string s)) B v (L.set i s) := by
  rcases h with ⟨_, rfl⟩ | ⟨g, cap, cur, rfl, h2, h3, h4, h5, h6, h7, h8⟩
  · simp at hi
  · have hic : i < cur.size := by rw [h6]; omega
    refine ⟨g, cap, cur[i], rfl, by simp [Value.ownBlock], lt_of_block h3, ?_, ?_, fun s => ?_⟩
    · simp only [World.cell?, h3, Option.isSome_none, Bool.false_eq_true, if_false]
      exact Array.getElem?_eq_getElem hic
    · simp [World.frozen?, h3]
    · refine .inr ⟨g, cap, cur.setIfInBounds i (.string s), by rw [List.length_set], h2, ?_, by rw [List.length_set]; exact h4, h5, by rw [Array.size_setIfInBounds]; exact h6, ?_, fun j x hj => ?_⟩
      · simp only [World.setCell, Array.getElem?_modify, h3]
        simp
      · intro u hu
        rw [Array.toList_setIfInBounds] at hu
        rcases List.mem_or_eq_of_mem_set hu with hu | rfl
        · exact h7 u hu
        · rfl
      · show ((cur.setIfInBounds i (.string s)).toList.drop (j * 1)).take 1 = [.string x]
        rw [Array.toList_setIfInBounds, Nat.mul_one]
        rw [List.getElem?_set] at hj
        by_cases hij : i = j
        · subst hij
          rw [if_pos rfl, if_pos hi] at hj
          cases hj
          rw [List.drop_eq_getElem_cons (by rw [List.length_set, Array.length_toList]; exact hic)]
          simp
        · rw [if_neg hij] at hj
          have := h8 j x hj
          rw [Nat.mul_one] at this
          have hj2 : j < cur.size := by have := (List.getElem?_eq_some_iff.1 hj).1; rw [h6]; omega
          have h9 : (cur.toList.drop j).take 1 = [cur.toList[j]'(by rw [Array.length_toList]; exact hj2)] := by
            rw [List.drop_eq_getElem_cons (by rw [Array.length_toList]; exact hj2)]; simp
          have h10 : ((cur.toList.set i (.string s)).drop j).take 1 = [cur.toList[j]'(by rw [Array.length_toList]; exact hj2)] := by
            rw [List.drop_eq_getElem_cons (by rw [List.length_set, Array.length_toList]; exact hj2)]
            simp [List.getElem_set_ne hij]
          rw [h10, ← h9]; exact this

theorem below_unD {B : Nat} {w w' : World} (h : Below B w.drew w') : Below B w w' := ⟨h.os, h.tape, h.output, h.size, h.block⟩

/-- the marks from a number on -/
def marks (k0 n : Nat) : List ByteArray := (List.range n).map fun i => mkT (k0 + i)
theorem marks_len (k0 n : Nat) : (marks k0 n).length = n := by simp [marks]
theorem marks_at {k0 n i : Nat} (h : i < n) : (marks k0 n)[i]? = some (mkT (k0 + i)) := by
  simp [marks, h]
theorem marks_set {k0 k : Nat} {L : List ByteArray} (h : k < L.length) : (marks k0 k ++ L.drop k).set k (mkT (k0 + k)) = marks k0 (k + 1) ++ L.drop (k + 1) := by
  rw [List.set_append_right _ _ (by rw [marks_len]; exact Nat.le_refl _), marks_len, Nat.sub_self, List.drop_eq_getElem_cons h, List.set_cons_zero]
  unfold marks
  rw [List.range_succ, List.map_append]
  simp

/-- the loop that marks -/
def MarkRel (e : TypeId) (w : World) (B : Nat) (v : Value) (k0 n : Nat) (L : List ByteArray) (kv iv : Value) (wr : World) : Prop :=
  ∃ k, iv = .int .i64 ((k : Nat) : Int) ∧ kv = .int .i64 ((k0 + k : Nat) : Int) ∧ k ≤ n ∧ OwE 1 ET e wr B v (marks k0 k ++ L.drop k) ∧ ButO v.ownBlock w wr

set_option maxRecDepth 100000 in
set_option maxHeartbeats 1000000 in
theorem mark_any (v : Value) (L : List ByteArray) (k0 : Nat) (B : Nat) (w : World) (h : OwE 1 ET 9 w B v L) (hn : L.length ≤ 1000000000) (hk : k0 ≤ 1000000000) (R : Ending → World → Prop)
    (hR : ∀ w', OwE 1 ET 9 w' B v (marks k0 L.length) → ButO v.ownBlock w w' → R (.returned (.int .i64 ((k0 + L.length : Nat) : Int))) w') :
    Calls Tryz.prog 19 #[v, .int .i64 (k0 : Int)] w R := by
  have HR := Lib.hid hR; clear hR
  have HST : Hid (MarkRel 9 w B v k0 L.length L (.int .i64 (k0 : Int)) (.int .i64 0) w) := Lib.hid ⟨0, rfl, rfl, Nat.zero_le _, by simpa [marks] using h, ButO.refl _ _⟩
  obtain ⟨ao, n, cap, rfl, hnl⟩ := h.shape
  obtain ⟨v0, hv0⟩ : ∃ v0, v0 = Value.slice ao n cap := ⟨_, rfl⟩
  rw [← hv0] at HST HR
  have HV0 := Lib.hid hv0
  have HN := Lib.hid hnl
  have hn9 : n ≤ 1000000000 := by omega
  clear h hnl hv0 hn
  rw [← HN.out] at HST HR
  go_enter Tryz.func19, Tryz.ntmps19
  go_wp2
  go_loopw [1, 5] (fun kv iv wr => MarkRel 9 w B v0 k0 n L kv iv wr) (fun _ iv _ => n - (intOf iv).toNat)
  case atStart => exact HST.out
  case round =>
    clear HST
    obtain ⟨k, rfl, rfl, hkn, hown, hbut⟩ := hrel
    have HBUT := Lib.hid hbut
    clear hbut
    by_cases hke : k = n
    · subst hke
      have he : marks k0 k ++ L.drop k = marks k0 k := by rw [HN.out, List.drop_length, List.append_nil]
      rw [he] at hown
      have HF := Lib.hid (HR.out wr hown HBUT.out)
      have hk0 : ¬ ((k : Int) < (k : Int)) := by omega
      clear hown he
      go_wp2
      first | go_ret | skip
      exact HF.out
    · have hkl : k < n := by omega
      have hlen : k < (marks k0 k ++ L.drop k).length := by rw [List.length_append, marks_len, List.length_drop, ← HN.out]; omega
      have HOWN := Lib.hid hown
      have HKL := Lib.hid hkl
      have hw1 : IntKind.i64.wrap ((k : Int) + 1) = ((k + 1 : Nat) : Int) := by rw [IntWalk.i64_in _ (by omega)]; omega
      have hw2 : IntKind.i64.wrap (((k0 + k : Nat) : Int) + 1) = ((k0 + (k + 1) : Nat) : Int) := by rw [IntWalk.i64_in _ (by omega)]; omega
      have HLEN := Lib.hid hlen
      obtain ⟨z, hz⟩ : ∃ z, z = k0 + k := ⟨_, rfl⟩
      have HZ := Lib.hid hz
      rw [← hz] at hw2 ⊢
      have hzl : z ≤ 1000000000000 := by omega
      obtain ⟨z2, hz2⟩ : ∃ z2 : Nat, z2 = k0 + (k + 1) := ⟨_, rfl⟩
      have HZ2 := Lib.hid hz2
      rw [← hz2] at hw2
      have hi0 : (0 : Int) ≤ (k : Int) := by omega
      have hi1 : (k : Int) < (n : Int) := by omega
      clear hown hlen hke hz hz2 hk
      go_wp2_with fail
      refine markText_any z _ hzl _ ?_
      intro w1 hb1
      have HB1 := Lib.hid hb1
      have hown1 := HOWN.out.later elemT hb1 (Nat.le_refl _)
      obtain ⟨g, cap', u, hv, hob, hg, hc, hf, hset⟩ := hown1.setT k HLEN.out
      have hs := hset (mkT z)
      rw [HZ.out, marks_set (show k < L.length by rw [← HN.out]; exact HKL.out)] at hs
      rw [← HZ.out] at hs
      have HS := Lib.hid hs
      have HOB := Lib.hid hob
      have hv' : some (⟨g, 0, none⟩ : Addr) = ao := by
        have := HV0.out
        rw [hv] at this
        simp only [Value.slice.injEq] at this
        exact this.1
      subst hv'
      clear hb1 hown1 hset hs hob hv
      dsimp only
      go_wp2
      go_roundw
      case rel =>
        refine ⟨k + 1, by first | rfl | go_num, by rw [← HZ2.out], HKL.out, HS.out, HBUT.out.trans ((ButO.of HB1.out).trans ?_)⟩
        rw [HOB.out]; exact ButO.set _ _ _
      case measure => simp [intOf]; have := HKL.out; omega

set_option maxRecDepth 100000 in
set_option maxHeartbeats 1000000 in
theorem held_any (v : Value) (k0 n : Nat) (w : World) (h : TxL w v (marks k0 n)) (hn : n ≤ 1000000000) (hk : k0 ≤ 1000000000) (R : Ending → World → Prop)
    (hR : ∀ w', Below w.heap.size w w' → R (.returned (.int .i64 ((k0 + n : Nat) : Int))) w') :
    Calls Tryz.prog 20 #[v, .int .i64 (k0 : Int)] w R := by
  have HR := Lib.hid hR; clear hR
  obtain ⟨ao, n', cap, rfl, hnl, hc, hh⟩ := h.open
  rw [marks_len] at hnl
  subst hnl
  have HH := Lib.hid hh
  clear h hh hc
  go_enter Tryz.func20, Tryz.ntmps20
  go_wp2
  go_loopw [1, 5] (fun kv iv wr => ∃ k, iv = .int .i64 ((k : Nat) : Int) ∧ kv = .int .i64 ((k0 + k : Nat) : Int) ∧ k ≤ n' ∧ Below w.heap.size w wr) (fun _ iv _ => n' - (intOf iv).toNat)
  case atStart => exact ⟨0, rfl, rfl, Nat.zero_le _, Below.refl _ _⟩
  case round =>
    obtain ⟨k, rfl, rfl, hkn, hbel⟩ := hrel
    have HB := Lib.hid hbel
    by_cases hke : k = n'
    · subst hke
      have HF := Lib.hid (HR.out wr HB.out)
      have hk0 : ¬ ((k : Int) < (k : Int)) := by omega
      clear hbel
      go_wp2
      first | go_ret | skip
      exact HF.out
    · have hkl : k < n' := by omega
      have HKL := Lib.hid hkl
      obtain ⟨b, off, rfl, hb, hcell⟩ := TxL.at HH.out k _ (marks_at hkl)
      rw [← hbel.cell (p := ⟨b, off + k, none⟩) hb] at hcell
      have hw1 : IntKind.i64.wrap ((k : Int) + 1) = ((k + 1 : Nat) : Int) := by rw [IntWalk.i64_in _ (by omega)]; omega
      have hw2 : IntKind.i64.wrap (((k0 + k : Nat) : Int) + 1) = ((k0 + (k + 1) : Nat) : Int) := by rw [IntWalk.i64_in _ (by omega)]; omega
      obtain ⟨z, hz⟩ : ∃ z, z = k0 + k := ⟨_, rfl⟩
      rw [← hz] at hw2 hcell ⊢
      have hzl : z ≤ 1000000000000 := by omega
      obtain ⟨z2, hz2⟩ : ∃ z2 : Nat, z2 = k0 + (k + 1) := ⟨_, rfl⟩
      have HZ2 := Lib.hid hz2
      rw [← hz2] at hw2
      obtain ⟨s, hs⟩ : ∃ s, s = mkT z := ⟨_, rfl⟩
      have HS := Lib.hid hs
      rw [← hs] at hcell
      have hss : (s.toList == s.toList) = true := by simp
      have hss2 : (s.toList != s.toList) = false := by simp
      have hi0 : (0 : Int) ≤ (k : Int) := by omega
      have hi1 : (k : Int) < (n' : Int) := by omega
      have hbl : b < wr.heap.size := Nat.lt_of_lt_of_le hb hbel.size
      have HSOF : Hid (∀ w', Below wr.heap.size wr w' → (Below wr.heap.size wr w' ∧ w'.cell? ⟨b, off + k, none⟩ = some (.string s))) :=
        Lib.hid fun w' hb' => ⟨hb', by rw [hb'.cell (p := ⟨b, off + k, none⟩) hbl]; exact hcell⟩
      clear hke hz hz2 hk hs hbel hkl
      go_wp2_with fail
      go_region_law (first
        | ((try go_simp); go_at_call 55; refine markText_any z _ hzl _ ?_; rw [← HS.out]; intro w1 hb1; have HB1 : Hid (Below wr.heap.size wr w1) := Lib.hid (below_unD hb1); have hc1 := (HSOF.out w1 HB1.out).2; clear hb1; dsimp only))
      all_goals
        go_wp2
        go_roundw
        case rel => exact ⟨k + 1, by first | rfl | go_num, by rw [← HZ2.out], HKL.out, HB.out.trans (HB1.out.mono HB.out.size)⟩
        case measure => simp [intOf]; have := HKL.out; omega

theorem OwE.tx {e : TypeId} {w : World} {B : Nat} {v : Value} {L : List ByteArray} (h : OwE 1 ET e w B v L) : TxL w v L := h.sl
theorem OwE.mono {α : Type} {sz : Nat} {E : World → List Value → α → Prop} {e : TypeId} {w : World} {B B' : Nat} {v : Value} {xs : List α} (h : OwE sz E e w B v xs) (hB : B' ≤ B) : OwE sz E e w B' v xs := by
  rcases h with h | ⟨g, cap, cur, h1, h2, h3⟩
  · exact .inl h
  · exact .inr ⟨g, cap, cur, h1, Nat.le_trans hB h2, h3⟩
theorem OwE.own_lt {α : Type} {sz : Nat} {E : World → List Value → α → Prop} {e : TypeId} {w : World} {B : Nat} {v : Value} {xs : List α} (h : OwE sz E e w B v xs) : ∀ g, v.ownBlock = some g → g < w.heap.size := by
  rcases h with ⟨rfl, _⟩ | ⟨g', cap, cur, rfl, _, h3, _⟩
  · intro g hg; cases hg
  · intro g hg
    obtain rfl : g' = g := by simpa [Value.ownBlock] using hg
    exact lt_of_block h3
end Go.Proofs.YtegdcmcfeaohhaaGreatDoor

namespace Go.Proofs.YtegdcmcfeaohhaaGreatDoor
open Go Go.RowKit

set_option maxRecDepth 100000 in
theorem fitQ_any (v : Value) (q : Rat) (w : World) (hq : IsQ w v q) (hl1 : (dig 10000 q.num.natAbs).length ≤ 1000000000) (hl2 : (dig 10000 q.den).length ≤ 1000000000) (R : Ending → World → Prop)
    (hR : ∀ w', Below w.heap.size w w' → R (.returned (.bool (decide ((decs q.num.natAbs).length ≤ 60) && decide ((decs q.den).length ≤ 60)))) w') :
    Calls Tryz.prog 122 #[v] w R := by
  obtain ⟨na, a1, n1, c1, a2, n2, c2, rfl, hz1, hz2⟩ := hq.parts
  obtain ⟨D1, h1⟩ : ∃ D, D = decs q.num.natAbs := ⟨_, rfl⟩
  obtain ⟨D2, h2⟩ : ∃ D, D = decs q.den := ⟨_, rfl⟩
  rw [← h1, ← h2] at hR
  have HR := Lib.hid hR
  have H1 := Lib.hid h1
  have H2 := Lib.hid h2
  clear hR h1 h2 hq
  have hbox := Box4.made w (.bool na) (.slice a1 n1 c1) (.bool false) (.slice a2 n2 c2) 58
  obtain ⟨⟨hA, hB, hC, hD⟩, _, _, _, _⟩ := hbox.cells
  have hext : Below w.heap.size w (w.alloc (.cells #[.bool na, .slice a1 n1 c1, .bool false, .slice a2 n2 c2] 58)) := (Below.refl _ _).alloc (Nat.le_refl _) _
  go_enter Tryz.func122, Tryz.ntmps122
  go_wp2_with fail
  refine zdigits_any _ q.num _ (hz1.later hext (Nat.le_refl _)) hl1 _ ?_
  intro w1 hb1
  rw [← H1.out]
  have hbox1 := hbox.later hb1 (by simp)
  have hb1' := hext.trans (hb1.mono (by simp))
  have hz3 := hz2.later hb1' (Nat.le_refl _)
  have HB1 := Lib.hid hb1'
  clear hbox hA hB hC hD hb1 hb1' hext hz1 hz2
  obtain ⟨⟨hA, hB, hC, hD⟩, _, _, _, _⟩ := hbox1.cells
  dsimp only
  by_cases hf : D1.length ≤ 60
  · rw [decide_eq_true hf, Bool.true_and] at HR
    have hf1 : decide ((D1.length : Int) ≤ 60) = true := by simp; omega
    have hf2 : (D1.length : Int) ≤ 60 := by omega
    clear hf
    go_wp2_with fail
    refine zdigits_any _ (q.den : Int) _ hz3 (by rw [Int.natAbs_natCast]; exact hl2) _ ?_
    intro w2 hb2
    rw [Int.natAbs_natCast, ← H2.out]
    have HB2 := Lib.hid (HB1.out.trans (hb2.mono HB1.out.size))
    clear hb2 hz3
    have hd : decide (D2.length ≤ 60) = decide ((D2.length : Int) ≤ 60) := decide_eq_decide.2 (by omega)
    rw [hd] at HR
    clear hd
    dsimp only
    go_wp2
    first | go_ret | skip
    exact HR.out _ HB2.out
  · rw [decide_eq_false hf, Bool.false_and] at HR
    have hf1 : decide ((D1.length : Int) ≤ 60) = false := by simp; omega
    have hf2 : ¬ (D1.length : Int) ≤ 60 := by omega
    clear hf
    go_wp2
    first | go_ret | skip
    exact HR.out _ HB1.out
end Go.Proofs.YtegdcmcfeaohhaaGreatDoor

namespace Go.Proofs.YtegdcmcfeaohhaaGreatDoor
open Go Go.RowKit

/-- the texts of fractions -/
def textsQ (qs : List Rat) : List ByteArray := qs.map fun q => ⟨(textQ q).toArray⟩
/-- whether all of them fit -/
def fitsQ (qs : List Rat) : Bool := qs.all fun q => decide ((decs q.num.natAbs).length ≤ 60) && decide ((decs q.den).length ≤ 60)
/-- few enough digits to be written -/
def DigsQ (qs : List Rat) : Prop := ∀ (i : Nat) (q : Rat), qs[i]? = some q → (dig 10000 q.num.natAbs).length ≤ 1000000000 ∧ (dig 10000 q.den).length ≤ 1000000000

theorem fitsQ_not {qs : List Rat} {k : Nat} {q : Rat} (hq : qs[k]? = some q) (h : (decide ((decs q.num.natAbs).length ≤ 60) && decide ((decs q.den).length ≤ 60)) = false) : fitsQ qs = false := by
  unfold fitsQ
  rw [List.all_eq_false]
  exact ⟨q, List.mem_of_getElem? hq, by rw [h]; decide⟩

def TextRel (w : World) (n : Nat) (qs : List Rat) (v i : Value) (wr : World) : Prop :=
  ∃ k : Nat, i = .int .i64 (k : Int) ∧ k ≤ n ∧ fitsQ (qs.take k) = true ∧ OwE 1 ET 9 wr w.heap.size v (textsQ (qs.take k)) ∧ Below w.heap.size w wr

set_option maxRecDepth 100000 in
set_option maxHeartbeats 2000000 in
theorem textList_any (v : Value) (qs : List Rat) (w : World) (h : SlE 4 EQ w v qs) (hd : DigsQ qs) (hn : qs.length ≤ 1048576) (R : Ending → World → Prop)
    (hR : ∀ v' w', fitsQ qs = true → OwE 1 ET 9 w' w.heap.size v' (textsQ qs) → Below w.heap.size w w' → R (.returned (.tuple #[v', .bool true])) w')
    (hR2 : ∀ w', fitsQ qs = false → Below w.heap.size w w' → R (.returned (.tuple #[.slice none 0 0, .bool false])) w') :
    Calls Tryz.prog 81 #[v] w R := by
  have HR := Lib.hid hR; clear hR
  have HR2 := Lib.hid hR2; clear hR2
  obtain ⟨ao, n, cap, rfl, hnl, hc, hh⟩ := h.open
  have HH := Lib.hid hh
  have HN := Lib.hid hnl
  have HD := Lib.hid hd
  rw [← hnl] at hn
  clear h hnl hh hd hc
  go_enter Tryz.func81, Tryz.ntmps81
  go_wp2
  go_loopw [4, 5] (fun v i wr => TextRel w n qs v i wr) (fun _ i _ => n - (intOf i).toNat)
  case atStart => exact ⟨0, rfl, Nat.zero_le _, rfl, OwE.lit _ _ _ (Nat.le_refl _), (Below.refl _ _).alloc (Nat.le_refl _) _⟩
  case round =>
    obtain ⟨k, rfl, hk, hall, hown, hbel⟩ := hrel
    have HB := Lib.hid hbel
    have HOWN := Lib.hid hown
    have HALL := Lib.hid hall
    obtain ⟨a3, n3, c3, rfl, hn3⟩ := hown.shape
    clear hown hn3 hall
    by_cases hkn : k = n
    · subst hkn
      have he : qs.take k = qs := by rw [HN.out, List.take_length]
      rw [he] at HOWN HALL
      have HF := Lib.hid (HR.out _ _ HALL.out HOWN.out HB.out)
      have hk0 : ¬ ((k : Int) < (k : Int)) := by omega
      clear hbel he
      go_wp2
      first | go_ret | skip
      exact HF.out
    · have hkl : k < n := by omega
      obtain ⟨q, hq⟩ : ∃ q, qs[k]? = some q := ⟨_, List.getElem?_eq_getElem (by rw [← HN.out]; exact hkl)⟩
      have HQ := Lib.hid hq
      have HDQ := Lib.hid (HD.out k q hq)
      obtain ⟨b, off, cs, rfl, hb, hcell, hE⟩ := HH.out.at k q hq
      obtain ⟨x1, y1, z1, x2, y2, z2, hcs, hi1⟩ := hE
      obtain ⟨ng, hng⟩ : ∃ ng, ng = decide (q.num < 0) := ⟨_, rfl⟩
      rw [← hng] at hcs hi1
      have hd0 : wr.cell? ⟨b, off + k * 4, none⟩ = some (.bool ng) := by rw [hbel.cell (p := ⟨b, off + k * 4, none⟩) hb]; exact hcell 0 _ (by rw [hcs]; rfl)
      have hd1 : wr.cell? ⟨b, off + k * 4 + 1, none⟩ = some (.slice x1 y1 z1) := by rw [hbel.cell (p := ⟨b, off + k * 4 + 1, none⟩) hb]; exact hcell 1 _ (by rw [hcs]; rfl)
      have hd2 : wr.cell? ⟨b, off + k * 4 + 2, none⟩ = some (.bool false) := by rw [hbel.cell (p := ⟨b, off + k * 4 + 2, none⟩) hb]; exact hcell 2 _ (by rw [hcs]; rfl)
      have hd3 : wr.cell? ⟨b, off + k * 4 + 3, none⟩ = some (.slice x2 y2 z2) := by rw [hbel.cell (p := ⟨b, off + k * 4 + 3, none⟩) hb]; exact hcell 3 _ (by rw [hcs]; rfl)
      have HX := Lib.hid (hi1.later hbel (Nat.le_refl _))
      have HBQ := Lib.hid hb
      have hw1 : IntKind.i64.wrap ((k : Int) + 1) = ((k + 1 : Nat) : Int) := by rw [IntWalk.i64_in _ (by omega)]; omega
      have hk0 : (0 : Int) ≤ (k : Int) := by omega
      have hkn2 : (k : Int) < (n : Int) := by omega
      have HKL := Lib.hid hkl
      clear hq hcell hcs hi1 hng hkn
      go_wp2_with fail
      refine fitQ_any _ q _ HX.out HDQ.out.1 HDQ.out.2 _ ?_
      intro w1 hb1
      obtain ⟨x, hx⟩ : ∃ x, x = (decide ((decs q.num.natAbs).length ≤ 60) && decide ((decs q.den).length ≤ 60)) := ⟨_, rfl⟩
      rw [← hx]
      have HXX := Lib.hid hx
      have HB1 := Lib.hid (HB.out.trans (hb1.mono HB.out.size))
      have HX1 := Lib.hid (HX.out.later hb1 (Nat.le_refl _))
      have HOW1 := Lib.hid (HOWN.out.later elemT hb1 (Nat.le_refl _))
      have e0 : w1.cell? ⟨b, off + k * 4, none⟩ = some (.bool ng) := by rw [hb1.cell (p := ⟨b, off + k * 4, none⟩) (Nat.lt_of_lt_of_le hb HB.out.size)]; exact hd0
      have e1 : w1.cell? ⟨b, off + k * 4 + 1, none⟩ = some (.slice x1 y1 z1) := by rw [hb1.cell (p := ⟨b, off + k * 4 + 1, none⟩) (Nat.lt_of_lt_of_le hb HB.out.size)]; exact hd1
      have e2 : w1.cell? ⟨b, off + k * 4 + 2, none⟩ = some (.bool false) := by rw [hb1.cell (p := ⟨b, off + k * 4 + 2, none⟩) (Nat.lt_of_lt_of_le hb HB.out.size)]; exact hd2
      have e3 : w1.cell? ⟨b, off + k * 4 + 3, none⟩ = some (.slice x2 y2 z2) := by rw [hb1.cell (p := ⟨b, off + k * 4 + 3, none⟩) (Nat.lt_of_lt_of_le hb HB.out.size)]; exact hd3
      clear hx hb1 hd0 hd1 hd2 hd3
      cases x
      · have hf := fitsQ_not HQ.out HXX.out.symm
        have HF := Lib.hid (HR2.out w1 hf HB1.out)
        clear hf hbel hb
        dsimp only
        go_wp2
        first | go_ret | skip
        exact HF.out
      · have hA2 : Hid (fitsQ (qs.take (k + 1)) = true) := Lib.hid (by
          have := HALL.out
          unfold fitsQ at this ⊢
          rw [List.take_add_one, HQ.out, List.all_append, this]
          simp only [Option.toList_some, List.all_cons, List.all_nil, Bool.and_true, Bool.true_and]
          exact HXX.out.symm)
        have hM2 : Hid (textsQ (qs.take (k + 1)) = textsQ (qs.take k) ++ [⟨(textQ q).toArray⟩]) := Lib.hid (by unfold textsQ; rw [List.take_add_one, HQ.out]; simp)
        have hLK : Hid ((textsQ (qs.take k)).length ≤ 100000000) := Lib.hid (by unfold textsQ; rw [List.length_map, List.length_take]; omega)
        clear hbel hb
        dsimp only
        go_wp2_with fail
        refine text_any _ q _ HX1.out HDQ.out.1 HDQ.out.2 _ ?_
        intro w2 hb2
        obtain ⟨T, hT⟩ : ∃ T : ByteArray, T = ⟨(textQ q).toArray⟩ := ⟨_, rfl⟩
        rw [← hT] at hM2 ⊢
        have HB2 := Lib.hid (HB1.out.trans (hb2.mono HB1.out.size))
        have HOW2 := Lib.hid (HOW1.out.later elemT hb2 (Nat.le_refl _))
        clear hb2 hT e0 e1 e2 e3
        dsimp only
        go_wp2_with (at_builtin; go_must (refine wpList_pushE elemT (by omega) rfl (.tmp 19) (.tmp 25) 22 rfl 9 16 (.string ByteArray.empty) Tryz.underlying22 info_str rfl (by intro u hu; simp [Value.cells] at hu; subst hu; rfl) (by omega) w.heap.size _ (HOW2.out.alloc elemT _) hLK.out (by have := HB2.out.size; simp; omega) w2.heap.size [.string T] T rfl rfl (cells_alloc _ #[.string T] _ _ rfl) ?_))
        intro a4 n4 c4 w4 hown4 hn4 hgr hb4
        have HOW4 : Hid (OwE 1 ET 9 w4 w.heap.size (.slice a4 n4 c4) (textsQ (qs.take (k + 1)))) := Lib.hid (by rw [hM2.out]; exact hown4)
        have HB4 : Hid (Below w.heap.size w w4) := Lib.hid ((HB2.out.alloc HB2.out.size _).trans hb4)
        clear hown4 hn4 hgr hb4
        go_wp2
        go_roundw
        case rel => exact ⟨k + 1, by first | rfl | go_num, HKL.out, hA2.out, HOW4.out, HB4.out⟩
        case measure => simp [intOf]; have := HKL.out; omega
end Go.Proofs.YtegdcmcfeaohhaaGreatDoor

namespace Go.Proofs.YtegdcmcfeaohhaaGreatDoor
open Go Go.RowKit

/-- the cells of a slice in a row -/
def rowOf (w : World) (b off m : Nat) : List Value := (List.range m).map fun j => (w.cell? ⟨b, off + j, none⟩).getD (.bool false)
theorem rowOf_len (w : World) (b off m : Nat) : (rowOf w b off m).length = m := by simp [rowOf]
theorem rowOf_seg {w : World} {b off m i sz : Nat} {cs : List Value} (hl : cs.length = sz) (hi : i * sz + sz ≤ m) (hc : ∀ j u, cs[j]? = some u → w.cell? ⟨b, off + (i * sz + j), none⟩ = some u) :
    ((rowOf w b off m).drop (i * sz)).take sz = cs := by
  apply List.ext_getElem?
  intro j
  rcases Nat.lt_or_ge j sz with hj | hj
  · rw [List.getElem?_take_of_lt hj, List.getElem?_drop]
    have hjm : i * sz + j < m := by omega
    have hcs : cs[j]? = some cs[j] := List.getElem?_eq_getElem (by omega)
    rw [hcs]
    unfold rowOf
    rw [List.getElem?_map, List.getElem?_range hjm]
    simp only [Option.map_some]
    rw [hc j _ hcs]
    rfl
  · rw [List.getElem?_eq_none (by rw [List.length_take]; omega), List.getElem?_eq_none (by omega)]

theorem div_lt {n sz j : Nat} (h : j < n * sz) : j / sz < n ∧ j % sz < sz ∧ j = j / sz * sz + j % sz := by
  have hsz : 0 < sz := by
    rcases Nat.eq_zero_or_pos sz with h0 | h0
    · subst h0; simp at h
    · exact h0
  refine ⟨Nat.div_lt_of_lt_mul (by rw [Nat.mul_comm]; exact h), Nat.mod_lt _ hsz, ?_⟩
  rw [Nat.mul_comm]; exact (Nat.div_add_mod j sz).symm

theorem run_spread0 {α : Type} {P : Program} {w : World} {sz : Nat} {E : World → List Value → α → Prop} (hE : Elem sz E) (hsz : 0 < sz) (t ty e : TypeId) (bytes : Nat) (z : Value) (ht : P.underlying t = some (.slice e))
    (hi : (P.info? e).map (fun i => (i.zero, i.size, i.bytes)) = some (some z, sz, bytes)) (hzs : z.cells.size = sz) (hzi : ∀ u ∈ z.cells.toList, notInt u = true) (hby : bytes ≤ 100)
    (B g0 : Nat) (h0 : w.heap[g0]? = some (.cells #[] e (0, 0))) (hB0 : B ≤ g0) (hB : B ≤ w.heap.size) (v : Value) (xs : List α) (h : SlE sz E w v xs) (hlen : xs.length ≤ 100000000) :
    ∃ v' w', (Builtin.append_ #[t, t] ty #[.slice (some ⟨g0, 0, none⟩) 0 0, v]).run P w = .ok v' w' ∧ OwE sz E e w' B v' xs ∧ Below w.heap.size w w' := by
  obtain ⟨i0, hi0, hz0, hz1, hz2⟩ := info_parts hi
  subst hz1
  obtain ⟨ao, n, cap, rfl, hn, hc, hsl⟩ := h.open
  by_cases hn0 : n = 0
  · subst hn0
    obtain rfl : xs = [] := List.eq_nil_of_length_eq_zero hn.symm
    refine ⟨.slice (some ⟨g0, 0, none⟩) 0 0, w, ?_, ?_, Below.refl _ _⟩
    · have hf : (Builtin.firstCells i0.size 0 (.slice ao 0 cap)).run P w = .ok #[] w := by
        cases ao <;> simp [Builtin.firstCells, loadCellsFrom, loadCells]
      simp [Builtin.append_, run_underlying ht, sizeOf, typeInfo, zeroValue, hi0, hz0, Builtin.lenOf, hf, storeCells]
    · exact .inr ⟨g0, 0, #[], rfl, hB0, h0, Nat.le_refl _, by simp only [maxLen]; omega, by simp, by simp, fun i x h => by simp at h⟩
  · obtain ⟨x0, hx0⟩ : ∃ x, xs[0]? = some x := ⟨_, List.getElem?_eq_getElem (by omega)⟩
    obtain ⟨b, off, cs0, rfl, hb, _, _⟩ := hsl.at 0 x0 hx0
    obtain ⟨news, hnews⟩ : ∃ news, news = rowOf w b off (n * i0.size) := ⟨_, rfl⟩
    have hl : news.length = n * i0.size := by rw [hnews, rowOf_len]
    have hat : ∀ i x, xs[i]? = some x → ∃ cs, (∀ j u, cs[j]? = some u → w.cell? ⟨b, off + (i * i0.size + j), none⟩ = some u) ∧ E w cs x := by
      intro i x hx
      obtain ⟨b', off', cs, h1, _, h3, h4⟩ := hsl.at i x hx
      cases h1
      exact ⟨cs, h3, h4⟩
    have hcell : ∀ j u, news[j]? = some u → w.cell? ((⟨b, off, none⟩ : Addr).add j) = some u := by
      intro j u hj
      rw [Addr.add_lit]
      have hjm : j < n * i0.size := by rw [← hl]; exact (List.getElem?_eq_some_iff.1 hj).1
      obtain ⟨d1, d2, d3⟩ := div_lt hjm
      obtain ⟨x, hx⟩ : ∃ x, xs[j / i0.size]? = some x := ⟨_, List.getElem?_eq_getElem (by omega)⟩
      obtain ⟨cs, h3, h4⟩ := hat _ x hx
      have hjl : j % i0.size < cs.length := by rw [hE.len h4]; exact d2
      have hcs : cs[j % i0.size]? = some cs[j % i0.size] := List.getElem?_eq_getElem hjl
      have h5 := h3 _ _ hcs
      rw [← d3] at h5
      rw [hnews] at hj
      unfold rowOf at hj
      rw [List.getElem?_map, List.getElem?_range hjm, Option.map_some, h5] at hj
      simp at hj
      rw [h5, hj]
    have hbyt : n * i0.bytes ≤ 100000000 * 100 := Nat.mul_le_mul (by omega) (by omega)
    have hr := run_append_grow (P := P) w t ty e i0 z ht hi0 hz0 ⟨g0, 0, none⟩ 0 0 [] (by simp) (by simp) ⟨b, off, none⟩ n cap news hl hcell (by omega) (by omega) (growslice_fits (by omega) (by rw [Nat.zero_add]; omega))
    have hge := grownCap_ge w (0 + n) 0 e
    have fresh : ∀ (o : Obj), Below w.heap.size w (w.drew.alloc o) := fun o => (Below.refl _ _).drew.alloc (Nat.le_refl _) o
    have hzl : ∀ k : Nat, (Builtin.zeroCells z.cells k).toList.length = k * i0.size := fun k => by rw [Array.length_toList, size_zeroCells, hzs]
    have e1 : ([] : List Value).toArray ++ news.toArray ++ Builtin.zeroCells z.cells (grownCap w (0 + n) 0 e - (0 + n)) = (news ++ (Builtin.zeroCells z.cells (grownCap w (0 + n) 0 e - (0 + n))).toList).toArray := Array.toList_inj.1 (by simp)
    rw [e1] at hr
    refine ⟨_, _, hr, ?_, fresh _⟩
    refine .inr ⟨w.heap.size, grownCap w (0 + n) 0 e, (news ++ (Builtin.zeroCells z.cells (grownCap w (0 + n) 0 e - (0 + n))).toList).toArray, by rw [Nat.zero_add, ← hn], hB, ?_, by rw [← hn]; omega, grownCap_le_maxLen w (0 + n) 0 e (by simp only [maxLen]; omega), ?_, ?_, ?_⟩
    · show (w.heap.push _)[_]? = _
      simp
    · simp only [List.size_toArray, List.length_append, hzl, hl]
      rw [← Nat.add_mul]
      congr 1
      try omega
    · intro u hu
      simp only [List.mem_append] at hu
      rcases hu with hu | hu
      · obtain ⟨j, hj⟩ := List.mem_iff_getElem?.1 hu
        have hjm : j < n * i0.size := by rw [← hl]; exact (List.getElem?_eq_some_iff.1 hj).1
        obtain ⟨d1, d2, d3⟩ := div_lt hjm
        obtain ⟨x, hx⟩ : ∃ x, xs[j / i0.size]? = some x := ⟨_, List.getElem?_eq_getElem (by omega)⟩
        obtain ⟨cs, h3, h4⟩ := hat _ x hx
        have hjl : j % i0.size < cs.length := by rw [hE.len h4]; exact d2
        have hcs : cs[j % i0.size]? = some cs[j % i0.size] := List.getElem?_eq_getElem hjl
        have h5 := h3 _ _ hcs
        rw [← d3] at h5
        have h6 := hcell j u hj
        rw [Addr.add_lit, h5] at h6
        cases h6
        exact hE.ints h4 _ (List.mem_of_getElem? hcs)
      · exact zeroCells_ints _ _ hzi u hu
    · intro i x hx
      have hin : i < n := by rw [hn]; exact (List.getElem?_eq_some_iff.1 hx).1
      obtain ⟨cs, h3, h4⟩ := hat i x hx
      have hm : i * i0.size + i0.size ≤ n * i0.size := by rw [← Nat.succ_mul]; exact Nat.mul_le_mul_right _ hin
      have h9 : ((news ++ (Builtin.zeroCells z.cells (grownCap w (0 + n) 0 e - (0 + n))).toList).drop (i * i0.size)).take i0.size = cs := by
        rw [seg_lt hl hin, hnews]
        exact rowOf_seg (hE.len h4) hm h3
      show E _ (((news ++ (Builtin.zeroCells z.cells (grownCap w (0 + n) 0 e - (0 + n))).toList).drop (i * i0.size)).take i0.size) x
      rw [h9]
      exact hE.below h4 (fresh _) (Nat.le_refl _)

/-- the same as an operation of a walk -/
theorem wpList_spread0 {α : Type} {P : Program} {w : World} {ops : Array Oper} {rest : List Oper} {o : Oper} {a : Act} {Q : Exit → Act → World → Prop} {sz : Nat} {E : World → List Value → α → Prop} (hE : Elem sz E) (hsz : 0 < sz) (hgd : o.guard = none) (s x : Operand) (t : TypeId)
    (ho : o.op = .call { callee := .builtin .append, args := #[s, x], argTypes := #[t, t] })
    (e : TypeId) (bytes : Nat) (z : Value) (ht : P.underlying t = some (.slice e))
    (hi : (P.info? e).map (fun i => (i.zero, i.size, i.bytes)) = some (some z, sz, bytes)) (hzs : z.cells.size = sz) (hzi : ∀ u ∈ z.cells.toList, notInt u = true) (hby : bytes ≤ 100)
    (B g0 : Nat) (hs : a.eval s = .slice (some ⟨g0, 0, none⟩) 0 0) (h0 : w.heap[g0]? = some (.cells #[] e (0, 0))) (hB0 : B ≤ g0) (hB : B ≤ w.heap.size) (v : Value) (hx : a.eval x = v) (xs : List α) (h : SlE sz E w v xs) (hlen : xs.length ≤ 100000000)
    (hK : ∀ ao n c w', OwE sz E e w' B (.slice ao n c) xs → n = xs.length → Below w.heap.size w w' → wpList P ops Q rest (a.put o.dst (.slice ao n c)) w') : wpList P ops Q (o :: rest) a w := by
  obtain ⟨v', w', hr, h2, h4⟩ := run_spread0 (P := P) hE hsz t o.type e bytes z ht hi hzs hzi hby B g0 h0 hB0 hB v xs h hlen
  refine wpList_plain hgd fun K hK' => ?_
  unfold Oper.wp execOp
  obtain ⟨ao, n, c, rfl, hn⟩ := h2.shape
  simp only [ho, resolve, invoke, builtin, Sem.run_bind, Sem.run_pure, Result.andThen_ok, List.map_toArray, List.map_cons, List.map_nil, hx, hs, hr]
  exact hK' _ _ (hK ao n c w' h2 (by simpa using hn) h4)
end Go.Proofs.YtegdcmcfeaohhaaGreatDoor

namespace Go.Proofs.YtegdcmcfeaohhaaGreatDoor
open Go Go.RowKit

theorem num_len_zero (q : Rat) (n : Nat) (h : n = (dig 10000 q.num.natAbs).length) : n = 0 ↔ q = 0 := by
  rw [h, List.length_eq_zero_iff, dig_eq_nil (by omega), Int.natAbs_eq_zero]
  exact Rat.num_eq_zero

end Go.Proofs.YtegdcmcfeaohhaaGreatDoor

namespace Go.Proofs.YtegdcmcfeaohhaaGreatDoor
open Go Go.RowKit

set_option maxRecDepth 100000 in
theorem zeroQ_any (v : Value) (q : Rat) (w : World) (hq : IsQ w v q) (R : Ending → World → Prop)
    (hR : ∀ w', Below w.heap.size w w' → R (.returned (.bool (decide (q = 0)))) w') :
    Calls Tryz.prog 133 #[v] w R := by
  have HR := Lib.hid hR; clear hR
  obtain ⟨a1, n1, c1, a2, n2, c2, rfl, e1, _, _, _⟩ := hq.open
  have hz := num_len_zero q n1 e1
  obtain ⟨n, hn⟩ : ∃ n, n = decide (q.num < 0) := ⟨_, rfl⟩
  rw [← hn]
  clear hq hn e1
  by_cases h0 : n1 = 0
  · rw [decide_eq_true (hz.1 h0)] at HR
    subst h0
    clear hz
    go_enter Tryz.func133, Tryz.ntmps133
    go_wp2
    first | go_ret | skip
    exact HR.out _ ((Below.refl _ _).alloc (Nat.le_refl _) _)
  · rw [decide_eq_false (fun h => h0 (hz.2 h))] at HR
    have e : (((n1 : Nat) : Int) == 0) = false := by simp; omega
    clear hz
    go_enter Tryz.func133, Tryz.ntmps133
    go_wp2
    first | go_ret | skip
    exact HR.out _ ((Below.refl _ _).alloc (Nat.le_refl _) _)
end Go.Proofs.YtegdcmcfeaohhaaGreatDoor

namespace Go.Proofs.YtegdcmcfeaohhaaGreatDoor
open Go Go.RowKit

def trimN (qs : List Rat) : Nat → Nat
  | 0 => 0
  | n + 1 => if qs[n]? = some 0 then trimN qs n else n + 1
/-- a list without the zeros at its end -/
def trimQ (qs : List Rat) : List Rat := qs.take (trimN qs qs.length)
theorem trimN_le (qs : List Rat) : ∀ n, trimN qs n ≤ n
  | 0 => Nat.le_refl _
  | n + 1 => by
    have := trimN_le qs n
    rw [trimN]; split <;> omega

theorem SlE.prefix {α : Type} {sz : Nat} {E : World → List Value → α → Prop} {w : World} {ao : Option Addr} {n cap : Nat} {xs : List α} (h : SlE sz E w (.slice ao n cap) xs) (hn : n = xs.length) (hc : n ≤ cap) {i : Nat} (hi : i ≤ n) : SlE sz E w (.slice ao i cap) (xs.take i) := by
  refine ⟨ao, cap, by rw [List.length_take]; congr 1; omega, by rw [List.length_take]; omega, fun j x hx => ?_⟩
  have hj : j < i := by have := (List.getElem?_eq_some_iff.1 hx).1; rw [List.length_take] at this; omega
  rw [List.getElem?_take_of_lt hj] at hx
  exact h.at j x hx

set_option maxRecDepth 100000 in
set_option maxHeartbeats 2000000 in
theorem trimS_any (v : Value) (qs : List Rat) (w : World) (h : SlE 4 EQ w v qs) (hn : qs.length ≤ 1048576) (R : Ending → World → Prop)
    (hR : ∀ v' w', OwE 4 EQ 58 w' w.heap.size v' (trimQ qs) → Below w.heap.size w w' → R (.returned v') w') :
    Calls Tryz.prog 95 #[v] w R := by
  have HR := Lib.hid hR; clear hR
  obtain ⟨ao, n, cap, rfl, hnl, hc, hh⟩ := h.open
  have HH := Lib.hid hh
  have HN := Lib.hid hnl
  have HC := Lib.hid hc
  have hnn : n ≤ 1048576 := by omega
  clear h hh hn hnl hc
  go_enter Tryz.func95, Tryz.ntmps95
  go_wp2
  go_loopw [3] (fun iv wr => ∃ i : Nat, iv = .int .i64 (i : Int) ∧ i ≤ n ∧ trimN qs i = trimN qs qs.length ∧ Below w.heap.size w wr) (fun iv _ => (intOf iv).toNat)
  case atStart => exact ⟨n, rfl, Nat.le_refl _, by rw [HN.out], Below.refl _ _⟩
  case round =>
    obtain ⟨i, rfl, hi, ht, hbel⟩ := hrel
    have HB := Lib.hid hbel
    have HT := Lib.hid ht
    by_cases h0 : i = 0
    · subst h0
      have e0 : ¬ ((0 : Int) < ((0 : Nat) : Int)) := by omega
      have HTR : Hid (trimQ qs = []) := Lib.hid (by unfold trimQ; rw [← HT.out]; rfl)
      clear hbel ht
      go_wp2_with (at_builtin; go_must (refine wpList_spread0 elemQ (by omega) rfl (.tmp 18) (.tmp 21) 51 rfl 58 64 zeroQ Tryz.underlying51 info_q rfl zeroQ_ints (by omega) w.heap.size wr.heap.size rfl (by show (wr.heap.push _)[_]? = _; simp) HB.out.size (by simp; have := HB.out.size; omega) _ rfl _ (SlE.nil _ _ _) (by simp) ?_))
      all_goals
        intro a5 n5 c5 w5 hv5 hn5 hb5
        have HV5 := Lib.hid hv5
        have HB5 : Hid (Below w.heap.size w w5) := Lib.hid ((HB.out.alloc HB.out.size (.cells #[] 58)).trans (hb5.mono (by have := HB.out.size; omega)))
        clear hv5 hn5 hb5
        go_wp2
        first | go_ret | skip
        exact HR.out _ _ (by rw [HTR.out]; exact HV5.out) HB5.out
    · obtain ⟨j, rfl⟩ : ∃ j, i = j + 1 := ⟨i - 1, by omega⟩
      obtain ⟨q, hq⟩ : ∃ q, qs[j]? = some q := ⟨_, List.getElem?_eq_getElem (by have := HN.out; omega)⟩
      have HQ := Lib.hid hq
      obtain ⟨b, off, cs, rfl, hb, hcell, hE⟩ := HH.out.at j q hq
      obtain ⟨x1, y1, z1, x2, y2, z2, hcs, hi1⟩ := hE
      obtain ⟨ng, hng⟩ : ∃ ng, ng = decide (q.num < 0) := ⟨_, rfl⟩
      rw [← hng] at hcs hi1
      have hd0 : wr.cell? ⟨b, off + j * 4, none⟩ = some (.bool ng) := by rw [hbel.cell (p := ⟨b, off + j * 4, none⟩) hb]; exact hcell 0 _ (by rw [hcs]; rfl)
      have hd1 : wr.cell? ⟨b, off + j * 4 + 1, none⟩ = some (.slice x1 y1 z1) := by rw [hbel.cell (p := ⟨b, off + j * 4 + 1, none⟩) hb]; exact hcell 1 _ (by rw [hcs]; rfl)
      have hd2 : wr.cell? ⟨b, off + j * 4 + 2, none⟩ = some (.bool false) := by rw [hbel.cell (p := ⟨b, off + j * 4 + 2, none⟩) hb]; exact hcell 2 _ (by rw [hcs]; rfl)
      have hd3 : wr.cell? ⟨b, off + j * 4 + 3, none⟩ = some (.slice x2 y2 z2) := by rw [hbel.cell (p := ⟨b, off + j * 4 + 3, none⟩) hb]; exact hcell 3 _ (by rw [hcs]; rfl)
      have HX := Lib.hid (hi1.later hbel (Nat.le_refl _))
      have hw1 : IntKind.i64.wrap (((j + 1 : Nat) : Int) - 1) = (j : Int) := by rw [IntWalk.i64_in _ (by omega)]; omega
      have hk0 : (0 : Int) ≤ (j : Int) := by omega
      have hkn2 : (j : Int) < (n : Int) := by omega
      have hp : (0 : Int) < ((j + 1 : Nat) : Int) := by omega
      obtain ⟨m, hm⟩ : ∃ m, m = j + 1 := ⟨_, rfl⟩
      have HM := Lib.hid hm
      rw [← hm] at hw1 hp ⊢
      have HI := Lib.hid hi
      clear hq hcell hcs hi1 hng hbel ht hm hi h0
      go_wp2_with fail
      refine zeroQ_any _ q _ HX.out _ ?_
      intro w1 hb1
      have HB1 := Lib.hid (HB.out.trans (hb1.mono HB.out.size))
      by_cases hq0 : q = 0
      · have HT2 : Hid (trimN qs j = trimN qs qs.length) := Lib.hid (by rw [← HT.out, trimN, HQ.out, hq0, if_pos rfl])
        rw [decide_eq_true hq0]
        clear hb1 hq0 hd0 hd1 hd2 hd3
        dsimp only
        go_wp2
        go_roundw
        case rel => exact ⟨j, by first | rfl | go_num, by have := HI.out; omega, HT2.out, HB1.out⟩
        case measure => simp [intOf]; have := HM.out; omega
      · have HTR : Hid (trimQ qs = qs.take m) := Lib.hid (by unfold trimQ; rw [← HT.out, trimN, HQ.out, if_neg (by simpa using hq0), HM.out])
        have HPRE : Hid (SlE 4 EQ w1 (.slice (some ⟨b, off, none⟩) m cap) (qs.take m)) := Lib.hid ((HH.out.prefix HN.out HC.out (by have := HM.out; have := HI.out; omega)).later elemQ HB1.out (Nat.le_refl _))
        have hmn : m ≤ n := by have := HM.out; have := HI.out; omega
        have c0 : (0 : Int) ≤ (m : Int) := by omega
        have c1 : (m : Int) ≤ (cap : Int) := by have := HC.out; omega
        have c2 : (m : Int) ≤ (n : Int) := by omega
        rw [decide_eq_false hq0]
        clear hb1 hq0 hd0 hd1 hd2 hd3
        dsimp only
        go_wp2_with (at_builtin; go_must (refine wpList_spread0 elemQ (by omega) rfl (.tmp 18) (.tmp 21) 51 rfl 58 64 zeroQ Tryz.underlying51 info_q rfl zeroQ_ints (by omega) w.heap.size w1.heap.size rfl (by show (w1.heap.push _)[_]? = _; simp) HB1.out.size (by simp; have := HB1.out.size; omega) _ rfl _ (SlE.later elemQ HPRE.out ((Below.refl _ _).alloc (Nat.le_refl _) _) (Nat.le_refl _)) (by rw [List.length_take]; omega) ?_))
        intro a5 n5 c5 w5 hv5 hn5 hb5
        have HV5 := Lib.hid hv5
        have HB5 : Hid (Below w.heap.size w w5) := Lib.hid ((HB1.out.alloc HB1.out.size (.cells #[] 58)).trans (hb5.mono (by have := HB1.out.size; omega)))
        clear hv5 hn5 hb5
        go_wp2
        first | go_ret | skip
        exact HR.out _ _ (by rw [HTR.out]; exact HV5.out) HB5.out
end Go.Proofs.YtegdcmcfeaohhaaGreatDoor

namespace Go.Proofs.YtegdcmcfeaohhaaGreatDoor
open Go Go.RowKit

end Go.Proofs.YtegdcmcfeaohhaaGreatDoor

namespace Go.Proofs.YtegdcmcfeaohhaaGreatDoor
open Go

/-- how many values a chunk has -/
def C19 : Nat := 10000000000000000000
theorem C19_eq : C19 = 10000000000000000000 := rfl
theorem C19_two : 2 ≤ C19 := by rw [C19_eq]; omega
theorem C19_pow : C19 = 10 ^ 19 := by decide

/-- a chunk that is not the first -/
def pad19 (r : Nat) : List UInt8 := List.replicate (19 - (decs r).length) 48 ++ decs r

theorem chr_zero48 : chr 0 = 48 := by decide

theorem val10_pad (xs : List Nat) (k : Nat) : val 10 (xs ++ List.replicate k 0) = val 10 xs := by
  rw [val_append]
  have : val 10 (List.replicate k 0) = 0 := by
    induction k with
    | zero => rfl
    | succ k ih => rw [List.replicate_succ, val, ih]
  rw [this]; omega

theorem len10 {r : Nat} (h : r < C19) : (dig 10 r).length ≤ 19 := dig_length_le (by omega) 19 r (by rw [← C19_pow]; exact h)

theorem dig10_chunk (q r : Nat) (hq : q ≠ 0) (hr : r < C19) : dig 10 (q * C19 + r) = (dig 10 r ++ List.replicate (19 - (dig 10 r).length) 0) ++ dig 10 q := by
  have hl := len10 hr
  have h1 : val 10 ((dig 10 r ++ List.replicate (19 - (dig 10 r).length) 0) ++ dig 10 q) = q * C19 + r := by
    rw [val_append, val10_pad, val_dig (by omega), val_dig (by omega), List.length_append, List.length_replicate, show (dig 10 r).length + (19 - (dig 10 r).length) = 19 by omega, ← C19_pow, Nat.mul_comm]
    omega
  rw [← h1, dig_val (by omega)]
  · intro d hd
    simp only [List.mem_append, List.mem_replicate] at hd
    rcases hd with (hd | ⟨_, rfl⟩) | hd
    · exact dig_lt (by omega) _ d hd
    · omega
    · exact dig_lt (by omega) _ d hd
  · have hne : dig 10 q ≠ [] := fun e => hq ((dig_eq_nil (by omega)).1 e)
    rw [List.getLast?_append]
    have h9 := getLast_dig q
    cases hl : (dig 10 q).getLast? with
    | none => exact absurd (List.getLast?_eq_none_iff.1 hl) hne
    | some z => rw [hl] at h9; simpa using h9

theorem decs_ne {n : Nat} (h : n ≠ 0) : decs n = (dig 10 n).reverse.map chr := by unfold decs; rw [if_neg h]

theorem decs_chunk (q r : Nat) (hq : q ≠ 0) (hr : r < C19) : decs (q * C19 + r) = decs q ++ pad19 r := by
  have hn : q * C19 + r ≠ 0 := by
    have : 0 < q * C19 := Nat.mul_pos (by omega) (by rw [C19_eq]; omega)
    omega
  rw [decs_ne hn, decs_ne hq, dig10_chunk q r hq hr, List.reverse_append, List.map_append, List.reverse_append, List.map_append, List.reverse_replicate, List.map_replicate, chr_zero48]
  congr 1
  unfold pad19
  by_cases h0 : r = 0
  · subst h0
    rw [dig_zero]
    have : decs 0 = [48] := rfl
    rw [this]
    rfl
  · rw [decs_ne h0]
    simp

theorem decs_len_lt {n k : Nat} (hk : 1 ≤ k) (h : n < 10 ^ k) : (decs n).length ≤ k := by
  by_cases h0 : n = 0
  · subst h0; show 1 ≤ k; exact hk
  · rw [decs_ne h0, List.length_map, List.length_reverse]
    exact dig_length_le (by omega) k n h

theorem decs_len19 {r : Nat} (h : r < C19) : (decs r).length ≤ 19 := decs_len_lt (by omega) (by rw [← C19_pow]; exact h)

/-- a number of few digits has few limbs -/
theorem limbs_few {n : Nat} (h : (decs n).length ≤ 60) : (dig 18446744073709551616 n).length ≤ 4 := by
  refine dig_length_le (by omega) 4 n ?_
  have h1 : n < 10 ^ 60 := by
    by_cases h0 : n = 0
    · subst h0; exact Nat.pow_pos (by omega)
    · rw [decs_ne h0, List.length_map, List.length_reverse] at h
      exact Nat.lt_of_lt_of_le (lt_pow_dig (by omega) n) (Nat.pow_le_pow_right (by omega) h)
  have h2 : (10 : Nat) ^ 60 ≤ 18446744073709551616 ^ 4 := by decide
  omega

/-- four limbs have few chunks -/
theorem chunks_few {n : Nat} (h : (dig 18446744073709551616 n).length ≤ 4) : (dig C19 n).length ≤ 5 := by
  refine dig_length_le C19_two 5 n ?_
  have h1 := Nat.lt_of_lt_of_le (lt_pow_dig (B := 18446744073709551616) (by omega) n) (Nat.pow_le_pow_right (by omega) h)
  have h2 : (18446744073709551616 : Nat) ^ 4 ≤ C19 ^ 5 := by decide
  omega

theorem decs_few_chunks {n : Nat} (h : (dig 18446744073709551616 n).length ≤ 4) : (decs n).length ≤ 80 := by
  refine decs_len_lt (by omega) ?_
  have h1 := Nat.lt_of_lt_of_le (lt_pow_dig (B := 18446744073709551616) (by omega) n) (Nat.pow_le_pow_right (by omega) h)
  have h2 : (18446744073709551616 : Nat) ^ 4 ≤ 10 ^ 80 := by decide
  omega
end Go.Proofs.YtegdcmcfeaohhaaGreatDoor

namespace Go.Proofs.YtegdcmcfeaohhaaGreatDoor
open Go Go.RowKit Go.Sort Go.Lib

theorem decDigits_eqd (n : Nat) : Lib.decDigits n = decs n := by
  induction n using Nat.strongRecOn with
  | _ n ih =>
    rw [Lib.decDigits]
    by_cases h : n < 10
    · rw [dif_pos h]
      by_cases h0 : n = 0
      · subst h0; rfl
      · rw [decs, if_neg h0, dig_small h0 h]; rfl
    · rw [dif_neg h, ih (n / 10) (by omega), decs, decs, if_neg (by omega), if_neg (by omega), dig_pos (by omega) (by omega : n ≠ 0)]
      simp [chr]

theorem fin_zero (w : World) (o : Obj) (dk : Array UInt8) (k : Nat) : ∃ os, (putRow (fun (b : UInt8) => Value.int .u8 (b.toNat : Int)) (w.alloc o) w.heap.size 0 dk).drewN k = grow (w.drewN k) os := by
  rw [alloc_eq_grow]
  obtain ⟨os', _, e⟩ := putRow_grow_new (fun (b : UInt8) => Value.int .u8 (b.toNat : Int)) w #[o] w.heap.size 0 dk (Nat.le_refl _)
  exact ⟨os', by rw [e]; rfl⟩

set_option maxHeartbeats 6400000 in
set_option maxRecDepth 100000 in
theorem fmtui_any (u : Nat) (hu64 : u < 18446744073709551616) (w : World) (htab : Lib.TabIs Tryz.prog w "internal/strconv.uint64pow10" .u64 Lib.pow10Tab) (R : Ending → World → Prop)
    (hR : ∀ w', Below w.heap.size w w' → R (.returned (.string ⟨(decs u).toArray⟩)) w') :
    Calls Tryz.prog 175 #[.int .u64 (u : Int), .int .i64 10] w R := by
  have HR := Lib.hid hR; clear hR
  have HTAB := Lib.hid htab; clear htab
  by_cases hs : u < 100
  · have hlt : (u : Int) < 100 := by omega
    have hwc : IntKind.i64.wrap (u : Int) = (u : Int) := IntWalk.i64_in _ (by omega)
    go_enter Tryz.func175, Tryz.ntmps175
    go_wp2_with fail
    refine (Tryz.internal_strconv_small u hs _).mono ?_
    rintro e w' ⟨rfl, rfl⟩
    rw [decDigits_eqd]
    clear hlt hwc
    dsimp only
    go_wp2
    first | go_ret | skip
    exact HR.out _ (Below.refl _ _)
  · have hlt : ¬ (u : Int) < 100 := by omega
    have hu1 : 1 ≤ u := by omega
    have hnd20 : Lib.nDigits u ≤ 20 := by have := Lib.numDigits_eq u hu1 hu64; split at this <;> omega
    obtain ⟨nd, hnd⟩ : ∃ nd, nd = Lib.nDigits u := ⟨_, rfl⟩
    have HND := Lib.hid hnd
    have hnd24 : nd ≤ 24 := by omega
    have hal : Tryz.prog.arrayLen 207 = 24 := by simp [Program.arrayLen, Tryz.underlying207]
    have hsl : ∀ W, (Instr.sliceAt 207 (.pointer (some ⟨w.heap.size, 0, none⟩)) none (some (.int .i64 (nd : Int))) none).run Tryz.prog W = .ok (.slice (some ⟨w.heap.size, 0, none⟩) nd 24) W := fun W => by
      rw [run_sliceAt_array_h W 207 ⟨w.heap.size, 0, none⟩ (by simp [Program.arrayLen, Program.elem, Tryz.underlying207]) .i64 (nd : Int) (by omega) (by rw [hal]; omega)]
      go_simp
    have hH0 := Lib.holds_zero0 w 207 nd hnd24
    have hfmt := Tryz.internal_strconv_formatBase10 w.heap.size 0 24 u (Array.replicate nd 0) (w.alloc (.cells Lib.zeros24 207)) hH0 (by rw [Array.size_replicate, hnd]; exact Lib.lt_pow_nDigits u) hu64 (by rw [Array.size_replicate]; omega)
    rw [Array.size_replicate] at hfmt
    have HH0 := Lib.hid hH0
    have HFMT := Lib.hid hfmt
    clear hH0 hal hfmt hnd20
    go_enter Tryz.func175, Tryz.ntmps175
    go_wp2_with fail
    refine (Tryz.internal_strconv_numDigits u hu1 hu64 _ (Lib.tabIs_alloc HTAB.out _)).mono ?_
    rintro e w' ⟨rfl, rfl⟩
    rw [← HND.out]
    clear hnd
    dsimp only
    go_wp2_with fail
    refine HFMT.out.mono ?_
    rintro e w' ⟨rfl, k, v', dk, rfl, hF⟩
    have hF' := hF
    rw [HND.out] at hF'
    have hcv : (convert 86 9 (.slice (some ⟨w.heap.size, 0, none⟩) nd 24)).run Tryz.prog ((putRow (fun (b : UInt8) => Value.int .u8 (b.toNat : Int)) (w.alloc (.cells Lib.zeros24 207)) w.heap.size 0 dk).drewN k) = .ok (.string ⟨(Lib.decDigits u).toArray⟩) ((putRow (fun (b : UInt8) => Value.int .u8 (b.toNat : Int)) (w.alloc (.cells Lib.zeros24 207)) w.heap.size 0 dk).drewN k) := by
      have h := run_convert_bytes_back (P := Tryz.prog) ((putRow (fun (b : UInt8) => Value.int .u8 (b.toNat : Int)) (w.alloc (.cells Lib.zeros24 207)) w.heap.size 0 dk).drewN k) 86 9 5 ⟨w.heap.size, 0, none⟩ 24 (Lib.decDigits u) Tryz.underlying86 Tryz.underlying5 Tryz.underlying9 (fun j hj => by
        rw [Lib.row_is_numeral hF' j hj, Lib.add_plain, World.cell?_drewN]
        exact cell?_putRow (fun (b : UInt8) => Value.int .u8 (b.toNat : Int)) _ w.heap.size 0 _ dk HH0.out (by rw [hF.size, Array.size_replicate]) j (by rw [hF.size, HND.out]; rw [Lib.decDigits_length] at hj; exact hj))
      rw [Lib.decDigits_length, ← HND.out] at h
      exact h
    rw [decDigits_eqd] at hcv
    have HBB : Hid (Below w.heap.size w ((putRow (fun (b : UInt8) => Value.int .u8 (b.toNat : Int)) (w.alloc (.cells Lib.zeros24 207)) w.heap.size 0 dk).drewN k)) := Lib.hid (by
      obtain ⟨os, eo⟩ := fin_zero w (.cells Lib.zeros24 207) dk k
      rw [eo]
      exact Lib.below_grow w.heap.size w (Nat.le_refl _) k os)
    clear hF hF'
    dsimp only
    go_wp2
    first | go_ret | skip
    exact HR.out _ HBB.out

set_option maxRecDepth 100000 in
theorem fmtu_any (u : Nat) (hu64 : u < 18446744073709551616) (w : World) (htab : Lib.TabIs Tryz.prog w "internal/strconv.uint64pow10" .u64 Lib.pow10Tab) (R : Ending → World → Prop)
    (hR : ∀ w', Below w.heap.size w w' → R (.returned (.string ⟨(decs u).toArray⟩)) w') :
    Calls Tryz.prog 155 #[.int .u64 (u : Int), .int .i64 10] w R := by
  have HR := Lib.hid hR; clear hR
  have HTAB := Lib.hid htab; clear htab
  have HU := Lib.hid hu64; clear hu64
  go_enter Tryz.func155, Tryz.ntmps155
  go_wp2_with fail
  refine fmtui_any u HU.out _ HTAB.out _ ?_
  intro w1 hb1
  have HB := Lib.hid hb1
  obtain ⟨T, hT⟩ : ∃ T, T = decs u := ⟨_, rfl⟩
  rw [← hT] at HR ⊢
  clear hT hb1
  dsimp only
  go_wp2
  first | go_ret | skip
  exact HR.out _ HB.out
end Go.Proofs.YtegdcmcfeaohhaaGreatDoor

namespace Go.Proofs.YtegdcmcfeaohhaaGreatDoor
open Go Go.RowKit Go.Shelf

/-- the numbering of the contract of WriteByte -/
def renB : Go.Shelf.Ren := ⟨fun | 167 => 110 | n => Tryz.lays105_ren.f n, Tryz.lays105_ren.t, Tryz.lays105_ren.g⟩

set_option maxRecDepth 100000 in
theorem lays166B : Go.Proofs.Lays.n166 Tryz.prog Tryz.lays105_ren := { Tryz.lays105 with }
set_option maxRecDepth 100000 in
theorem lays167B : Go.Proofs.Lays.n167 Tryz.prog renB := { Tryz.lays105 with f167 := Tryz.func110.trans (congrArg some (by kernel_rfl)) }
set_option maxRecDepth 100000 in
theorem extraB : Go.Proofs.Builder.Extra Tryz.prog renB := { Tryz.Builder_Extra_105 with }

/-- a builder of the call's own, in block b, that holds a text -/
def IsB (w : World) (b : Nat) (T : List UInt8) : Prop := Lib.IsBuilder 88 5 b b (Lib.byteCells T) w

theorem IsB.fresh (w : World) : IsB (w.alloc (.cells #[.pointer none, .slice none 0 0] 88)) w.heap.size [] := by
  refine .inl ⟨Nat.le_refl _, .slice none 0 0, ?_, World.ownsRow_nil _ _ _ _, by simp [Value.ownBlock]⟩
  show (w.heap.push _)[_]? = _
  simp

theorem IsB.lt {w : World} {b : Nat} {T : List UInt8} (h : IsB w b T) : b < w.heap.size := by
  rcases h with h | h
  · exact h.lt
  · exact h.lt

/-- a change of later blocks alone -/
theorem IsB.later {w w' : World} {b : Nat} {T : List UInt8} (h : IsB w b T) (hb : Below w.heap.size w w') : IsB w' b T := by
  have key : ∀ p, Lib.BuilderAt 88 5 b b p (Lib.byteCells T) w → Lib.BuilderAt 88 5 b b p (Lib.byteCells T) w' := by
    rintro p ⟨h1, v, h2, h3, h4⟩
    refine ⟨h1, v, by rw [hb.block b (lt_of_block h2)]; exact h2, ?_, h4⟩
    refine World.ownsRow.kept (row := none) h3 ⟨hb.os, hb.tape, hb.output, hb.size, fun k hk _ => hb.block k hk⟩ ?_
    by_cases h0 : v.ownBlock = none
    · exact .inl h0
    · exact .inr h0
  rcases h with h | h
  · exact .inl (key _ h)
  · exact .inr (key _ h)

theorem byteCells_append (T U : List UInt8) : Lib.byteCells (T ++ U) = Lib.byteCells T ++ Lib.byteCells U := by simp [Lib.byteCells]
theorem strCells_eq (s : ByteArray) : Lib.strCells s = Lib.byteCells s.data.toList := rfl
theorem byteCells_length (T : List UInt8) : (Lib.byteCells T).length = T.length := by simp [Lib.byteCells]

theorem bws_any (b : Nat) (T : List UInt8) (s : ByteArray) (w : World) (h : IsB w b T) (hlen : T.length + s.size ≤ 1000000) (R : Ending → World → Prop)
    (hR : ∀ w', IsB w' b (T ++ s.data.toList) → Below b w w' → R (.returned (.tuple #[.int .i64 (s.size : Int), .nilIface])) w') :
    Calls Tryz.prog 112 #[.pointer (some ⟨b, 0, none⟩), .string s] w R := by
  refine (Go.Proofs.Any.Builder_WriteString lays166B Tryz.Builder_Extra_105 b b (Lib.byteCells T) s w h (by rw [byteCells_length]; omega) (Nat.le_of_lt h.lt)).mono ?_
  rintro e w' ⟨rfl, h1, h2⟩
  refine hR w' (.inr ?_) h2
  rw [byteCells_append, ← strCells_eq]
  exact h1

theorem bwb_any (b : Nat) (T : List UInt8) (c : UInt8) (z : Int) (hz : z = (c.toNat : Int)) (w : World) (h : IsB w b T) (hlen : T.length + 1 ≤ 1000000) (R : Ending → World → Prop)
    (hR : ∀ w', IsB w' b (T ++ [c]) → Below b w w' → R (.returned .nilIface) w') :
    Calls Tryz.prog 110 #[.pointer (some ⟨b, 0, none⟩), .int .u8 z] w R := by
  subst hz
  refine (Go.Proofs.Any.Builder_WriteByte lays167B extraB b b (Lib.byteCells T) (c.toNat : Int) w h (by rw [byteCells_length]; omega) (Nat.le_of_lt h.lt)).mono ?_
  rintro e w' ⟨rfl, h1, h2⟩
  refine hR w' (.inr ?_) h2
  rw [byteCells_append]
  exact h1

theorem bstr_any (b : Nat) (T : List UInt8) (w : World) (h : IsB w b T) (R : Ending → World → Prop)
    (hR : ∀ w', Below b w w' → R (.returned (.string ⟨T.toArray⟩)) w') :
    Calls Tryz.prog 72 #[.pointer (some ⟨b, 0, none⟩)] w R := by
  refine (Tryz.Builder_String_any b b T w h (Nat.le_of_lt h.lt)).mono ?_
  rintro e w' ⟨rfl, h2⟩
  exact hR w' h2
end Go.Proofs.YtegdcmcfeaohhaaGreatDoor
