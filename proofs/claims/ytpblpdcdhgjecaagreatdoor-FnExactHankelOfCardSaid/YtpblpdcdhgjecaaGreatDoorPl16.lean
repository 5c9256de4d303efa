/- Contracts of functions of the program and of the model: Pieces, Mark, MarkL, SplitS, ReadLS, IsNumI, ReadLI, ShapedR, LawReadL. -/
import Derived.Test.YtpblpdcdhgjecaaGreatDoorPr13
import Derived.Lib.IndexMore
import Derived.Deep.RegionHeld3
import Derived.Deep.RegionLaw
import Derived.HandedShaped
set_option linter.all false
set_option linter.unusedVariables false
set_option linter.unusedSimpArgs false
set_option linter.unnecessarySimpa false
set_option linter.deprecated false
namespace Go.Proofs.YtpblpdcdhgjecaaGreatDoor
open Go Go.RowKit

/-- the pieces between commas -/
def pieces : List UInt8 → List (List UInt8)
  | [] => [[]]
  | c :: l => if c = 44 then [] :: pieces l else match pieces l with | [] => [[c]] | p :: r => (c :: p) :: r

theorem pieces_none : ∀ (a : List UInt8), (44 : UInt8) ∉ a → pieces a = [a]
  | [], _ => rfl
  | c :: l, h => by
    have h1 : c ≠ 44 := fun e => h (by simp [e])
    have h2 : (44 : UInt8) ∉ l := fun e => h (by simp [e])
    unfold pieces
    rw [if_neg h1, pieces_none l h2]

theorem pieces_cut : ∀ (a b : List UInt8), (44 : UInt8) ∉ a → pieces (a ++ 44 :: b) = a :: pieces b
  | [], b, _ => by show pieces (44 :: b) = _; rw [pieces]; simp
  | c :: l, b, h => by
    have h1 : c ≠ 44 := fun e => h (by simp [e])
    have h2 : (44 : UInt8) ∉ l := fun e => h (by simp [e])
    show pieces (c :: (l ++ 44 :: b)) = _
    rw [pieces, if_neg h1, pieces_cut l b h2]

theorem pieces_len : ∀ (a : List UInt8), (pieces a).length ≤ a.length + 1
  | [] => by simp [pieces]
  | c :: l => by
    have h := pieces_len l
    rw [pieces]
    split
    · simp; omega
    · split
      · simp
      · rename_i p r hp
        rw [hp] at h
        simp at h ⊢
        omega

theorem pieces_sizes : ∀ (a : List UInt8), ∀ p ∈ pieces a, p.length ≤ a.length
  | [], p, h => by simp [pieces] at h; subst h; simp
  | c :: l, p, h => by
    have ih := pieces_sizes l
    rw [pieces] at h
    split at h
    · rcases List.mem_cons.1 h with rfl | h
      · simp
      · have := ih p h; simp; omega
    · split at h
      · simp at h; subst h; simp
      · rename_i q r hp
        rcases List.mem_cons.1 h with rfl | h
        · have := ih q (by rw [hp]; simp); simp; omega
        · have := ih p (by rw [hp]; simp [h]); simp; omega

theorem index_comma : ∀ (l : List UInt8), ((44 : UInt8) ∉ l ∧ Lib.index l [44] = -1) ∨ ∃ a b, l = a ++ 44 :: b ∧ (44 : UInt8) ∉ a ∧ Lib.index l [44] = (a.length : Int)
  | [] => .inl ⟨by simp, by simp [Lib.index]⟩
  | c :: l => by
    by_cases hc : c = 44
    · subst hc
      exact .inr ⟨[], l, rfl, by simp, by simp [Lib.index]⟩
    · have hp : ([44] : List UInt8).isPrefixOf (c :: l) = false := by
        simp [List.isPrefixOf]; exact fun e => hc e.symm
      rcases index_comma l with ⟨h1, h2⟩ | ⟨a, b, h1, h2, h3⟩
      · refine .inl ⟨by simp [h1]; exact fun e => hc e.symm, ?_⟩
        rw [Lib.index, hp, h2]; rfl
      · refine .inr ⟨c :: a, b, by rw [h1]; rfl, by simp [h2]; exact fun e => hc e.symm, ?_⟩
        rw [Lib.index, hp, h3]
        have : ((a.length : Int) == -1) = false := by rw [beq_eq_false_iff_ne]; omega
        rw [this]
        simp

/-- what strings.Cut makes at a comma -/
theorem cut_comma (l : List UInt8) : ((44 : UInt8) ∉ l ∧ Lib.cut l [44] = (l, [], false)) ∨ ∃ a b, l = a ++ 44 :: b ∧ (44 : UInt8) ∉ a ∧ Lib.cut l [44] = (a, b, true) := by
  rcases index_comma l with ⟨h1, h2⟩ | ⟨a, b, h1, h2, h3⟩
  · refine .inl ⟨h1, ?_⟩
    unfold Lib.cut; rw [h2]; rfl
  · refine .inr ⟨a, b, h1, h2, ?_⟩
    unfold Lib.cut; rw [h3, if_pos (by omega)]
    rw [h1]; simp

/-- the texts between commas; of the text 'none' none -/
def splitB (s : ByteArray) : List ByteArray := if s.data.toList = [110, 111, 110, 101] then [] else (pieces s.data.toList).map fun l => ⟨l.toArray⟩

theorem splitB_len (s : ByteArray) : (splitB s).length ≤ s.size + 1 := by
  unfold splitB
  split
  · simp
  · rw [List.length_map]
    have := pieces_len s.data.toList
    have e : s.size = s.data.toList.length := by rw [Array.length_toList]; rfl
    omega

theorem splitB_sizes (s : ByteArray) : ∀ t ∈ splitB s, t.size ≤ s.size := by
  intro t ht
  unfold splitB at ht
  split at ht
  · simp at ht
  · obtain ⟨p, hp, rfl⟩ := List.mem_map.1 ht
    have := pieces_sizes s.data.toList p hp
    have e : s.size = s.data.toList.length := by rw [Array.length_toList]; rfl
    have e2 : (⟨p.toArray⟩ : ByteArray).size = p.length := by simp [ByteArray.size]
    omega

/-- the list that ReadNumbers answers -/
noncomputable def readL (s : ByteArray) : List ByteArray := if numsB (splitB s) then splitB s else []
theorem readL_len (s : ByteArray) : (readL s).length ≤ 60 := by
  unfold readL
  split
  · rename_i h
    unfold numsB at h
    simp at h
    exact h.1
  · simp
end Go.Proofs.YtpblpdcdhgjecaaGreatDoor

namespace Go.Proofs.YtpblpdcdhgjecaaGreatDoor
open Go Go.RowKit

/-- decimal digits, none of 0 -/
def mkD (k : Nat) : List UInt8 := (dig 10 k).reverse.map chr
theorem mkD_zero : mkD 0 = [] := by simp [mkD, dig]
theorem mkD_step {k : Nat} (h : 0 < k) : mkD k = mkD (k / 10) ++ [chr (k % 10)] := by
  unfold mkD
  rw [show dig 10 k = (k % 10) :: dig 10 (k / 10) by rw [dig]; rw [dif_neg (by omega)]]
  simp
theorem mkD_len {k : Nat} (h : k < 10 ^ 20) : (mkD k).length ≤ 20 := by
  unfold mkD
  rw [List.length_map, List.length_reverse]
  exact dig_length_le (by omega) _ _ h
/-- the mark of a number -/
def mkT (k : Nat) : ByteArray := if k = 0 then ⟨#[109, 48]⟩ else ⟨#[109]⟩ ++ ⟨(mkD k).toArray⟩

set_option maxRecDepth 100000 in
/-- a byte as a text -/
theorem conv1 (W : World) (x : Nat) :
    (convert 124 9 (.slice (some ⟨W.heap.size, 0, none⟩) 1 1)).run Tryz.prog (W.alloc (.cells #[.int .u8 (48 + (x : Int))] 5)) =
      .ok (.string ⟨([chr x] : List UInt8).toArray⟩) (W.alloc (.cells #[.int .u8 (48 + (x : Int))] 5)) := by
  rw [run_convert_bytes_string _ _ _ 5 _ _ _ Tryz.underlying124 Tryz.underlying5 Tryz.underlying9]
  rw [run_bytesToString _ _ _ _ [48 + (x : Int)] (by simp [go_sem])]
  have e : [48 + (x : Int)].foldl (fun r n => r.push (UInt8.ofNat n.toNat)) ByteArray.empty = ⟨([chr x] : List UInt8).toArray⟩ := by
    have h1 := chr_int x
    simp only [List.foldl_cons, List.foldl_nil, h1]
    rfl
  rw [e]

set_option maxRecDepth 100000 in
set_option maxHeartbeats 1000000 in
theorem markText_any (K : Nat) (w : World) (hK : K ≤ 1000000000000) (R : Ending → World → Prop)
    (hR : ∀ w', Below w.heap.size w w' → R (.returned (.string (mkT K))) w') :
    Calls Tryz.prog 69 #[.int .i64 (K : Int)] w R := by
  have HR := Lib.hid hR; clear hR
  by_cases h0 : K = 0
  · subst h0
    go_enter Tryz.func69, Tryz.ntmps69
    go_wp2
    first | go_ret | skip
    exact HR.out _ (Below.refl _ _)
  · have hp : ¬ ((K : Int) ≤ 0) := by omega
    have HT : Hid (mkT K = ⟨#[109]⟩ ++ ⟨(mkD K).toArray⟩) := Lib.hid (by unfold mkT; rw [if_neg h0])
    have HLK : Hid ((mkD K).length ≤ 20) := Lib.hid (mkD_len (by omega))
    have HKK := Lib.hid hK
    clear h0
    go_enter Tryz.func69, Tryz.ntmps69
    go_wp2
    clear hp
    go_loopw [0, 3] (fun kv ov wr => ∃ (j : Nat) (l : List UInt8), kv = .int .i64 (j : Int) ∧ ov = .string ⟨l.toArray⟩ ∧ j ≤ K ∧ mkD j ++ l = mkD K ∧ Below w.heap.size w wr) (fun kv _ _ => (intOf kv).toNat)
    case atStart => exact ⟨K, [], rfl, rfl, Nat.le_refl _, by simp, Below.refl _ _⟩
    case round =>
      obtain ⟨j, l, rfl, rfl, hj, hl, hbel⟩ := hrel
      have HL := Lib.hid hl
      have HB := Lib.hid hbel
      have hll : l.length ≤ 20 := by have := congrArg List.length hl; rw [List.length_append] at this; have := HLK.out; omega
      clear hl hbel
      by_cases hj0 : j = 0
      · subst hj0
        have hfin : l = mkD K := by rw [← HL.out, mkD_zero, List.nil_append]
        have HF := Lib.hid (show R (.returned (.string (⟨#[109]⟩ ++ ⟨l.toArray⟩))) wr by have := HR.out _ HB.out; rw [HT.out, ← hfin] at this; exact this)
        clear hfin
        go_wp2
        first | go_ret | skip
        exact HF.out
      · obtain ⟨r, hr⟩ : ∃ r, r = j % 10 := ⟨_, rfl⟩
        obtain ⟨q, hq⟩ : ∃ q, q = j / 10 := ⟨_, rfl⟩
        have hr10 : r < 10 := by omega
        have hqj : q < j := by omega
        have HN : Hid (mkD q ++ (chr r :: l) = mkD K) := Lib.hid (by
          have := HL.out
          rw [mkD_step (by omega), ← hr, ← hq] at this
          rw [← this]; simp)
        have hcv := conv1 wr r
        have e1 : (j : Int) % 10 = (r : Int) := by omega
        have e2 : Int.tmod (j : Int) 10 = (r : Int) := by rw [Int.tmod_eq_emod_of_nonneg (by omega)]; exact e1
        have e3 : IntKind.i64.wrap (r : Int) = (r : Int) := IntWalk.i64_in _ (by omega)
        have e4 : IntKind.i64.wrap (48 + (r : Int)) = 48 + (r : Int) := IntWalk.i64_in _ (by omega)
        have e5 : IntKind.u8.wrap (48 + (r : Int)) = 48 + (r : Int) := by rw [IntKind.wrap_u8]; omega
        have e6 : (j : Int) / 10 = (q : Int) := by omega
        have e7 : Int.tdiv (j : Int) 10 = (q : Int) := by rw [Int.tdiv_eq_ediv_of_nonneg (by omega)]; exact e6
        have e8 : IntKind.i64.wrap (q : Int) = (q : Int) := IntWalk.i64_in _ (by have := HKK.out; omega)
        have HBA := Lib.hid (HB.out.alloc HB.out.size (.cells #[.int .u8 (48 + (r : Int))] 5))
        have hqK : q ≤ K := by omega
        clear hr hq hj0
        go_wp2
        go_roundw
        case rel => exact ⟨q, chr r :: l, by first | rfl | go_num, by first | rfl | (rw [ByteArray.mk_append_mk]; rfl), hqK, HN.out, HBA.out⟩
        case measure => simp [intOf]; omega
end Go.Proofs.YtpblpdcdhgjecaaGreatDoor

namespace Go.Proofs.YtpblpdcdhgjecaaGreatDoor
open Go Go.RowKit

/-- of what there was, nothing but one block has turned, if any has -/
structure ButO (o : Option Nat) (w w' : World) : Prop where
  os : w'.os = w.os
  tape : w'.tape = w.tape
  output : w'.output = w.output
  size : w.heap.size ≤ w'.heap.size
  block : ∀ k, k < w.heap.size → o ≠ some k → w'.heap[k]? = w.heap[k]?

theorem ButO.refl (o : Option Nat) (w : World) : ButO o w w := ⟨rfl, rfl, rfl, Nat.le_refl _, fun _ _ _ => rfl⟩
theorem ButO.trans {o : Option Nat} {a b c : World} (h : ButO o a b) (k : ButO o b c) : ButO o a c :=
  ⟨k.os.trans h.os, k.tape.trans h.tape, k.output.trans h.output, Nat.le_trans h.size k.size, fun i hi ho => (k.block i (Nat.lt_of_lt_of_le hi h.size) ho).trans (h.block i hi ho)⟩
theorem ButO.of {o : Option Nat} {w w' : World} (h : Below w.heap.size w w') : ButO o w w' := ⟨h.os, h.tape, h.output, h.size, fun k hk _ => h.block k hk⟩
theorem ButO.set {g : Nat} (w : World) (i : Nat) (u : Value) : ButO (some g) w (w.setCell ⟨g, i, none⟩ u) :=
  ⟨rfl, rfl, rfl, by simp [World.setCell], fun k _ ho => Below.heap_setCell _ _ _ _ (fun e => ho (by rw [e]))⟩
theorem ButO.below {o : Option Nat} {B : Nat} {w w' : World} (h : ButO o w w') (ho : ∀ g, o = some g → B ≤ g) (hB : B ≤ w.heap.size) : Below B w w' :=
  ⟨h.os, h.tape, h.output, h.size, fun k hk => h.block k (by omega) (fun e => by have := ho k e; omega)⟩
theorem OwE.base {α : Type} {sz : Nat} {E : World → List Value → α → Prop} {e : TypeId} {w : World} {B : Nat} {v : Value} {xs : List α} (h : OwE sz E e w B v xs) : ∀ g, v.ownBlock = some g → B ≤ g := by
  rcases h with ⟨rfl, _⟩ | ⟨g, cap, cur, rfl, h2, _⟩
  · intro g hg; cases hg
  · intro g' hg
    obtain rfl : g = g' := by simpa [Value.ownBlock] using hg
    exact h2
theorem OwE.butO {e : TypeId} {w w' : World} {B : Nat} {v : Value} {xs : List ByteArray} {o : Option Nat} (h : OwE 1 ET e w B v xs) (hb : ButO o w w') (hne : ∀ g, v.ownBlock = some g → o ≠ some g) : OwE 1 ET e w' B v xs := by
  rcases h with h | ⟨g, cap, cur, rfl, h2, h3, h4, h5, h6, h7, h8⟩
  · exact .inl h
  · exact .inr ⟨g, cap, cur, rfl, h2, by rw [hb.block g (lt_of_block h3) (hne g (by simp [Value.ownBlock]))]; exact h3, h4, h5, h6, h7, fun i x hi => h8 i x hi⟩

/-- a text of an own list is replaced -/
theorem OwE.setT {e : TypeId} {w : World} {B : Nat} {v : Value} {L : List ByteArray} (h : OwE 1 ET e w B v L) (i : Nat) (hi : i < L.length) :
    ∃ g cap u, v = .slice (some ⟨g, 0, none⟩) L.length cap ∧ v.ownBlock = some g ∧ g < w.heap.size ∧ w.cell? ⟨g, i, none⟩ = some u ∧ w.frozen? ⟨g, i, none⟩ = false ∧ ∀ s, OwE 1 ET e (w.setCell ⟨g, i, none⟩ (.string s)) B v (L.set i s) := by
  rcases h with ⟨_, rfl⟩ | ⟨g, cap, cur, rfl, h2, h3, h4, h5, h6, h7, h8⟩
  · simp at hi
  · have hic : i < cur.size := by rw [h6]; omega
    refine ⟨g, cap, cur[i], rfl, by simp [Value.ownBlock], lt_of_block h3, ?_, ?_, fun s => ?_⟩
    · simp only [World.cell?, h3, Option.isSome_none, Bool.false_eq_true, if_false]
      exact Array.getElem?_eq_getElem hic
    · simp [World.frozen?, h3]
    · refine .inr ⟨g, cap, cur.setIfInBounds i (.string s), by rw [List.length_set], h2, ?_, by rw [List.length_set]; exact h4, h5, by rw [Array.size_setIfInBounds]; exact h6, ?_, fun j x hj => ?_⟩
      · simp only [World.setCell, Array.getElem?_modify, h3]
        simp
      · intro u hu
        rw [Array.toList_setIfInBounds] at hu
        rcases List.mem_or_eq_of_mem_set hu with hu | rfl
        · exact h7 u hu
        · rfl
      · show ((cur.setIfInBounds i (.string s)).toList.drop (j * 1)).take 1 = [.string x]
        rw [Array.toList_setIfInBounds, Nat.mul_one]
        rw [List.getElem?_set] at hj
        by_cases hij : i = j
        · subst hij
          rw [if_pos rfl, if_pos hi] at hj
          cases hj
          rw [List.drop_eq_getElem_cons (by rw [List.length_set, Array.length_toList]; exact hic)]
          simp
        · rw [if_neg hij] at hj
          have := h8 j x hj
          rw [Nat.mul_one] at this
          have hj2 : j < cur.size := by have := (List.getElem?_eq_some_iff.1 hj).1; rw [h6]; omega
          have h9 : (cur.toList.drop j).take 1 = [cur.toList[j]'(by rw [Array.length_toList]; exact hj2)] := by
            rw [List.drop_eq_getElem_cons (by rw [Array.length_toList]; exact hj2)]; simp
          have h10 : ((cur.toList.set i (.string s)).drop j).take 1 = [cur.toList[j]'(by rw [Array.length_toList]; exact hj2)] := by
            rw [List.drop_eq_getElem_cons (by rw [List.length_set, Array.length_toList]; exact hj2)]
            simp [List.getElem_set_ne hij]
          rw [h10, ← h9]; exact this

theorem below_unD {B : Nat} {w w' : World} (h : Below B w.drew w') : Below B w w' := ⟨h.os, h.tape, h.output, h.size, h.block⟩

/-- the marks from a number on -/
def marks (k0 n : Nat) : List ByteArray := (List.range n).map fun i => mkT (k0 + i)
theorem marks_len (k0 n : Nat) : (marks k0 n).length = n := by simp [marks]
theorem marks_at {k0 n i : Nat} (h : i < n) : (marks k0 n)[i]? = some (mkT (k0 + i)) := by
  simp [marks, h]
theorem marks_set {k0 k : Nat} {L : List ByteArray} (h : k < L.length) : (marks k0 k ++ L.drop k).set k (mkT (k0 + k)) = marks k0 (k + 1) ++ L.drop (k + 1) := by
  rw [List.set_append_right _ _ (by rw [marks_len]; exact Nat.le_refl _), marks_len, Nat.sub_self, List.drop_eq_getElem_cons h, List.set_cons_zero]
  unfold marks
  rw [List.range_succ, List.map_append]
  simp

/-- the loop that marks -/
def MarkRel (e : TypeId) (w : World) (B : Nat) (v : Value) (k0 n : Nat) (L : List ByteArray) (kv iv : Value) (wr : World) : Prop :=
  ∃ k, iv = .int .i64 ((k : Nat) : Int) ∧ kv = .int .i64 ((k0 + k : Nat) : Int) ∧ k ≤ n ∧ OwE 1 ET e wr B v (marks k0 k ++ L.drop k) ∧ ButO v.ownBlock w wr

set_option maxRecDepth 100000 in
set_option maxHeartbeats 1000000 in
theorem mark_any (v : Value) (L : List ByteArray) (k0 : Nat) (B : Nat) (w : World) (h : OwE 1 ET 9 w B v L) (hn : L.length ≤ 1000000000) (hk : k0 ≤ 1000000000) (R : Ending → World → Prop)
    (hR : ∀ w', OwE 1 ET 9 w' B v (marks k0 L.length) → ButO v.ownBlock w w' → R (.returned (.int .i64 ((k0 + L.length : Nat) : Int))) w') :
    Calls Tryz.prog 27 #[v, .int .i64 (k0 : Int)] w R := by
  have HR := Lib.hid hR; clear hR
  have HST : Hid (MarkRel 9 w B v k0 L.length L (.int .i64 (k0 : Int)) (.int .i64 0) w) := Lib.hid ⟨0, rfl, rfl, Nat.zero_le _, by simpa [marks] using h, ButO.refl _ _⟩
  obtain ⟨ao, n, cap, rfl, hnl⟩ := h.shape
  obtain ⟨v0, hv0⟩ : ∃ v0, v0 = Value.slice ao n cap := ⟨_, rfl⟩
  rw [← hv0] at HST HR
  have HV0 := Lib.hid hv0
  have HN := Lib.hid hnl
  have hn9 : n ≤ 1000000000 := by omega
  clear h hnl hv0 hn
  rw [← HN.out] at HST HR
  go_enter Tryz.func27, Tryz.ntmps27
  go_wp2
  go_loopw [1, 5] (fun kv iv wr => MarkRel 9 w B v0 k0 n L kv iv wr) (fun _ iv _ => n - (intOf iv).toNat)
  case atStart => exact HST.out
  case round =>
    clear HST
    obtain ⟨k, rfl, rfl, hkn, hown, hbut⟩ := hrel
    have HBUT := Lib.hid hbut
    clear hbut
    by_cases hke : k = n
    · subst hke
      have he : marks k0 k ++ L.drop k = marks k0 k := by rw [HN.out, List.drop_length, List.append_nil]
      rw [he] at hown
      have HF := Lib.hid (HR.out wr hown HBUT.out)
      have hk0 : ¬ ((k : Int) < (k : Int)) := by omega
      clear hown he
      go_wp2
      first | go_ret | skip
      exact HF.out
    · have hkl : k < n := by omega
      have hlen : k < (marks k0 k ++ L.drop k).length := by rw [List.length_append, marks_len, List.length_drop, ← HN.out]; omega
      have HOWN := Lib.hid hown
      have HKL := Lib.hid hkl
      have hw1 : IntKind.i64.wrap ((k : Int) + 1) = ((k + 1 : Nat) : Int) := by rw [IntWalk.i64_in _ (by omega)]; omega
      have hw2 : IntKind.i64.wrap (((k0 + k : Nat) : Int) + 1) = ((k0 + (k + 1) : Nat) : Int) := by rw [IntWalk.i64_in _ (by omega)]; omega
      have HLEN := Lib.hid hlen
      obtain ⟨z, hz⟩ : ∃ z, z = k0 + k := ⟨_, rfl⟩
      have HZ := Lib.hid hz
      rw [← hz] at hw2 ⊢
      have hzl : z ≤ 1000000000000 := by omega
      obtain ⟨z2, hz2⟩ : ∃ z2 : Nat, z2 = k0 + (k + 1) := ⟨_, rfl⟩
      have HZ2 := Lib.hid hz2
      rw [← hz2] at hw2
      have hi0 : (0 : Int) ≤ (k : Int) := by omega
      have hi1 : (k : Int) < (n : Int) := by omega
      clear hown hlen hke hz hz2 hk
      go_wp2_with fail
      refine markText_any z _ hzl _ ?_
      intro w1 hb1
      have HB1 := Lib.hid hb1
      have hown1 := HOWN.out.later elemT hb1 (Nat.le_refl _)
      obtain ⟨g, cap', u, hv, hob, hg, hc, hf, hset⟩ := hown1.setT k HLEN.out
      have hs := hset (mkT z)
      rw [HZ.out, marks_set (show k < L.length by rw [← HN.out]; exact HKL.out)] at hs
      rw [← HZ.out] at hs
      have HS := Lib.hid hs
      have HOB := Lib.hid hob
      have hv' : some (⟨g, 0, none⟩ : Addr) = ao := by
        have := HV0.out
        rw [hv] at this
        simp only [Value.slice.injEq] at this
        exact this.1
      subst hv'
      clear hb1 hown1 hset hs hob hv
      dsimp only
      go_wp2
      go_roundw
      case rel =>
        refine ⟨k + 1, by first | rfl | go_num, by rw [← HZ2.out], HKL.out, HS.out, HBUT.out.trans ((ButO.of HB1.out).trans ?_)⟩
        rw [HOB.out]; exact ButO.set _ _ _
      case measure => simp [intOf]; have := HKL.out; omega

set_option maxRecDepth 100000 in
set_option maxHeartbeats 1000000 in
theorem held_any (v : Value) (k0 n : Nat) (w : World) (h : TxL w v (marks k0 n)) (hn : n ≤ 1000000000) (hk : k0 ≤ 1000000000) (R : Ending → World → Prop)
    (hR : ∀ w', Below w.heap.size w w' → R (.returned (.int .i64 ((k0 + n : Nat) : Int))) w') :
    Calls Tryz.prog 28 #[v, .int .i64 (k0 : Int)] w R := by
  have HR := Lib.hid hR; clear hR
  obtain ⟨ao, n', cap, rfl, hnl, hc, hh⟩ := h.open
  rw [marks_len] at hnl
  subst hnl
  have HH := Lib.hid hh
  clear h hh hc
  go_enter Tryz.func28, Tryz.ntmps28
  go_wp2
  go_loopw [1, 5] (fun kv iv wr => ∃ k, iv = .int .i64 ((k : Nat) : Int) ∧ kv = .int .i64 ((k0 + k : Nat) : Int) ∧ k ≤ n' ∧ Below w.heap.size w wr) (fun _ iv _ => n' - (intOf iv).toNat)
  case atStart => exact ⟨0, rfl, rfl, Nat.zero_le _, Below.refl _ _⟩
  case round =>
    obtain ⟨k, rfl, rfl, hkn, hbel⟩ := hrel
    have HB := Lib.hid hbel
    by_cases hke : k = n'
    · subst hke
      have HF := Lib.hid (HR.out wr HB.out)
      have hk0 : ¬ ((k : Int) < (k : Int)) := by omega
      clear hbel
      go_wp2
      first | go_ret | skip
      exact HF.out
    · have hkl : k < n' := by omega
      have HKL := Lib.hid hkl
      obtain ⟨b, off, rfl, hb, hcell⟩ := TxL.at HH.out k _ (marks_at hkl)
      rw [← hbel.cell (p := ⟨b, off + k, none⟩) hb] at hcell
      have hw1 : IntKind.i64.wrap ((k : Int) + 1) = ((k + 1 : Nat) : Int) := by rw [IntWalk.i64_in _ (by omega)]; omega
      have hw2 : IntKind.i64.wrap (((k0 + k : Nat) : Int) + 1) = ((k0 + (k + 1) : Nat) : Int) := by rw [IntWalk.i64_in _ (by omega)]; omega
      obtain ⟨z, hz⟩ : ∃ z, z = k0 + k := ⟨_, rfl⟩
      rw [← hz] at hw2 hcell ⊢
      have hzl : z ≤ 1000000000000 := by omega
      obtain ⟨z2, hz2⟩ : ∃ z2 : Nat, z2 = k0 + (k + 1) := ⟨_, rfl⟩
      have HZ2 := Lib.hid hz2
      rw [← hz2] at hw2
      obtain ⟨s, hs⟩ : ∃ s, s = mkT z := ⟨_, rfl⟩
      have HS := Lib.hid hs
      rw [← hs] at hcell
      have hss : (s.toList == s.toList) = true := by simp
      have hss2 : (s.toList != s.toList) = false := by simp
      have hi0 : (0 : Int) ≤ (k : Int) := by omega
      have hi1 : (k : Int) < (n' : Int) := by omega
      have hbl : b < wr.heap.size := Nat.lt_of_lt_of_le hb hbel.size
      have HSOF : Hid (∀ w', Below wr.heap.size wr w' → (Below wr.heap.size wr w' ∧ w'.cell? ⟨b, off + k, none⟩ = some (.string s))) :=
        Lib.hid fun w' hb' => ⟨hb', by rw [hb'.cell (p := ⟨b, off + k, none⟩) hbl]; exact hcell⟩
      clear hke hz hz2 hk hs hbel hkl
      go_wp2_with fail
      go_region_law (first
        | ((try go_simp); go_at_call 69; refine markText_any z _ hzl _ ?_; rw [← HS.out]; intro w1 hb1; have HB1 : Hid (Below wr.heap.size wr w1) := Lib.hid (below_unD hb1); have hc1 := (HSOF.out w1 HB1.out).2; clear hb1; dsimp only))
      all_goals
        go_wp2
        go_roundw
        case rel => exact ⟨k + 1, by first | rfl | go_num, by rw [← HZ2.out], HKL.out, HB.out.trans (HB1.out.mono HB.out.size)⟩
        case measure => simp [intOf]; have := HKL.out; omega
end Go.Proofs.YtpblpdcdhgjecaaGreatDoor

namespace Go.Proofs.YtpblpdcdhgjecaaGreatDoor
open Go Go.RowKit

theorem piece_end (l : List UInt8) (f : Nat) (h : (44 : UInt8) ∉ (l.drop f).take (l.length - f)) : pieces (l.drop f) = [l.drop f] := by
  refine pieces_none _ ?_
  rwa [List.take_of_length_le (by rw [List.length_drop]; exact Nat.le_refl _)] at h
theorem piece_cut (l : List UInt8) (f i : Nat) (hfi : f ≤ i) (hi : i < l.length) (h : (44 : UInt8) ∉ (l.drop f).take (i - f)) (he : l[i] = 44) : pieces (l.drop f) = (l.drop f).take (i - f) :: pieces (l.drop (i + 1)) := by
  have e : l.drop f = (l.drop f).take (i - f) ++ 44 :: l.drop (i + 1) := by
    have h1 : (l.drop f).drop (i - f) = l.drop i := by rw [List.drop_drop]; congr 1; omega
    rw [← he, ← List.drop_eq_getElem_cons hi, ← h1, List.take_append_drop]
  conv => lhs; rw [e]
  rw [pieces_cut _ _ h]
theorem piece_no (l : List UInt8) (f i : Nat) (hfi : f ≤ i) (hi : i < l.length) (h : (44 : UInt8) ∉ (l.drop f).take (i - f)) (he : l[i] ≠ 44) : (44 : UInt8) ∉ (l.drop f).take (i + 1 - f) := by
  have e : i + 1 - f = (i - f) + 1 := by omega
  rw [e, List.take_add_one, List.getElem?_drop]
  have e2 : f + (i - f) = i := by omega
  rw [e2, List.getElem?_eq_getElem hi]
  intro hm
  rcases List.mem_append.1 hm with hm | hm
  · exact h hm
  · simp at hm; exact he hm.symm

theorem zeroS_ints : ∀ u ∈ (Value.string .empty).cells.toList, notInt u = true := by
  intro u hu; simp [Value.cells] at hu; subst hu; rfl

def SplitRel (s : ByteArray) (w : World) (iv fv v : Value) (wr : World) : Prop :=
  ∃ (i f : Nat) (xs : List ByteArray), iv = .int .i64 (i : Int) ∧ fv = .int .i64 (f : Int) ∧ f ≤ i ∧ i ≤ s.size + 1 ∧ xs.length ≤ i ∧
    ((i ≤ s.size ∧ f ≤ s.size ∧ (44 : UInt8) ∉ (s.data.toList.drop f).take (i - f) ∧ xs ++ (pieces (s.data.toList.drop f)).map (fun l => (⟨l.toArray⟩ : ByteArray)) = (pieces s.data.toList).map (fun l => ⟨l.toArray⟩)) ∨
      (i = s.size + 1 ∧ xs = (pieces s.data.toList).map (fun l => ⟨l.toArray⟩))) ∧
    OwE 1 ET 9 wr w.heap.size v xs ∧ Below w.heap.size w wr

set_option maxRecDepth 100000 in
set_option maxHeartbeats 2000000 in
theorem split_any (s : ByteArray) (w : World) (hs : s.size ≤ 1048576) (R : Ending → World → Prop)
    (hR : ∀ v w', OwE 1 ET 9 w' w.heap.size v (splitB s) → Below w.heap.size w w' → R (.returned v) w') :
    Calls Tryz.prog 65 #[.string s] w R := by
  have HR := Lib.hid hR; clear hR
  by_cases hno : s.data.toList = [110, 111, 110, 101]
  · have hsp : splitB s = [] := by unfold splitB; rw [if_pos hno]
    rw [hsp] at HR
    have hse : s = ⟨#[110, 111, 110, 101]⟩ := by
      apply ByteArray.ext; apply Array.toList_inj.1; exact hno
    subst hse
    clear hno hsp hs
    go_enter Tryz.func65, Tryz.ntmps65
    go_wp2
    go_loopw [3, 5] (fun v iv wr => v = .slice (some ⟨w.heap.size, 0, none⟩) 0 0 ∧ iv = .int .i64 0 ∧ wr = w.alloc (.cells #[] 9)) (fun _ _ _ => 0)
    case atStart => exact ⟨rfl, rfl, rfl⟩
    case round =>
      obtain ⟨rfl, rfl, rfl⟩ := hrel
      go_wp2
      first | go_ret | skip
      exact HR.out _ _ (OwE.lit _ _ _ (Nat.le_refl _)) ((Below.refl _ _).alloc (Nat.le_refl _) _)
  · have hsp : splitB s = (pieces s.data.toList).map fun l => ⟨l.toArray⟩ := by unfold splitB; rw [if_neg hno]
    rw [hsp] at HR
    have HS := Lib.hid hs
    have HNO : Hid (s.toList ≠ [110, 111, 110, 101]) := Lib.hid (by rw [Lib.toList_data]; exact hno)
    clear hsp hno
    go_enter Tryz.func65, Tryz.ntmps65
    go_wp2
    go_loopw [3, 4, 5] (fun v fv iv wr => SplitRel s w iv fv v wr) (fun _ _ iv _ => s.size + 1 - (intOf iv).toNat)
    case atStart =>
      exact ⟨0, 0, [], rfl, rfl, Nat.le_refl _, Nat.zero_le _, Nat.zero_le _, .inl ⟨Nat.zero_le _, Nat.zero_le _, by simp, by simp⟩, OwE.lit _ _ _ (Nat.le_refl _), (Below.refl _ _).alloc (Nat.le_refl _) _⟩
    case round =>
      obtain ⟨i, f, xs, rfl, rfl, hfi, hil, hxs, hcase, hown, hbel⟩ := hrel
      have HOWN := Lib.hid hown
      have HB := Lib.hid hbel
      have HX := Lib.hid hxs
      obtain ⟨a3, n3, c3, rfl, hn3⟩ := hown.shape
      clear hown hbel hn3 hxs
      rcases hcase with ⟨hi1, hf1, hno44, hpc⟩ | ⟨hi1, hx⟩
      · have HP := Lib.hid hpc
        have H44 := Lib.hid hno44
        clear hpc hno44
        have c1 : ((i : Int) ≤ (s.size : Int)) := by omega
        have hls : s.data.toList.length = s.size := size_list s
        have cEq : (s.toList == [110, 111, 110, 101]) = false := by rw [beq_eq_false_iff_ne]; exact HNO.out
        have hw1 : IntKind.i64.wrap ((i : Int) + 1) = ((i + 1 : Nat) : Int) := by rw [IntWalk.i64_in _ (by have := HS.out; omega)]; omega
        have d0 : (0 : Int) ≤ (f : Int) := by omega
        have d1 : (f : Int) ≤ (i : Int) := by omega
        have HI := Lib.hid (And.intro hfi (And.intro hi1 hf1))
        by_cases hend : i = s.size
        · have c2 : ((i : Int) == (s.size : Int)) = true := by rw [beq_iff_eq]; omega
          have hfin : Hid (xs ++ [s.extract f i] = (pieces s.data.toList).map (fun l => (⟨l.toArray⟩ : ByteArray))) := by
            refine Lib.hid ?_
            have h44 := H44.out
            rw [hend, ← hls] at h44
            rw [← HP.out, piece_end _ _ h44, hend, Lib.extract_eq, List.take_of_length_le (by rw [List.length_drop, hls]; exact Nat.le_refl _)]
            rfl
          have HE := Lib.hid hend
          clear hend hls hi1 hf1 hfi hil HP H44
          go_wp2_with (at_builtin; go_must (refine wpList_pushE elemT (by omega) rfl (.tmp 27) (.tmp 32) 25 rfl 9 16 (.string .empty) Tryz.underlying25 info_str rfl zeroS_ints (by omega) w.heap.size _ (HOWN.out.alloc elemT _) (by have := HX.out; have := HS.out; have := HI.out; omega) (by have := HB.out.size; simp; omega) wr.heap.size [.string (s.extract f i)] (s.extract f i) rfl rfl (cells_alloc _ #[.string (s.extract f i)] _ _ rfl) ?_))
          intro ao n4 c4 w4 hown4 hn4 hgr hb4
          have HOW4 := Lib.hid hown4
          have HB4 : Hid (Below w.heap.size w w4) := Lib.hid ((HB.out.alloc HB.out.size _).trans hb4)
          clear hown4 hn4 hgr hb4
          go_wp2
          go_roundw
          case rel => exact ⟨i + 1, i + 1, xs ++ [s.extract f i], by first | rfl | go_num, by first | rfl | go_num, Nat.le_refl _, by have := HI.out; omega, by rw [List.length_append]; have := HX.out; simp; omega, .inr ⟨by rw [HE.out], hfin.out⟩, HOW4.out, HB4.out⟩
          case measure => simp [intOf]; have := HI.out; omega
        · have hil2 : i < s.size := by omega
          have c2 : ((i : Int) == (s.size : Int)) = false := by rw [beq_eq_false_iff_ne]; omega
          have q3 : (i : Int) < (s.size : Int) := by omega
          have hlt : i < s.data.toList.length := by omega
          by_cases h44 : s.data.toList[i] = 44
          · have e44 : (((s[i]'hil2).toNat : Int) == 44) = true := by rw [byte_at s i hil2 hlt, h44]; rfl
            have hfin : Hid ((xs ++ [s.extract f i]) ++ (pieces (s.data.toList.drop (i + 1))).map (fun l => (⟨l.toArray⟩ : ByteArray)) = (pieces s.data.toList).map (fun l => (⟨l.toArray⟩ : ByteArray))) := by
              refine Lib.hid ?_
              rw [← HP.out, piece_cut _ f i hfi hlt H44.out h44, Lib.extract_eq, List.append_assoc]
              rfl
            clear hend hls hi1 hf1 hfi hil HP H44 h44 hlt
            go_wp2_with (at_builtin; go_must (refine wpList_pushE elemT (by omega) rfl (.tmp 27) (.tmp 32) 25 rfl 9 16 (.string .empty) Tryz.underlying25 info_str rfl zeroS_ints (by omega) w.heap.size _ (HOWN.out.alloc elemT _) (by have := HX.out; have := HS.out; have := HI.out; omega) (by have := HB.out.size; simp; omega) wr.heap.size [.string (s.extract f i)] (s.extract f i) rfl rfl (cells_alloc _ #[.string (s.extract f i)] _ _ rfl) ?_))
            intro ao n4 c4 w4 hown4 hn4 hgr hb4
            have HOW4 := Lib.hid hown4
            have HB4 : Hid (Below w.heap.size w w4) := Lib.hid ((HB.out.alloc HB.out.size _).trans hb4)
            clear hown4 hn4 hgr hb4
            go_wp2
            go_roundw
            case rel => exact ⟨i + 1, i + 1, xs ++ [s.extract f i], by first | rfl | go_num, by first | rfl | go_num, Nat.le_refl _, by have := HI.out; omega, by rw [List.length_append]; have := HX.out; simp; omega, .inl ⟨by omega, by omega, by simp, hfin.out⟩, HOW4.out, HB4.out⟩
            case measure => simp [intOf]; have := HI.out; omega
          · have e44 : (((s[i]'hil2).toNat : Int) == 44) = false := by
              rw [beq_eq_false_iff_ne, byte_at s i hil2 hlt]
              intro e
              exact h44 (by apply UInt8.toNat_inj.1; have : ((44 : UInt8).toNat) = 44 := rfl; omega)
            have HN : Hid ((44 : UInt8) ∉ (s.data.toList.drop f).take (i + 1 - f)) := Lib.hid (piece_no _ f i hfi hlt H44.out h44)
            clear hend hls hi1 hf1 hfi hil H44 h44 hlt
            go_wp2
            go_roundw
            case rel => exact ⟨i + 1, f, xs, by first | rfl | go_num, rfl, by have := HI.out; omega, by have := HI.out; omega, by have := HX.out; omega, .inl ⟨by omega, HI.out.2.2, HN.out, HP.out⟩, HOWN.out, HB.out⟩
            case measure => simp [intOf]; have := HI.out; omega
      · subst hi1
        have c1 : ¬ (((s.size + 1 : Nat) : Int) ≤ (s.size : Int)) := by omega
        have HF := Lib.hid (HR.out _ _ (by rw [← hx]; exact HOWN.out) HB.out)
        clear hx
        go_wp2
        first | go_ret | skip
        exact HF.out
end Go.Proofs.YtpblpdcdhgjecaaGreatDoor

namespace Go.Proofs.YtpblpdcdhgjecaaGreatDoor
open Go Go.RowKit

theorem OwE.tx {e : TypeId} {w : World} {B : Nat} {v : Value} {L : List ByteArray} (h : OwE 1 ET e w B v L) : TxL w v L := h.sl

theorem readL_true {s : ByteArray} (h : numsB (splitB s) = true) : readL s = splitB s := by unfold readL; rw [if_pos h]
theorem readL_false {s : ByteArray} (h : numsB (splitB s) = false) : readL s = [] := by unfold readL; rw [if_neg (by rw [h]; decide)]

set_option maxRecDepth 100000 in
set_option maxHeartbeats 1000000 in
theorem isListB_any (v : Value) (L : List ByteArray) (w : World) (h : TxL w v L) (hs : ∀ s ∈ L, s.size ≤ 1048576) (R : Ending → World → Prop)
    (hR : ∀ w', Below w.heap.size w w' → R (.returned (.bool (decide (L.length ≤ 60) && L.all isNum))) w') :
    Calls Tryz.prog 57 #[v] w R := by
  by_cases h60 : L.length ≤ 60
  · exact isList_any v L w h (by omega) hs R hR
  · have HR := Lib.hid hR; clear hR
    obtain ⟨ao, n, cap, rfl, hnl, hc, hh⟩ := h.open
    rw [decide_eq_false h60, Bool.false_and] at HR
    have e1 : ¬ ((n : Int) ≤ 60) := by omega
    clear h60 hnl hh h hs hc
    go_enter Tryz.func57, Tryz.ntmps57
    go_wp2
    first | go_ret | skip
    exact HR.out _ (Below.refl _ _)

set_option maxRecDepth 100000 in
set_option maxHeartbeats 1000000 in
theorem spec_readNumbers (s : ByteArray) (w : World) (hs : s.size ≤ 1048576) (R : Ending → World → Prop)
    (hR : ∀ v w', OwE 1 ET 9 w' w.heap.size v (readL s) → Below w.heap.size w w' → R (.returned (.tuple #[v, .bool (numsB (splitB s))])) w') :
    Calls Tryz.prog 25 #[.string s] w R := by
  have HR := Lib.hid hR; clear hR
  have HS := Lib.hid hs; clear hs
  go_enter Tryz.func25, Tryz.ntmps25
  go_wp2_with fail
  refine split_any s _ (by have := HS.out; omega) _ ?_
  intro v w1 hv hb
  obtain ⟨ao, n, c, rfl, hn⟩ := hv.shape
  have HV := Lib.hid hv
  have HB := Lib.hid hb
  clear hv hb hn
  dsimp only
  go_wp2_with fail
  refine isListB_any _ (splitB s) _ HV.out.tx (fun t ht => by have := splitB_sizes s t ht; have := HS.out; omega) _ ?_
  intro w2 hb2
  have HB2 := Lib.hid (HB.out.trans (hb2.mono HB.out.size))
  have HV2 := Lib.hid (HV.out.later elemT hb2 (Nat.le_refl _))
  obtain ⟨x, hx⟩ : ∃ x, x = numsB (splitB s) := ⟨_, rfl⟩
  have hx2 : (decide ((splitB s).length ≤ 60) && (splitB s).all isNum) = x := by rw [hx]; rfl
  rw [hx2]
  rw [← hx] at HR
  have HX := Lib.hid hx
  clear hb2 hx hx2
  cases x
  · have HF := Lib.hid (HR.out (.slice none 0 0) w2 (by rw [readL_false HX.out.symm]; exact OwE.nil _ _ _) HB2.out)
    dsimp only
    go_wp2
    first | go_ret | skip
    exact HF.out
  · have HF := Lib.hid (HR.out (.slice ao n c) w2 (by rw [readL_true HX.out.symm]; exact HV2.out) HB2.out)
    dsimp only
    go_wp2
    first | go_ret | skip
    exact HF.out
end Go.Proofs.YtpblpdcdhgjecaaGreatDoor

namespace Go.Proofs.YtpblpdcdhgjecaaGreatDoor
open Go Go.RowKit

set_option maxRecDepth 100000 in
set_option maxHeartbeats 1000000 in
/-- impl.IsNumber: whether the text is the text of a number with few digits. -/
theorem isnumber_any (s : ByteArray) (w : World) (hE : Env w) (R : Ending → World → Prop)
    (hR : ∀ w', Below w.heap.size w w' → R (.returned (.bool (numB s.data.toList))) w') :
    Calls Tryz.prog 67 #[.string s] w R := by
  have HR := Lib.hid hR; clear hR
  have HE := Lib.hid hE; clear hE
  go_enter Tryz.func67, Tryz.ntmps67
  go_wp2_with fail
  refine readr_any s _ HE.out _ ?_ ?_
  · intro v q w' h1 h2 hv hb
    have hn : numB s.data.toList = true := numB_true.2 ⟨q, h1, h2⟩
    rw [hn] at HR
    obtain ⟨s1, s2, rfl, hn1, hn2⟩ := hv
    obtain ⟨a1, n1, c1, rfl, hn1'⟩ := hn1.op
    obtain ⟨a2, n2, c2, rfl, hn2'⟩ := hn2.op
    obtain ⟨ng, hng⟩ : ∃ ng, ng = decide (q.num < 0) := ⟨_, rfl⟩
    rw [← hng]
    have HB := Lib.hid hb
    clear hn1 hn2 hn1' hn2' hng h1 h2 hb hn
    dsimp only
    go_wp2
    first | go_ret | skip
    exact HR.out _ (HB.out.alloc HB.out.size _)
  · intro e w' hn he hb
    rw [hn] at HR
    obtain ⟨t, p, rfl⟩ := he
    have HB := Lib.hid hb
    clear hb hn
    unfold zeroR
    dsimp only
    go_wp2
    first | go_ret | skip
    exact HR.out _ (HB.out.alloc HB.out.size _)
end Go.Proofs.YtpblpdcdhgjecaaGreatDoor

namespace Go.Proofs.YtpblpdcdhgjecaaGreatDoor
open Go Go.RowKit

/-- the library's number that strings.Cut looks at is one -/
def HasMax (w : World) : Prop := ∃ m, w.cell? ⟨3, 0, none⟩ = some (.int .i64 m)
theorem HasMax.later {w w' : World} {B : Nat} (h : HasMax w) (hb : Below B w w') (hB : w.heap.size ≤ B) : HasMax w' := by
  obtain ⟨m, hm⟩ := h
  exact ⟨m, by rw [hb.cell (p := ⟨3, 0, none⟩) (Nat.lt_of_lt_of_le (lt_of_cell hm) hB)]; exact hm⟩

theorem below_dn (w : World) (n : Nat) : Below w.heap.size w (w.drewN n) := ⟨rfl, rfl, rfl, Nat.le_refl _, fun _ _ => rfl⟩

/-- what comes behind the first piece -/
def more (m : Bool) (r : ByteArray) : List ByteArray := if m then (pieces r.data.toList).map (fun l => ⟨l.toArray⟩) else []

theorem cutc_any (s : ByteArray) (w : World) (hM : HasMax w) (hs : s.size ≤ 1048576) (R : Ending → World → Prop)
    (hR : ∀ a b m w', (pieces s.data.toList).map (fun l => (⟨l.toArray⟩ : ByteArray)) = a :: more m b → a.size ≤ s.size → b.size ≤ s.size → (m = true → b.size < s.size) → Below w.heap.size w w' → R (.returned (.tuple #[.string a, .string b, .bool m])) w') :
    Calls Tryz.prog 66 #[.string s, .string { data := #[44] }] w R := by
  obtain ⟨m, hm⟩ := hM
  refine (Tryz.strings_Cut s { data := #[44] } m w (by omega) hm).mono ?_
  rintro e w' ⟨rfl, n, rfl⟩
  have hb : Below w.heap.size w (w.drewN n) := below_dn w n
  have hsz : ∀ l : List UInt8, (⟨l.toArray⟩ : ByteArray).size = l.length := fun l => by simp [ByteArray.size]
  have hls := size_list s
  rcases cut_comma s.data.toList with ⟨h1, h2⟩ | ⟨a, b, h1, h2, h3⟩
  · have e2 : Lib.cut s.data.toList (⟨#[44]⟩ : ByteArray).data.toList = (s.data.toList, [], false) := h2
    rw [e2]
    exact hR _ _ false _ (by rw [pieces_none _ h1]; rfl) (by rw [hsz]; omega) (by rw [hsz]; simp) (fun h => by cases h) hb
  · have e2 : Lib.cut s.data.toList (⟨#[44]⟩ : ByteArray).data.toList = (a, b, true) := h3
    rw [e2]
    have hl : s.data.toList.length = a.length + (b.length + 1) := by rw [h1]; simp
    exact hR ⟨a.toArray⟩ ⟨b.toArray⟩ true _ (by rw [h1, pieces_cut _ _ h2]; simp [more]) (by rw [hsz]; omega) (by rw [hsz]; omega) (fun _ => by rw [hsz]; omega) hb

theorem clone_any (s : ByteArray) (w : World) (hs : s.size ≤ 1048576) (R : Ending → World → Prop)
    (hR : ∀ w', Below w.heap.size w w' → R (.returned (.string s)) w') :
    Calls Tryz.prog 68 #[.string s] w R := by
  have HR := Lib.hid hR; clear hR
  go_enter Tryz.func68, Tryz.ntmps68
  go_wp2_with fail
  refine (Tryz.stringslite_Clone s _ (by omega)).mono ?_
  rintro e w1 ⟨rfl, hb⟩
  have HB := Lib.hid hb
  clear hb
  dsimp only
  go_wp2
  first | go_ret | skip
  exact HR.out _ HB.out

def readMeas (rv mv : Value) : Nat := match mv, rv with | .bool true, .string r => r.size + 1 | _, _ => 0

def ReadRel (s : ByteArray) (w : World) (rv v mv : Value) (wr : World) : Prop :=
  ∃ (r : ByteArray) (xs : List ByteArray) (m : Bool), rv = .string r ∧ mv = .bool m ∧ r.size ≤ s.size ∧ xs.length ≤ 60 ∧ xs.all isNum = true ∧ xs ++ more m r = splitB s ∧
    OwE 1 ET 9 wr w.heap.size v xs ∧ Below w.heap.size w wr

theorem numsB_long {s : ByteArray} {xs zs : List ByteArray} {a : ByteArray} (h : xs ++ a :: zs = splitB s) (hx : xs.length = 60) : numsB (splitB s) = false := by
  unfold numsB
  rw [← h, decide_eq_false (by simp; omega)]; rfl
theorem numsB_not {s : ByteArray} {xs zs : List ByteArray} {a : ByteArray} (h : xs ++ a :: zs = splitB s) (ha : isNum a = false) : numsB (splitB s) = false := by
  unfold numsB
  rw [← h]
  simp [ha]
theorem numsB_all {s : ByteArray} {xs : List ByteArray} (h : xs = splitB s) (h1 : xs.length ≤ 60) (h2 : xs.all isNum = true) : numsB (splitB s) = true := by
  unfold numsB
  rw [← h, decide_eq_true h1, h2]; rfl

set_option maxRecDepth 100000 in
set_option maxHeartbeats 2000000 in
theorem impl_readNumbers (s : ByteArray) (w : World) (hE : Env w) (hM : HasMax w) (hs : s.size ≤ 1048576) (R : Ending → World → Prop)
    (hR : ∀ v w', OwE 1 ET 9 w' w.heap.size v (readL s) → Below w.heap.size w w' → R (.returned (.tuple #[v, .bool (numsB (splitB s))])) w') :
    Calls Tryz.prog 26 #[.string s] w R := by
  have HR := Lib.hid hR; clear hR
  have HE := Lib.hid hE
  have HM := Lib.hid hM
  have HS := Lib.hid hs
  clear hE hM hs
  by_cases hno : s.data.toList = [110, 111, 110, 101]
  · have hsp : splitB s = [] := by unfold splitB; rw [if_pos hno]
    have hrd : readL s = [] := by unfold readL; rw [hsp]; split <;> rfl
    have hnb : numsB (splitB s) = true := by rw [hsp]; unfold numsB; simp
    rw [hrd, hnb] at HR
    have hse : s = ⟨#[110, 111, 110, 101]⟩ := by
      apply ByteArray.ext; apply Array.toList_inj.1; exact hno
    subst hse
    have HF := Lib.hid (HR.out (.slice (some ⟨w.heap.size, 0, none⟩) 0 0) (w.alloc (.cells #[] 9)) (OwE.lit _ _ _ (Nat.le_refl _)) ((Below.refl _ _).alloc (Nat.le_refl _) _))
    clear hno hsp hrd hnb
    go_enter Tryz.func26, Tryz.ntmps26
    go_wp2
    first | go_ret | skip
    exact HF.out
  · have hsp : splitB s = (pieces s.data.toList).map fun l => ⟨l.toArray⟩ := by unfold splitB; rw [if_neg hno]
    have cEq : (s.toList == [110, 111, 110, 101]) = false := by rw [beq_eq_false_iff_ne, Lib.toList_data]; exact hno
    have HSP := Lib.hid hsp
    clear hsp hno
    go_enter Tryz.func26, Tryz.ntmps26
    go_wp2
    go_loopw [0, 4, 5, 6] (fun rv v mv _ wr => ReadRel s w rv v mv wr) (fun rv _ mv _ _ => readMeas rv mv)
    case atStart =>
      exact ⟨s, [], true, rfl, rfl, Nat.le_refl _, by simp, rfl, by rw [HSP.out]; rfl, OwE.lit _ _ _ (Nat.le_refl _), (Below.refl _ _).alloc (Nat.le_refl _) _⟩
    case round =>
      obtain ⟨r, xs, m, rfl, rfl, hrs, hx60, hxn, hsp, hown, hbel⟩ := hrel
      have HOWN := Lib.hid hown
      have HB := Lib.hid hbel
      have HX := Lib.hid (And.intro hx60 hxn)
      have HP := Lib.hid hsp
      obtain ⟨a3, n3, c3, rfl, hn3⟩ := hown.shape
      have HN3 := Lib.hid hn3
      clear hown hbel hn3 hx60 hxn hsp
      cases m
      · have hfin : xs = splitB s := by have := HP.out; simpa [more] using this
        have hnb := numsB_all hfin HX.out.1 HX.out.2
        rw [hnb] at HR
        have HF := Lib.hid (HR.out _ _ (by rw [readL_true hnb, ← hfin]; exact HOWN.out) HB.out)
        clear hfin hnb HP
        go_wp2
        first | go_ret | skip
        exact HF.out
      · have HRS := Lib.hid hrs
        clear hrs
        go_wp2_with fail
        refine cutc_any r _ (HM.out.later HB.out (Nat.le_refl _)) (by have := HRS.out; have := HS.out; omega) _ ?_
        intro it r2 m2 w1 hpc hit hr2 hm2 hb1
        have HP1 : Hid (xs ++ it :: more m2 r2 = splitB s) := Lib.hid (by rw [← hpc]; exact HP.out)
        have HB1 := Lib.hid (HB.out.trans (hb1.mono HB.out.size))
        have HOW1 := Lib.hid (HOWN.out.later elemT hb1 (Nat.le_refl _))
        have HZ := Lib.hid (And.intro hit (And.intro hr2 hm2))
        clear hpc hit hr2 hm2 hb1 HP HOWN HB
        dsimp only
        by_cases h60 : n3 = 60
        · have hnb := numsB_long HP1.out (by rw [← HN3.out]; exact h60)
          rw [hnb] at HR
          have HF := Lib.hid (HR.out (.slice none 0 0) w1 (by rw [readL_false hnb]; exact OwE.nil _ _ _) HB1.out)
          have c60 : ((n3 : Int) == 60) = true := by rw [h60]; rfl
          clear h60 hnb
          go_wp2
          first | go_ret | skip
          exact HF.out
        · have c60 : ((n3 : Int) == 60) = false := by rw [beq_eq_false_iff_ne]; omega
          have H60 := Lib.hid h60
          clear h60
          go_wp2_with fail
          refine isnumber_any it _ (HE.out.later HB1.out (Nat.le_refl _)) _ ?_
          intro w2 hb2
          have HB2 := Lib.hid (HB1.out.trans (hb2.mono HB1.out.size))
          have HOW2 := Lib.hid (HOW1.out.later elemT hb2 (Nat.le_refl _))
          obtain ⟨x, hx⟩ : ∃ x, x = isNum it := ⟨_, rfl⟩
          have hx2 : numB it.data.toList = x := by rw [hx, numB_numO]; rfl
          rw [hx2]
          have HXX := Lib.hid hx
          clear hb2 hx hx2 HB1 HOW1
          cases x
          · have hnb := numsB_not HP1.out HXX.out.symm
            rw [hnb] at HR
            have HF := Lib.hid (HR.out (.slice none 0 0) w2 (by rw [readL_false hnb]; exact OwE.nil _ _ _) HB2.out)
            clear hnb
            dsimp only
            go_wp2
            first | go_ret | skip
            exact HF.out
          · dsimp only
            go_wp2_with fail
            refine clone_any it _ (by have := HZ.out.1; have := HRS.out; have := HS.out; omega) _ ?_
            intro w3 hb3
            have HB3 := Lib.hid (HB2.out.trans (hb3.mono HB2.out.size))
            have HOW3 := Lib.hid (HOW2.out.later elemT hb3 (Nat.le_refl _))
            clear hb3 HB2 HOW2
            dsimp only
            go_wp2_with (at_builtin; go_must (refine wpList_pushE elemT (by omega) rfl (.tmp 26) (.tmp 29) 25 rfl 9 16 (.string .empty) Tryz.underlying25 info_str rfl zeroS_ints (by omega) w.heap.size _ (HOW3.out.alloc elemT _) (by have := HX.out.1; omega) (by have := HB3.out.size; simp; omega) w3.heap.size [.string it] it rfl rfl (cells_alloc _ #[.string it] _ _ rfl) ?_))
            intro ao n4 c4 w4 hown4 hn4 hgr hb4
            have HOW4 := Lib.hid hown4
            have HB4 : Hid (Below w.heap.size w w4) := Lib.hid ((HB3.out.alloc HB3.out.size _).trans hb4)
            clear hown4 hn4 hgr hb4
            go_wp2
            go_roundw
            case rel => exact ⟨r2, xs ++ [it], m2, rfl, rfl, by have := HZ.out.2.1; have := HRS.out; omega, by rw [List.length_append]; have := HX.out.1; have := H60.out; have := HN3.out; simp; omega, by rw [List.all_append, HX.out.2]; simp; exact HXX.out.symm, by rw [List.append_assoc]; exact HP1.out, HOW4.out, HB4.out⟩
            case measure =>
              have h9 := HZ.out.2.2
              cases m2
              · simp [readMeas]
              · have := h9 rfl
                simp [readMeas]; omega
end Go.Proofs.YtpblpdcdhgjecaaGreatDoor

namespace Go.Proofs.YtpblpdcdhgjecaaGreatDoor.EnvLaid
open Go Go.ChangeShapes Go.WideShapes Go.ChangeAt Go.RowKit

theorem hasMax_of {W : World} (h : W.ShapedOpen Tryz.prog) : HasMax W := Tryz.laysM145.s1_3 W h

theorem handed_shaped {H : Type} {enc : TypeId × Value → H} {a : Assume} {C : Checked} {os : Os} {f : FuncId} {fn : Func} {s : ChangeSpec} {conds : List PathCond} {apart fresh handsOn again : Bool} {X : World → Array Value → Prop}
    (hX : ∀ (w w' : World) (args : Array Value), w.heap = w'.heap → X w args → X w' args)
    (own : ownKnob C.prog.godebug = none) (started : os.Started) (noInit : C.prog.inits.idxOf? f = none) (hfn : C.prog.funcs[f]? = some fn)
    (witness : ∃ (w : World) (tape : Tape) (i : Input), w.os = os ∧ (w.forCall tape i).Shaped C.prog ∧ i.vars = [] ∧ Input.okWide C.prog (w.forCall tape i) .any w.heap.size f i ∧
      ((s.pre enc C.prog fn conds apart (w.forCall tape i).memory i.args ∧ X (w.forCall tape i).memory i.args) ∧ sizedMet enc C.prog fn (OpenSpec.ofChange s) apart (w.forCall tape i).memory i.args) ∧ a.holds C.prog (lone (Frame.enter C.prog f i.args .normal) [] (w.forCall tape i)))
    (contract : ∀ (W : World) (base : Nat) (args : Array Value) (ds gs : List (DataW H)) (before : List MemPlace),
      (∀ (j : Nat) t v, fn.params[j]? = some t → args[j]? = some v → Value.okWide C.prog W .any base t v) →
      DataW.Whole enc C.prog fn.params.toList s.vars apart W args.toList ds gs before → X W args → W.ShapedOpen C.prog →
      Calls C.prog f args W fun e W' => ∃ v, e = .returned v ∧ s.post enc C.prog fn apart fresh handsOn again W args v W') :
    ReturnsInHanded a C os f .any (fun w args => (s.pre enc C.prog fn conds apart w args ∧ X w args) ∧ sizedMet enc C.prog fn (OpenSpec.ofChange s) apart w args) (s.post enc C.prog fn apart fresh handsOn again) := by
  refine returnsInHanded_of_calls own started noInit witness ?_
  intro w tape i _ hsh _ hok hpre _
  obtain ⟨_, _, _, fn', hfn', _, _, _, _, hval⟩ := hok
  obtain rfl : fn' = fn := Option.some.inj (hfn'.symm.trans hfn)
  obtain ⟨⟨⟨ds, gs, before, hw, _⟩, hx⟩, _⟩ := hpre
  refine (contract (w.forCall tape i) w.heap.size i.args ds gs before hval (DataW.Whole.of_heap (w' := w.forCall tape i) (by rfl) hw) (hX _ _ _ (by rfl) hx) hsh).mono fun e W' ⟨v, he, hp⟩ => ?_
  subst he
  exact ChangeSpec.post_blind hp
end Go.Proofs.YtpblpdcdhgjecaaGreatDoor.EnvLaid

namespace Go.Proofs.YtpblpdcdhgjecaaGreatDoor
open Go Go.RowKit

theorem OwE.marked {e : TypeId} {w : World} {B : Nat} {v : Value} {L : List ByteArray} (h : OwE 1 ET e w B v L) (hB : B ≤ w.heap.size) : ∀ g, v.ownBlock = some g → B ≤ g := h.base

set_option maxRecDepth 100000 in
set_option maxHeartbeats 2000000 in
theorem law_readNumbers (s : ByteArray) (w : World) (hE : Env w) (hM : HasMax w) (R : Ending → World → Prop)
    (hR : ∀ w', Below w.heap.size w w' → R (.returned (.bool true)) w') :
    Calls Tryz.prog 7 #[.string s] w R := by
  have HR := Lib.hid hR; clear hR
  have HE := Lib.hid hE; clear hE
  have HM := Lib.hid hM; clear hM
  by_cases hs : s.size ≤ 1048576
  · have hsi : ¬ (1048576 : Int) < (s.size : Int) := by omega
    have HS := Lib.hid hs
    have HL : Hid ((readL s).length ≤ 60) := Lib.hid (readL_len s)
    clear hs
    go_enter Tryz.func7, Tryz.ntmps7
    go_wp2_with fail
    refine spec_readNumbers s _ HS.out _ ?_
    intro v0 w1 hv0 hb1
    obtain ⟨a0, n0, c0, rfl, hn0⟩ := hv0.shape
    obtain ⟨bq, hbq⟩ : ∃ bq, bq = numsB (splitB s) := ⟨_, rfl⟩
    have HBQ := Lib.hid hbq
    rw [← hbq]
    have HV0 := Lib.hid hv0
    have HB1 := Lib.hid hb1
    clear hv0 hb1 hn0 hbq
    dsimp only
    go_wp2_with fail
    refine impl_readNumbers s _ (HE.out.later HB1.out (Nat.le_refl _)) (HM.out.later HB1.out (Nat.le_refl _)) HS.out _ ?_
    intro v2 w2 hv2 hb2
    obtain ⟨a2, n2, c2, rfl, hn2⟩ := hv2.shape
    rw [← HBQ.out]
    have HV2 := Lib.hid hv2
    have HV0' := Lib.hid (HV0.out.later elemT hb2 (Nat.le_refl _))
    have HB2 := Lib.hid (HB1.out.trans (hb2.mono HB1.out.size))
    have HN0 : Hid (∀ g, (Value.slice a0 n0 c0).ownBlock = some g → g < w1.heap.size) := Lib.hid (by
      intro g hg
      rcases HV0.out with ⟨h, _⟩ | ⟨g', cap, cur, h, _, h3, _⟩
      · rw [h] at hg; cases hg
      · rw [h] at hg
        obtain rfl : g' = g := by simpa [Value.ownBlock] using hg
        exact lt_of_block h3)
    have hsz2 : w1.heap.size ≤ w2.heap.size := hb2.size
    clear hv2 hb2 hn2 HV0
    dsimp only
    go_wp2_with fail
    refine eqT_any _ _ (readL s) (readL s) _ HV2.out.tx HV0'.out.tx (by have := HL.out; omega) (by have := HL.out; omega) _ ?_
    intro w3 hb3
    rw [decide_eq_true rfl]
    have HV2' := Lib.hid (HV2.out.later elemT hb3 (Nat.le_refl _))
    have HV0'' := Lib.hid (HV0'.out.later elemT hb3 (Nat.le_refl _))
    have HB3 := Lib.hid (HB2.out.trans (hb3.mono HB2.out.size))
    have HSZ : Hid (w1.heap.size ≤ w3.heap.size) := Lib.hid (Nat.le_trans hsz2 hb3.size)
    clear hb3 HV2 HV0' HB2 hsz2
    have cbq : (bq != bq) = false := by cases bq <;> rfl
    dsimp only
    go_wp2_with fail
    refine mark_any _ (readL s) 1 w1.heap.size _ HV2'.out (by have := HL.out; omega) (by omega) _ ?_
    intro w4 hv4 hb4
    obtain ⟨k1, hk1⟩ : ∃ k1, k1 = 1 + (readL s).length := ⟨_, rfl⟩
    have HK1 := Lib.hid hk1
    rw [← hk1]
    have hbel4 : Below w1.heap.size w3 w4 := hb4.below (fun g hg => HV2'.out.base g hg) HSZ.out
    have HB4 := Lib.hid (HB3.out.trans (hbel4.mono HB1.out.size))
    have HG4 := Lib.hid hv4.tx
    have HW4 := Lib.hid (HV0''.out.butO hb4 (fun g hg hc => by have h1 := HN0.out g hg; have h2 := HV2'.out.base g hc; omega))
    have d1 : ¬ ((k1 : Int) < 0) := by omega
    have d2 : ((k1 : Int) != (k1 : Int)) = false := by simp
    clear hv4 hb4 hbel4 HV2' HV0'' HB3 hk1
    dsimp only
    go_wp2_with fail
    refine held_any _ 1 (readL s).length _ HG4.out (by have := HL.out; omega) (by omega) _ ?_
    intro w5 hb5
    rw [← HK1.out]
    have HB5 := Lib.hid (HB4.out.trans (hb5.mono HB4.out.size))
    have HG5 := Lib.hid (HG4.out.later hb5 (Nat.le_refl _))
    have HW5 := Lib.hid (HW4.out.later elemT hb5 (Nat.le_refl _))
    clear hb5 HB4 HG4 HW4
    dsimp only
    go_wp2_with fail
    refine impl_readNumbers s _ (HE.out.later HB5.out (Nat.le_refl _)) (HM.out.later HB5.out (Nat.le_refl _)) HS.out _ ?_
    intro v6 w6 hv6 hb6
    obtain ⟨a6, n6, c6, rfl, hn6⟩ := hv6.shape
    rw [← HBQ.out]
    have HV6 := Lib.hid hv6
    have HB6 := Lib.hid (HB5.out.trans (hb6.mono HB5.out.size))
    have HG6 := Lib.hid (HG5.out.later hb6 (Nat.le_refl _))
    have HW6 := Lib.hid (HW5.out.later elemT hb6 (Nat.le_refl _))
    clear hv6 hb6 hn6 HB5 HG5 HW5
    dsimp only
    go_wp2_with fail
    refine eqT_any _ _ (readL s) (readL s) _ HV6.out.tx HW6.out.tx (by have := HL.out; omega) (by have := HL.out; omega) _ ?_
    intro w7 hb7
    rw [decide_eq_true rfl]
    have HB7 := Lib.hid (HB6.out.trans (hb7.mono HB6.out.size))
    have HG7 := Lib.hid (HG6.out.later hb7 (Nat.le_refl _))
    clear hb7 HB6 HG6 HW6 HV6
    dsimp only
    go_wp2_with fail
    refine held_any _ 1 (readL s).length _ HG7.out (by have := HL.out; omega) (by omega) _ ?_
    intro w8 hb8
    rw [← HK1.out]
    have HB8 := Lib.hid (HB7.out.trans (hb8.mono HB7.out.size))
    clear hb8 HB7 HG7
    dsimp only
    go_wp2
    first | go_ret | skip
    exact HR.out _ HB8.out
  · have hsi : (1048576 : Int) < (s.size : Int) := by omega
    clear hs
    go_enter Tryz.func7, Tryz.ntmps7
    go_wp2
    first | go_ret | skip
    exact HR.out _ (Below.refl _ _)
end Go.Proofs.YtpblpdcdhgjecaaGreatDoor
