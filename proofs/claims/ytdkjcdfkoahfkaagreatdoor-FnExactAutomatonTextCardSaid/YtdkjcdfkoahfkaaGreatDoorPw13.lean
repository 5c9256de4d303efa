/- Contracts of functions of the program and of the model: NText, AutT, AutU, LawAutomatonText. -/
import Derived.Test.YtdkjcdfkoahfkaaGreatDoorPv12
import Derived.Lib.Join
set_option linter.all false
set_option linter.unusedVariables false
set_option linter.unusedSimpArgs false
set_option linter.unnecessarySimpa false
set_option linter.deprecated false
namespace Go.Proofs.YtdkjcdfkoahfkaaGreatDoor
open Go Go.RowKit

/-- a list of texts with commas between -/
def textL (L : List ByteArray) : ByteArray := if L = [] then ⟨#[110, 111, 110, 101]⟩ else ⟨(Lib.join (L.map (·.data.toList)) [44]).toArray⟩
/-- what is returned -/
noncomputable def ntS (L : List ByteArray) : ByteArray := if numsB L = true then textL L else ⟨#[]⟩

theorem take_one {L : List ByteArray} {x : ByteArray} (h : L[0]? = some x) : L.take 1 = [x] := by
  cases L with
  | nil => cases h
  | cons y l => simp at h; subst h; rfl

theorem join_snoc (X : List (List UInt8)) (y sep : List UInt8) (h : X ≠ []) : Lib.join (X ++ [y]) sep = Lib.join X sep ++ (sep ++ y) := by
  cases X with
  | nil => exact absurd rfl h
  | cons x r => rw [List.cons_append, Lib.join_cons, Lib.join_cons]; simp [Lib.joinTail]

theorem lens_le (L : List ByteArray) (h : ∀ s ∈ L, s.size ≤ 122) : Lib.lens (L.map (·.data.toList)) ≤ 122 * L.length := by
  induction L with
  | nil => simp [Lib.lens]
  | cons x l ih =>
    have h1 := ih (fun s hs => h s (by simp [hs]))
    have h2 : x.size ≤ 122 := h x (by simp)
    have e : x.data.toList.length = x.size := size_list x
    simp only [Lib.lens, List.map_cons, List.sum_cons, List.length_cons] at *
    omega

theorem join_len (L : List ByteArray) (h : ∀ s ∈ L, s.size ≤ 122) : (Lib.join (L.map (·.data.toList)) [44]).length ≤ 123 * L.length := by
  have h1 := lens_le L h
  cases L with
  | nil => simp [Lib.join_nil]
  | cons x l =>
    rw [List.map_cons, Lib.join_length]
    rw [List.map_cons] at h1
    simp only [List.length_cons, List.length_nil, List.length_map] at *
    omega

theorem nums_size {L : List ByteArray} (h : numsB L = true) : L.length ≤ 60 ∧ ∀ s ∈ L, s.size ≤ 122 := by
  unfold numsB at h
  rw [Bool.and_eq_true, decide_eq_true_iff, List.all_eq_true] at h
  exact ⟨h.1, fun s hs => numO_size (isNum_some (h.2 s hs))⟩

set_option maxRecDepth 100000 in
theorem joinI_any (b off n cap : Nat) (L : List ByteArray) (w : World) (h : TxL w (.slice (some ⟨b, off, none⟩) n cap) L) (hnl : n = L.length) (h0 : 0 < n) (hc : n ≤ cap) (hn : L.length ≤ 60) (hs : ∀ s ∈ L, s.size ≤ 122) (R : Ending → World → Prop)
    (hR : ∀ w', Below w.heap.size w w' → R (.returned (.string (textL L))) w') :
    Calls Tryz.prog 85 #[.slice (some ⟨b, off, none⟩) n cap, .string ⟨#[44]⟩] w R := by
  subst hnl
  have hat : ∀ j x, L[j]? = some x → b < w.heap.size ∧ w.cell? ⟨b, off + j, none⟩ = some (.string x) := by
    intro j x hj
    obtain ⟨b', off', e', h2, hck⟩ := h.at j x hj
    simp only [Option.some.injEq, Addr.mk.injEq, and_true] at e'
    obtain ⟨rfl, rfl⟩ := e'
    exact ⟨h2, hck⟩
  have hb : b < w.heap.size := (hat 0 (L[0]'h0) (by simp)).1
  refine (Tryz.strings_Join b off cap L ⟨#[44]⟩ w (fun j x hj => (hat j x hj).2) hb (by omega) hc (by have := join_len L hs; rw [show (⟨#[44]⟩ : ByteArray).data.toList = [44] from rfl]; omega)).mono ?_
  rintro e w' ⟨rfl, hbl⟩
  have := hR w' hbl
  unfold textL at this
  rw [if_neg (by intro e; rw [e] at h0; simp at h0)] at this
  exact this

set_option maxRecDepth 100000 in
set_option maxHeartbeats 1000000 in
theorem impl_numbersText (v : Value) (L : List ByteArray) (w : World) (hE : Env w) (h : TxL w v L) (hn : L.length ≤ 1048576) (R : Ending → World → Prop)
    (hR : ∀ w', Below w.heap.size w w' → R (.returned (.tuple #[.string (ntS L), .bool (numsB L)])) w') :
    Calls Tryz.prog 28 #[v] w R := by
  have HR := Lib.hid hR; clear hR
  have HE := Lib.hid hE; clear hE
  obtain ⟨ao, n, cap, rfl, hnl, hcc, hh⟩ := h.open
  have HH := Lib.hid hh
  have HN := Lib.hid hn
  have HNL := Lib.hid hnl
  have HCC := Lib.hid hcc
  clear h hh hn hnl hcc
  go_enter Tryz.func28, Tryz.ntmps28
  go_wp2_with fail
  refine impl_isNumbers _ L _ HE.out HH.out HN.out _ ?_
  intro w1 hb1
  have HB := Lib.hid hb1
  clear hb1
  cases hx : numsB L with
  | true =>
    have HX := Lib.hid (nums_size hx)
    rw [hx, show ntS L = textL L by unfold ntS; rw [if_pos hx]] at HR
    clear hx
    by_cases h0 : n = 0
    · have e0 : ((n : Int) == 0) = true := by simp [h0]
      have hL : textL L = ⟨#[110, 111, 110, 101]⟩ := by
        have : L = [] := List.eq_nil_of_length_eq_zero (by rw [← HNL.out]; exact h0)
        unfold textL; rw [if_pos this]
      rw [hL] at HR
      clear hL h0
      dsimp only
      go_wp2
      first | go_ret | skip
      exact HR.out _ HB.out
    · have e0 : ((n : Int) == 0) = false := by simp; omega
      have HH1 := Lib.hid (HH.out.later HB.out (Nat.le_refl _))
      obtain ⟨b, off, rfl⟩ : ∃ b off, ao = some ⟨b, off, none⟩ := by
        obtain ⟨b, off, e, _, _⟩ := HH1.out.at 0 (L[0]'(by rw [← HNL.out]; omega)) (by simp)
        exact ⟨b, off, e⟩
      have H0 : Hid (0 < n) := Lib.hid (by omega)
      clear h0
      dsimp only
      go_wp2_with fail
      refine joinI_any b off n cap L _ HH1.out HNL.out H0.out HCC.out HX.out.1 HX.out.2 _ ?_
      intro w2 hb2
      have HB2 := Lib.hid (HB.out.trans (hb2.mono HB.out.size))
      obtain ⟨T, hT⟩ : ∃ T, T = textL L := ⟨_, rfl⟩
      rw [← hT] at HR ⊢
      clear hT hb2
      dsimp only
      go_wp2
      first | go_ret | skip
      exact HR.out _ HB2.out
  | false =>
    rw [hx, show ntS L = ⟨#[]⟩ by unfold ntS; rw [hx]; rfl] at HR
    clear hx
    dsimp only
    go_wp2
    first | go_ret | skip
    exact HR.out _ HB.out

end Go.Proofs.YtdkjcdfkoahfkaaGreatDoor

namespace Go.Proofs.YtdkjcdfkoahfkaaGreatDoor
open Go Go.RowKit

/-- bytes of a text -/
def byL (s : ByteArray) : List UInt8 := s.data.toList
def mkBy (l : List UInt8) : ByteArray := ⟨l.toArray⟩
theorem byL_mk (l : List UInt8) : byL (mkBy l) = l := rfl
theorem mkT_by (s : ByteArray) : mkBy (byL s) = s := rfl
/-- the text of a row, of a matrix, of an automaton -/
def lineL (L : List ByteArray) : List UInt8 := Lib.join (L.map byL) [44]
def rowsL (LL : List (List ByteArray)) : List UInt8 := Lib.join (LL.map lineL) [124]
def autL (S E : List ByteArray) (M : List (List (List ByteArray))) : List UInt8 := Lib.join (lineL S :: lineL E :: M.map rowsL) [59]
def autT (S E : List ByteArray) (M : List (List (List ByteArray))) : ByteArray := mkBy (autL S E M)
noncomputable def autX (S E : List ByteArray) (M : List (List (List ByteArray))) : ByteArray := if autB S E M = true then autT S E M else ⟨#[]⟩
def Few1 (L : List ByteArray) : Prop := L.length ≤ 6 ∧ ∀ s ∈ L, s.size ≤ 122
def Few2 (LL : List (List ByteArray)) : Prop := LL.length ≤ 6 ∧ ∀ L ∈ LL, Few1 L
def FewA (S E : List ByteArray) (M : List (List (List ByteArray))) : Prop := Few1 S ∧ Few1 E ∧ M.length ≤ 3 ∧ ∀ LL ∈ M, Few2 LL
theorem few1 {n : Nat} {L : List ByteArray} (hn : n ≤ 6) (hl : L.length = n) (h : L.all isNum = true) : Few1 L :=
  ⟨by omega, fun s hs => numO_size (isNum_some (List.all_eq_true.1 h s hs))⟩
theorem fewA {S E : List ByteArray} {M : List (List (List ByteArray))} (h : autB S E M = true) : FewA S E M := by
  unfold autB at h
  rw [Bool.and_eq_true, Bool.and_eq_true, Bool.and_eq_true, Bool.and_eq_true, Bool.and_eq_true] at h
  obtain ⟨h1, h2, h3, h4, h5, h6⟩ := h
  have k1 := of_decide_eq_true h1
  have k2 := of_decide_eq_true h2
  have k5 := of_decide_eq_true h5
  refine ⟨few1 k1 rfl h3, few1 k1 k2 h4, k5.2, fun LL hLL => ?_⟩
  have hm := List.all_eq_true.1 h6 LL hLL
  unfold matB at hm
  rw [Bool.and_eq_true] at hm
  have k6 := of_decide_eq_true hm.1
  refine ⟨by omega, fun L hL => ?_⟩
  have hr := List.all_eq_true.1 hm.2 L hL
  unfold rowB at hr
  rw [Bool.and_eq_true] at hr
  exact few1 k1 (of_decide_eq_true hr.1) hr.2
theorem join_step (X : List (List UInt8)) (y sep : List UInt8) : Lib.join (X ++ [y]) sep = if X = [] then y else Lib.join X sep ++ (sep ++ y) := by
  by_cases h : X = []
  · rw [if_pos h, h, List.nil_append, Lib.join_one]
  · rw [if_neg h, join_snoc X y sep h]
theorem join_bound (X : List (List UInt8)) (b : UInt8) (c : Nat) (h : ∀ x ∈ X, x.length ≤ c) : (Lib.join X [b]).length ≤ (c + 1) * X.length := by
  have hl : ∀ Y : List (List UInt8), (∀ x ∈ Y, x.length ≤ c) → Lib.lens Y ≤ c * Y.length := by
    intro Y
    induction Y with
    | nil => intro _; simp [Lib.lens]
    | cons y Y ih =>
      intro hY
      have h1 := ih (fun x hx => hY x (by simp [hx]))
      have h2 := hY y (by simp)
      simp only [Lib.lens, List.map_cons, List.sum_cons, List.length_cons] at *
      rw [Nat.mul_add]; omega
  have h1 := hl X h
  cases X with
  | nil => simp [Lib.join_nil]
  | cons x X =>
    rw [Lib.join_length, Nat.add_mul, Nat.one_mul]
    simp only [List.length_cons, List.length_nil] at *
    omega
theorem lineL_len {L : List ByteArray} (h : Few1 L) : (lineL L).length ≤ 738 := by
  have := join_bound (L.map byL) 44 122 (fun x hx => by
    obtain ⟨s, hs, rfl⟩ := List.mem_map.1 hx
    exact h.2 s hs)
  rw [List.length_map] at this
  have h6 := h.1
  unfold lineL
  omega
theorem rowsL_len {LL : List (List ByteArray)} (h : Few2 LL) : (rowsL LL).length ≤ 4434 := by
  have := join_bound (LL.map lineL) 124 738 (fun x hx => by
    obtain ⟨s, hs, rfl⟩ := List.mem_map.1 hx
    exact lineL_len (h.2 s hs))
  rw [List.length_map] at this
  have h6 := h.1
  unfold rowsL
  omega
theorem few2_take {LL : List (List ByteArray)} (h : Few2 LL) (k : Nat) : Few2 (LL.take k) := ⟨by rw [List.length_take]; have := h.1; omega, fun L hL => h.2 L (List.mem_of_mem_take hL)⟩
theorem few1_take {L : List ByteArray} (h : Few1 L) (k : Nat) : Few1 (L.take k) := ⟨by rw [List.length_take]; have := h.1; omega, fun s hs => h.2 s (List.mem_of_mem_take hs)⟩
theorem autL_len {S E : List ByteArray} {M : List (List (List ByteArray))} (h : FewA S E M) (k : Nat) : (autL S E (M.take k)).length ≤ 22175 := by
  have := join_bound (lineL S :: lineL E :: (M.take k).map rowsL) 59 4434 (fun x hx => by
    rcases List.mem_cons.1 hx with rfl | hx
    · have := lineL_len h.1; omega
    rcases List.mem_cons.1 hx with rfl | hx
    · have := lineL_len h.2.1; omega
    obtain ⟨s, hs, rfl⟩ := List.mem_map.1 hx
    exact rowsL_len (h.2.2.2 s (List.mem_of_mem_take hs)))
  rw [List.length_cons, List.length_cons, List.length_map, List.length_take] at this
  have h6 := h.2.2.1
  unfold autL
  omega
theorem line_step {L : List ByteArray} {k : Nat} {s : ByteArray} (h : L[k]? = some s) : lineL (L.take (k + 1)) = if k = 0 then byL s else lineL (L.take k) ++ ([44] ++ byL s) := by
  have hk := (List.getElem?_eq_some_iff.1 h).1
  unfold lineL
  rw [List.take_add_one, h, List.map_append, Option.toList_some, List.map_cons, List.map_nil, join_step]
  by_cases h0 : k = 0
  · rw [if_pos h0, if_pos (by subst h0; rfl)]
  · rw [if_neg h0, if_neg (by intro e; have := congrArg List.length e; rw [List.length_map, List.length_take, List.length_nil] at this; omega)]
theorem rows_step {LL : List (List ByteArray)} {k : Nat} {L : List ByteArray} (h : LL[k]? = some L) : rowsL (LL.take (k + 1)) = if k = 0 then lineL L else rowsL (LL.take k) ++ ([124] ++ lineL L) := by
  have hk := (List.getElem?_eq_some_iff.1 h).1
  unfold rowsL
  rw [List.take_add_one, h, List.map_append, Option.toList_some, List.map_cons, List.map_nil, join_step]
  by_cases h0 : k = 0
  · rw [if_pos h0, if_pos (by subst h0; rfl)]
  · rw [if_neg h0, if_neg (by intro e; have := congrArg List.length e; rw [List.length_map, List.length_take, List.length_nil] at this; omega)]
theorem aut_step {S E : List ByteArray} {M : List (List (List ByteArray))} {k : Nat} {LL : List (List ByteArray)} (h : M[k]? = some LL) : autL S E (M.take (k + 1)) = autL S E (M.take k) ++ ([59] ++ rowsL LL) := by
  unfold autL
  rw [List.take_add_one, h, List.map_append, Option.toList_some, List.map_cons, List.map_nil, ← List.cons_append, ← List.cons_append, join_step, if_neg (by simp)]
theorem aut_start (S E : List ByteArray) (M : List (List (List ByteArray))) : autL S E (M.take 0) = lineL S ++ ([59] ++ lineL E) := by
  unfold autL
  rw [List.take_zero, List.map_nil, show [lineL S, lineL E] = [lineL S] ++ [lineL E] from rfl, join_snoc _ _ _ (by simp), Lib.join_one]
theorem size_by (s : ByteArray) : s.size = (byL s).length := (size_list s).symm

set_option maxRecDepth 100000 in
set_option maxHeartbeats 1000000 in
theorem l06line_any (v : Value) (L : List ByteArray) (w : World) (h : TxL w v L) (hf : Few1 L) (R : Ending → World → Prop)
    (hR : R (.returned (.string (mkBy (lineL L)))) w) :
    Calls Tryz.prog 167 #[v] w R := by
  have HR := Lib.hid hR; clear hR
  obtain ⟨ao, n, cap, rfl, hnl, hc, hh⟩ := h.open
  have HH := Lib.hid hh
  have HN := Lib.hid hnl
  have HF := Lib.hid hf
  have hn6 : n ≤ 6 := by have := hf.1; omega
  clear h hh hf hc hnl
  go_enter Tryz.func167, Tryz.ntmps167
  go_wp2_with fail
  go_loopw [3, 4] (fun ov iv wr => ∃ (k : Nat) (o : ByteArray), iv = .int .i64 (k : Int) ∧ ov = .string o ∧ k ≤ n ∧ byL o = lineL (L.take k) ∧ wr = w) (fun _ iv _ => n - (intOf iv).toNat)
  case atStart => exact ⟨0, ⟨#[]⟩, rfl, rfl, Nat.zero_le _, rfl, rfl⟩
  case round =>
    obtain ⟨k, o, rfl, rfl, hkn, ho, rfl⟩ := hrel
    have HO := Lib.hid ho
    clear ho
    by_cases hk : k < n
    · obtain ⟨s, hsk⟩ : ∃ s, L[k]? = some s := ⟨L[k]'(by rw [← HN.out]; exact hk), by simp⟩
      obtain ⟨b, off, rfl, _, hck⟩ := TxL.at HH.out k s hsk
      have hos : o.size ≤ 738 := by
        rw [size_by, HO.out]
        exact lineL_len (few1_take HF.out k)
      have hss : s.size ≤ 122 := HF.out.2 s (List.mem_of_getElem? hsk)
      have HST := Lib.hid (line_step hsk)
      clear hsk
      by_cases h0 : k = 0
      · subst h0
        have ho0 : o = ⟨#[]⟩ := by
          have := HO.out
          rw [show lineL (L.take 0) = [] from rfl] at this
          rw [← mkT_by o, this]; rfl
        subst ho0
        clear hkn
        rw [Nat.add_zero] at hck
        go_wp2
        go_roundw
        case rel => exact ⟨1, _, by first | rfl | go_num, rfl, by omega, by have := HST.out; simpa [byL] using this.symm, by first | rfl | trivial⟩
        case measure => simp [intOf]; omega
      · have hk0 : (0 : Int) < (k : Int) := by omega
        have HNX : Hid (byL (o ++ (⟨#[44]⟩ ++ s)) = lineL (L.take (k + 1))) := Lib.hid (by rw [HST.out, if_neg h0, ← HO.out]; simp [byL])
        go_wp2
        go_roundw
        case rel => exact ⟨k + 1, _, by first | rfl | go_num, rfl, by omega, by have := HNX.out; simpa [byL] using this, by first | rfl | trivial⟩
        case measure => simp [intOf]; omega
    · obtain rfl : k = n := by omega
      have HFI : Hid (o = mkBy (lineL L)) := Lib.hid (by
        have h1 := HO.out
        rw [List.take_of_length_le (by rw [← HN.out]; exact Nat.le_refl _)] at h1
        rw [← h1]; rfl)
      clear hkn
      go_wp2
      first | go_ret | skip
      rw [HFI.out]
      exact HR.out

def TxtRel (L : World) (S E : List ByteArray) (M : List (List (List ByteArray))) (ov iv : Value) (wr : World) : Prop :=
  ∃ (k : Nat) (o : ByteArray), iv = .int .i64 (k : Int) ∧ ov = .string o ∧ k ≤ M.length ∧ byL o = autL S E (M.take k) ∧ wr = L
def Tx2Rel (L : World) (T : List UInt8) (LL : List (List ByteArray)) (ov iv : Value) (wr : World) : Prop :=
  ∃ (k : Nat) (o : ByteArray), iv = .int .i64 (k : Int) ∧ ov = .string o ∧ k ≤ LL.length ∧ byL o = T ++ rowsL (LL.take k) ∧ wr = L

set_option maxRecDepth 100000 in
set_option maxHeartbeats 8000000 in
theorem l06text_any (b : Nat) (v1 v2 v3 : Value) (S E : List ByteArray) (M : List (List (List ByteArray))) (w : World) (hbx : Box3 w b v1 v2 v3 57) (h : IsAut w (.agg #[v1, v2, v3]) S E M) (hf : FewA S E M) (R : Ending → World → Prop)
    (hR : ∀ w', Below w.heap.size w w' → R (.returned (.string (autT S E M))) w') :
    Calls Tryz.prog 106 #[.pointer (some ⟨b, 0, none⟩)] w R := by
  have HR := Lib.hid hR; clear hR
  have HF := Lib.hid hf; clear hf
  obtain ⟨a1, n, c1, a2, n2, c2, a3, n3, c3, e0, u1, u2, u3, k1, k2, k3⟩ := h.parts
  simp at e0
  obtain ⟨rfl, rfl, rfl⟩ := e0
  have HN := Lib.hid u3
  have K1 := Lib.hid k1
  have K2 := Lib.hid k2
  have K3 := Lib.hid k3
  have HBX := Lib.hid hbx
  obtain ⟨S1, hS1⟩ : ∃ S1, S1 = mkBy (lineL S) := ⟨_, rfl⟩
  obtain ⟨S2, hS2⟩ : ∃ S2, S2 = mkBy (lineL E) := ⟨_, rfl⟩
  have hz1 : S1.size ≤ 738 := by rw [hS1, size_by, byL_mk]; exact lineL_len HF.out.1
  have hz2 : S2.size ≤ 738 := by rw [hS2, size_by, byL_mk]; exact lineL_len HF.out.2.1
  have hz3 : ¬ (9223372036854775807 < S1.size + 1) := by omega
  have hz4 : ¬ (9223372036854775807 < S1.size + 1 + S2.size) := by omega
  have HS1 := Lib.hid hS1
  have HS2 := Lib.hid hS2
  obtain ⟨T0, hT0⟩ : ∃ T0, T0 = S1 ++ ⟨#[59]⟩ ++ S2 := ⟨_, rfl⟩
  have HT0 := Lib.hid hT0
  have HT : Hid (byL T0 = autL S E (M.take 0)) := Lib.hid (by rw [aut_start, hT0, hS1, hS2]; simp [byL, mkBy])
  have hbs : b < w.heap.size := lt_of_block hbx
  obtain ⟨⟨hA0, hA1, hA2⟩, _, _, _⟩ := hbx.cells
  obtain ⟨L, hL⟩ : ∃ L, L = w.drew := ⟨_, rfl⟩
  have HL := Lib.hid hL
  have HBL : Hid (Below w.heap.size w L) := Lib.hid (by rw [hL]; exact (Below.refl _ _).drew)
  clear hbx h k1 k2 k3 u1 u2 u3 hS1 hS2 hT0 hL
  go_enter Tryz.func106, Tryz.ntmps106
  go_wp2_with fail
  go_region_law (first
      | (have hguard := tok1; go_simp; go_at_call 167; refine l06line_any _ E _ (K2.out.later (by first | exact Below.refl _ _ | exact (Below.refl _ _).drew) (Nat.le_refl _)) HF.out.2.1 _ ?_; rw [← HS2.out]; have tok2 : Hid True := Lib.hid trivial; clear hguard; dsimp only)
      | (go_simp; go_at_call 167; refine l06line_any _ S _ (K1.out.later (by first | exact Below.refl _ _ | exact (Below.refl _ _).drew) (Nat.le_refl _)) HF.out.1 _ ?_; rw [← HS1.out]; have tok1 : Hid True := Lib.hid trivial; dsimp only))
  all_goals
    go_wp2_with fail
    clear tok1 tok2
    rw [← HL.out]
    have HAC : Hid (L.cell? ⟨b, 2, none⟩ = some (.slice a3 n3 c3)) := Lib.hid (by rw [HBL.out.cell (p := ⟨b, 2, none⟩) hbs]; exact hA2)
    have HTS : Hid (S1 ++ (⟨#[59]⟩ ++ S2) = T0) := Lib.hid (by rw [HT0.out, ByteArray.append_assoc])
    clear hA0 hA1 hA2 hz1 hz2 hz3 hz4 hbs
    have hA2 := HAC.out
    have HST : Hid (TxtRel L S E M (.string T0) (.int .i64 0) L) := Lib.hid ⟨0, T0, rfl, rfl, Nat.zero_le _, HT.out, rfl⟩
    try rw [← HT0.out]
    try rw [HTS.out]
    go_loopw [3, 4] (fun ov iv wr => TxtRel L S E M ov iv wr) (fun _ iv _ => n3 - (intOf iv).toNat)
    case atStart => exact HST.out
    case round =>
    clear HST
    obtain ⟨k, o, rfl, rfl, hk, ho, hw⟩ := hrel
    have HO := Lib.hid ho
    rw [hw]
    clear ho hw
    have hos : o.size ≤ 22175 := by rw [size_by, HO.out]; exact autL_len HF.out k
    by_cases hkn : k = n3
    · subst hkn
      have hkk : ¬ ((k : Int) < (k : Int)) := by omega
      have HFI : Hid (o = autT S E M) := Lib.hid (by
        have h1 := HO.out
        rw [HN.out, List.take_length] at h1
        unfold autT
        rw [← h1]; rfl)
      clear hk
      go_wp2
      first | go_ret | skip
      rw [HFI.out]
      exact HR.out _ HBL.out
    have hkl : k < n3 := by have := HN.out; omega
    obtain ⟨LL, hLL⟩ : ∃ LL, M[k]? = some LL := ⟨_, List.getElem?_eq_getElem (by have := HN.out; omega)⟩
    have HFW := Lib.hid (HF.out.2.2.2 LL (List.mem_of_getElem? hLL))
    have HK3 := Lib.hid (stay_D (stay_D stay_T) _ _ _ _ K3.out HBL.out)
    obtain ⟨b3, o3, q, m, c, rfl, hb5, hcell, hP⟩ := HK3.out.at k LL hLL
    have HPP := Lib.hid hP
    obtain ⟨_, m', _, e5, e6, _⟩ := hP.open
    simp only [Value.slice.injEq] at e5
    obtain ⟨rfl, rfl, rfl⟩ := e5
    have HML := Lib.hid e6
    have HNT := Lib.hid (aut_step (S := S) (E := E) hLL)
    have hk1 : (k : Int) < (n3 : Int) := by omega
    have hk0 : (0 : Int) ≤ (k : Int) := by omega
    have hw1 : IntKind.i64.wrap ((k : Int) + 1) = ((k + 1 : Nat) : Int) := by rw [IntWalk.i64_in _ (by have := HF.out.2.2.1; have := HN.out; omega)]; omega
    have HKL := Lib.hid hkl
    have HST2 : Hid (Tx2Rel L (byL o ++ [59]) LL (.string (o ++ ⟨#[59]⟩)) (.int .i64 0) L) := Lib.hid ⟨0, _, rfl, rfl, Nat.zero_le _, by simp [byL, rowsL, Lib.join_nil], rfl⟩
    clear hk hkn hLL hP e6 hkl hb5
    go_wp2
    go_loopw [3, 5] (fun ov iv wr2 => Tx2Rel L (byL o ++ [59]) LL ov iv wr2) (fun _ iv _ => m - (intOf iv).toNat)
    case atStart => exact HST2.out
    case round =>
    clear HST2
    obtain ⟨i, u, rfl, rfl, hi, hu, hw2⟩ := hrel
    have HU := Lib.hid hu
    rw [hw2]
    clear hu hw2
    have hus : u.size ≤ 26610 := by
      rw [size_by, HU.out, List.length_append, List.length_append, ← size_by]
      have := rowsL_len (few2_take HFW.out i)
      simp only [List.length_cons, List.length_nil]
      omega
    by_cases him : i = m
    · subst him
      have hii : ¬ ((i : Int) < (i : Int)) := by omega
      have HREL : Hid (TxtRel L S E M (.string u) (.int .i64 ((k + 1 : Nat) : Int)) L) := Lib.hid ⟨k + 1, u, rfl, rfl, by have := HN.out; have := HKL.out; omega, by
        rw [HNT.out, HU.out, HML.out, List.take_length, HO.out]; simp, rfl⟩
      clear hi
      go_wp2
      go_roundw
      case rel => exact HREL.out
      case measure => simp [intOf]; have := HKL.out; omega
    have hil : i < m := by have := HML.out; omega
    obtain ⟨Lr, hLr⟩ : ∃ Lr, LL[i]? = some Lr := ⟨_, List.getElem?_eq_getElem (by have := HML.out; omega)⟩
    have HFR := Lib.hid (HFW.out.2 Lr (List.mem_of_getElem? hLr))
    obtain ⟨b4, o4, q4, m4, c4, rfl, hb6, hcell4, hT⟩ := HPP.out.at i Lr hLr
    have HTX := Lib.hid hT
    have HSTP := Lib.hid (rows_step hLr)
    have hi1 : (i : Int) < (m : Int) := by omega
    have hi0 : (0 : Int) ≤ (i : Int) := by omega
    have hw2 : IntKind.i64.wrap ((i : Int) + 1) = ((i + 1 : Nat) : Int) := by rw [IntWalk.i64_in _ (by have := HFW.out.1; have := HML.out; omega)]; omega
    have HIL := Lib.hid hil
    obtain ⟨X, hX⟩ : ∃ X, X = mkBy (lineL Lr) := ⟨_, rfl⟩
    have hXs : X.size ≤ 738 := by rw [hX, size_by, byL_mk]; exact lineL_len HFR.out
    have HX := Lib.hid hX
    clear hi him hLr hT hb6 hil hX
    by_cases h0 : i = 0
    · have hi2 : ¬ ((0 : Int) < (i : Int)) := by omega
      have HREL : Hid (Tx2Rel L (byL o ++ [59]) LL (.string (u ++ X)) (.int .i64 ((i + 1 : Nat) : Int)) L) := Lib.hid ⟨i + 1, _, rfl, rfl, by have := HIL.out; have := HML.out; omega, by
        have h1 := HU.out
        rw [h0, show rowsL (LL.take 0) = [] from rfl, List.append_nil] at h1
        rw [HSTP.out, if_pos h0, ← h1, HX.out]; simp [byL, mkBy], rfl⟩
      clear h0
      go_wp2_with fail
      refine l06line_any _ Lr L HTX.out HFR.out _ ?_
      rw [← HX.out]
      dsimp only
      go_wp2
      go_roundw
      case rel => exact HREL.out
      case measure => simp [intOf]; have := HIL.out; omega
    · have hi2 : (0 : Int) < (i : Int) := by omega
      have HREL : Hid (Tx2Rel L (byL o ++ [59]) LL (.string (u ++ (⟨#[124]⟩ ++ X))) (.int .i64 ((i + 1 : Nat) : Int)) L) := Lib.hid ⟨i + 1, _, rfl, rfl, by have := HIL.out; have := HML.out; omega, by
        rw [HSTP.out, if_neg h0, HX.out]
        have h1 := HU.out
        simp only [byL, mkBy] at h1 ⊢
        simp [h1], rfl⟩
      clear h0
      go_wp2_with fail
      refine l06line_any _ Lr L HTX.out HFR.out _ ?_
      rw [← HX.out]
      dsimp only
      go_wp2
      go_roundw
      case rel => first | exact HREL.out | (have := HREL.out; rw [← ByteArray.append_assoc] at this; exact this)
      case measure => simp [intOf]; have := HIL.out; omega
end Go.Proofs.YtdkjcdfkoahfkaaGreatDoor

namespace Go.Proofs.YtdkjcdfkoahfkaaGreatDoor
open Go Go.RowKit

set_option maxRecDepth 100000 in
set_option maxHeartbeats 2000000 in
theorem spec_atext (v : Value) (S E : List ByteArray) (M : List (List (List ByteArray))) (w : World) (h : IsAut w v S E M) (hs : SizeA S E M) (R : Ending → World → Prop)
    (hR : ∀ w', Below w.heap.size w w' → R (.returned (.tuple #[.string (autX S E M), .bool (autB S E M)])) w') :
    Calls Tryz.prog 48 #[v] w R := by
  have HR := Lib.hid hR; clear hR
  obtain ⟨a1, n1, c1, a2, n2, c2, a3, n3, c3, rfl, u1, u2, u3, _, _, _⟩ := h.parts
  obtain ⟨L, hL⟩ : ∃ L, L = w.alloc (.cells #[.slice a1 n1 c1, .slice a2 n2 c2, .slice a3 n3 c3] 57) := ⟨_, rfl⟩
  have HBL : Hid (Below w.heap.size w L) := Lib.hid (by rw [hL]; exact (Below.refl _ _).alloc (Nat.le_refl _) _)
  have HBX : Hid (Box3 L w.heap.size (.slice a1 n1 c1) (.slice a2 n2 c2) (.slice a3 n3 c3) 57) := Lib.hid (by rw [hL]; exact Box3.made _ _ _ _ _)
  have HL := Lib.hid hL
  have HA := Lib.hid (h.later HBL.out)
  have HSZ := Lib.hid hs
  clear h u1 u2 u3 hL hs
  go_enter Tryz.func48, Tryz.ntmps48
  go_wp2_with fail
  rw [← HL.out]
  refine l06is_any _ _ _ _ S E M L HBX.out HA.out HSZ.out _ ?_
  intro w2 hb2
  have HB2 := Lib.hid (HBL.out.trans (hb2.mono HBL.out.size))
  cases hx : autB S E M with
  | false =>
    have HF := Lib.hid (HR.out w2 HB2.out)
    rw [hx, show autX S E M = ⟨#[]⟩ by unfold autX; rw [hx]; rfl] at HF
    clear hx hb2
    dsimp only
    go_wp2
    first | go_ret | skip
    exact HF.out
  | true =>
    have HFW := Lib.hid (fewA hx)
    obtain ⟨T, hT⟩ : ∃ T, T = autT S E M := ⟨_, rfl⟩
    have HT := Lib.hid hT
    have HF := Lib.hid (fun w' hb => HR.out w' hb)
    rw [hx, show autX S E M = T by unfold autX; rw [if_pos hx, hT]] at HF
    have HBX2 := Lib.hid (HBX.out.later hb2 (lt_of_block HBX.out))
    have HA2 := Lib.hid (HA.out.later hb2)
    clear hx hb2 hT
    dsimp only
    go_wp2_with fail
    refine l06text_any _ _ _ _ S E M w2 HBX2.out HA2.out HFW.out _ ?_
    intro w3 hb3
    rw [← HT.out]
    have HB3 := Lib.hid (HB2.out.trans (hb3.mono HB2.out.size))
    clear hb3
    dsimp only
    go_wp2
    first | go_ret | skip
    exact HF.out _ HB3.out

theorem joinX_any (sep : UInt8) (v : Value) (L : List ByteArray) (w : World) (h : TxL w v L) (hn : L.length ≤ 60) (hlen : (Lib.join (L.map byL) [sep]).length ≤ 100000) (R : Ending → World → Prop)
    (hR : ∀ w', Below w.heap.size w w' → R (.returned (.string (mkBy (Lib.join (L.map byL) [sep])))) w') :
    Calls Tryz.prog 85 #[v, .string ⟨#[sep]⟩] w R := by
  obtain ⟨ao, n, cap, rfl, hnl, hc, hh⟩ := h.open
  by_cases h0 : n = 0
  · subst h0
    have hL : L = [] := List.eq_nil_of_length_eq_zero hnl.symm
    subst hL
    refine (Tryz.strings_Join_none ao cap ⟨#[sep]⟩ w).mono ?_
    rintro e w' ⟨rfl, rfl⟩
    exact hR _ (Below.refl _ _)
  · subst hnl
    obtain ⟨b, off, rfl, hb, _⟩ := TxL.at hh 0 (L[0]'(by omega)) (by simp)
    have hat : ∀ j x, L[j]? = some x → w.cell? ⟨b, off + j, none⟩ = some (.string x) := by
      intro j x hj
      obtain ⟨b', off', e', _, hck⟩ := TxL.at hh j x hj
      simp only [Option.some.injEq, Addr.mk.injEq, and_true] at e'
      obtain ⟨rfl, rfl⟩ := e'
      exact hck
    refine (Tryz.strings_Join b off cap L ⟨#[sep]⟩ w hat hb (by omega) hc (by have h2 := hlen; unfold byL at h2; rw [show (⟨#[sep]⟩ : ByteArray).data.toList = [sep] from rfl]; omega)).mono ?_
    rintro e w' ⟨rfl, hbl⟩
    exact hR _ hbl

theorem by_lines (LL : List (List ByteArray)) : (LL.map fun L => mkBy (lineL L)).map byL = LL.map lineL := by
  rw [List.map_map]; rfl
theorem by_rows (M : List (List (List ByteArray))) : (M.map fun LL => mkBy (rowsL LL)).map byL = M.map rowsL := by
  rw [List.map_map]; rfl
/-- the parts of an automaton's text -/
def partsA (S E : List ByteArray) (M : List (List (List ByteArray))) : List ByteArray := mkBy (lineL S) :: mkBy (lineL E) :: M.map fun LL => mkBy (rowsL LL)
theorem parts_join (S E : List ByteArray) (M : List (List (List ByteArray))) : Lib.join ((partsA S E M).map byL) [59] = autL S E M := by
  unfold partsA autL
  rw [List.map_cons, List.map_cons, by_rows]; rfl
theorem ownT_two (e : TypeId) (w : World) (B : Nat) (a b : ByteArray) (hB : B ≤ w.heap.size) : OwE 1 ET e (w.alloc (.cells #[.string a, .string b] e)) B (.slice (some ⟨w.heap.size, 0, none⟩) 2 2) [a, b] := by
  refine .inr ⟨w.heap.size, 2, #[.string a, .string b], rfl, hB, ?_, by simp, by simp only [maxLen]; omega, rfl, by simp [notInt], fun i x hi => ?_⟩
  · show (Array.push _ _)[_]? = _
    rw [Array.getElem?_push, if_pos rfl]
  · match i, hi with
    | 0, hi => simp at hi; subst hi; rfl
    | 1, hi => simp at hi; subst hi; rfl

def AtxRel (L : World) (S E : List ByteArray) (M : List (List (List ByteArray))) (v i : Value) (wr : World) : Prop :=
  ∃ k : Nat, i = .int .i64 (k : Int) ∧ k ≤ M.length ∧ OwE 1 ET 9 wr L.heap.size v (partsA S E (M.take k)) ∧ Below L.heap.size L wr
def At2Rel (W : World) (LL : List (List ByteArray)) (v i : Value) (wr : World) : Prop :=
  ∃ k : Nat, i = .int .i64 (k : Int) ∧ k ≤ LL.length ∧ OwE 1 ET 9 wr W.heap.size v ((LL.take k).map fun L => mkBy (lineL L)) ∧ Below W.heap.size W wr

set_option maxRecDepth 100000 in
set_option maxHeartbeats 8000000 in
theorem impl_atext (v : Value) (S E : List ByteArray) (M : List (List (List ByteArray))) (w : World) (hE : Env w) (h : IsAut w v S E M) (hs : SizeA S E M) (R : Ending → World → Prop)
    (hR : ∀ w', Below w.heap.size w w' → R (.returned (.tuple #[.string (autX S E M), .bool (autB S E M)])) w') :
    Calls Tryz.prog 49 #[v] w R := by
  have HR := Lib.hid hR; clear hR
  obtain ⟨a1, n1, c1, a2, n2, c2, a3, n3, c3, rfl, u1, u2, u3, k1, k2, k3⟩ := h.parts
  obtain ⟨L, hL⟩ : ∃ L, L = w.alloc (.cells #[.slice a1 n1 c1, .slice a2 n2 c2, .slice a3 n3 c3] 57) := ⟨_, rfl⟩
  have HBL : Hid (Below w.heap.size w L) := Lib.hid (by rw [hL]; exact (Below.refl _ _).alloc (Nat.le_refl _) _)
  have HBX : Hid (Box3 L w.heap.size (.slice a1 n1 c1) (.slice a2 n2 c2) (.slice a3 n3 c3) 57) := Lib.hid (by rw [hL]; exact Box3.made _ _ _ _ _)
  have HL := Lib.hid hL
  have HA := Lib.hid (h.later HBL.out)
  have HE := Lib.hid (hE.later HBL.out (Nat.le_refl _))
  have HSZ := Lib.hid hs
  have HN := Lib.hid u3
  have K1 := Lib.hid (k1.later HBL.out (Nat.le_refl _))
  have K2 := Lib.hid (k2.later HBL.out (Nat.le_refl _))
  have K3 := Lib.hid (stay_D (stay_D stay_T) _ _ _ _ k3 HBL.out)
  obtain ⟨⟨hA0, hA1, hA2⟩, _, _, _⟩ := HBX.out.cells
  rw [hL] at hA0 hA1 hA2
  clear h u1 u2 u3 k1 k2 k3 hL hs hE
  go_enter Tryz.func49, Tryz.ntmps49
  go_wp2_with fail
  rw [← HL.out]
  refine impl_vaut _ S E M L HE.out HA.out HSZ.out _ ?_
  intro w1 hb1
  have HB1 := Lib.hid hb1
  clear hA0 hA1 hA2
  cases hx : autB S E M with
  | false =>
    have HF := Lib.hid (HR.out w1 (HBL.out.trans (HB1.out.mono HBL.out.size)))
    rw [hx, show autX S E M = ⟨#[]⟩ by unfold autX; rw [hx]; rfl] at HF
    clear hx hb1
    dsimp only
    go_wp2
    first | go_ret | skip
    exact HF.out
  | true =>
  have HFW := Lib.hid (fewA hx)
  obtain ⟨T, hT⟩ : ∃ T, T = autT S E M := ⟨_, rfl⟩
  have HT := Lib.hid hT
  have HF := Lib.hid (fun w' hb => HR.out w' hb)
  rw [hx, show autX S E M = T by unfold autX; rw [if_pos hx, hT]] at HF
  have HBX1 := Lib.hid (HBX.out.later hb1 (lt_of_block HBX.out))
  have HK1 := Lib.hid (K1.out.later hb1 (Nat.le_refl _))
  have HK2 := Lib.hid (K2.out.later hb1 (Nat.le_refl _))
  have HSOF : Hid (∀ w', Below w1.heap.size w1 w' → (Below w1.heap.size w1 w' ∧ w'.cell? ⟨w.heap.size, 0, none⟩ = some (.slice a1 n1 c1) ∧ w'.cell? ⟨w.heap.size, 1, none⟩ = some (.slice a2 n2 c2) ∧ w'.cell? ⟨w.heap.size, 2, none⟩ = some (.slice a3 n3 c3))) :=
    Lib.hid fun w' hb => ⟨hb, (HBX1.out.later hb (lt_of_block HBX1.out)).cells.1⟩
  obtain ⟨S1, hS1⟩ : ∃ S1, S1 = mkBy (lineL S) := ⟨_, rfl⟩
  obtain ⟨S2, hS2⟩ : ∃ S2, S2 = mkBy (lineL E) := ⟨_, rfl⟩
  have HS1 : Hid (mkBy (Lib.join (S.map byL) [44]) = S1) := Lib.hid hS1.symm
  have HS2 : Hid (mkBy (Lib.join (E.map byL) [44]) = S2) := Lib.hid hS2.symm
  have HPA : Hid (partsA S E (M.take 0) = [S1, S2]) := Lib.hid (by rw [hS1, hS2]; rfl)
  clear hx hb1 hT hS1 hS2
  obtain ⟨⟨hA0, hA1, hA2⟩, _, _, _⟩ := HBX1.out.cells
  dsimp only
  go_wp2_with fail
  (go_region_held3 (fun w' => Below w1.heap.size w1 w' ∧ w'.cell? ⟨w.heap.size, 0, none⟩ = some (.slice a1 n1 c1) ∧ w'.cell? ⟨w.heap.size, 1, none⟩ = some (.slice a2 n2 c2) ∧ w'.cell? ⟨w.heap.size, 2, none⟩ = some (.slice a3 n3 c3))
      (first
        | exact HSOF.out _ (HQ2.out.alloc HQ2.out.size _)
        | exact HSOF.out _ HQ2.out
        | exact HSOF.out _ HQ1.out
        | exact HSOF.out _ (Below.refl _ _).drew)
      (first
        | (have hguard := HQ1; go_at_call 85; refine joinX_any 44 _ E _ (HK2.out.later HQ1.out (Nat.le_refl _)) (by have := HFW.out.2.1.1; omega) (by have := lineL_len HFW.out.2.1; unfold lineL at this; omega) _ ?_; intro w7 hb7; rw [HS2.out]; have HQ2 : Hid (Below w1.heap.size w1 w7) := Lib.hid (HQ1.out.trans (hb7.mono HQ1.out.size)); clear hguard hb7; dsimp only)
        | (go_at_call 85; refine joinX_any 44 _ S _ (HK1.out.later (Below.refl _ _).drew (Nat.le_refl _)) (by have := HFW.out.1.1; omega) (by have := lineL_len HFW.out.1; unfold lineL at this; omega) _ ?_; intro w6 hb6; rw [HS1.out]; have HQ1 : Hid (Below w1.heap.size w1 w6) := Lib.hid ⟨hb6.os, hb6.tape, hb6.output, hb6.size, hb6.block⟩; clear hb6; dsimp only)))
  all_goals
    clear HSOF HQ1 hA0 hA1 hA2
    obtain ⟨V, hV⟩ : ∃ V, V = w7.alloc (.cells #[.string S1, .string S2] 9) := ⟨_, rfl⟩
    have HV := Lib.hid hV
    have hb7V : Below w1.heap.size w1 V := by rw [hV]; exact HQ2.out.alloc HQ2.out.size _
    have HBV := Lib.hid (HB1.out.trans (hb7V.mono HB1.out.size))
    have HBXV := Lib.hid (HBX1.out.later hb7V (lt_of_block HBX1.out))
    have HOV : Hid (OwE 1 ET 9 V L.heap.size (.slice (some ⟨w7.heap.size, 0, none⟩) 2 2) (partsA S E (M.take 0))) := Lib.hid (by
      rw [HPA.out, hV]
      exact ownT_two _ _ _ _ _ (Nat.le_trans HB1.out.size HQ2.out.size))
    obtain ⟨⟨hA0, hA1, hA2⟩, _, _, _⟩ := HBXV.out.cells
    rw [← hV]
    clear hV hb7V
    have HST : Hid (AtxRel L S E M (.slice (some ⟨w7.heap.size, 0, none⟩) 2 2) (.int .i64 0) V) := Lib.hid ⟨0, rfl, Nat.zero_le _, HOV.out, HBV.out⟩
    go_wp2
    clear hA0 hA1 hA2
    go_loopw [4, 23] (fun v i wr => AtxRel L S E M v i wr) (fun _ i _ => n3 - (intOf i).toNat)
    case atStart => exact HST.out
    case round =>
    clear HST
    obtain ⟨k, rfl, hk, hown, hbel⟩ := hrel
    have HB := Lib.hid hbel
    have HOW := Lib.hid hown
    obtain ⟨pa, pn, pc, rfl, hpn⟩ := hown.shape
    clear hown hpn
    by_cases hkn : k = n3
    · subst hkn
      have hkk : ¬ ((k : Int) < (k : Int)) := by omega
      have hM : M.take k = M := by rw [HN.out, List.take_length]
      rw [hM] at HOW
      have hJ : mkBy (Lib.join ((partsA S E M).map byL) [59]) = T := by rw [parts_join, HT.out]; rfl
      have HJ := Lib.hid hJ
      have HLJ : Hid ((Lib.join ((partsA S E M).map byL) [59]).length ≤ 100000) := Lib.hid (by
        rw [parts_join]; have := autL_len HFW.out M.length; rw [List.take_length] at this; omega)
      have HLP : Hid ((partsA S E M).length ≤ 60) := Lib.hid (by unfold partsA; rw [List.length_cons, List.length_cons, List.length_map]; have := HFW.out.2.2.1; omega)
      clear hbel hk hM hJ
      go_wp2_with fail
      refine joinX_any 59 _ (partsA S E M) _ HOW.out.tx HLP.out HLJ.out _ ?_
      intro w9 hb9
      rw [HJ.out]
      have HFI := Lib.hid (HF.out w9 (HBL.out.trans ((HB.out.trans (hb9.mono HB.out.size)).mono HBL.out.size)))
      clear hb9
      dsimp only
      go_wp2
      first | go_ret | skip
      exact HFI.out
    have hkl : k < n3 := by have := HN.out; omega
    obtain ⟨LL, hLL⟩ : ∃ LL, M[k]? = some LL := ⟨_, List.getElem?_eq_getElem (by have := HN.out; omega)⟩
    have HFM := Lib.hid (HFW.out.2.2.2 LL (List.mem_of_getElem? hLL))
    have HK3 := Lib.hid (stay_D (stay_D stay_T) _ _ _ _ K3.out HB.out)
    obtain ⟨b3, o3, q, m, c, rfl, hb5, hcell, hP⟩ := HK3.out.at k LL hLL
    have HPP := Lib.hid hP
    obtain ⟨_, m', _, e5, e6, e7⟩ := hP.open
    simp only [Value.slice.injEq] at e5
    obtain ⟨rfl, rfl, rfl⟩ := e5
    have HML := Lib.hid e6
    have HNT : Hid (partsA S E (M.take (k + 1)) = partsA S E (M.take k) ++ [mkBy (rowsL LL)]) := Lib.hid (by unfold partsA; rw [List.take_add_one, hLL]; simp)
    have HPL : Hid ((partsA S E (M.take k)).length ≤ 100000000) := Lib.hid (by unfold partsA; rw [List.length_cons, List.length_cons, List.length_map, List.length_take]; have := HFW.out.2.2.1; omega)
    have hk1 : (k : Int) < (n3 : Int) := by omega
    have hk0 : (0 : Int) ≤ (k : Int) := by omega
    have hw1 : IntKind.i64.wrap ((k : Int) + 1) = ((k + 1 : Nat) : Int) := by rw [IntWalk.i64_in _ (by have := HFW.out.2.2.1; have := HN.out; omega)]; omega
    have HKL := Lib.hid hkl
    have HST2 : Hid (At2Rel wr LL (.slice (some ⟨wr.heap.size, 0, none⟩) 0 0) (.int .i64 0) (wr.alloc (.cells #[] 9))) := Lib.hid ⟨0, rfl, Nat.zero_le _, OwE.lit _ _ _ (Nat.le_refl _), (Below.refl _ _).alloc (Nat.le_refl _) _⟩
    clear hk hkn hLL hP e6 e7 hkl hb5 hbel
    obtain ⟨wo, hwo⟩ : ∃ wo, wo = wr := ⟨_, rfl⟩
    subst hwo
    go_wp2
    clear hcell
    go_loopw [7, 30] (fun v i wr2 => At2Rel wo LL v i wr2) (fun _ i _ => m - (intOf i).toNat)
    case atStart => exact HST2.out
    case round =>
    clear HST2
    obtain ⟨i, rfl, hi, hown, hbel⟩ := hrel
    have HBI := Lib.hid hbel
    have HRO := Lib.hid hown
    obtain ⟨ra, rn, rc, rfl, hrn⟩ := hown.shape
    clear hown hrn
    by_cases him : i = m
    · subst him
      have hii : ¬ ((i : Int) < (i : Int)) := by omega
      have hM : LL.take i = LL := by rw [HML.out, List.take_length]
      rw [hM] at HRO
      have HJ : Hid (mkBy (Lib.join ((LL.map fun L => mkBy (lineL L)).map byL) [124]) = mkBy (rowsL LL)) := Lib.hid (by rw [by_lines]; rfl)
      have HLJ : Hid ((Lib.join ((LL.map fun L => mkBy (lineL L)).map byL) [124]).length ≤ 100000) := Lib.hid (by
        rw [by_lines]; have := rowsL_len HFM.out; unfold rowsL at this; omega)
      have HLP : Hid ((LL.map fun L => mkBy (lineL L)).length ≤ 60) := Lib.hid (by rw [List.length_map]; have := HFM.out.1; omega)
      clear hbel hi hM
      go_wp2_with fail
      refine joinX_any 124 _ (LL.map fun L => mkBy (lineL L)) _ HRO.out.tx HLP.out HLJ.out _ ?_
      intro w9 hb9
      rw [HJ.out]
      obtain ⟨X, hX⟩ : ∃ X, X = mkBy (rowsL LL) := ⟨_, rfl⟩
      rw [← hX] at HNT ⊢
      have HB9 := Lib.hid (HBI.out.trans (hb9.mono HBI.out.size))
      have HPW := Lib.hid (HOW.out.later elemT HB9.out (Nat.le_refl _))
      have HSZ9 : Hid (L.heap.size ≤ w9.heap.size) := Lib.hid (Nat.le_trans HB.out.size HB9.out.size)
      clear hb9 hX
      dsimp only
      go_wp2_with (at_builtin; go_must (refine wpList_pushE elemT (by omega) rfl (.tmp 40) (.tmp 43) 38 rfl 9 16 (.string ByteArray.empty) Tryz.underlying38 info_str rfl (by intro u hu; simp [Value.cells] at hu; subst hu; rfl) (by omega) L.heap.size _ (HPW.out.alloc elemT _) HPL.out (by have := HSZ9.out; simp; omega) w9.heap.size [.string X] X rfl rfl (cells_alloc _ #[.string X] _ _ rfl) ?_))
      intro a4 n4 c4 w4 hown4 hn4 hgr hb4
      have HREL : Hid (AtxRel L S E M (.slice a4 n4 c4) (.int .i64 ((k + 1 : Nat) : Int)) w4) := Lib.hid ⟨k + 1, rfl, by have := HN.out; have := HKL.out; omega, by rw [HNT.out]; exact hown4, ((HB.out.trans (HB9.out.mono HB.out.size)).alloc HSZ9.out _).trans hb4⟩
      clear hown4 hn4 hgr hb4
      go_wp2
      go_roundw
      case rel => exact HREL.out
      case measure => simp [intOf]; have := HKL.out; omega
    have hil : i < m := by have := HML.out; omega
    obtain ⟨Lr, hLr⟩ : ∃ Lr, LL[i]? = some Lr := ⟨_, List.getElem?_eq_getElem (by have := HML.out; omega)⟩
    have HFR := Lib.hid (HFM.out.2 Lr (List.mem_of_getElem? hLr))
    have HPI := Lib.hid (stay_D stay_T _ _ _ _ HPP.out hbel)
    obtain ⟨b4, o4, q4, m4, c4, rfl, hb6, hcell4, hT⟩ := HPI.out.at i Lr hLr
    have HTX := Lib.hid hT
    have HTK : Hid ((LL.take (i + 1)).map (fun L => mkBy (lineL L)) = (LL.take i).map (fun L => mkBy (lineL L)) ++ [mkBy (lineL Lr)]) := Lib.hid (by rw [List.take_add_one, hLr]; simp)
    have HPL2 : Hid (((LL.take i).map (fun L => mkBy (lineL L))).length ≤ 100000000) := Lib.hid (by rw [List.length_map, List.length_take]; have := HFM.out.1; omega)
    have hi1 : (i : Int) < (m : Int) := by omega
    have hi0 : (0 : Int) ≤ (i : Int) := by omega
    have hw2 : IntKind.i64.wrap ((i : Int) + 1) = ((i + 1 : Nat) : Int) := by rw [IntWalk.i64_in _ (by have := HFM.out.1; have := HML.out; omega)]; omega
    have HIL := Lib.hid hil
    clear hi him hLr hT hb6 hil hbel
    go_wp2_with fail
    refine joinX_any 44 _ Lr _ HTX.out (by have := HFR.out.1; omega) (by have := lineL_len HFR.out; unfold lineL at this; omega) _ ?_
    intro w9 hb9
    obtain ⟨X, hX⟩ : ∃ X, X = mkBy (lineL Lr) := ⟨_, rfl⟩
    rw [show mkBy (Lib.join (Lr.map byL) [44]) = X from hX.symm]
    rw [← hX] at HTK
    have HB9 := Lib.hid (HBI.out.trans (hb9.mono HBI.out.size))
    have HPW := Lib.hid (HRO.out.later elemT hb9 (Nat.le_refl _))
    clear hb9 hX hcell4
    dsimp only
    go_wp2_with (at_builtin; go_must (refine wpList_pushE elemT (by omega) rfl (.tmp 34) (.tmp 37) 38 rfl 9 16 (.string ByteArray.empty) Tryz.underlying38 info_str rfl (by intro u hu; simp [Value.cells] at hu; subst hu; rfl) (by omega) wo.heap.size _ (HPW.out.alloc elemT _) HPL2.out (by have := HB9.out.size; simp; omega) w9.heap.size [.string X] X rfl rfl (cells_alloc _ #[.string X] _ _ rfl) ?_))
    intro a4 n4 c4 w4 hown4 hn4 hgr hb4
    have HREL : Hid (At2Rel wo LL (.slice a4 n4 c4) (.int .i64 ((i + 1 : Nat) : Int)) w4) := Lib.hid ⟨i + 1, rfl, by have := HML.out; have := HIL.out; omega, by rw [HTK.out, List.map_take]; exact hown4, (HB9.out.alloc HB9.out.size _).trans hb4⟩
    clear hown4 hn4 hgr hb4
    go_wp2
    go_roundw
    case rel => exact HREL.out
    case measure => simp [intOf]; have := HIL.out; omega
end Go.Proofs.YtdkjcdfkoahfkaaGreatDoor

namespace Go.Proofs.YtdkjcdfkoahfkaaGreatDoor
open Go Go.RowKit

set_option maxRecDepth 100000 in
set_option maxHeartbeats 8000000 in
theorem law_automatonText (v : Value) (S E : List ByteArray) (M : List (List (List ByteArray))) (w : World) (hE : Env w) (h : IsAut w v S E M) (hf : FineA S E M) (R : Ending → World → Prop)
    (hR : ∀ w', Below w.heap.size w w' → R (.returned (.bool true)) w') :
    Calls Tryz.prog 8 #[v] w R := by
  have HR := Lib.hid hR; clear hR
  have HE := Lib.hid hE; clear hE
  have HFI := Lib.hid hf; clear hf
  obtain ⟨a1, n1, c1, a2, n2, c2, a3, n3, c3, rfl, u1, u2, u3, _, _, _⟩ := h.parts
  obtain ⟨L, hL⟩ : ∃ L, L = w.alloc (.cells #[.slice a1 n1 c1, .slice a2 n2 c2, .slice a3 n3 c3] 54) := ⟨_, rfl⟩
  have HBL : Hid (Below w.heap.size w L) := Lib.hid (by rw [hL]; exact (Below.refl _ _).alloc (Nat.le_refl _) _)
  have HBX : Hid (Box3 L w.heap.size (.slice a1 n1 c1) (.slice a2 n2 c2) (.slice a3 n3 c3) 54) := Lib.hid (by rw [hL]; exact Box3.made _ _ _ _ _)
  have HL := Lib.hid hL
  have HV := Lib.hid (h.later HBL.out)
  obtain ⟨⟨hA0, hA1, hA2⟩, _, _, _⟩ := HBX.out.cells
  clear h u1 u2 u3 hL
  go_enter Tryz.func8, Tryz.ntmps8
  rw [HL.out] at hA0 hA1 hA2
  go_wp2_with fail
  rw [← HL.out]
  refine szA_any _ S E M L 1048576 HV.out HFI.out (by omega) _ ?_ ?_
  · intro w1 hb1 ht
    have HSZ := Lib.hid (sizeA ht)
    obtain ⟨m, hm⟩ : ∃ m : Nat, m = 1048576 - totA S E M := ⟨_, rfl⟩
    rw [← hm]
    have hm0 : ¬ ((m : Int) < 0) := by omega
    have HB1 : Hid (Below L.heap.size L w1) := Lib.hid hb1
    have HX1 := Lib.hid (HBX.out.later hb1 (lt_of_block HBX.out))
    clear hm ht hb1 hA0 hA1 hA2
    obtain ⟨⟨hA0, hA1, hA2⟩, _, _, _⟩ := HX1.out.cells
    dsimp only
    go_wp2_with fail
    refine toA_own _ S E M w1 (HV.out.later HB1.out) HSZ.out _ ?_
    intro v2 w2 hv2 hb2
    have HV2 := Lib.hid hv2.rd
    obtain ⟨x1, m1, y1, x2, m2, y2, x3, m3, y3, rfl, q1, q2, q3, q4, q5, q6⟩ := hv2.rd.parts
    have HB2 := Lib.hid (HB1.out.trans (hb2.mono HB1.out.size))
    have HX2 := Lib.hid (HX1.out.later hb2 (lt_of_block HX1.out))
    clear hv2 q1 q2 q3 q4 q5 q6 hb2 hA0 hA1 hA2
    dsimp only
    go_wp2_with fail
    refine spec_atext _ S E M w2 HV2.out HSZ.out _ ?_
    intro w3 hb3
    obtain ⟨x, hx⟩ : ∃ x, x = autB S E M := ⟨_, rfl⟩
    have HX := Lib.hid hx
    obtain ⟨T, hT⟩ : ∃ T, T = autX S E M := ⟨_, rfl⟩
    have HT := Lib.hid hT
    rw [← hx, ← hT]
    have HB3 := Lib.hid (HB2.out.trans (hb3.mono HB2.out.size))
    have HX3 := Lib.hid (HX2.out.later hb3 (lt_of_block HX2.out))
    clear hx hb3 hT
    obtain ⟨⟨hA0, hA1, hA2⟩, _, _, _⟩ := HX3.out.cells
    dsimp only
    go_wp2_with fail
    refine toA_own _ S E M w3 (HV.out.later HB3.out) HSZ.out _ ?_
    intro v4 w4 hv4' hb4
    have hv4 := hv4'.rd
    obtain ⟨x4, m4, y4, x5, m5, y5, x6, m6, y6, rfl, q1, q2, q3, q4, q5, q6⟩ := hv4.parts
    obtain ⟨W, hW⟩ : ∃ W, W = w4.alloc (.cells #[.slice x4 m4 y4, .slice x5 m5 y5, .slice x6 m6 y6] 57) := ⟨_, rfl⟩
    have hbW : Below w4.heap.size w4 W := by rw [hW]; exact (Below.refl _ _).alloc (Nat.le_refl _) _
    have B4 : Hid (Box3 W w4.heap.size (.slice x4 m4 y4) (.slice x5 m5 y5) (.slice x6 m6 y6) 57) := Lib.hid (by rw [hW]; exact Box3.made _ _ _ _ _)
    have HV4 := Lib.hid (hv4.later hbW)
    have hb4W : Below w3.heap.size w3 W := hb4.trans (hbW.mono hb4.size)
    have HB4 := Lib.hid (HB3.out.trans (hb4W.mono HB3.out.size))
    have HX4 := Lib.hid (HX3.out.later hb4W (lt_of_block HX3.out))
    have HW := Lib.hid hW
    obtain ⟨⟨hC0, hC1, hC2⟩, _, _, _⟩ := B4.out.cells
    clear hv4 hv4' q1 q2 q3 q4 q5 q6 hb4 hbW hb4W hW hA0 hA1 hA2
    rw [HW.out] at hC0 hC1 hC2
    dsimp only
    go_wp2_with fail
    rw [← HW.out]
    refine impl_atext _ S E M W (HE.out.later (HBL.out.trans (HB4.out.mono HBL.out.size)) (Nat.le_refl _)) HV4.out HSZ.out _ ?_
    intro w5 hb5
    rw [← HX.out, ← HT.out]
    have HB5 := Lib.hid (HB4.out.trans (hb5.mono HB4.out.size))
    have HX5 := Lib.hid (HX4.out.later hb5 (lt_of_block HX4.out))
    have B5 := Lib.hid (B4.out.later hb5 (lt_of_block B4.out))
    have HV5 := Lib.hid (HV4.out.later hb5)
    have hxx : (x != x) = false := by cases x <;> rfl
    have HSOF : Hid (∀ w', Below w5.heap.size w5 w' → (Below w5.heap.size w5 w' ∧ (w'.cell? ⟨w.heap.size, 0, none⟩ = some (.slice a1 n1 c1) ∧ w'.cell? ⟨w.heap.size, 1, none⟩ = some (.slice a2 n2 c2) ∧ w'.cell? ⟨w.heap.size, 2, none⟩ = some (.slice a3 n3 c3)) ∧ (w'.cell? ⟨w4.heap.size, 0, none⟩ = some (.slice x4 m4 y4) ∧ w'.cell? ⟨w4.heap.size, 1, none⟩ = some (.slice x5 m5 y5) ∧ w'.cell? ⟨w4.heap.size, 2, none⟩ = some (.slice x6 m6 y6)))) :=
      Lib.hid fun w' hb => ⟨hb, (HX5.out.later hb (lt_of_block HX5.out)).cells.1, (B5.out.later hb (lt_of_block B5.out)).cells.1⟩
    have HVL := Lib.hid (HV.out.later HB5.out)
    clear hb5 hC0 hC1 hC2
    dsimp only
    go_wp2_with fail
    first
      | (go_region_held3 (fun w' => Below w5.heap.size w5 w' ∧ (w'.cell? ⟨w.heap.size, 0, none⟩ = some (.slice a1 n1 c1) ∧ w'.cell? ⟨w.heap.size, 1, none⟩ = some (.slice a2 n2 c2) ∧ w'.cell? ⟨w.heap.size, 2, none⟩ = some (.slice a3 n3 c3)) ∧ (w'.cell? ⟨w4.heap.size, 0, none⟩ = some (.slice x4 m4 y4) ∧ w'.cell? ⟨w4.heap.size, 1, none⟩ = some (.slice x5 m5 y5) ∧ w'.cell? ⟨w4.heap.size, 2, none⟩ = some (.slice x6 m6 y6)))
          (first
            | exact HSOF.out _ HQ2.out
            | exact HSOF.out _ HQ1.out
            | exact HSOF.out _ (Below.refl _ _).drew)
          (first
            | (go_at_call 47; refine eqA_any _ _ S E M _ (HV5.out.later HQ1.out) HV6.out HSZ.out _ ?_; intro w7 hb7; have HQ2 : Hid (Below w5.heap.size w5 w7) := Lib.hid (HQ1.out.trans (hb7.mono HQ1.out.size)); clear hb7; dsimp only)
            | (go_at_call 45; refine toA_own _ S E M _ (HVL.out.later (Below.refl _ _).drew) HSZ.out _ ?_; intro v6 w6 hv6' hb6; have HV6 := Lib.hid hv6'.rd; have HQ1 : Hid (Below w5.heap.size w5 w6) := Lib.hid ⟨hb6.os, hb6.tape, hb6.output, hb6.size, hb6.block⟩; clear hv6' hb6; dsimp only)))
      | fail
    all_goals
      go_wp2
      first | go_ret | skip
      exact HR.out _ (HBL.out.trans ((HB5.out.trans (HQ2.out.mono HB5.out.size)).mono HBL.out.size))
  · intro w1 hb1 _
    have HF := Lib.hid (HR.out w1 (HBL.out.trans (hb1.mono HBL.out.size)))
    clear hb1 hA0 hA1 hA2
    dsimp only
    go_wp2
    first | go_ret | skip
    exact HF.out
end Go.Proofs.YtdkjcdfkoahfkaaGreatDoor
