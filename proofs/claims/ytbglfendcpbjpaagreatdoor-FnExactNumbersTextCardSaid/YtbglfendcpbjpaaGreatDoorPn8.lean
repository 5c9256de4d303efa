/- Contracts of functions of the program and of the model: NumsB, LawNText. -/
import Derived.Test.YtbglfendcpbjpaaGreatDoorPg7
import Derived.Lib.Join
set_option linter.all false
set_option linter.unusedVariables false
set_option linter.unusedSimpArgs false
set_option linter.unnecessarySimpa false
set_option linter.deprecated false
namespace Go.Proofs.YtbglfendcpbjpaaGreatDoor
open Go Go.RowKit

theorem sizes_each {L : List ByteArray} (h : tot L ≤ 1048576) : L.length ≤ 1048576 ∧ ∀ s ∈ L, s.size ≤ 1048576 := by
  unfold tot at h
  exact ⟨by omega, fun s hs => by have := size_le_sizes hs; omega⟩

/-- whether texts are numbers, and not too many -/
noncomputable def numsB (L : List ByteArray) : Bool := decide (L.length ≤ 60) && L.all isNum

set_option maxRecDepth 100000 in
set_option maxHeartbeats 1000000 in
theorem impl_isNumbers (v : Value) (L : List ByteArray) (w : World) (hE : Env w) (h : TxL w v L) (hn : L.length ≤ 1048576) (R : Ending → World → Prop)
    (hR : ∀ w', Below w.heap.size w w' → R (.returned (.bool (numsB L))) w') :
    Calls Tryz.prog 71 #[v] w R := by
  have HR := Lib.hid hR; clear hR
  have HE := Lib.hid hE; clear hE
  obtain ⟨ao, n, cap, rfl, hh⟩ := h.op
  have HH := Lib.hid hh
  have HN := Lib.hid hn
  clear h hh hn
  go_enter Tryz.func71, Tryz.ntmps71
  go_wp2_with fail
  refine readrs_any _ L _ HE.out HH.out HN.out _ ?_ ?_
  · intro v' w1 h1 h2 hv hb1
    have ht : numsB L = true := by unfold numsB; rw [decide_eq_true h1, h2]; rfl
    rw [ht] at HR
    obtain ⟨a9, n9, c9, rfl, _⟩ := SlE.op hv
    have HB := Lib.hid hb1
    clear hb1 ht h1 h2 hv
    dsimp only
    go_wp2
    first | go_ret | skip
    exact HR.out _ HB.out
  · intro e w1 hf he hb1
    have ht : numsB L = false := hf
    rw [ht] at HR
    obtain ⟨t, p, rfl⟩ := he
    have HB := Lib.hid hb1
    clear hb1 ht hf
    dsimp only
    go_wp2
    first | go_ret | skip
    exact HR.out _ HB.out

end Go.Proofs.YtbglfendcpbjpaaGreatDoor

namespace Go.Proofs.YtbglfendcpbjpaaGreatDoor
open Go Go.RowKit

/-- a list of texts with commas between -/
def textL (L : List ByteArray) : ByteArray := if L = [] then ⟨#[110, 111, 110, 101]⟩ else ⟨(Lib.join (L.map (·.data.toList)) [44]).toArray⟩
/-- what is returned -/
noncomputable def ntS (L : List ByteArray) : ByteArray := if numsB L = true then textL L else ⟨#[]⟩

theorem take_one {L : List ByteArray} {x : ByteArray} (h : L[0]? = some x) : L.take 1 = [x] := by
  cases L with
  | nil => cases h
  | cons y l => simp at h; subst h; rfl

theorem join_snoc (X : List (List UInt8)) (y sep : List UInt8) (h : X ≠ []) : Lib.join (X ++ [y]) sep = Lib.join X sep ++ (sep ++ y) := by
  cases X with
  | nil => exact absurd rfl h
  | cons x r => rw [List.cons_append, Lib.join_cons, Lib.join_cons]; simp [Lib.joinTail]

theorem lens_le (L : List ByteArray) (h : ∀ s ∈ L, s.size ≤ 122) : Lib.lens (L.map (·.data.toList)) ≤ 122 * L.length := by
  induction L with
  | nil => simp [Lib.lens]
  | cons x l ih =>
    have h1 := ih (fun s hs => h s (by simp [hs]))
    have h2 : x.size ≤ 122 := h x (by simp)
    have e : x.data.toList.length = x.size := size_list x
    simp only [Lib.lens, List.map_cons, List.sum_cons, List.length_cons] at *
    omega

theorem join_len (L : List ByteArray) (h : ∀ s ∈ L, s.size ≤ 122) : (Lib.join (L.map (·.data.toList)) [44]).length ≤ 123 * L.length := by
  have h1 := lens_le L h
  cases L with
  | nil => simp [Lib.join_nil]
  | cons x l =>
    rw [List.map_cons, Lib.join_length]
    rw [List.map_cons] at h1
    simp only [List.length_cons, List.length_nil, List.length_map] at *
    omega

theorem nums_size {L : List ByteArray} (h : numsB L = true) : L.length ≤ 60 ∧ ∀ s ∈ L, s.size ≤ 122 := by
  unfold numsB at h
  rw [Bool.and_eq_true, decide_eq_true_iff, List.all_eq_true] at h
  exact ⟨h.1, fun s hs => numO_size (isNum_some (h.2 s hs))⟩

set_option maxRecDepth 100000 in
set_option maxHeartbeats 1000000 in
theorem joinS_any (v : Value) (L : List ByteArray) (w : World) (h : TxL w v L) (hn : L.length ≤ 60) (hs : ∀ s ∈ L, s.size ≤ 122) (R : Ending → World → Prop)
    (hR : R (.returned (.string (textL L))) w) :
    Calls Tryz.prog 70 #[v] w R := by
  have HR := Lib.hid hR; clear hR
  obtain ⟨ao, n, cap, rfl, hnl, hc, hh⟩ := h.open
  have HH := Lib.hid hh
  have HN := Lib.hid hnl
  have HS := Lib.hid hs
  have hn60 : n ≤ 60 := by omega
  clear h hh hs
  by_cases h0 : n = 0
  · subst h0
    have hL : L = [] := List.eq_nil_of_length_eq_zero HN.out.symm
    subst hL
    clear hnl hn
    go_enter Tryz.func70, Tryz.ntmps70
    go_wp2
    first | go_ret | skip
    exact HR.out
  · have hne : L ≠ [] := by intro e; rw [e] at hnl; exact h0 hnl
    obtain ⟨x0, hx0⟩ : ∃ x0, L[0]? = some x0 := ⟨L[0]'(by omega), by simp⟩
    obtain ⟨b, off, rfl, _, hc0⟩ := HH.out.at 0 x0 hx0
    rw [Nat.add_zero] at hc0
    have HNE := Lib.hid hne
    have HX0 := Lib.hid hx0
    have hn0 : (0 : Int) < (n : Int) := by omega
    have hne0 : ¬ ((n : Int) = 0) := by omega
    clear hne hx0 hnl hn h0
    go_enter Tryz.func70, Tryz.ntmps70
    go_wp2_with fail
    go_loopw [3, 4] (fun ov iv wr => ∃ (k : Nat) (o : ByteArray), iv = .int .i64 (k : Int) ∧ ov = .string o ∧ 1 ≤ k ∧ k ≤ n ∧ o.data.toList = Lib.join ((L.take k).map (·.data.toList)) [44] ∧ wr = w) (fun _ iv _ => n - (intOf iv).toNat)
    case atStart => exact ⟨1, x0, rfl, rfl, Nat.le_refl _, by omega, by rw [take_one HX0.out, List.map_cons, List.map_nil, Lib.join_one], rfl⟩
    case round =>
      obtain ⟨k, o, rfl, rfl, hk1, hkn, ho, rfl⟩ := hrel
      have HO := Lib.hid ho
      clear ho
      by_cases hk : k < n
      · obtain ⟨s, hsk⟩ : ∃ s, L[k]? = some s := ⟨L[k]'(by rw [← HN.out]; exact hk), by simp⟩
        obtain ⟨b', off', e', _, hck⟩ := HH.out.at k s hsk
        simp only [Option.some.injEq, Addr.mk.injEq, and_true] at e'
        obtain ⟨rfl, rfl⟩ := e'
        have hos : o.size ≤ 10000 := by
          rw [← size_list, HO.out]
          have := join_len (L.take k) (fun s hs => HS.out s (List.mem_of_mem_take hs))
          rw [List.length_take] at this
          omega
        have hss : s.size ≤ 122 := HS.out s (List.mem_of_getElem? hsk)
        have HNX : Hid ((o ++ (⟨#[44]⟩ ++ s) : ByteArray).data.toList = Lib.join ((L.take (k + 1)).map (·.data.toList)) [44]) := Lib.hid (by
          rw [List.take_add_one, hsk, List.map_append, Option.toList_some, List.map_cons, List.map_nil, join_snoc _ _ _ (by
            intro e
            have := congrArg List.length e
            rw [List.length_map, List.length_take, ← HN.out] at this
            simp at this; omega), ← HO.out]
          simp)
        clear hsk hc0
        go_wp2
        go_roundw
        case rel => exact ⟨k + 1, _, by first | rfl | go_num, rfl, by omega, by omega, HNX.out, by first | rfl | trivial⟩
        case measure => simp [intOf]; omega
      · obtain rfl : k = n := by omega
        have HF : Hid (o = textL L) := Lib.hid (by
          have h1 := HO.out
          rw [List.take_of_length_le (by rw [← HN.out]; exact Nat.le_refl _)] at h1
          unfold textL
          rw [if_neg HNE.out, ← h1])
        clear hc0
        go_wp2
        first | go_ret | skip
        rw [HF.out]
        exact HR.out

set_option maxRecDepth 100000 in
set_option maxHeartbeats 1000000 in
theorem spec_numbersText (v : Value) (L : List ByteArray) (w : World) (h : TxL w v L) (hn : L.length ≤ 1048576) (hs : ∀ s ∈ L, s.size ≤ 1048576) (R : Ending → World → Prop)
    (hR : ∀ w', Below w.heap.size w w' → R (.returned (.tuple #[.string (ntS L), .bool (numsB L)])) w') :
    Calls Tryz.prog 34 #[v] w R := by
  have HR := Lib.hid hR; clear hR
  obtain ⟨ao, n, cap, rfl, hh⟩ := h.op
  have HH := Lib.hid hh
  have HS := Lib.hid hs
  have HN := Lib.hid hn
  clear h hh hs hn
  go_enter Tryz.func34, Tryz.ntmps34
  go_wp2_with fail
  refine isList_any _ L _ HH.out HN.out HS.out _ ?_
  intro w1 hb1
  have hx' : (decide (L.length ≤ 60) && L.all isNum) = numsB L := rfl
  rw [hx']
  have HB := Lib.hid hb1
  clear hb1 hx'
  cases hx : numsB L with
  | true =>
    have HX := Lib.hid (nums_size hx)
    rw [hx, show ntS L = textL L by unfold ntS; rw [if_pos hx]] at HR
    clear hx
    dsimp only
    go_wp2_with fail
    refine joinS_any _ L _ (HH.out.later HB.out (Nat.le_refl _)) HX.out.1 HX.out.2 _ ?_
    obtain ⟨T, hT⟩ : ∃ T, T = textL L := ⟨_, rfl⟩
    rw [← hT] at HR ⊢
    clear hT
    dsimp only
    go_wp2
    first | go_ret | skip
    exact HR.out _ HB.out
  | false =>
    rw [hx, show ntS L = ⟨#[]⟩ by unfold ntS; rw [hx]; rfl] at HR
    clear hx
    dsimp only
    go_wp2
    first | go_ret | skip
    exact HR.out _ HB.out

set_option maxRecDepth 100000 in
theorem joinI_any (b off n cap : Nat) (L : List ByteArray) (w : World) (h : TxL w (.slice (some ⟨b, off, none⟩) n cap) L) (hnl : n = L.length) (h0 : 0 < n) (hc : n ≤ cap) (hn : L.length ≤ 60) (hs : ∀ s ∈ L, s.size ≤ 122) (R : Ending → World → Prop)
    (hR : ∀ w', Below w.heap.size w w' → R (.returned (.string (textL L))) w') :
    Calls Tryz.prog 72 #[.slice (some ⟨b, off, none⟩) n cap, .string ⟨#[44]⟩] w R := by
  subst hnl
  have hat : ∀ j x, L[j]? = some x → b < w.heap.size ∧ w.cell? ⟨b, off + j, none⟩ = some (.string x) := by
    intro j x hj
    obtain ⟨b', off', e', h2, hck⟩ := h.at j x hj
    simp only [Option.some.injEq, Addr.mk.injEq, and_true] at e'
    obtain ⟨rfl, rfl⟩ := e'
    exact ⟨h2, hck⟩
  have hb : b < w.heap.size := (hat 0 (L[0]'h0) (by simp)).1
  refine (Tryz.strings_Join b off cap L ⟨#[44]⟩ w (fun j x hj => (hat j x hj).2) hb (by omega) hc (by have := join_len L hs; rw [show (⟨#[44]⟩ : ByteArray).data.toList = [44] from rfl]; omega)).mono ?_
  rintro e w' ⟨rfl, hbl⟩
  have := hR w' hbl
  unfold textL at this
  rw [if_neg (by intro e; rw [e] at h0; simp at h0)] at this
  exact this

set_option maxRecDepth 100000 in
set_option maxHeartbeats 1000000 in
theorem impl_numbersText (v : Value) (L : List ByteArray) (w : World) (hE : Env w) (h : TxL w v L) (hn : L.length ≤ 1048576) (R : Ending → World → Prop)
    (hR : ∀ w', Below w.heap.size w w' → R (.returned (.tuple #[.string (ntS L), .bool (numsB L)])) w') :
    Calls Tryz.prog 35 #[v] w R := by
  have HR := Lib.hid hR; clear hR
  have HE := Lib.hid hE; clear hE
  obtain ⟨ao, n, cap, rfl, hnl, hcc, hh⟩ := h.open
  have HH := Lib.hid hh
  have HN := Lib.hid hn
  have HNL := Lib.hid hnl
  have HCC := Lib.hid hcc
  clear h hh hn hnl hcc
  go_enter Tryz.func35, Tryz.ntmps35
  go_wp2_with fail
  refine impl_isNumbers _ L _ HE.out HH.out HN.out _ ?_
  intro w1 hb1
  have HB := Lib.hid hb1
  clear hb1
  cases hx : numsB L with
  | true =>
    have HX := Lib.hid (nums_size hx)
    rw [hx, show ntS L = textL L by unfold ntS; rw [if_pos hx]] at HR
    clear hx
    by_cases h0 : n = 0
    · have e0 : ((n : Int) == 0) = true := by simp [h0]
      have hL : textL L = ⟨#[110, 111, 110, 101]⟩ := by
        have : L = [] := List.eq_nil_of_length_eq_zero (by rw [← HNL.out]; exact h0)
        unfold textL; rw [if_pos this]
      rw [hL] at HR
      clear hL h0
      dsimp only
      go_wp2
      first | go_ret | skip
      exact HR.out _ HB.out
    · have e0 : ((n : Int) == 0) = false := by simp; omega
      have HH1 := Lib.hid (HH.out.later HB.out (Nat.le_refl _))
      obtain ⟨b, off, rfl⟩ : ∃ b off, ao = some ⟨b, off, none⟩ := by
        obtain ⟨b, off, e, _, _⟩ := HH1.out.at 0 (L[0]'(by rw [← HNL.out]; omega)) (by simp)
        exact ⟨b, off, e⟩
      have H0 : Hid (0 < n) := Lib.hid (by omega)
      clear h0
      dsimp only
      go_wp2_with fail
      refine joinI_any b off n cap L _ HH1.out HNL.out H0.out HCC.out HX.out.1 HX.out.2 _ ?_
      intro w2 hb2
      have HB2 := Lib.hid (HB.out.trans (hb2.mono HB.out.size))
      obtain ⟨T, hT⟩ : ∃ T, T = textL L := ⟨_, rfl⟩
      rw [← hT] at HR ⊢
      clear hT hb2
      dsimp only
      go_wp2
      first | go_ret | skip
      exact HR.out _ HB2.out
  | false =>
    rw [hx, show ntS L = ⟨#[]⟩ by unfold ntS; rw [hx]; rfl] at HR
    clear hx
    dsimp only
    go_wp2
    first | go_ret | skip
    exact HR.out _ HB.out

set_option maxRecDepth 100000 in
set_option maxHeartbeats 1000000 in
theorem law_numbersText (v : Value) (L : List ByteArray) (w : World) (hE : Env w) (h : TxL w v L) (hn : L.length ≤ maxLen) (hs : ∀ s ∈ L, s.size ≤ maxLen) (R : Ending → World → Prop)
    (hR : ∀ w', Below w.heap.size w w' → R (.returned (.bool true)) w') :
    Calls Tryz.prog 12 #[v] w R := by
  have HR := Lib.hid hR; clear hR
  have HE := Lib.hid hE; clear hE
  obtain ⟨ao, n, cap, rfl, hh⟩ := h.op
  have HH := Lib.hid hh
  have HN := Lib.hid hn
  have HS := Lib.hid hs
  clear h hh hn hs
  go_enter Tryz.func12, Tryz.ntmps12
  go_wp2_with fail
  refine szT_any _ L _ 1048576 HH.out HN.out HS.out (by omega) _ ?_ ?_
  · intro ht
    obtain ⟨h1, h2⟩ := sizes_each ht
    have H1 := Lib.hid h1
    have H2 := Lib.hid h2
    have H9 := Lib.hid (show L.length ≤ 281474976710656 by omega)
    obtain ⟨m, hm⟩ : ∃ m : Nat, m = 1048576 - tot L := ⟨_, rfl⟩
    rw [← hm]
    have hm0 : ¬ ((m : Int) < 0) := by omega
    clear hm ht h1 h2
    dsimp only
    go_wp2_with fail
    refine toT_any _ L _ HH.out H1.out _ ?_
    intro v1 w1 hv1 hb1
    obtain ⟨a1, n1, c1, rfl, hv1'⟩ := hv1.op
    have HV1 := Lib.hid hv1'
    have HB1 := Lib.hid hb1
    clear hb1 hv1 hv1'
    dsimp only
    go_wp2_with fail
    refine spec_numbersText _ L _ HV1.out H1.out H2.out _ ?_
    intro w2 hb2
    obtain ⟨x, hx⟩ : ∃ x, x = numsB L := ⟨_, rfl⟩
    obtain ⟨S, hS⟩ : ∃ S, S = ntS L := ⟨_, rfl⟩
    have HX := Lib.hid hx
    have HSS := Lib.hid hS
    rw [← hx, ← hS]
    have HB2 := Lib.hid (HB1.out.trans (hb2.mono HB1.out.size))
    clear hb2 hx hS
    dsimp only
    go_wp2_with fail
    refine toT_any _ L _ (HH.out.later HB2.out (Nat.le_refl _)) H1.out _ ?_
    intro v3 w3 hv3 hb3
    obtain ⟨a3, n3, c3, rfl, hv3'⟩ := hv3.op
    have HV3 := Lib.hid hv3'
    have HB3 := Lib.hid (HB2.out.trans (hb3.mono HB2.out.size))
    clear hb3 hv3 hv3'
    dsimp only
    go_wp2_with fail
    refine impl_numbersText _ L _ (HE.out.later HB3.out (Nat.le_refl _)) HV3.out H1.out _ ?_
    intro w4 hb4
    have HV4 := Lib.hid (HV3.out.later hb4 (Nat.le_refl _))
    have HB4 := Lib.hid (HB3.out.trans (hb4.mono HB3.out.size))
    rw [← HX.out, ← HSS.out]
    clear hb4
    have hxx : (x != x) = false := by cases x <;> rfl
    dsimp only
    go_wp2_with fail
    refine toT_any _ L _ (HH.out.later HB4.out (Nat.le_refl _)) H1.out _ ?_
    intro v5 w5 hv5 hb5
    obtain ⟨a5, n5, c5, rfl, hv5'⟩ := hv5.op
    have HV5 := Lib.hid hv5'
    have HV4b := Lib.hid (HV4.out.later hb5 (Nat.le_refl _))
    have HB5 := Lib.hid (HB4.out.trans (hb5.mono HB4.out.size))
    clear hb5 hv5 hv5'
    dsimp only
    go_wp2_with fail
    refine eqT_any _ _ L L _ HV4b.out HV5.out H9.out H9.out _ ?_
    intro w6 hb6
    rw [decide_eq_true rfl]
    have HB6 := Lib.hid (HB5.out.trans (hb6.mono HB5.out.size))
    clear hb6
    dsimp only
    go_wp2
    first | go_ret | skip
    exact HR.out _ HB6.out
  · intro _
    dsimp only
    go_wp2
    first | go_ret | skip
    exact HR.out _ (Below.refl _ _)
end Go.Proofs.YtbglfendcpbjpaaGreatDoor
