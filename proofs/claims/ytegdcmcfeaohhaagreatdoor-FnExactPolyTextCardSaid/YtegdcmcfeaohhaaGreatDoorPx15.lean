/- Contracts of functions of the program and of the model: LawPolyV, TermT, WriteT, PolyTI, L2Dig, L2Text, LawPolyText. -/
import Derived.Test.YtegdcmcfeaohhaaGreatDoorPk9
set_option linter.all false
set_option linter.unusedVariables false
set_option linter.unusedSimpArgs false
set_option linter.unnecessarySimpa false
set_option linter.deprecated false
namespace Go.Proofs.YtegdcmcfeaohhaaGreatDoor
open Go Go.RowKit

set_option maxRecDepth 100000 in
set_option maxHeartbeats 1000000 in
theorem impl_validPoly (v : Value) (L : List ByteArray) (w : World) (hE : Env w) (h : TxL w v L) (hn : L.length ≤ 1048576) (R : Ending → World → Prop)
    (hR : ∀ w', Below w.heap.size w w' → R (.returned (.bool (polyB L))) w') :
    Calls Tryz.prog 70 #[v] w R := by
  have HR := Lib.hid hR; clear hR
  have HE := Lib.hid hE; clear hE
  obtain ⟨ao, n, cap, rfl, hh⟩ := h.op
  have HH := Lib.hid hh
  have HN := Lib.hid hn
  clear h hh hn
  go_enter Tryz.func70, Tryz.ntmps70
  go_wp2_with fail
  refine readc_any _ L _ HE.out HH.out HN.out _ ?_ ?_
  · intro v' w1 ht hv hb1
    rw [ht] at HR
    obtain ⟨a9, n9, c9, rfl, hv9⟩ := SlE.op hv
    have HB := Lib.hid hb1
    clear hb1 ht hv hv9
    dsimp only
    go_wp2
    first | go_ret | skip
    exact HR.out _ HB.out
  · intro e w1 ht he hb1
    rw [ht] at HR
    obtain ⟨t, p, rfl⟩ := he
    have HB := Lib.hid hb1
    clear hb1 ht
    dsimp only
    go_wp2
    first | go_ret | skip
    exact HR.out _ HB.out

end Go.Proofs.YtegdcmcfeaohhaaGreatDoor

namespace Go.Proofs.YtegdcmcfeaohhaaGreatDoor
open Go Go.RowKit

def tSign (acc s : List UInt8) : List UInt8 := if Lib.hasPrefix s [45] = true then [45] else if acc.length = 0 then [] else [43]
def tNum (s : List UInt8) : List UInt8 := Lib.trimPrefix s [45]
def tMid (s : List UInt8) (i : Nat) : List UInt8 := if tNum s ≠ [49] ∨ i = 0 then tNum s else []
def tEnd (i : Nat) : List UInt8 := if i = 0 then [] else if i = 1 then [120] else [120, 94] ++ Lib.decDigits i
/-- a term is written -/
def tStep (acc s : List UInt8) (i : Nat) : List UInt8 := acc ++ tSign acc s ++ tMid s i ++ tEnd i
/-- the first terms of a polynomial -/
def polySt (L : List ByteArray) : Nat → List UInt8
  | 0 => []
  | k + 1 => if ((L[L.length - 1 - k]?).getD ByteArray.empty).data.toList = [48] then polySt L k else tStep (polySt L k) ((L[L.length - 1 - k]?).getD ByteArray.empty).data.toList (L.length - 1 - k)
theorem polySt_zero {L : List ByteArray} {k : Nat} {s : ByteArray} (h : L[L.length - 1 - k]? = some s) (h0 : s.data.toList = [48]) : polySt L (k + 1) = polySt L k := by
  rw [polySt, h]; exact if_pos h0
theorem polySt_step {L : List ByteArray} {k : Nat} {s : ByteArray} (h : L[L.length - 1 - k]? = some s) (h0 : s.data.toList ≠ [48]) : polySt L (k + 1) = tStep (polySt L k) s.data.toList (L.length - 1 - k) := by
  rw [polySt, h]; exact if_neg h0
/-- the text of a polynomial -/
def polyTx (L : List ByteArray) : List UInt8 := if L.length = 0 then [48] else polySt L L.length
theorem textQ_pos (q : Rat) : 1 ≤ (textQ q).length := by
  have h1 := decs_pos q.num.natAbs
  unfold textQ
  split <;> (try split) <;> simp [List.length_append] <;> omega
theorem isNum_pos {s : ByteArray} (h : isNum s = true) : 1 ≤ s.data.toList.length := by
  rw [(numO_some.1 (isNum_some h)).1]; exact textQ_pos _
theorem decDigits_le (i : Nat) (h : i < 100) : (Lib.decDigits i).length ≤ 2 := by
  unfold Lib.decDigits
  split
  · simp
  · rw [List.length_append]
    unfold Lib.decDigits
    rw [dif_pos (by omega)]
    simp
theorem tNum_le (s : List UInt8) : (tNum s).length ≤ s.length := by
  unfold tNum Lib.trimPrefix
  split
  · rw [List.length_drop]; omega
  · exact Nat.le_refl _
theorem tSign_le (acc s : List UInt8) : (tSign acc s).length ≤ 1 := by unfold tSign; split <;> (try split) <;> simp
theorem tMid_le (s : List UInt8) (i : Nat) : (tMid s i).length ≤ s.length := by
  unfold tMid
  split
  · exact tNum_le s
  · simp
theorem tEnd_le (i : Nat) (h : i < 100) : (tEnd i).length ≤ 4 := by
  unfold tEnd
  have := decDigits_le i h
  split
  · simp
  · split
    · simp
    · simp; omega
theorem tStep_le (acc s : List UInt8) (i : Nat) (h : i < 100) : (tStep acc s i).length ≤ acc.length + s.length + 5 := by
  unfold tStep
  have h1 := tSign_le acc s
  have h2 := tMid_le s i
  have h3 := tEnd_le i h
  simp only [List.length_append]; omega
theorem tStep_pos {acc s : List UInt8} (i : Nat) (hs : 1 ≤ s.length) : 1 ≤ (tStep acc s i).length := by
  unfold tStep
  simp only [List.length_append]
  by_cases hp : Lib.hasPrefix s [45] = true
  · have : (tSign acc s).length = 1 := by unfold tSign; rw [if_pos hp]; rfl
    omega
  · have hn : tNum s = s := by unfold tNum Lib.trimPrefix; rw [if_neg hp]
    by_cases hi : i = 0
    · have : tMid s i = s := by unfold tMid; rw [if_pos (.inr hi), hn]
      rw [this]; omega
    · have : 1 ≤ (tEnd i).length := by
        unfold tEnd; rw [if_neg hi]; split <;> simp
      omega
theorem tStep_acc (acc s : List UInt8) (i : Nat) : acc.length ≤ (tStep acc s i).length := by
  unfold tStep; simp only [List.length_append]; omega
theorem polySt_le {L : List ByteArray} (hL : L.length ≤ 13) (hs : ∀ s ∈ L, s.data.toList.length ≤ 130) : ∀ k, k ≤ L.length → (polySt L k).length ≤ 200 * k
  | 0, _ => by simp [polySt]
  | k + 1, hk => by
    have ih := polySt_le hL hs k (by omega)
    obtain ⟨s, h⟩ : ∃ s, L[L.length - 1 - k]? = some s := ⟨_, List.getElem?_eq_getElem (by omega)⟩
    by_cases h0 : s.data.toList = [48]
    · rw [polySt_zero h h0]; omega
    · rw [polySt_step h h0]
      have h1 := tStep_le (polySt L k) s.data.toList (L.length - 1 - k) (by omega)
      have h2 := hs s (List.mem_of_getElem? h)
      omega
theorem polySt_pos {L : List ByteArray} (hp : polyB L = true) : ∀ k, 1 ≤ k → k ≤ L.length → 1 ≤ (polySt L k).length
  | 0, h, _ => by omega
  | k + 1, _, hk => by
    have hall := (polyB_nums hp).2
    obtain ⟨s, h⟩ : ∃ s, L[L.length - 1 - k]? = some s := ⟨_, List.getElem?_eq_getElem (by omega)⟩
    have hspos := isNum_pos (List.all_eq_true.1 hall s (List.mem_of_getElem? h))
    by_cases h0 : s.data.toList = [48]
    · rw [polySt_zero h h0]
      rcases Nat.eq_zero_or_pos k with hk0 | hk0
      · subst hk0
        have h9 := hp
        unfold polyB at h9
        rw [Bool.and_eq_true, Bool.and_eq_true] at h9
        exact absurd h0 (of_decide_eq_true h9.2.2 s (by rw [List.getLast?_eq_getElem?]; exact h))
      · exact polySt_pos hp k hk0 (by omega)
    · rw [polySt_step h h0]; exact tStep_pos _ hspos
theorem isNum_le {s : ByteArray} (h : isNum s = true) : s.data.toList.length ≤ 130 := by
  obtain ⟨h1, h2⟩ := numO_some.1 (isNum_some h)
  rw [h1]
  obtain ⟨k1, k2⟩ := h2
  unfold textQ
  split <;> (try split) <;> simp [List.length_append] <;> omega
end Go.Proofs.YtegdcmcfeaohhaaGreatDoor

namespace Go.Proofs.YtegdcmcfeaohhaaGreatDoor
open Go Go.RowKit

theorem cutpT_any (s : ByteArray) (w : World) (R : Ending → World → Prop)
    (hR : R (.returned (.tuple #[.string ⟨(tNum s.data.toList).toArray⟩, .bool (Lib.hasPrefix s.data.toList [45])])) w) :
    Calls Tryz.prog 109 #[.string s, .string ⟨#[45]⟩] w R := by
  refine (Tryz.strings_CutPrefix s ⟨#[45]⟩ w).mono ?_
  rintro e w' ⟨rfl, rfl⟩
  exact hR
theorem itoas_any (i : Nat) (hi : i < 100) (w : World) (R : Ending → World → Prop)
    (hR : R (.returned (.string ⟨(Lib.decDigits i).toArray⟩)) w) :
    Calls Tryz.prog 113 #[.int .i64 (i : Int)] w R := by
  refine (Tryz.strconv_Itoa_small i hi w).mono ?_
  rintro e w' ⟨rfl, rfl⟩
  exact hR
theorem blen_any (b : Nat) (T : List UInt8) (w : World) (h : IsB w b T) (R : Ending → World → Prop)
    (hR : R (.returned (.int .i64 (T.length : Int))) w) :
    Calls Tryz.prog 111 #[.pointer (some ⟨b, 0, none⟩)] w R := by
  refine (Tryz.Builder_Len b b (Lib.byteCells T) w h).mono ?_
  rintro e w' ⟨rfl, rfl⟩
  rw [byteCells_length]
  exact hR

set_option maxRecDepth 100000 in
set_option maxHeartbeats 8000000 in
theorem writeTerm_any (b : Nat) (T : List UInt8) (s : ByteArray) (i : Nat) (w : World) (h : IsB w b T) (hT : T.length ≤ 100000) (hs : s.data.toList.length ≤ 1000) (hi : i < 100) (R : Ending → World → Prop)
    (hR : ∀ w', IsB w' b (tStep T s.data.toList i) → Below b w w' → R (.returned (.tuple #[])) w') :
    Calls Tryz.prog 71 #[.pointer (some ⟨b, 0, none⟩), .string s, .int .i64 (i : Int)] w R := by
  have HR := Lib.hid hR; clear hR
  have HI := Lib.hid h
  have HN := Lib.hid (And.intro hT (And.intro hs hi))
  have HLN := Lib.hid (tNum_le s.data.toList)
  have HDD := Lib.hid (decDigits_le i hi)
  clear h hT hs hi
  go_enter Tryz.func71, Tryz.ntmps71
  go_wp2_with fail
  refine cutpT_any s _ _ ?_
  obtain ⟨S, hS⟩ : ∃ S : ByteArray, S = ⟨(tNum s.data.toList).toArray⟩ := ⟨_, rfl⟩
  have HSL : Hid (S.data.toList = tNum s.data.toList) := Lib.hid (by rw [hS])
  have HSZ : Hid (S.size = (tNum s.data.toList).length) := Lib.hid (by rw [hS]; simp [ByteArray.size])
  rw [← hS]
  clear hS
  cases hp : Lib.hasPrefix s.data.toList [45] with
  | true =>
    have HSG : Hid (tSign T s.data.toList = [45]) := Lib.hid (by unfold tSign; rw [if_pos hp])
    clear hp
    dsimp only
    go_wp2_with fail
    refine bwb_any b T 45 _ rfl _ HI.out (by have := HN.out; omega) _ ?_
    intro w4 hw4 hb4
    have HI4 := Lib.hid hw4
    have HB4 := Lib.hid hb4
    clear hw4 hb4
    dsimp only
    by_cases hmid : tNum s.data.toList ≠ [49] ∨ i = 0
    · have HM : Hid (tMid s.data.toList i = S.data.toList) := Lib.hid (by unfold tMid; rw [if_pos hmid, HSL.out])
      by_cases h49 : tNum s.data.toList = [49]
      · have hi0 : i = 0 := by rcases hmid with h | h; exact absurd h49 h; exact h
        have e9 : (S.toList == [49]) = true := by rw [Lib.toList_data, HSL.out, h49]; rfl
        have e8 : ((i : Int) == 0) = true := by rw [hi0]; rfl
        clear hmid h49
        go_wp2_with fail
        refine bws_any b _ S _ HI4.out (by have := HN.out; have := HLN.out; have := HSZ.out; (try simp only [List.length_append, List.length_singleton]); omega) _ ?_
        intro w5 hw5 hb5
        have HI5 := Lib.hid hw5
        have HB5 := Lib.hid (HB4.out.trans hb5)
        clear hw5 hb5
        dsimp only
        have hz : i = 0 := hi0
        have c1 : ¬ (0 : Int) < (i : Int) := by omega
        have c2 : ¬ (1 : Int) < (i : Int) := by omega
        go_wp2
        refine bodyPost_end (v := .tuple #[]) (by first | rfl | (simp [results, Tryz.results71, go_sem] <;> rfl)) rfl ?_
        refine HR.out _ ?_ HB5.out
        have hq := HI5.out
        unfold tStep
        rw [HSG.out, HM.out, show tEnd i = [] from by unfold tEnd; rw [if_pos hz]]
        simpa using hq
      · have e9 : (S.toList == [49]) = false := by rw [Lib.toList_data, HSL.out, beq_eq_false_iff_ne]; exact h49
        clear hmid h49
        go_wp2_with fail
        refine bws_any b _ S _ HI4.out (by have := HN.out; have := HLN.out; have := HSZ.out; (try simp only [List.length_append, List.length_singleton]); omega) _ ?_
        intro w5 hw5 hb5
        have HI5 := Lib.hid hw5
        have HB5 := Lib.hid (HB4.out.trans hb5)
        clear hw5 hb5
        dsimp only
        rcases Nat.lt_or_ge i 2 with hlt | hge
        · by_cases hz : i = 0
          · have c1 : ¬ (0 : Int) < (i : Int) := by omega
            have c2 : ¬ (1 : Int) < (i : Int) := by omega
            go_wp2
            refine bodyPost_end (v := .tuple #[]) (by first | rfl | (simp [results, Tryz.results71, go_sem] <;> rfl)) rfl ?_
            refine HR.out _ ?_ HB5.out
            have hq := HI5.out
            unfold tStep
            rw [HSG.out, HM.out, show tEnd i = [] from by unfold tEnd; rw [if_pos hz]]
            simpa using hq
          · have hz : i = 1 := by omega
            have c1 : (0 : Int) < (i : Int) := by omega
            have c2 : ¬ (1 : Int) < (i : Int) := by omega
            go_wp2_with fail
            refine bwb_any b _ 120 _ rfl _ HI5.out (by have := HN.out; have := HLN.out; have := HSZ.out; (try simp only [List.length_append, List.length_singleton]); (try have := HSL.out); (try simp only [HSL.out]); omega) _ ?_
            intro w6 hw6 hb6
            have HI6 := Lib.hid hw6
            have HB6 := Lib.hid (HB5.out.trans hb6)
            clear hw6 hb6
            dsimp only
            go_wp2
            refine bodyPost_end (v := .tuple #[]) (by first | rfl | (simp [results, Tryz.results71, go_sem] <;> rfl)) rfl ?_
            refine HR.out _ ?_ HB6.out
            have hq := HI6.out
            unfold tStep
            rw [HSG.out, HM.out, show tEnd i = [120] from by unfold tEnd; rw [if_neg (by omega), if_pos hz]]
            simpa using hq
        · have c1 : (0 : Int) < (i : Int) := by omega
          have c2 : (1 : Int) < (i : Int) := by omega
          go_wp2_with fail
          refine bwb_any b _ 120 _ rfl _ HI5.out (by have := HN.out; have := HLN.out; have := HSZ.out; (try simp only [List.length_append, List.length_singleton]); (try have := HSL.out); (try simp only [HSL.out]); omega) _ ?_
          intro w6 hw6 hb6
          have HI6 := Lib.hid hw6
          have HB6 := Lib.hid (HB5.out.trans hb6)
          clear hw6 hb6
          dsimp only
          go_wp2_with fail
          refine bwb_any b _ 94 _ rfl _ HI6.out (by have := HN.out; have := HLN.out; have := HSZ.out; (try simp only [List.length_append, List.length_singleton]); (try simp only [HSL.out]); omega) _ ?_
          intro w7 hw7 hb7
          have HI7 := Lib.hid hw7
          have HB7 := Lib.hid (HB6.out.trans hb7)
          clear hw7 hb7
          dsimp only
          go_wp2_with fail
          refine itoas_any i HN.out.2.2 _ _ ?_
          dsimp only
          obtain ⟨D, hD⟩ : ∃ D : ByteArray, D = ⟨(Lib.decDigits i).toArray⟩ := ⟨_, rfl⟩
          have HDL : Hid (D.data.toList = Lib.decDigits i) := Lib.hid (by rw [hD])
          have HDZ : Hid (D.size ≤ 2) := Lib.hid (by rw [hD]; have := HDD.out; simpa [ByteArray.size] using this)
          rw [← hD]
          clear hD
          go_wp2_with fail
          refine bws_any b _ D _ HI7.out (by have := HN.out; have := HLN.out; have := HSZ.out; have := HDZ.out; (try simp only [List.length_append, List.length_singleton]); (try simp only [HSL.out]); omega) _ ?_
          intro w8 hw8 hb8
          rw [HDL.out] at hw8
          have HI8 := Lib.hid hw8
          have HB8 := Lib.hid (HB7.out.trans hb8)
          clear hw8 hb8
          dsimp only
          go_wp2
          refine bodyPost_end (v := .tuple #[]) (by first | rfl | (simp [results, Tryz.results71, go_sem] <;> rfl)) rfl ?_
          refine HR.out _ ?_ HB8.out
          have hq := HI8.out
          unfold tStep
          rw [HSG.out, HM.out, show tEnd i = [120, 94] ++ Lib.decDigits i from by unfold tEnd; rw [if_neg (by omega), if_neg (by omega)]]
          simpa using hq
    · have HM : Hid (tMid s.data.toList i = []) := Lib.hid (by unfold tMid; rw [if_neg hmid])
      have h49 : tNum s.data.toList = [49] := by false_or_by_contra; exact hmid (.inl (by assumption))
      have hi0 : ¬ i = 0 := fun h => hmid (.inr h)
      have e9 : (S.toList == [49]) = true := by rw [Lib.toList_data, HSL.out, h49]; rfl
      have e8 : ((i : Int) == 0) = false := by simp; omega
      clear hmid h49
      rcases Nat.lt_or_ge i 2 with hlt | hge
      · by_cases hz : i = 0
        · exact absurd hz hi0
        · have hz : i = 1 := by omega
          have c1 : (0 : Int) < (i : Int) := by omega
          have c2 : ¬ (1 : Int) < (i : Int) := by omega
          go_wp2_with fail
          refine bwb_any b _ 120 _ rfl _ HI4.out (by have := HN.out; have := HLN.out; have := HSZ.out; (try simp only [List.length_append, List.length_singleton]); (try have := HSL.out); (try simp only [HSL.out]); omega) _ ?_
          intro w6 hw6 hb6
          have HI6 := Lib.hid hw6
          have HB6 := Lib.hid (HB4.out.trans hb6)
          clear hw6 hb6
          dsimp only
          go_wp2
          refine bodyPost_end (v := .tuple #[]) (by first | rfl | (simp [results, Tryz.results71, go_sem] <;> rfl)) rfl ?_
          refine HR.out _ ?_ HB6.out
          have hq := HI6.out
          unfold tStep
          rw [HSG.out, HM.out, show tEnd i = [120] from by unfold tEnd; rw [if_neg (by omega), if_pos hz]]
          simpa using hq
      · have c1 : (0 : Int) < (i : Int) := by omega
        have c2 : (1 : Int) < (i : Int) := by omega
        go_wp2_with fail
        refine bwb_any b _ 120 _ rfl _ HI4.out (by have := HN.out; have := HLN.out; have := HSZ.out; (try simp only [List.length_append, List.length_singleton]); (try have := HSL.out); (try simp only [HSL.out]); omega) _ ?_
        intro w6 hw6 hb6
        have HI6 := Lib.hid hw6
        have HB6 := Lib.hid (HB4.out.trans hb6)
        clear hw6 hb6
        dsimp only
        go_wp2_with fail
        refine bwb_any b _ 94 _ rfl _ HI6.out (by have := HN.out; have := HLN.out; have := HSZ.out; (try simp only [List.length_append, List.length_singleton]); (try simp only [HSL.out]); omega) _ ?_
        intro w7 hw7 hb7
        have HI7 := Lib.hid hw7
        have HB7 := Lib.hid (HB6.out.trans hb7)
        clear hw7 hb7
        dsimp only
        go_wp2_with fail
        refine itoas_any i HN.out.2.2 _ _ ?_
        dsimp only
        obtain ⟨D, hD⟩ : ∃ D : ByteArray, D = ⟨(Lib.decDigits i).toArray⟩ := ⟨_, rfl⟩
        have HDL : Hid (D.data.toList = Lib.decDigits i) := Lib.hid (by rw [hD])
        have HDZ : Hid (D.size ≤ 2) := Lib.hid (by rw [hD]; have := HDD.out; simpa [ByteArray.size] using this)
        rw [← hD]
        clear hD
        go_wp2_with fail
        refine bws_any b _ D _ HI7.out (by have := HN.out; have := HLN.out; have := HSZ.out; have := HDZ.out; (try simp only [List.length_append, List.length_singleton]); (try simp only [HSL.out]); omega) _ ?_
        intro w8 hw8 hb8
        rw [HDL.out] at hw8
        have HI8 := Lib.hid hw8
        have HB8 := Lib.hid (HB7.out.trans hb8)
        clear hw8 hb8
        dsimp only
        go_wp2
        refine bodyPost_end (v := .tuple #[]) (by first | rfl | (simp [results, Tryz.results71, go_sem] <;> rfl)) rfl ?_
        refine HR.out _ ?_ HB8.out
        have hq := HI8.out
        unfold tStep
        rw [HSG.out, HM.out, show tEnd i = [120, 94] ++ Lib.decDigits i from by unfold tEnd; rw [if_neg (by omega), if_neg (by omega)]]
        simpa using hq
  | false =>
    dsimp only
    go_wp2_with fail
    refine blen_any b T _ HI.out _ ?_
    dsimp only
    by_cases ht : T.length = 0
    · have HSG : Hid (tSign T s.data.toList = []) := Lib.hid (by unfold tSign; rw [if_neg (by rw [hp]; decide), if_pos ht])
      have ht0 : ¬ (0 : Int) < (T.length : Int) := by omega
      have HB4 : Hid (Below b w w) := Lib.hid (Below.refl _ _)
      clear hp ht
      by_cases hmid : tNum s.data.toList ≠ [49] ∨ i = 0
      · have HM : Hid (tMid s.data.toList i = S.data.toList) := Lib.hid (by unfold tMid; rw [if_pos hmid, HSL.out])
        by_cases h49 : tNum s.data.toList = [49]
        · have hi0 : i = 0 := by rcases hmid with h | h; exact absurd h49 h; exact h
          have e9 : (S.toList == [49]) = true := by rw [Lib.toList_data, HSL.out, h49]; rfl
          have e8 : ((i : Int) == 0) = true := by rw [hi0]; rfl
          clear hmid h49
          go_wp2_with fail
          refine bws_any b _ S _ HI.out (by have := HN.out; have := HLN.out; have := HSZ.out; (try simp only [List.length_append, List.length_singleton]); omega) _ ?_
          intro w5 hw5 hb5
          have HI5 := Lib.hid hw5
          have HB5 := Lib.hid (HB4.out.trans hb5)
          clear hw5 hb5
          dsimp only
          have hz : i = 0 := hi0
          have c1 : ¬ (0 : Int) < (i : Int) := by omega
          have c2 : ¬ (1 : Int) < (i : Int) := by omega
          go_wp2
          refine bodyPost_end (v := .tuple #[]) (by first | rfl | (simp [results, Tryz.results71, go_sem] <;> rfl)) rfl ?_
          refine HR.out _ ?_ HB5.out
          have hq := HI5.out
          unfold tStep
          rw [HSG.out, HM.out, show tEnd i = [] from by unfold tEnd; rw [if_pos hz]]
          simpa using hq
        · have e9 : (S.toList == [49]) = false := by rw [Lib.toList_data, HSL.out, beq_eq_false_iff_ne]; exact h49
          clear hmid h49
          go_wp2_with fail
          refine bws_any b _ S _ HI.out (by have := HN.out; have := HLN.out; have := HSZ.out; (try simp only [List.length_append, List.length_singleton]); omega) _ ?_
          intro w5 hw5 hb5
          have HI5 := Lib.hid hw5
          have HB5 := Lib.hid (HB4.out.trans hb5)
          clear hw5 hb5
          dsimp only
          rcases Nat.lt_or_ge i 2 with hlt | hge
          · by_cases hz : i = 0
            · have c1 : ¬ (0 : Int) < (i : Int) := by omega
              have c2 : ¬ (1 : Int) < (i : Int) := by omega
              go_wp2
              refine bodyPost_end (v := .tuple #[]) (by first | rfl | (simp [results, Tryz.results71, go_sem] <;> rfl)) rfl ?_
              refine HR.out _ ?_ HB5.out
              have hq := HI5.out
              unfold tStep
              rw [HSG.out, HM.out, show tEnd i = [] from by unfold tEnd; rw [if_pos hz]]
              simpa using hq
            · have hz : i = 1 := by omega
              have c1 : (0 : Int) < (i : Int) := by omega
              have c2 : ¬ (1 : Int) < (i : Int) := by omega
              go_wp2_with fail
              refine bwb_any b _ 120 _ rfl _ HI5.out (by have := HN.out; have := HLN.out; have := HSZ.out; (try simp only [List.length_append, List.length_singleton]); (try have := HSL.out); (try simp only [HSL.out]); omega) _ ?_
              intro w6 hw6 hb6
              have HI6 := Lib.hid hw6
              have HB6 := Lib.hid (HB5.out.trans hb6)
              clear hw6 hb6
              dsimp only
              go_wp2
              refine bodyPost_end (v := .tuple #[]) (by first | rfl | (simp [results, Tryz.results71, go_sem] <;> rfl)) rfl ?_
              refine HR.out _ ?_ HB6.out
              have hq := HI6.out
              unfold tStep
              rw [HSG.out, HM.out, show tEnd i = [120] from by unfold tEnd; rw [if_neg (by omega), if_pos hz]]
              simpa using hq
          · have c1 : (0 : Int) < (i : Int) := by omega
            have c2 : (1 : Int) < (i : Int) := by omega
            go_wp2_with fail
            refine bwb_any b _ 120 _ rfl _ HI5.out (by have := HN.out; have := HLN.out; have := HSZ.out; (try simp only [List.length_append, List.length_singleton]); (try have := HSL.out); (try simp only [HSL.out]); omega) _ ?_
            intro w6 hw6 hb6
            have HI6 := Lib.hid hw6
            have HB6 := Lib.hid (HB5.out.trans hb6)
            clear hw6 hb6
            dsimp only
            go_wp2_with fail
            refine bwb_any b _ 94 _ rfl _ HI6.out (by have := HN.out; have := HLN.out; have := HSZ.out; (try simp only [List.length_append, List.length_singleton]); (try simp only [HSL.out]); omega) _ ?_
            intro w7 hw7 hb7
            have HI7 := Lib.hid hw7
            have HB7 := Lib.hid (HB6.out.trans hb7)
            clear hw7 hb7
            dsimp only
            go_wp2_with fail
            refine itoas_any i HN.out.2.2 _ _ ?_
            dsimp only
            obtain ⟨D, hD⟩ : ∃ D : ByteArray, D = ⟨(Lib.decDigits i).toArray⟩ := ⟨_, rfl⟩
            have HDL : Hid (D.data.toList = Lib.decDigits i) := Lib.hid (by rw [hD])
            have HDZ : Hid (D.size ≤ 2) := Lib.hid (by rw [hD]; have := HDD.out; simpa [ByteArray.size] using this)
            rw [← hD]
            clear hD
            go_wp2_with fail
            refine bws_any b _ D _ HI7.out (by have := HN.out; have := HLN.out; have := HSZ.out; have := HDZ.out; (try simp only [List.length_append, List.length_singleton]); (try simp only [HSL.out]); omega) _ ?_
            intro w8 hw8 hb8
            rw [HDL.out] at hw8
            have HI8 := Lib.hid hw8
            have HB8 := Lib.hid (HB7.out.trans hb8)
            clear hw8 hb8
            dsimp only
            go_wp2
            refine bodyPost_end (v := .tuple #[]) (by first | rfl | (simp [results, Tryz.results71, go_sem] <;> rfl)) rfl ?_
            refine HR.out _ ?_ HB8.out
            have hq := HI8.out
            unfold tStep
            rw [HSG.out, HM.out, show tEnd i = [120, 94] ++ Lib.decDigits i from by unfold tEnd; rw [if_neg (by omega), if_neg (by omega)]]
            simpa using hq
      · have HM : Hid (tMid s.data.toList i = []) := Lib.hid (by unfold tMid; rw [if_neg hmid])
        have h49 : tNum s.data.toList = [49] := by false_or_by_contra; exact hmid (.inl (by assumption))
        have hi0 : ¬ i = 0 := fun h => hmid (.inr h)
        have e9 : (S.toList == [49]) = true := by rw [Lib.toList_data, HSL.out, h49]; rfl
        have e8 : ((i : Int) == 0) = false := by simp; omega
        clear hmid h49
        rcases Nat.lt_or_ge i 2 with hlt | hge
        · by_cases hz : i = 0
          · exact absurd hz hi0
          · have hz : i = 1 := by omega
            have c1 : (0 : Int) < (i : Int) := by omega
            have c2 : ¬ (1 : Int) < (i : Int) := by omega
            go_wp2_with fail
            refine bwb_any b _ 120 _ rfl _ HI.out (by have := HN.out; have := HLN.out; have := HSZ.out; (try simp only [List.length_append, List.length_singleton]); (try have := HSL.out); (try simp only [HSL.out]); omega) _ ?_
            intro w6 hw6 hb6
            have HI6 := Lib.hid hw6
            have HB6 := Lib.hid (HB4.out.trans hb6)
            clear hw6 hb6
            dsimp only
            go_wp2
            refine bodyPost_end (v := .tuple #[]) (by first | rfl | (simp [results, Tryz.results71, go_sem] <;> rfl)) rfl ?_
            refine HR.out _ ?_ HB6.out
            have hq := HI6.out
            unfold tStep
            rw [HSG.out, HM.out, show tEnd i = [120] from by unfold tEnd; rw [if_neg (by omega), if_pos hz]]
            simpa using hq
        · have c1 : (0 : Int) < (i : Int) := by omega
          have c2 : (1 : Int) < (i : Int) := by omega
          go_wp2_with fail
          refine bwb_any b _ 120 _ rfl _ HI.out (by have := HN.out; have := HLN.out; have := HSZ.out; (try simp only [List.length_append, List.length_singleton]); (try have := HSL.out); (try simp only [HSL.out]); omega) _ ?_
          intro w6 hw6 hb6
          have HI6 := Lib.hid hw6
          have HB6 := Lib.hid (HB4.out.trans hb6)
          clear hw6 hb6
          dsimp only
          go_wp2_with fail
          refine bwb_any b _ 94 _ rfl _ HI6.out (by have := HN.out; have := HLN.out; have := HSZ.out; (try simp only [List.length_append, List.length_singleton]); (try simp only [HSL.out]); omega) _ ?_
          intro w7 hw7 hb7
          have HI7 := Lib.hid hw7
          have HB7 := Lib.hid (HB6.out.trans hb7)
          clear hw7 hb7
          dsimp only
          go_wp2_with fail
          refine itoas_any i HN.out.2.2 _ _ ?_
          dsimp only
          obtain ⟨D, hD⟩ : ∃ D : ByteArray, D = ⟨(Lib.decDigits i).toArray⟩ := ⟨_, rfl⟩
          have HDL : Hid (D.data.toList = Lib.decDigits i) := Lib.hid (by rw [hD])
          have HDZ : Hid (D.size ≤ 2) := Lib.hid (by rw [hD]; have := HDD.out; simpa [ByteArray.size] using this)
          rw [← hD]
          clear hD
          go_wp2_with fail
          refine bws_any b _ D _ HI7.out (by have := HN.out; have := HLN.out; have := HSZ.out; have := HDZ.out; (try simp only [List.length_append, List.length_singleton]); (try simp only [HSL.out]); omega) _ ?_
          intro w8 hw8 hb8
          rw [HDL.out] at hw8
          have HI8 := Lib.hid hw8
          have HB8 := Lib.hid (HB7.out.trans hb8)
          clear hw8 hb8
          dsimp only
          go_wp2
          refine bodyPost_end (v := .tuple #[]) (by first | rfl | (simp [results, Tryz.results71, go_sem] <;> rfl)) rfl ?_
          refine HR.out _ ?_ HB8.out
          have hq := HI8.out
          unfold tStep
          rw [HSG.out, HM.out, show tEnd i = [120, 94] ++ Lib.decDigits i from by unfold tEnd; rw [if_neg (by omega), if_neg (by omega)]]
          simpa using hq
    · have HSG : Hid (tSign T s.data.toList = [43]) := Lib.hid (by unfold tSign; rw [if_neg (by rw [hp]; decide), if_neg ht])
      have ht0 : (0 : Int) < (T.length : Int) := by omega
      clear hp ht
      go_wp2_with fail
      refine bwb_any b T 43 _ rfl _ HI.out (by have := HN.out; omega) _ ?_
      intro w4 hw4 hb4
      have HI4 := Lib.hid hw4
      have HB4 := Lib.hid hb4
      clear hw4 hb4
      dsimp only
      by_cases hmid : tNum s.data.toList ≠ [49] ∨ i = 0
      · have HM : Hid (tMid s.data.toList i = S.data.toList) := Lib.hid (by unfold tMid; rw [if_pos hmid, HSL.out])
        by_cases h49 : tNum s.data.toList = [49]
        · have hi0 : i = 0 := by rcases hmid with h | h; exact absurd h49 h; exact h
          have e9 : (S.toList == [49]) = true := by rw [Lib.toList_data, HSL.out, h49]; rfl
          have e8 : ((i : Int) == 0) = true := by rw [hi0]; rfl
          clear hmid h49
          go_wp2_with fail
          refine bws_any b _ S _ HI4.out (by have := HN.out; have := HLN.out; have := HSZ.out; (try simp only [List.length_append, List.length_singleton]); omega) _ ?_
          intro w5 hw5 hb5
          have HI5 := Lib.hid hw5
          have HB5 := Lib.hid (HB4.out.trans hb5)
          clear hw5 hb5
          dsimp only
          have hz : i = 0 := hi0
          have c1 : ¬ (0 : Int) < (i : Int) := by omega
          have c2 : ¬ (1 : Int) < (i : Int) := by omega
          go_wp2
          refine bodyPost_end (v := .tuple #[]) (by first | rfl | (simp [results, Tryz.results71, go_sem] <;> rfl)) rfl ?_
          refine HR.out _ ?_ HB5.out
          have hq := HI5.out
          unfold tStep
          rw [HSG.out, HM.out, show tEnd i = [] from by unfold tEnd; rw [if_pos hz]]
          simpa using hq
        · have e9 : (S.toList == [49]) = false := by rw [Lib.toList_data, HSL.out, beq_eq_false_iff_ne]; exact h49
          clear hmid h49
          go_wp2_with fail
          refine bws_any b _ S _ HI4.out (by have := HN.out; have := HLN.out; have := HSZ.out; (try simp only [List.length_append, List.length_singleton]); omega) _ ?_
          intro w5 hw5 hb5
          have HI5 := Lib.hid hw5
          have HB5 := Lib.hid (HB4.out.trans hb5)
          clear hw5 hb5
          dsimp only
          rcases Nat.lt_or_ge i 2 with hlt | hge
          · by_cases hz : i = 0
            · have c1 : ¬ (0 : Int) < (i : Int) := by omega
              have c2 : ¬ (1 : Int) < (i : Int) := by omega
              go_wp2
              refine bodyPost_end (v := .tuple #[]) (by first | rfl | (simp [results, Tryz.results71, go_sem] <;> rfl)) rfl ?_
              refine HR.out _ ?_ HB5.out
              have hq := HI5.out
              unfold tStep
              rw [HSG.out, HM.out, show tEnd i = [] from by unfold tEnd; rw [if_pos hz]]
              simpa using hq
            · have hz : i = 1 := by omega
              have c1 : (0 : Int) < (i : Int) := by omega
              have c2 : ¬ (1 : Int) < (i : Int) := by omega
              go_wp2_with fail
              refine bwb_any b _ 120 _ rfl _ HI5.out (by have := HN.out; have := HLN.out; have := HSZ.out; (try simp only [List.length_append, List.length_singleton]); (try have := HSL.out); (try simp only [HSL.out]); omega) _ ?_
              intro w6 hw6 hb6
              have HI6 := Lib.hid hw6
              have HB6 := Lib.hid (HB5.out.trans hb6)
              clear hw6 hb6
              dsimp only
              go_wp2
              refine bodyPost_end (v := .tuple #[]) (by first | rfl | (simp [results, Tryz.results71, go_sem] <;> rfl)) rfl ?_
              refine HR.out _ ?_ HB6.out
              have hq := HI6.out
              unfold tStep
              rw [HSG.out, HM.out, show tEnd i = [120] from by unfold tEnd; rw [if_neg (by omega), if_pos hz]]
              simpa using hq
          · have c1 : (0 : Int) < (i : Int) := by omega
            have c2 : (1 : Int) < (i : Int) := by omega
            go_wp2_with fail
            refine bwb_any b _ 120 _ rfl _ HI5.out (by have := HN.out; have := HLN.out; have := HSZ.out; (try simp only [List.length_append, List.length_singleton]); (try have := HSL.out); (try simp only [HSL.out]); omega) _ ?_
            intro w6 hw6 hb6
            have HI6 := Lib.hid hw6
            have HB6 := Lib.hid (HB5.out.trans hb6)
            clear hw6 hb6
            dsimp only
            go_wp2_with fail
            refine bwb_any b _ 94 _ rfl _ HI6.out (by have := HN.out; have := HLN.out; have := HSZ.out; (try simp only [List.length_append, List.length_singleton]); (try simp only [HSL.out]); omega) _ ?_
            intro w7 hw7 hb7
            have HI7 := Lib.hid hw7
            have HB7 := Lib.hid (HB6.out.trans hb7)
            clear hw7 hb7
            dsimp only
            go_wp2_with fail
            refine itoas_any i HN.out.2.2 _ _ ?_
            dsimp only
            obtain ⟨D, hD⟩ : ∃ D : ByteArray, D = ⟨(Lib.decDigits i).toArray⟩ := ⟨_, rfl⟩
            have HDL : Hid (D.data.toList = Lib.decDigits i) := Lib.hid (by rw [hD])
            have HDZ : Hid (D.size ≤ 2) := Lib.hid (by rw [hD]; have := HDD.out; simpa [ByteArray.size] using this)
            rw [← hD]
            clear hD
            go_wp2_with fail
            refine bws_any b _ D _ HI7.out (by have := HN.out; have := HLN.out; have := HSZ.out; have := HDZ.out; (try simp only [List.length_append, List.length_singleton]); (try simp only [HSL.out]); omega) _ ?_
            intro w8 hw8 hb8
            rw [HDL.out] at hw8
            have HI8 := Lib.hid hw8
            have HB8 := Lib.hid (HB7.out.trans hb8)
            clear hw8 hb8
            dsimp only
            go_wp2
            refine bodyPost_end (v := .tuple #[]) (by first | rfl | (simp [results, Tryz.results71, go_sem] <;> rfl)) rfl ?_
            refine HR.out _ ?_ HB8.out
            have hq := HI8.out
            unfold tStep
            rw [HSG.out, HM.out, show tEnd i = [120, 94] ++ Lib.decDigits i from by unfold tEnd; rw [if_neg (by omega), if_neg (by omega)]]
            simpa using hq
      · have HM : Hid (tMid s.data.toList i = []) := Lib.hid (by unfold tMid; rw [if_neg hmid])
        have h49 : tNum s.data.toList = [49] := by false_or_by_contra; exact hmid (.inl (by assumption))
        have hi0 : ¬ i = 0 := fun h => hmid (.inr h)
        have e9 : (S.toList == [49]) = true := by rw [Lib.toList_data, HSL.out, h49]; rfl
        have e8 : ((i : Int) == 0) = false := by simp; omega
        clear hmid h49
        rcases Nat.lt_or_ge i 2 with hlt | hge
        · by_cases hz : i = 0
          · exact absurd hz hi0
          · have hz : i = 1 := by omega
            have c1 : (0 : Int) < (i : Int) := by omega
            have c2 : ¬ (1 : Int) < (i : Int) := by omega
            go_wp2_with fail
            refine bwb_any b _ 120 _ rfl _ HI4.out (by have := HN.out; have := HLN.out; have := HSZ.out; (try simp only [List.length_append, List.length_singleton]); (try have := HSL.out); (try simp only [HSL.out]); omega) _ ?_
            intro w6 hw6 hb6
            have HI6 := Lib.hid hw6
            have HB6 := Lib.hid (HB4.out.trans hb6)
            clear hw6 hb6
            dsimp only
            go_wp2
            refine bodyPost_end (v := .tuple #[]) (by first | rfl | (simp [results, Tryz.results71, go_sem] <;> rfl)) rfl ?_
            refine HR.out _ ?_ HB6.out
            have hq := HI6.out
            unfold tStep
            rw [HSG.out, HM.out, show tEnd i = [120] from by unfold tEnd; rw [if_neg (by omega), if_pos hz]]
            simpa using hq
        · have c1 : (0 : Int) < (i : Int) := by omega
          have c2 : (1 : Int) < (i : Int) := by omega
          go_wp2_with fail
          refine bwb_any b _ 120 _ rfl _ HI4.out (by have := HN.out; have := HLN.out; have := HSZ.out; (try simp only [List.length_append, List.length_singleton]); (try have := HSL.out); (try simp only [HSL.out]); omega) _ ?_
          intro w6 hw6 hb6
          have HI6 := Lib.hid hw6
          have HB6 := Lib.hid (HB4.out.trans hb6)
          clear hw6 hb6
          dsimp only
          go_wp2_with fail
          refine bwb_any b _ 94 _ rfl _ HI6.out (by have := HN.out; have := HLN.out; have := HSZ.out; (try simp only [List.length_append, List.length_singleton]); (try simp only [HSL.out]); omega) _ ?_
          intro w7 hw7 hb7
          have HI7 := Lib.hid hw7
          have HB7 := Lib.hid (HB6.out.trans hb7)
          clear hw7 hb7
          dsimp only
          go_wp2_with fail
          refine itoas_any i HN.out.2.2 _ _ ?_
          dsimp only
          obtain ⟨D, hD⟩ : ∃ D : ByteArray, D = ⟨(Lib.decDigits i).toArray⟩ := ⟨_, rfl⟩
          have HDL : Hid (D.data.toList = Lib.decDigits i) := Lib.hid (by rw [hD])
          have HDZ : Hid (D.size ≤ 2) := Lib.hid (by rw [hD]; have := HDD.out; simpa [ByteArray.size] using this)
          rw [← hD]
          clear hD
          go_wp2_with fail
          refine bws_any b _ D _ HI7.out (by have := HN.out; have := HLN.out; have := HSZ.out; have := HDZ.out; (try simp only [List.length_append, List.length_singleton]); (try simp only [HSL.out]); omega) _ ?_
          intro w8 hw8 hb8
          rw [HDL.out] at hw8
          have HI8 := Lib.hid hw8
          have HB8 := Lib.hid (HB7.out.trans hb8)
          clear hw8 hb8
          dsimp only
          go_wp2
          refine bodyPost_end (v := .tuple #[]) (by first | rfl | (simp [results, Tryz.results71, go_sem] <;> rfl)) rfl ?_
          refine HR.out _ ?_ HB8.out
          have hq := HI8.out
          unfold tStep
          rw [HSG.out, HM.out, show tEnd i = [120, 94] ++ Lib.decDigits i from by unfold tEnd; rw [if_neg (by omega), if_neg (by omega)]]
          simpa using hq
end Go.Proofs.YtegdcmcfeaohhaaGreatDoor

namespace Go.Proofs.YtegdcmcfeaohhaaGreatDoor
open Go Go.RowKit

def PolyTRel (w : World) (b : Nat) (L : List ByteArray) (i : Value) (wr : World) : Prop :=
  ∃ (k : Nat) (ii : Int), i = .int .i64 ii ∧ ii = (L.length : Int) - 1 - (k : Int) ∧ k ≤ L.length ∧ IsB wr b (polySt L k) ∧ Below b w wr

/-- the text that is returned -/
noncomputable def ptxS (L : List ByteArray) : ByteArray := if polyB L = true then ⟨(polyTx L).toArray⟩ else ⟨#[]⟩
theorem ptxS_true {L : List ByteArray} (h : polyB L = true) : ptxS L = ⟨(polyTx L).toArray⟩ := by unfold ptxS; rw [if_pos h]
theorem ptxS_false {L : List ByteArray} (h : polyB L = false) : ptxS L = ⟨#[]⟩ := by unfold ptxS; rw [if_neg (by rw [h]; decide)]

set_option maxRecDepth 100000 in
set_option maxHeartbeats 4000000 in
theorem impl_ptx (v0 : Value) (L : List ByteArray) (w : World) (hE : Env w) (h0 : TxL w v0 L) (hn0 : L.length ≤ 1048576) (R : Ending → World → Prop)
    (hR : ∀ w', Below w.heap.size w w' → R (.returned (.tuple #[.string (ptxS L), .bool (polyB L)])) w') :
    Calls Tryz.prog 32 #[v0] w R := by
  have HR := Lib.hid hR; clear hR
  have HE := Lib.hid hE
  obtain ⟨a0, n, c0, rfl, hnl, _, h0'⟩ := h0.open
  have H0 := Lib.hid h0'
  have HN := Lib.hid hn0
  have HNL := Lib.hid hnl
  clear hE h0 h0' hn0 hnl
  go_enter Tryz.func32, Tryz.ntmps32
  go_wp2_with fail
  refine impl_validPoly _ L _ HE.out H0.out HN.out _ ?_
  intro w1 hb1
  have HB1 := Lib.hid hb1
  have H1 := Lib.hid (TxL.later H0.out hb1 (Nat.le_refl _))
  clear hb1
  cases hp : polyB L with
  | false =>
    have HF := Lib.hid (HR.out w1 HB1.out)
    rw [ptxS_false hp, hp] at HF
    clear hp
    dsimp only
    go_wp2
    first | go_ret | skip
    exact HF.out
  | true =>
  have HP := Lib.hid hp
  have hk := polyB_nums hp
  have HK := Lib.hid hk
  have hn13 : n ≤ 13 := by have := HNL.out; omega
  clear hp hk
  by_cases hz : n = 0
  · have HF := Lib.hid (HR.out w1 HB1.out)
    rw [ptxS_true HP.out, HP.out, show polyTx L = [48] from by unfold polyTx; rw [if_pos (by rw [← HNL.out]; exact hz)]] at HF
    subst hz
    dsimp only
    go_wp2
    first | go_ret | skip
    exact HF.out
  · have hz1 : ((n : Int) == 0) = false := by simp; omega
    have hw0 : IntKind.i64.wrap ((n : Int) - 1) = (n : Int) - 1 := IntWalk.i64_in _ (by omega)
    have hnz : ¬ (n : Int) = 0 := by omega
    obtain ⟨b, hb⟩ : ∃ b, b = w1.heap.size := ⟨_, rfl⟩
    have HST : Hid (PolyTRel w1 b L (.int .i64 ((n : Int) - 1)) (w1.alloc (.cells #[.pointer none, .slice none 0 0] 88))) := Lib.hid ⟨0, _, rfl, by rw [HNL.out]; simp, Nat.zero_le _, by rw [hb]; exact IsB.fresh _, by rw [hb]; exact (Below.refl _ _).alloc (Nat.le_refl _) _⟩
    have HBQ := Lib.hid hb
    dsimp only
    go_wp2
    rw [← HBQ.out]
    clear hw0 hb
    go_loopw [5] (fun i wr => PolyTRel w1 b L i wr) (fun i _ => (intOf i + 1).toNat)
    case atStart => exact HST.out
    case round =>
      clear HST
      obtain ⟨k, ii, rfl, hii, hk, hisb, hbel⟩ := hrel
      have HI := Lib.hid hisb
      have HBE := Lib.hid hbel
      by_cases hkn : k < n
      · obtain ⟨j, hj⟩ : ∃ j, j = n - 1 - k := ⟨_, rfl⟩
        obtain rfl : ii = (j : Int) := by rw [← HNL.out] at hii; omega
        have hjL : L.length - 1 - k = j := by rw [← HNL.out]; exact hj.symm
        obtain ⟨s, hs⟩ : ∃ s, L[j]? = some s := ⟨_, List.getElem?_eq_getElem (by rw [← HNL.out]; omega)⟩
        have HS : Hid (L[L.length - 1 - k]? = some s) := Lib.hid (by rw [hjL]; exact hs)
        have HJL := Lib.hid hjL
        have hnum := List.all_eq_true.1 HK.out.2 s (List.mem_of_getElem? hs)
        have HSL := Lib.hid (isNum_le hnum)
        have HTL := Lib.hid (polySt_le HK.out.1 (fun t ht => isNum_le (List.all_eq_true.1 HK.out.2 t ht)) k hk)
        obtain ⟨b2, off, rfl, hb2, hcell⟩ := TxL.at H1.out j s hs
        rw [← hbel.cell (p := ⟨b2, off + j, none⟩) (by rw [HBQ.out]; exact hb2)] at hcell
        obtain ⟨jj, hjj⟩ : ∃ jj, jj = (j : Int) - 1 := ⟨_, rfl⟩
        have hw1 : IntKind.i64.wrap ((j : Int) - 1) = jj := by rw [IntWalk.i64_in _ (by omega)]; exact hjj.symm
        have HJJ : Hid (jj = (L.length : Int) - 1 - ((k + 1 : Nat) : Int)) := Lib.hid (by rw [← HNL.out]; omega)
        have HKL := Lib.hid (show k + 1 ≤ L.length ∧ j < 100 ∧ k ≤ 13 by have := HNL.out; omega)
        have hj0 : (0 : Int) ≤ (j : Int) := by omega
        have hj1 : (j : Int) < (n : Int) := by omega
        have HJ := Lib.hid (show jj + 1 = (j : Int) by omega)
        by_cases h48 : s.data.toList = [48]
        · have e9 : (s.toList == [48]) = true := by rw [Lib.toList_data, h48]; rfl
          have HNEW : Hid (IsB wr b (polySt L (k + 1))) := Lib.hid (by rw [polySt_zero HS.out h48]; exact HI.out)
          clear hj hs hnum hb2 hii hk hisb hbel hkn hjL hjj h48
          go_wp2
          go_roundw
          case rel => exact ⟨k + 1, _, rfl, HJJ.out, HKL.out.1, HNEW.out, HBE.out⟩
          case measure => simp [intOf]; have := HJ.out; omega
        · have e9 : (s.toList == [48]) = false := by rw [Lib.toList_data, beq_eq_false_iff_ne]; exact h48
          have HSTEP : Hid (polySt L (k + 1) = tStep (polySt L k) s.data.toList j) := Lib.hid (by rw [polySt_step HS.out h48, HJL.out])
          clear hj hs hnum hb2 hii hk hisb hbel hkn hjL hjj h48
          go_wp2_with fail
          refine writeTerm_any b (polySt L k) s j _ HI.out (by have := HTL.out; have := HKL.out; omega) (by have := HSL.out; omega) HKL.out.2.1 _ ?_
          intro w3 hi3 hb3
          have HI3 : Hid (IsB w3 b (polySt L (k + 1))) := Lib.hid (by rw [HSTEP.out]; exact hi3)
          have HB3 := Lib.hid (HBE.out.trans hb3)
          clear hi3 hb3 hcell
          dsimp only
          go_wp2
          go_roundw
          case rel => exact ⟨k + 1, _, rfl, HJJ.out, HKL.out.1, HI3.out, HB3.out⟩
          case measure => simp [intOf]; have := HJ.out; omega
      · obtain rfl : ii = -1 := by rw [← HNL.out] at hii hk; omega
        have hkL : k = L.length := by rw [← HNL.out]; rw [← HNL.out] at hk; omega
        have HTX : Hid (polySt L k = polyTx L) := Lib.hid (by unfold polyTx; rw [if_neg (by rw [← HNL.out]; exact hz), hkL])
        clear hii hk hisb hbel hkn hkL
        go_wp2_with fail
        refine bstr_any b _ _ HI.out _ ?_
        rw [HTX.out]
        intro w3 hb3
        have HF := Lib.hid (HR.out w3 (HB1.out.trans (((HBE.out.trans hb3).mono (by rw [HBQ.out]; exact HB1.out.size)))))
        rw [ptxS_true HP.out, HP.out] at HF
        clear hb3
        dsimp only
        go_wp2
        first | go_ret | skip
        exact HF.out
end Go.Proofs.YtegdcmcfeaohhaaGreatDoor

namespace Go.Proofs.YtegdcmcfeaohhaaGreatDoor
open Go Go.RowKit

theorem conv1L (W : World) (z : Int) (x : Nat) (hz : z = 48 + (x : Int)) (g : Nat) (hg : g = W.heap.size) :
    (convert 86 9 (.slice (some ⟨g, 0, none⟩) 1 1)).run Tryz.prog (W.alloc (.cells #[.int .u8 z] 5)) =
      .ok (.string ⟨([chr x] : List UInt8).toArray⟩) (W.alloc (.cells #[.int .u8 z] 5)) := by
  subst hz hg
  exact conv1 W x

set_option maxRecDepth 100000 in
set_option maxHeartbeats 8000000 in
theorem l02dig_any (i : Nat) (h2 : 2 ≤ i) (hi : i ≤ 12) (w : World) (R : Ending → World → Prop)
    (hR : ∀ w', Below w.heap.size w w' → R (.returned (.string ⟨(Lib.decDigits i).toArray⟩)) w') :
    Calls Tryz.prog 108 #[.int .i64 (i : Int)] w R := by
  have HR := Lib.hid hR; clear hR
  have hc : i = 2 ∨ i = 3 ∨ i = 4 ∨ i = 5 ∨ i = 6 ∨ i = 7 ∨ i = 8 ∨ i = 9 ∨ i = 10 ∨ i = 11 ∨ i = 12 := by omega
  clear h2 hi
  rcases hc with rfl | rfl | rfl | rfl | rfl | rfl | rfl | rfl | rfl | rfl | rfl
  · have hd : Lib.decDigits 2 = [chr 2] := by
      rw [Lib.decDigits]; rfl
    have HD := Lib.hid hd
    clear hd
    go_enter Tryz.func108, Tryz.ntmps108
    go_wp2
    rw [conv1L w 50 2 rfl _ rfl]
    go_wp2
    first | go_ret | skip
    have := HR.out _ ((Below.refl w.heap.size w).alloc (Nat.le_refl _) (.cells #[.int .u8 50] 5))
    rw [HD.out] at this
    exact this
  · have hd : Lib.decDigits 3 = [chr 3] := by
      rw [Lib.decDigits]; rfl
    have HD := Lib.hid hd
    clear hd
    go_enter Tryz.func108, Tryz.ntmps108
    go_wp2
    rw [conv1L w 51 3 rfl _ rfl]
    go_wp2
    first | go_ret | skip
    have := HR.out _ ((Below.refl w.heap.size w).alloc (Nat.le_refl _) (.cells #[.int .u8 51] 5))
    rw [HD.out] at this
    exact this
  · have hd : Lib.decDigits 4 = [chr 4] := by
      rw [Lib.decDigits]; rfl
    have HD := Lib.hid hd
    clear hd
    go_enter Tryz.func108, Tryz.ntmps108
    go_wp2
    rw [conv1L w 52 4 rfl _ rfl]
    go_wp2
    first | go_ret | skip
    have := HR.out _ ((Below.refl w.heap.size w).alloc (Nat.le_refl _) (.cells #[.int .u8 52] 5))
    rw [HD.out] at this
    exact this
  · have hd : Lib.decDigits 5 = [chr 5] := by
      rw [Lib.decDigits]; rfl
    have HD := Lib.hid hd
    clear hd
    go_enter Tryz.func108, Tryz.ntmps108
    go_wp2
    rw [conv1L w 53 5 rfl _ rfl]
    go_wp2
    first | go_ret | skip
    have := HR.out _ ((Below.refl w.heap.size w).alloc (Nat.le_refl _) (.cells #[.int .u8 53] 5))
    rw [HD.out] at this
    exact this
  · have hd : Lib.decDigits 6 = [chr 6] := by
      rw [Lib.decDigits]; rfl
    have HD := Lib.hid hd
    clear hd
    go_enter Tryz.func108, Tryz.ntmps108
    go_wp2
    rw [conv1L w 54 6 rfl _ rfl]
    go_wp2
    first | go_ret | skip
    have := HR.out _ ((Below.refl w.heap.size w).alloc (Nat.le_refl _) (.cells #[.int .u8 54] 5))
    rw [HD.out] at this
    exact this
  · have hd : Lib.decDigits 7 = [chr 7] := by
      rw [Lib.decDigits]; rfl
    have HD := Lib.hid hd
    clear hd
    go_enter Tryz.func108, Tryz.ntmps108
    go_wp2
    rw [conv1L w 55 7 rfl _ rfl]
    go_wp2
    first | go_ret | skip
    have := HR.out _ ((Below.refl w.heap.size w).alloc (Nat.le_refl _) (.cells #[.int .u8 55] 5))
    rw [HD.out] at this
    exact this
  · have hd : Lib.decDigits 8 = [chr 8] := by
      rw [Lib.decDigits]; rfl
    have HD := Lib.hid hd
    clear hd
    go_enter Tryz.func108, Tryz.ntmps108
    go_wp2
    rw [conv1L w 56 8 rfl _ rfl]
    go_wp2
    first | go_ret | skip
    have := HR.out _ ((Below.refl w.heap.size w).alloc (Nat.le_refl _) (.cells #[.int .u8 56] 5))
    rw [HD.out] at this
    exact this
  · have hd : Lib.decDigits 9 = [chr 9] := by
      rw [Lib.decDigits]; rfl
    have HD := Lib.hid hd
    clear hd
    go_enter Tryz.func108, Tryz.ntmps108
    go_wp2
    rw [conv1L w 57 9 rfl _ rfl]
    go_wp2
    first | go_ret | skip
    have := HR.out _ ((Below.refl w.heap.size w).alloc (Nat.le_refl _) (.cells #[.int .u8 57] 5))
    rw [HD.out] at this
    exact this
  · have hd : Lib.decDigits 10 = [chr 1, chr 0] := by
      rw [Lib.decDigits, Lib.decDigits]; rfl
    have HD := Lib.hid hd
    clear hd
    go_enter Tryz.func108, Tryz.ntmps108
    go_wp2
    rw [conv1L w 48 0 rfl _ rfl]
    go_wp2
    rw [conv1L (w.alloc (.cells #[.int .u8 48] 5)) 49 1 rfl _ (by simp)]
    go_wp2
    first | go_ret | skip
    have := HR.out _ (((Below.refl w.heap.size w).alloc (Nat.le_refl _) (.cells #[.int .u8 48] 5)).alloc (by simp) (.cells #[.int .u8 49] 5))
    rw [HD.out] at this
    exact this
  · have hd : Lib.decDigits 11 = [chr 1, chr 1] := by
      rw [Lib.decDigits, Lib.decDigits]; rfl
    have HD := Lib.hid hd
    clear hd
    go_enter Tryz.func108, Tryz.ntmps108
    go_wp2
    rw [conv1L w 49 1 rfl _ rfl]
    go_wp2
    rw [conv1L (w.alloc (.cells #[.int .u8 49] 5)) 49 1 rfl _ (by simp)]
    go_wp2
    first | go_ret | skip
    have := HR.out _ (((Below.refl w.heap.size w).alloc (Nat.le_refl _) (.cells #[.int .u8 49] 5)).alloc (by simp) (.cells #[.int .u8 49] 5))
    rw [HD.out] at this
    exact this
  · have hd : Lib.decDigits 12 = [chr 1, chr 2] := by
      rw [Lib.decDigits, Lib.decDigits]; rfl
    have HD := Lib.hid hd
    clear hd
    go_enter Tryz.func108, Tryz.ntmps108
    go_wp2
    rw [conv1L w 50 2 rfl _ rfl]
    go_wp2
    rw [conv1L (w.alloc (.cells #[.int .u8 50] 5)) 49 1 rfl _ (by simp)]
    go_wp2
    first | go_ret | skip
    have := HR.out _ (((Below.refl w.heap.size w).alloc (Nat.le_refl _) (.cells #[.int .u8 50] 5)).alloc (by simp) (.cells #[.int .u8 49] 5))
    rw [HD.out] at this
    exact this
end Go.Proofs.YtegdcmcfeaohhaaGreatDoor

namespace Go.Proofs.YtegdcmcfeaohhaaGreatDoor
open Go Go.RowKit

def PolySRel (w : World) (L : List ByteArray) (v i : Value) (wr : World) : Prop :=
  ∃ (k : Nat) (ii : Int) (O : ByteArray), i = .int .i64 ii ∧ ii = (L.length : Int) - 1 - (k : Int) ∧ k ≤ L.length ∧ v = .string O ∧ O.data.toList = polySt L k ∧ Below w.heap.size w wr

theorem ba_app (a b : ByteArray) : (a ++ b).data.toList = a.data.toList ++ b.data.toList := by
  rw [ByteArray.data_append, Array.toList_append]
theorem ba_size (a : ByteArray) : a.size = a.data.toList.length := by rw [Array.length_toList]; rfl
theorem pre_true {s : ByteArray} (h0 : 0 < s.size) (h : Lib.hasPrefix s.data.toList [45] = true) : s[0] = 45 ∧ (s.extract 1 s.size).data.toList = tNum s.data.toList := by
  unfold tNum Lib.trimPrefix
  rw [if_pos h]
  have e : s.data.toList = s[0] :: s.data.toList.drop 1 := by
    have h1 : 0 < s.data.toList.length := by rw [← ba_size]; exact h0
    rw [show s[0] = s.data.toList[0] from rfl, ← List.drop_eq_getElem_cons h1, List.drop_zero]
  have h2 : s[0] = 45 := by
    unfold Lib.hasPrefix at h
    rw [e] at h
    simp [List.isPrefixOf] at h
    exact h.symm
  refine ⟨h2, ?_⟩
  rw [h2] at e
  have := sign_rest (s := s) (D := s.data.toList.drop 1) (r := []) (by rw [List.append_nil]; exact e)
  rw [List.append_nil] at this
  exact this
theorem pre_false {s : ByteArray} (h0 : 0 < s.size) (h : Lib.hasPrefix s.data.toList [45] = false) : s[0] ≠ 45 ∧ s.data.toList = tNum s.data.toList := by
  unfold tNum Lib.trimPrefix
  rw [if_neg (by rw [h]; decide)]
  refine ⟨fun h2 => ?_, rfl⟩
  have h1 : 0 < s.data.toList.length := by rw [← ba_size]; exact h0
  have e : s.data.toList = s[0] :: s.data.toList.drop 1 := by
    rw [show s[0] = s.data.toList[0] from rfl, ← List.drop_eq_getElem_cons h1, List.drop_zero]
  unfold Lib.hasPrefix at h
  rw [e, h2] at h
  simp [List.isPrefixOf] at h

set_option maxRecDepth 100000 in
set_option maxHeartbeats 16000000 in
theorem l02text_any (v0 : Value) (L : List ByteArray) (w : World) (h0 : TxL w v0 L) (hp : polyB L = true) (R : Ending → World → Prop)
    (hR : ∀ w', Below w.heap.size w w' → R (.returned (.string ⟨(polyTx L).toArray⟩)) w') :
    Calls Tryz.prog 69 #[v0] w R := by
  have HR := Lib.hid hR; clear hR
  obtain ⟨a0, n, c0, rfl, hnl, _, h0'⟩ := h0.open
  have H0 := Lib.hid h0'
  have HNL := Lib.hid hnl
  have HP := Lib.hid hp
  have HK := Lib.hid (polyB_nums hp)
  have hn13 : n ≤ 13 := by have := HNL.out; have := HK.out.1; omega
  have hw0 : IntKind.i64.wrap ((n : Int) - 1) = (n : Int) - 1 := IntWalk.i64_in _ (by omega)
  have HST : Hid (PolySRel w L (.string ⟨#[]⟩) (.int .i64 ((n : Int) - 1)) w) := Lib.hid ⟨0, _, _, rfl, by rw [HNL.out]; simp, Nat.zero_le _, rfl, rfl, Below.refl _ _⟩
  clear h0 h0' hnl hp
  go_enter Tryz.func69, Tryz.ntmps69
  go_wp2
  clear hw0
  go_loopw [3, 4] (fun v i wr => PolySRel w L v i wr) (fun _ i _ => (intOf i + 1).toNat)
  case atStart => exact HST.out
  case round =>
    clear HST
    obtain ⟨k, ii, O, rfl, hii, hk, rfl, hO, hbel⟩ := hrel
    have HO := Lib.hid hO
    have HBE := Lib.hid hbel
    by_cases hkn : k < n
    · obtain ⟨j, hj⟩ : ∃ j, j = n - 1 - k := ⟨_, rfl⟩
      obtain rfl : ii = (j : Int) := by rw [← HNL.out] at hii; omega
      have hjL : L.length - 1 - k = j := by rw [← HNL.out]; exact hj.symm
      obtain ⟨s, hs⟩ : ∃ s, L[j]? = some s := ⟨_, List.getElem?_eq_getElem (by rw [← HNL.out]; omega)⟩
      have HS : Hid (L[L.length - 1 - k]? = some s) := Lib.hid (by rw [hjL]; exact hs)
      have HJL := Lib.hid hjL
      have hnum := List.all_eq_true.1 HK.out.2 s (List.mem_of_getElem? hs)
      have hs0 : 0 < s.size := by rw [ba_size]; exact isNum_pos hnum
      have hs1 : s.size ≤ 130 := by rw [ba_size]; exact isNum_le hnum
      have hO1 : O.size ≤ 3000 := by
        have h1 := polySt_le HK.out.1 (fun t ht => isNum_le (List.all_eq_true.1 HK.out.2 t ht)) k hk
        rw [ba_size, HO.out]
        have := HK.out.1
        omega
      obtain ⟨b2, off, rfl, hb2, hcell⟩ := TxL.at H0.out j s hs
      rw [← hbel.cell (p := ⟨b2, off + j, none⟩) hb2] at hcell
      obtain ⟨jj, hjj⟩ : ∃ jj, jj = (j : Int) - 1 := ⟨_, rfl⟩
      have hw1 : IntKind.i64.wrap ((j : Int) - 1) = jj := by rw [IntWalk.i64_in _ (by omega)]; exact hjj.symm
      have HJJ : Hid (jj = (L.length : Int) - 1 - ((k + 1 : Nat) : Int)) := Lib.hid (by rw [← HNL.out]; omega)
      have HKL := Lib.hid (show k + 1 ≤ L.length ∧ j ≤ 12 by have := HNL.out; omega)
      have hj0 : (0 : Int) ≤ (j : Int) := by omega
      have hj1 : (j : Int) < (n : Int) := by omega
      have HJ := Lib.hid (show jj + 1 = (j : Int) by omega)
      by_cases h48 : s.data.toList = [48]
      · have e9 : (s.toList == [48]) = true := by rw [Lib.toList_data, h48]; rfl
        have HNEW : Hid (O.data.toList = polySt L (k + 1)) := Lib.hid (by rw [polySt_zero HS.out h48]; exact HO.out)
        clear hj hs hnum hb2 hii hk hO hbel hkn hjL hjj h48 hs0 hs1 hO1
        go_wp2
        go_roundw
        case rel => exact ⟨k + 1, _, O, rfl, HJJ.out, HKL.out.1, rfl, HNEW.out, HBE.out⟩
        case measure => simp [intOf]; have := HJ.out; omega
      · have e9 : (s.toList == [48]) = false := by rw [Lib.toList_data, beq_eq_false_iff_ne]; exact h48
        have HSTEP : Hid (polySt L (k + 1) = tStep (polySt L k) s.data.toList j) := Lib.hid (by rw [polySt_step HS.out h48, HJL.out])
        have hOB : (O.toList == []) = decide ((polySt L k).length = 0) := by
          rw [Lib.toList_data, HO.out]
          cases polySt L k <;> rfl
        obtain ⟨zq, hzq⟩ : ∃ zq, zq = decide ((polySt L k).length = 0) := ⟨_, rfl⟩
        have HZQ := Lib.hid hzq
        rw [← hzq] at hOB
        clear hj hs hnum hb2 hii hk hO hbel hkn hjL hjj h48 hzq
        cases hpre : Lib.hasPrefix s.data.toList [45] with
        | true =>
          obtain ⟨q1, q2⟩ := pre_true hs0 hpre
          have HSG : Hid (tSign (polySt L k) s.data.toList = [45]) := Lib.hid (by unfold tSign; rw [if_pos hpre])
          have HNUM := Lib.hid q2
          have e45 : ((s[0].toNat : Int) == 45) = true := by rw [q1]; rfl
          clear hpre q1 q2
          have z1 : ¬ (9223372036854775807 < O.size + 1) := by omega
          by_cases h49 : tNum s.data.toList = [49]
          · have e8 : ((s.extract 1 s.size).toList == [49]) = true := by rw [Lib.toList_data, HNUM.out, h49]; rfl
            by_cases hz : j = 0
            · have HM : Hid (tMid s.data.toList j = tNum s.data.toList) := Lib.hid (by unfold tMid; rw [if_pos (.inr hz)])
              have e7 : ((j : Int) == 0) = true := by rw [hz]; rfl
              have z2 : ¬ (9223372036854775807 < O.size + 1 + (s.size - 1)) := by omega
              have HE : Hid (tEnd j = []) := Lib.hid (by unfold tEnd; rw [if_pos hz])
              have c1 : ¬ (0 : Int) < (j : Int) := by omega
              have c2 : ¬ (1 : Int) < (j : Int) := by omega
              clear hz h49
              go_wp2
              go_roundw
              case rel => exact ⟨k + 1, _, _, rfl, HJJ.out, HKL.out.1, rfl, by rw [HSTEP.out]; unfold tStep; rw [HSG.out, HM.out, HE.out, ← HO.out]; (try rw [← HNUM.out]); simp [ba_app], HBE.out⟩
              case measure => simp [intOf]; have := HJ.out; omega
            · have HM : Hid (tMid s.data.toList j = []) := Lib.hid (by unfold tMid; rw [if_neg (by rintro (h | h); exact h h49; exact hz h)])
              have e7 : ((j : Int) == 0) = false := by simp; omega
              by_cases hz1 : j = 1
              · skip
                have HE : Hid (tEnd j = [120]) := Lib.hid (by unfold tEnd; rw [if_neg hz, if_pos hz1])
                have c1 : (0 : Int) < (j : Int) := by omega
                have c2 : ¬ (1 : Int) < (j : Int) := by omega
                have z3 : ¬ (9223372036854775807 < O.size + 1 + 1) := by omega
                clear hz hz1 h49
                go_wp2
                go_roundw
                case rel => exact ⟨k + 1, _, _, rfl, HJJ.out, HKL.out.1, rfl, by rw [HSTEP.out]; unfold tStep; rw [HSG.out, HM.out, HE.out, ← HO.out]; (try rw [← HNUM.out]); simp [ba_app], HBE.out⟩
                case measure => simp [intOf]; have := HJ.out; omega
              · skip
                have HE : Hid (tEnd j = [120, 94] ++ Lib.decDigits j) := Lib.hid (by unfold tEnd; rw [if_neg hz, if_neg hz1])
                have c1 : (0 : Int) < (j : Int) := by omega
                have c2 : (1 : Int) < (j : Int) := by omega
                have z3 : ¬ (9223372036854775807 < O.size + 1 + 1) := by omega
                have HJ2 := Lib.hid (show 2 ≤ j by omega)
                have HZZ := Lib.hid (show O.size + 1 + 1 ≤ 10000 by omega)
                clear hz hz1 h49
                go_wp2_with fail
                refine l02dig_any j HJ2.out HKL.out.2 _ _ ?_
                intro w3 hb3
                have HB3 := Lib.hid (HBE.out.trans (hb3.mono HBE.out.size))
                obtain ⟨D, hD⟩ : ∃ D : ByteArray, D = ⟨(Lib.decDigits j).toArray⟩ := ⟨_, rfl⟩
                have HDL : Hid (D.data.toList = Lib.decDigits j) := Lib.hid (by rw [hD])
                have hDZ : D.size ≤ 2 := by rw [hD]; have := decDigits_le j (by have := HKL.out; omega); simpa [ByteArray.size] using this
                rw [← hD]
                have z4 : ¬ (9223372036854775807 < 1 + D.size) := by omega
                have z5 : ¬ (9223372036854775807 < O.size + 1 + 1 + (1 + D.size)) := by have := HZZ.out; omega
                clear hD hDZ hb3
                dsimp only
                go_wp2
                go_roundw
                case rel => exact ⟨k + 1, _, _, rfl, HJJ.out, HKL.out.1, rfl, by rw [HSTEP.out]; unfold tStep; rw [HSG.out, HM.out, HE.out, ← HO.out, ← HDL.out]; (try rw [← HNUM.out]); simp [ba_app], HB3.out⟩
                case measure => simp [intOf]; have := HJ.out; omega
          · have e8 : ((s.extract 1 s.size).toList == [49]) = false := by rw [Lib.toList_data, HNUM.out, beq_eq_false_iff_ne]; exact h49
            have HM : Hid (tMid s.data.toList j = tNum s.data.toList) := Lib.hid (by unfold tMid; rw [if_pos (.inl h49)])
            by_cases hz : j = 0
            · skip
              have z2 : ¬ (9223372036854775807 < O.size + 1 + (s.size - 1)) := by omega
              have HE : Hid (tEnd j = []) := Lib.hid (by unfold tEnd; rw [if_pos hz])
              have c1 : ¬ (0 : Int) < (j : Int) := by omega
              have c2 : ¬ (1 : Int) < (j : Int) := by omega
              clear hz h49
              go_wp2
              go_roundw
              case rel => exact ⟨k + 1, _, _, rfl, HJJ.out, HKL.out.1, rfl, by rw [HSTEP.out]; unfold tStep; rw [HSG.out, HM.out, HE.out, ← HO.out]; (try rw [← HNUM.out]); simp [ba_app], HBE.out⟩
              case measure => simp [intOf]; have := HJ.out; omega
            · by_cases hz1 : j = 1
              · skip
                have z2 : ¬ (9223372036854775807 < O.size + 1 + (s.size - 1)) := by omega
                have HE : Hid (tEnd j = [120]) := Lib.hid (by unfold tEnd; rw [if_neg hz, if_pos hz1])
                have c1 : (0 : Int) < (j : Int) := by omega
                have c2 : ¬ (1 : Int) < (j : Int) := by omega
                have z3 : ¬ (9223372036854775807 < O.size + 1 + (s.size - 1) + 1) := by omega
                clear hz hz1 h49
                go_wp2
                go_roundw
                case rel => exact ⟨k + 1, _, _, rfl, HJJ.out, HKL.out.1, rfl, by rw [HSTEP.out]; unfold tStep; rw [HSG.out, HM.out, HE.out, ← HO.out]; (try rw [← HNUM.out]); simp [ba_app], HBE.out⟩
                case measure => simp [intOf]; have := HJ.out; omega
              · skip
                have z2 : ¬ (9223372036854775807 < O.size + 1 + (s.size - 1)) := by omega
                have HE : Hid (tEnd j = [120, 94] ++ Lib.decDigits j) := Lib.hid (by unfold tEnd; rw [if_neg hz, if_neg hz1])
                have c1 : (0 : Int) < (j : Int) := by omega
                have c2 : (1 : Int) < (j : Int) := by omega
                have z3 : ¬ (9223372036854775807 < O.size + 1 + (s.size - 1) + 1) := by omega
                have HJ2 := Lib.hid (show 2 ≤ j by omega)
                have HZZ := Lib.hid (show O.size + 1 + (s.size - 1) + 1 ≤ 10000 by omega)
                clear hz hz1 h49
                go_wp2_with fail
                refine l02dig_any j HJ2.out HKL.out.2 _ _ ?_
                intro w3 hb3
                have HB3 := Lib.hid (HBE.out.trans (hb3.mono HBE.out.size))
                obtain ⟨D, hD⟩ : ∃ D : ByteArray, D = ⟨(Lib.decDigits j).toArray⟩ := ⟨_, rfl⟩
                have HDL : Hid (D.data.toList = Lib.decDigits j) := Lib.hid (by rw [hD])
                have hDZ : D.size ≤ 2 := by rw [hD]; have := decDigits_le j (by have := HKL.out; omega); simpa [ByteArray.size] using this
                rw [← hD]
                have z4 : ¬ (9223372036854775807 < 1 + D.size) := by omega
                have z5 : ¬ (9223372036854775807 < O.size + 1 + (s.size - 1) + 1 + (1 + D.size)) := by have := HZZ.out; omega
                clear hD hDZ hb3
                dsimp only
                go_wp2
                go_roundw
                case rel => exact ⟨k + 1, _, _, rfl, HJJ.out, HKL.out.1, rfl, by rw [HSTEP.out]; unfold tStep; rw [HSG.out, HM.out, HE.out, ← HO.out, ← HDL.out]; (try rw [← HNUM.out]); simp [ba_app], HB3.out⟩
                case measure => simp [intOf]; have := HJ.out; omega
        | false =>
          obtain ⟨q1, q2⟩ := pre_false hs0 hpre
          have HNUM := Lib.hid q2
          have e45 : ((s[0].toNat : Int) == 45) = false := by
            rw [beq_eq_false_iff_ne]; intro h; exact q1 (UInt8.toNat_inj.1 (by exact_mod_cast h))
          cases zq with
          | true =>
            have HSG : Hid (tSign (polySt L k) s.data.toList = []) := Lib.hid (by unfold tSign; rw [if_neg (by rw [hpre]; decide), if_pos (of_decide_eq_true HZQ.out.symm)])
            clear hpre q1 q2
            have z1 : ¬ (9223372036854775807 < O.size + 1) := by omega
            by_cases h49 : tNum s.data.toList = [49]
            · have e8 : (s.toList == [49]) = true := by rw [Lib.toList_data, HNUM.out, h49]; rfl
              by_cases hz : j = 0
              · have HM : Hid (tMid s.data.toList j = tNum s.data.toList) := Lib.hid (by unfold tMid; rw [if_pos (.inr hz)])
                have e7 : ((j : Int) == 0) = true := by rw [hz]; rfl
                have z2 : ¬ (9223372036854775807 < O.size + s.size) := by omega
                have HE : Hid (tEnd j = []) := Lib.hid (by unfold tEnd; rw [if_pos hz])
                have c1 : ¬ (0 : Int) < (j : Int) := by omega
                have c2 : ¬ (1 : Int) < (j : Int) := by omega
                clear hz h49
                go_wp2
                go_roundw
                case rel => exact ⟨k + 1, _, _, rfl, HJJ.out, HKL.out.1, rfl, by rw [HSTEP.out]; unfold tStep; rw [HSG.out, HM.out, HE.out, ← HO.out]; (try rw [← HNUM.out]); simp [ba_app], HBE.out⟩
                case measure => simp [intOf]; have := HJ.out; omega
              · have HM : Hid (tMid s.data.toList j = []) := Lib.hid (by unfold tMid; rw [if_neg (by rintro (h | h); exact h h49; exact hz h)])
                have e7 : ((j : Int) == 0) = false := by simp; omega
                by_cases hz1 : j = 1
                · skip
                  have HE : Hid (tEnd j = [120]) := Lib.hid (by unfold tEnd; rw [if_neg hz, if_pos hz1])
                  have c1 : (0 : Int) < (j : Int) := by omega
                  have c2 : ¬ (1 : Int) < (j : Int) := by omega
                  have z3 : ¬ (9223372036854775807 < O.size + 1) := by omega
                  clear hz hz1 h49
                  go_wp2
                  go_roundw
                  case rel => exact ⟨k + 1, _, _, rfl, HJJ.out, HKL.out.1, rfl, by rw [HSTEP.out]; unfold tStep; rw [HSG.out, HM.out, HE.out, ← HO.out]; (try rw [← HNUM.out]); simp [ba_app], HBE.out⟩
                  case measure => simp [intOf]; have := HJ.out; omega
                · skip
                  have HE : Hid (tEnd j = [120, 94] ++ Lib.decDigits j) := Lib.hid (by unfold tEnd; rw [if_neg hz, if_neg hz1])
                  have c1 : (0 : Int) < (j : Int) := by omega
                  have c2 : (1 : Int) < (j : Int) := by omega
                  have z3 : ¬ (9223372036854775807 < O.size + 1) := by omega
                  have HJ2 := Lib.hid (show 2 ≤ j by omega)
                  have HZZ := Lib.hid (show O.size + 1 ≤ 10000 by omega)
                  clear hz hz1 h49
                  go_wp2_with fail
                  refine l02dig_any j HJ2.out HKL.out.2 _ _ ?_
                  intro w3 hb3
                  have HB3 := Lib.hid (HBE.out.trans (hb3.mono HBE.out.size))
                  obtain ⟨D, hD⟩ : ∃ D : ByteArray, D = ⟨(Lib.decDigits j).toArray⟩ := ⟨_, rfl⟩
                  have HDL : Hid (D.data.toList = Lib.decDigits j) := Lib.hid (by rw [hD])
                  have hDZ : D.size ≤ 2 := by rw [hD]; have := decDigits_le j (by have := HKL.out; omega); simpa [ByteArray.size] using this
                  rw [← hD]
                  have z4 : ¬ (9223372036854775807 < 1 + D.size) := by omega
                  have z5 : ¬ (9223372036854775807 < O.size + 1 + (1 + D.size)) := by have := HZZ.out; omega
                  clear hD hDZ hb3
                  dsimp only
                  go_wp2
                  go_roundw
                  case rel => exact ⟨k + 1, _, _, rfl, HJJ.out, HKL.out.1, rfl, by rw [HSTEP.out]; unfold tStep; rw [HSG.out, HM.out, HE.out, ← HO.out, ← HDL.out]; (try rw [← HNUM.out]); simp [ba_app], HB3.out⟩
                  case measure => simp [intOf]; have := HJ.out; omega
            · have e8 : (s.toList == [49]) = false := by rw [Lib.toList_data, HNUM.out, beq_eq_false_iff_ne]; exact h49
              have HM : Hid (tMid s.data.toList j = tNum s.data.toList) := Lib.hid (by unfold tMid; rw [if_pos (.inl h49)])
              by_cases hz : j = 0
              · skip
                have z2 : ¬ (9223372036854775807 < O.size + s.size) := by omega
                have HE : Hid (tEnd j = []) := Lib.hid (by unfold tEnd; rw [if_pos hz])
                have c1 : ¬ (0 : Int) < (j : Int) := by omega
                have c2 : ¬ (1 : Int) < (j : Int) := by omega
                clear hz h49
                go_wp2
                go_roundw
                case rel => exact ⟨k + 1, _, _, rfl, HJJ.out, HKL.out.1, rfl, by rw [HSTEP.out]; unfold tStep; rw [HSG.out, HM.out, HE.out, ← HO.out]; (try rw [← HNUM.out]); simp [ba_app], HBE.out⟩
                case measure => simp [intOf]; have := HJ.out; omega
              · by_cases hz1 : j = 1
                · skip
                  have z2 : ¬ (9223372036854775807 < O.size + s.size) := by omega
                  have HE : Hid (tEnd j = [120]) := Lib.hid (by unfold tEnd; rw [if_neg hz, if_pos hz1])
                  have c1 : (0 : Int) < (j : Int) := by omega
                  have c2 : ¬ (1 : Int) < (j : Int) := by omega
                  have z3 : ¬ (9223372036854775807 < O.size + s.size + 1) := by omega
                  clear hz hz1 h49
                  go_wp2
                  go_roundw
                  case rel => exact ⟨k + 1, _, _, rfl, HJJ.out, HKL.out.1, rfl, by rw [HSTEP.out]; unfold tStep; rw [HSG.out, HM.out, HE.out, ← HO.out]; (try rw [← HNUM.out]); simp [ba_app], HBE.out⟩
                  case measure => simp [intOf]; have := HJ.out; omega
                · skip
                  have z2 : ¬ (9223372036854775807 < O.size + s.size) := by omega
                  have HE : Hid (tEnd j = [120, 94] ++ Lib.decDigits j) := Lib.hid (by unfold tEnd; rw [if_neg hz, if_neg hz1])
                  have c1 : (0 : Int) < (j : Int) := by omega
                  have c2 : (1 : Int) < (j : Int) := by omega
                  have z3 : ¬ (9223372036854775807 < O.size + s.size + 1) := by omega
                  have HJ2 := Lib.hid (show 2 ≤ j by omega)
                  have HZZ := Lib.hid (show O.size + s.size + 1 ≤ 10000 by omega)
                  clear hz hz1 h49
                  go_wp2_with fail
                  refine l02dig_any j HJ2.out HKL.out.2 _ _ ?_
                  intro w3 hb3
                  have HB3 := Lib.hid (HBE.out.trans (hb3.mono HBE.out.size))
                  obtain ⟨D, hD⟩ : ∃ D : ByteArray, D = ⟨(Lib.decDigits j).toArray⟩ := ⟨_, rfl⟩
                  have HDL : Hid (D.data.toList = Lib.decDigits j) := Lib.hid (by rw [hD])
                  have hDZ : D.size ≤ 2 := by rw [hD]; have := decDigits_le j (by have := HKL.out; omega); simpa [ByteArray.size] using this
                  rw [← hD]
                  have z4 : ¬ (9223372036854775807 < 1 + D.size) := by omega
                  have z5 : ¬ (9223372036854775807 < O.size + s.size + 1 + (1 + D.size)) := by have := HZZ.out; omega
                  clear hD hDZ hb3
                  dsimp only
                  go_wp2
                  go_roundw
                  case rel => exact ⟨k + 1, _, _, rfl, HJJ.out, HKL.out.1, rfl, by rw [HSTEP.out]; unfold tStep; rw [HSG.out, HM.out, HE.out, ← HO.out, ← HDL.out]; (try rw [← HNUM.out]); simp [ba_app], HB3.out⟩
                  case measure => simp [intOf]; have := HJ.out; omega
          | false =>
            have HSG : Hid (tSign (polySt L k) s.data.toList = [43]) := Lib.hid (by unfold tSign; rw [if_neg (by rw [hpre]; decide), if_neg (of_decide_eq_false HZQ.out.symm)])
            clear hpre q1 q2
            have z1 : ¬ (9223372036854775807 < O.size + 1) := by omega
            by_cases h49 : tNum s.data.toList = [49]
            · have e8 : (s.toList == [49]) = true := by rw [Lib.toList_data, HNUM.out, h49]; rfl
              by_cases hz : j = 0
              · have HM : Hid (tMid s.data.toList j = tNum s.data.toList) := Lib.hid (by unfold tMid; rw [if_pos (.inr hz)])
                have e7 : ((j : Int) == 0) = true := by rw [hz]; rfl
                have z2 : ¬ (9223372036854775807 < O.size + 1 + s.size) := by omega
                have HE : Hid (tEnd j = []) := Lib.hid (by unfold tEnd; rw [if_pos hz])
                have c1 : ¬ (0 : Int) < (j : Int) := by omega
                have c2 : ¬ (1 : Int) < (j : Int) := by omega
                clear hz h49
                go_wp2
                go_roundw
                case rel => exact ⟨k + 1, _, _, rfl, HJJ.out, HKL.out.1, rfl, by rw [HSTEP.out]; unfold tStep; rw [HSG.out, HM.out, HE.out, ← HO.out]; (try rw [← HNUM.out]); simp [ba_app], HBE.out⟩
                case measure => simp [intOf]; have := HJ.out; omega
              · have HM : Hid (tMid s.data.toList j = []) := Lib.hid (by unfold tMid; rw [if_neg (by rintro (h | h); exact h h49; exact hz h)])
                have e7 : ((j : Int) == 0) = false := by simp; omega
                by_cases hz1 : j = 1
                · skip
                  have HE : Hid (tEnd j = [120]) := Lib.hid (by unfold tEnd; rw [if_neg hz, if_pos hz1])
                  have c1 : (0 : Int) < (j : Int) := by omega
                  have c2 : ¬ (1 : Int) < (j : Int) := by omega
                  have z3 : ¬ (9223372036854775807 < O.size + 1 + 1) := by omega
                  clear hz hz1 h49
                  go_wp2
                  go_roundw
                  case rel => exact ⟨k + 1, _, _, rfl, HJJ.out, HKL.out.1, rfl, by rw [HSTEP.out]; unfold tStep; rw [HSG.out, HM.out, HE.out, ← HO.out]; (try rw [← HNUM.out]); simp [ba_app], HBE.out⟩
                  case measure => simp [intOf]; have := HJ.out; omega
                · skip
                  have HE : Hid (tEnd j = [120, 94] ++ Lib.decDigits j) := Lib.hid (by unfold tEnd; rw [if_neg hz, if_neg hz1])
                  have c1 : (0 : Int) < (j : Int) := by omega
                  have c2 : (1 : Int) < (j : Int) := by omega
                  have z3 : ¬ (9223372036854775807 < O.size + 1 + 1) := by omega
                  have HJ2 := Lib.hid (show 2 ≤ j by omega)
                  have HZZ := Lib.hid (show O.size + 1 + 1 ≤ 10000 by omega)
                  clear hz hz1 h49
                  go_wp2_with fail
                  refine l02dig_any j HJ2.out HKL.out.2 _ _ ?_
                  intro w3 hb3
                  have HB3 := Lib.hid (HBE.out.trans (hb3.mono HBE.out.size))
                  obtain ⟨D, hD⟩ : ∃ D : ByteArray, D = ⟨(Lib.decDigits j).toArray⟩ := ⟨_, rfl⟩
                  have HDL : Hid (D.data.toList = Lib.decDigits j) := Lib.hid (by rw [hD])
                  have hDZ : D.size ≤ 2 := by rw [hD]; have := decDigits_le j (by have := HKL.out; omega); simpa [ByteArray.size] using this
                  rw [← hD]
                  have z4 : ¬ (9223372036854775807 < 1 + D.size) := by omega
                  have z5 : ¬ (9223372036854775807 < O.size + 1 + 1 + (1 + D.size)) := by have := HZZ.out; omega
                  clear hD hDZ hb3
                  dsimp only
                  go_wp2
                  go_roundw
                  case rel => exact ⟨k + 1, _, _, rfl, HJJ.out, HKL.out.1, rfl, by rw [HSTEP.out]; unfold tStep; rw [HSG.out, HM.out, HE.out, ← HO.out, ← HDL.out]; (try rw [← HNUM.out]); simp [ba_app], HB3.out⟩
                  case measure => simp [intOf]; have := HJ.out; omega
            · have e8 : (s.toList == [49]) = false := by rw [Lib.toList_data, HNUM.out, beq_eq_false_iff_ne]; exact h49
              have HM : Hid (tMid s.data.toList j = tNum s.data.toList) := Lib.hid (by unfold tMid; rw [if_pos (.inl h49)])
              by_cases hz : j = 0
              · skip
                have z2 : ¬ (9223372036854775807 < O.size + 1 + s.size) := by omega
                have HE : Hid (tEnd j = []) := Lib.hid (by unfold tEnd; rw [if_pos hz])
                have c1 : ¬ (0 : Int) < (j : Int) := by omega
                have c2 : ¬ (1 : Int) < (j : Int) := by omega
                clear hz h49
                go_wp2
                go_roundw
                case rel => exact ⟨k + 1, _, _, rfl, HJJ.out, HKL.out.1, rfl, by rw [HSTEP.out]; unfold tStep; rw [HSG.out, HM.out, HE.out, ← HO.out]; (try rw [← HNUM.out]); simp [ba_app], HBE.out⟩
                case measure => simp [intOf]; have := HJ.out; omega
              · by_cases hz1 : j = 1
                · skip
                  have z2 : ¬ (9223372036854775807 < O.size + 1 + s.size) := by omega
                  have HE : Hid (tEnd j = [120]) := Lib.hid (by unfold tEnd; rw [if_neg hz, if_pos hz1])
                  have c1 : (0 : Int) < (j : Int) := by omega
                  have c2 : ¬ (1 : Int) < (j : Int) := by omega
                  have z3 : ¬ (9223372036854775807 < O.size + 1 + s.size + 1) := by omega
                  clear hz hz1 h49
                  go_wp2
                  go_roundw
                  case rel => exact ⟨k + 1, _, _, rfl, HJJ.out, HKL.out.1, rfl, by rw [HSTEP.out]; unfold tStep; rw [HSG.out, HM.out, HE.out, ← HO.out]; (try rw [← HNUM.out]); simp [ba_app], HBE.out⟩
                  case measure => simp [intOf]; have := HJ.out; omega
                · skip
                  have z2 : ¬ (9223372036854775807 < O.size + 1 + s.size) := by omega
                  have HE : Hid (tEnd j = [120, 94] ++ Lib.decDigits j) := Lib.hid (by unfold tEnd; rw [if_neg hz, if_neg hz1])
                  have c1 : (0 : Int) < (j : Int) := by omega
                  have c2 : (1 : Int) < (j : Int) := by omega
                  have z3 : ¬ (9223372036854775807 < O.size + 1 + s.size + 1) := by omega
                  have HJ2 := Lib.hid (show 2 ≤ j by omega)
                  have HZZ := Lib.hid (show O.size + 1 + s.size + 1 ≤ 10000 by omega)
                  clear hz hz1 h49
                  go_wp2_with fail
                  refine l02dig_any j HJ2.out HKL.out.2 _ _ ?_
                  intro w3 hb3
                  have HB3 := Lib.hid (HBE.out.trans (hb3.mono HBE.out.size))
                  obtain ⟨D, hD⟩ : ∃ D : ByteArray, D = ⟨(Lib.decDigits j).toArray⟩ := ⟨_, rfl⟩
                  have HDL : Hid (D.data.toList = Lib.decDigits j) := Lib.hid (by rw [hD])
                  have hDZ : D.size ≤ 2 := by rw [hD]; have := decDigits_le j (by have := HKL.out; omega); simpa [ByteArray.size] using this
                  rw [← hD]
                  have z4 : ¬ (9223372036854775807 < 1 + D.size) := by omega
                  have z5 : ¬ (9223372036854775807 < O.size + 1 + s.size + 1 + (1 + D.size)) := by have := HZZ.out; omega
                  clear hD hDZ hb3
                  dsimp only
                  go_wp2
                  go_roundw
                  case rel => exact ⟨k + 1, _, _, rfl, HJJ.out, HKL.out.1, rfl, by rw [HSTEP.out]; unfold tStep; rw [HSG.out, HM.out, HE.out, ← HO.out, ← HDL.out]; (try rw [← HNUM.out]); simp [ba_app], HB3.out⟩
                  case measure => simp [intOf]; have := HJ.out; omega
    · obtain rfl : ii = -1 := by rw [← HNL.out] at hii hk; omega
      have hkL : k = L.length := by rw [← HNL.out]; rw [← HNL.out] at hk; omega
      by_cases hn0 : L.length = 0
      · have hO0 : O = ⟨#[]⟩ := by
          have h9 : O.data.toList = [] := by rw [HO.out, hkL, hn0]; rfl
          cases O with | mk d => simp at h9; rw [h9]
        have HTX : Hid (polyTx L = [48]) := Lib.hid (by unfold polyTx; rw [if_pos hn0])
        have e5 : (O.toList == []) = true := by rw [hO0, Lib.toList_data]; rfl
        have HF := Lib.hid (HR.out wr HBE.out)
        rw [HTX.out] at HF
        clear hii hk hO hbel hkn hkL hn0 hO0
        go_wp2
        first | go_ret | skip
        exact HF.out
      · have hpos := polySt_pos HP.out k (by omega) (by omega)
        have e5 : (O.toList == []) = false := by
          rw [Lib.toList_data, beq_eq_false_iff_ne, HO.out]
          intro h; rw [h] at hpos; simp at hpos
        have HTX : Hid (O = ⟨(polyTx L).toArray⟩) := Lib.hid (by
          have h9 : O.data.toList = polyTx L := by rw [HO.out]; unfold polyTx; rw [if_neg hn0, hkL]
          cases O with | mk d => simp at h9; rw [← h9])
        have HF := Lib.hid (HR.out wr HBE.out)
        rw [← HTX.out] at HF
        clear hii hk hO hbel hkn hkL hn0 hpos
        go_wp2
        first | go_ret | skip
        exact HF.out
end Go.Proofs.YtegdcmcfeaohhaaGreatDoor

namespace Go.Proofs.YtegdcmcfeaohhaaGreatDoor
open Go Go.RowKit

set_option maxRecDepth 100000 in
set_option maxHeartbeats 2000000 in
theorem spec_ptx (v0 : Value) (L : List ByteArray) (w : World) (h0 : TxL w v0 L) (hn0 : L.length ≤ 1048576) (hs0 : ∀ s ∈ L, s.size ≤ 1048576) (R : Ending → World → Prop)
    (hR : ∀ w', Below w.heap.size w w' → R (.returned (.tuple #[.string (ptxS L), .bool (polyB L)])) w') :
    Calls Tryz.prog 31 #[v0] w R := by
  have HR := Lib.hid hR; clear hR
  obtain ⟨a0, n, c0, rfl, h0'⟩ := h0.op
  have H0 := Lib.hid h0'
  have HN := Lib.hid (And.intro hn0 hs0)
  clear h0 h0' hn0 hs0
  go_enter Tryz.func31, Tryz.ntmps31
  go_wp2_with fail
  refine l02is_any _ L _ H0.out HN.out.1 HN.out.2 _ ?_
  intro w1 hb1
  have HB1 := Lib.hid hb1
  clear hb1
  cases hp : polyB L with
  | false =>
    have HF := Lib.hid (HR.out w1 HB1.out)
    rw [ptxS_false hp, hp] at HF
    clear hp
    dsimp only
    go_wp2
    first | go_ret | skip
    exact HF.out
  | true =>
    have HP := Lib.hid hp
    clear hp
    dsimp only
    go_wp2_with fail
    refine l02text_any _ L _ (TxL.later H0.out HB1.out (Nat.le_refl _)) HP.out _ ?_
    intro w2 hb2
    have HF := Lib.hid (HR.out w2 (HB1.out.trans (hb2.mono HB1.out.size)))
    rw [ptxS_true HP.out, HP.out] at HF
    obtain ⟨S, hS⟩ : ∃ S : ByteArray, S = ⟨(polyTx L).toArray⟩ := ⟨_, rfl⟩
    rw [← hS] at HF ⊢
    clear hb2 hS
    dsimp only
    go_wp2
    first | go_ret | skip
    exact HF.out

set_option maxRecDepth 100000 in
set_option maxHeartbeats 4000000 in
theorem law_polyText (v0 : Value) (L0 : List ByteArray) (w : World) (hE : Env w) (htab : Lib.TabIs Tryz.prog w "internal/strconv.uint64pow10" .u64 Lib.pow10Tab) (h0 : TxL w v0 L0) (hn0 : L0.length ≤ maxLen) (hs0 : ∀ s ∈ L0, s.size ≤ maxLen) (R : Ending → World → Prop)
    (hR : ∀ w', Below w.heap.size w w' → R (.returned (.bool true)) w') :
    Calls Tryz.prog 9 #[v0] w R := by
  have HR := Lib.hid hR; clear hR
  have HE := Lib.hid hE; clear hE
  clear htab
  obtain ⟨ao0, no0, co0, rfl, hh0⟩ := h0.op
  have HH0 := Lib.hid hh0
  have HN0 := Lib.hid (And.intro hn0 hs0)
  clear h0 hh0 hn0 hs0
  go_enter Tryz.func9, Tryz.ntmps9
  go_wp2_with fail
  refine szT_any _ L0 _ 1048576 HH0.out HN0.out.1 HN0.out.2 (by omega) _ ?_ ?_
  rotate_left
  · intro ht
    have HF := Lib.hid (HR.out w (Below.refl _ _))
    clear ht
    dsimp only
    go_wp2
    first | go_ret | skip
    exact HF.out
  intro ht0
  obtain ⟨m0, hm0⟩ : ∃ m0 : Nat, m0 = 1048576 - tot L0 := ⟨_, rfl⟩
  have HP0 := Lib.hid (sizes_each (L := L0) (Nat.le_trans ht0 (by omega)))
  rw [← hm0]
  have hz0 : ¬ ((m0 : Int) < 0) := by omega
  have H9 := Lib.hid (show L0.length ≤ 281474976710656 by have := HP0.out.1; omega)
  clear hm0 ht0
  dsimp only
  go_wp2_with fail
  refine toT_any _ L0 _ HH0.out HP0.out.1 _ ?_
  intro v1 w1 hv1 hb1
  obtain ⟨a1, n1, c1, rfl, hv1'⟩ := hv1.op
  have HV1 := Lib.hid hv1'
  have HB1 := Lib.hid hb1
  clear hb1 hv1 hv1'
  dsimp only
  go_wp2_with fail
  refine spec_ptx _ L0 _ HV1.out HP0.out.1 HP0.out.2 _ ?_
  intro w2 hb2
  obtain ⟨x, hx⟩ : ∃ x, x = polyB L0 := ⟨_, rfl⟩
  obtain ⟨S, hS⟩ : ∃ S, S = ptxS L0 := ⟨_, rfl⟩
  have HX := Lib.hid hx
  have HSV := Lib.hid hS
  rw [← hx, ← hS]
  have HB2 := Lib.hid (HB1.out.trans (hb2.mono HB1.out.size))
  clear hb2 hx hS
  dsimp only
  go_wp2_with fail
  refine toT_any _ L0 _ (HH0.out.later HB2.out (Nat.le_refl _)) HP0.out.1 _ ?_
  intro v3 w3 hv3 hb3
  obtain ⟨a3, n3, c3, rfl, hv3'⟩ := hv3.op
  have HV3 := Lib.hid hv3'
  have HB3 := Lib.hid (HB2.out.trans (hb3.mono HB2.out.size))
  clear hb3 hv3 hv3'
  dsimp only
  go_wp2_with fail
  refine impl_ptx _ L0 _ (HE.out.later HB3.out (Nat.le_refl _)) HV3.out HP0.out.1 _ ?_
  intro w4 hb4
  have HV4 := Lib.hid (TxL.later HV3.out hb4 (Nat.le_refl _))
  have HB4 := Lib.hid (HB3.out.trans (hb4.mono HB3.out.size))
  rw [← HX.out, ← HSV.out]
  clear hb4
  have hxx : (x != x) = false := by cases x <;> rfl
  dsimp only
  go_wp2_with fail
  refine toT_any _ L0 _ (HH0.out.later HB4.out (Nat.le_refl _)) HP0.out.1 _ ?_
  intro v5 w5 hv5 hb5
  obtain ⟨a5, n5, c5, rfl, hv5'⟩ := hv5.op
  have HV5 := Lib.hid hv5'
  have HV4b := Lib.hid (TxL.later HV4.out hb5 (Nat.le_refl _))
  have HB5 := Lib.hid (HB4.out.trans (hb5.mono HB4.out.size))
  clear hb5 hv5 hv5'
  dsimp only
  go_wp2_with fail
  refine eqT_any _ _ L0 L0 _ HV4b.out HV5.out H9.out H9.out _ ?_
  intro w6 hb6
  rw [decide_eq_true rfl]
  have HB6 := Lib.hid (HB5.out.trans (hb6.mono HB5.out.size))
  clear hb6
  dsimp only
  go_wp2
  first | go_ret | skip
  exact HR.out _ HB6.out
end Go.Proofs.YtegdcmcfeaohhaaGreatDoor
