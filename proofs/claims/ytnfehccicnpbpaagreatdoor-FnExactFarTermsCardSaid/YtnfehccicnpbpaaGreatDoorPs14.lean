/- Contracts of functions of the program and of the model: ZeI, FtI, FtS, Mark, MarkL, TxO, RrO, ToRO, I64, LawFarTerms. -/
import Derived.Test.YtnfehccicnpbpaaGreatDoorPs11
import Derived.Deep.RegionHeld3
import Derived.Deep.RegionLaw
set_option linter.all false
set_option linter.unusedVariables false
set_option linter.unusedSimpArgs false
set_option linter.unnecessarySimpa false
set_option linter.deprecated false
namespace Go.Proofs.YtnfehccicnpbpaaGreatDoor
open Go Go.RowKit

/-- the places before n at which f is 0 -/
def zs (f : Nat → Nat) (n : Nat) : List Nat := (List.range n).filter (fun i => f i == 0)
theorem zs_yes {f : Nat → Nat} {n : Nat} (h : f n = 0) : zs f (n + 1) = zs f n ++ [n] := by simp [zs, List.range_succ, List.filter_append, h]
theorem zs_no {f : Nat → Nat} {n : Nat} (h : f n ≠ 0) : zs f (n + 1) = zs f n := by simp [zs, List.range_succ, List.filter_append, h]
theorem zs_len (f : Nat → Nat) (n : Nat) : (zs f n).length ≤ n := by
  have := List.length_filter_le (fun i => f i == 0) (List.range n)
  rw [List.length_range] at this; exact this

def SgR (w : World) (xs : List Nat) (iv : Value) (wr : World) : Prop :=
  ∃ j : Nat, iv = .int .i64 (j : Int) ∧ j ≤ xs.length ∧ Arr .i64 2 wr w.heap.size (xs.take j ++ List.replicate (xs.length - j) 0) ∧ Below w.heap.size w wr

theorem sg_set {xs : List Nat} {j : Nat} (hj : j < xs.length) : List.set (xs.take j ++ List.replicate (xs.length - j) 0) j (xs.getD j 0) = xs.take (j + 1) ++ List.replicate (xs.length - (j + 1)) 0 := by
  have e : xs.length - j = (xs.length - (j + 1)) + 1 := by omega
  have el : (xs.take j).length = j := by rw [List.length_take]; omega
  have e2 : xs.take (j + 1) = xs.take j ++ [xs.getD j 0] := by
    rw [List.take_add_one, List.getD_eq_getElem?_getD, List.getElem?_eq_getElem hj]; rfl
  rw [e, List.replicate_succ, List.set_append_right _ _ (by rw [el]; exact Nat.le_refl _), el, Nat.sub_self, List.set_cons_zero, e2, List.append_assoc]
  rfl

set_option maxRecDepth 100000 in
set_option maxHeartbeats 2000000 in
theorem signed_any (g c : Nat) (xs : List Nat) (w : World) (hA : Arr .u64 61 w g xs) (hc : c = xs.length) (hcn : c ≤ 100000) (hx : ∀ i, xs.getD i 0 < 1000000) (R : Ending → World → Prop)
    (hR : ∀ w', Arr .i64 2 w' w.heap.size xs → Below w.heap.size w w' → R (.returned (.slice (some ⟨w.heap.size, 0, none⟩) c c)) w') :
    Calls Tryz.prog 59 #[.slice (some ⟨g, 0, none⟩) c c] w R := by
  have HR := Lib.hid hR; clear hR
  have HA := Lib.hid hA
  have HN := Lib.hid hc
  have HX := Lib.hid hx
  clear hA hc hx
  go_enter Tryz.func59, Tryz.ntmps59
  go_wp2_with (at_make; go_must (refine wpList_makez _ rfl _ 32 rfl 2 .i64 8 Tryz.underlying32 info_i64 (by omega) .i64 _ c rfl rfl (by omega) ?_))
  intro W hA hbW hsW
  have HST : Hid (SgR w xs (.int .i64 0) W) := Lib.hid ⟨0, rfl, Nat.zero_le _, by rw [← HN.out]; simpa using hA, hbW⟩
  clear hA hbW hsW
  go_wp2
  go_loopw [11] (fun i wr => SgR w xs i wr) (fun i _ => c - (intOf i).toNat)
  case atStart => exact HST.out
  case round =>
    clear HST
    obtain ⟨j, rfl, hj, hB, hbel⟩ := hrel
    rw [← HN.out] at hj
    by_cases hjn : j = c
    · subst hjn
      have HF := Lib.hid (HR.out wr (by
        have h9 := hB
        rw [HN.out, Nat.sub_self, List.replicate_zero, List.append_nil, List.take_length] at h9
        exact h9) hbel)
      have hjj : ¬ ((j : Int) < (j : Int)) := by omega
      clear hB hbel hj
      go_wp2
      first | go_ret | skip
      exact HF.out
    · have hjl : j < c := by omega
      obtain ⟨x, hx⟩ : ∃ x, x = xs.getD j 0 := ⟨_, rfl⟩
      have hxl : x < 1000000 := by rw [hx]; exact HX.out j
      have hcu := (HA.out.later hbel HA.out.lt).cell j (by rw [← HN.out]; exact hjl)
      rw [← hx] at hcu
      have hwx : IntKind.i64.wrap (x : Int) = (x : Int) := IntWalk.i64_in _ (by omega)
      have hcl := hB.cell j (by rw [List.length_append, List.length_take, List.length_replicate, ← HN.out]; omega)
      have hfl := hB.frozen j
      have hB7 := hB.set j x
      rw [hx, sg_set (by rw [← HN.out]; exact hjl), ← hx] at hB7
      have HNX : Hid (SgR w xs (.int .i64 ((j + 1 : Nat) : Int)) (wr.setCell ⟨w.heap.size, j, none⟩ (.int .i64 ((x : Nat) : Int)))) := Lib.hid
        ⟨j + 1, rfl, by rw [← HN.out]; exact hjl, hB7, hbel.setCell (Nat.le_refl _) _⟩
      have hw1 : IntKind.i64.wrap ((j : Int) + 1) = ((j + 1 : Nat) : Int) := by rw [IntWalk.i64_in _ (by omega)]; omega
      have hj0 : (0 : Int) ≤ (j : Int) := by omega
      have hj1 : (j : Int) < (c : Int) := by omega
      have HJL := Lib.hid hjl
      clear hx hxl hB hbel hj hjn hB7
      go_wp2
      go_roundw
      case rel => exact HNX.out
      case measure => simp [intOf]; have := HJL.out; omega

set_option maxRecDepth 100000 in
set_option maxHeartbeats 4000000 in
theorem repeats_any (v : Value) (L1 L2 : List ByteArray) (m : Int) (w : World) (hE : Env w) (h : IsRec w v L1 L2) (hn1 : L1.length ≤ 1048576) (hn2 : L2.length ≤ 1048576) (R : Ending → World → Prop)
    (hR1 : ∀ M b p g c w', m = ((M : Nat) : Int) → 2 ≤ M → (wholeB L1 L2 && modB m) = true → Per (sta M (resL M L2) (resL M L1)) b p → b + p ≤ 5000 → c = b + p → Arr .i64 2 w' g (trms M (resL M L2) (resL M L1) c) → Below w.heap.size w w' → R (.returned (.tuple #[.slice (some ⟨g, 0, none⟩) c c, .bool true])) w')
    (hR2 : ∀ w', ¬ HasPer L1 L2 m → Below w.heap.size w w' → R (.returned (.tuple #[.slice none 0 0, .bool false])) w') :
    Calls Tryz.prog 69 #[v, .int .i64 m] w R := by
  have HR1 := Lib.hid hR1; clear hR1
  have HR2 := Lib.hid hR2; clear hR2
  have HE := Lib.hid hE
  have h9 := h
  obtain ⟨a1, n1, c1, a2, n2, c2, rfl, e1, e2, h1, h2⟩ := h.parts
  obtain ⟨L, hL⟩ : ∃ L, L = w.alloc (.cells #[.slice a1 n1 c1, .slice a2 n2 c2] 28) := ⟨_, rfl⟩
  have HBL : Hid (Below w.heap.size w L) := Lib.hid (by rw [hL]; exact (Below.refl _ _).alloc (Nat.le_refl _) _)
  have HBX : Hid (Box2 L w.heap.size (.slice a1 n1 c1) (.slice a2 n2 c2) 28) := Lib.hid (by rw [hL]; exact Box2.made _ _ _ _)
  have HL := Lib.hid hL
  have HV := Lib.hid (h9.later HBL.out (Nat.le_refl _))
  have HN := Lib.hid (And.intro hn1 hn2)
  obtain ⟨hA0, hA1, _, _⟩ := HBX.out.cells
  clear h h9 e1 e2 h1 h2 hn1 hn2 hL hE
  go_enter Tryz.func69, Tryz.ntmps69
  rw [HL.out] at hA0 hA1
  go_wp2_with fail
  rw [← HL.out]
  refine readres_any _ L1 L2 m L (HE.out.later HBL.out (Nat.le_refl _)) HV.out HN.out.1 HN.out.2 _ ?_ ?_
  rotate_left
  · intro e w2 hno he hb2
    obtain ⟨t, p, rfl⟩ := he
    have HF := Lib.hid (HR2.out (w2.alloc (.cells #[.int .u64 0, .slice none 0 0, .slice none 0 0] 65)) (noPer_ok hno) ((HBL.out.trans (hb2.mono HBL.out.size)).alloc (Nat.le_trans HBL.out.size hb2.size) _))
    clear hno hb2 hA0 hA1
    unfold zeroU
    dsimp only
    go_wp2
    first | go_ret | skip
    exact HF.out
  intro M vs vc w2 hM hM2 hM3 hw hvs hvc hb2
  subst hM
  obtain ⟨b1, o1, d1, rfl, hvs'⟩ := hvs.op
  obtain ⟨b2, o2, d2, rfl, hvc'⟩ := hvc.op
  obtain ⟨k1, hk1⟩ : ∃ k1, k1 = (resL M L1).length := ⟨_, rfl⟩
  obtain ⟨k2, hk2⟩ : ∃ k2, k2 = (resL M L2).length := ⟨_, rfl⟩
  rw [← hk1] at hvs' ⊢
  rw [← hk2] at hvc' ⊢
  obtain ⟨V, hV⟩ : ∃ V, V = w2.alloc (.cells #[.int .u64 (M : Int), .slice (some ⟨b1, o1, none⟩) k1 d1, .slice (some ⟨b2, o2, none⟩) k2 d2] 65) := ⟨_, rfl⟩
  have hbV : Below w2.heap.size w2 V := by rw [hV]; exact (Below.refl _ _).alloc (Nat.le_refl _) _
  have HBV : Hid (Below w.heap.size w V) := Lib.hid ((HBL.out.trans (hb2.mono HBL.out.size)).trans (hbV.mono (by have := HBL.out.size; have := hb2.size; omega)))
  have HVS := Lib.hid (hvs'.later hbV (Nat.le_refl _))
  have HVC := Lib.hid (hvc'.later hbV (Nat.le_refl _))
  have HRB : Hid (Box3 V w2.heap.size (.int .u64 (M : Int)) (.slice (some ⟨b1, o1, none⟩) k1 d1) (.slice (some ⟨b2, o2, none⟩) k2 d2) 65) := Lib.hid (by rw [hV]; exact Box3.made _ _ _ _ _)
  have HV2 := Lib.hid hV
  have HOK : Hid ((wholeB L1 L2 && modB (M : Int)) = true) := Lib.hid (by unfold modB; rw [hw, decide_eq_true ⟨by omega, by omega⟩]; rfl)
  have HLE := Lib.hid (And.intro (res_le (m := M) hw).1 (show (resL M L2).length ≤ 8 by rw [resL_len]; exact (whole_parts hw).2.2.1))
  obtain ⟨⟨hB0, hB1, hB2⟩, _, _, _⟩ := HRB.out.cells
  rw [hV] at hB0 hB1 hB2
  clear hw hvs hvc hvs' hvc' hb2 hbV hV hk1 hk2 hA0 hA1
  dsimp only
  go_wp2_with fail
  rw [← HV2.out]
  refine period_any M _ _ (resL M L2) (resL M L1) _ HVS.out HVC.out HLE.out.1 HLE.out.2 hM2 hM3 (resL_lt (by omega) _) (resL_lt (by omega) _) _ ?_ ?_
  · intro b p w3 hp hb hb3
    obtain ⟨c, hc⟩ : ∃ c, c = b + p := ⟨_, rfl⟩
    have HP := Lib.hid (And.intro hp (And.intro hb hc))
    have HB3 := Lib.hid (HBV.out.trans (hb3.mono HBV.out.size))
    have HVS3 := Lib.hid (HVS.out.later hb3 (Nat.le_refl _))
    have HVC3 := Lib.hid (HVC.out.later hb3 (Nat.le_refl _))
    have hwb : IntKind.i64.wrap ((b : Int) + (p : Int)) = (c : Int) := by rw [IntWalk.i64_in _ (by omega)]; omega
    clear hB0 hB1 hB2
    obtain ⟨⟨hB0, hB1, hB2⟩, _, _, _⟩ := (HRB.out.later hb3 (lt_of_block HRB.out)).cells
    clear hp hb hb3 hc
    dsimp only
    go_wp2_with fail
    refine rterms_any M c _ _ (resL M L2) (resL M L1) _ HVS3.out HVC3.out HLE.out.1 (by have := HLE.out.2; omega) hM2 hM3 (resL_lt (by omega) _) (resL_lt (by omega) _) (by have := HP.out.2; omega) _ ?_
    intro g w4 hA hg hb4
    have HA4 := Lib.hid hA
    have HB4 := Lib.hid (HB3.out.trans (hb4.mono HB3.out.size))
    clear hA hg hb4 hB0 hB1 hB2 hwb
    dsimp only
    go_wp2_with fail
    refine signed_any g c _ _ HA4.out (by rw [trms_len]) (by have := HP.out.2; omega) (fun i => ?_) _ ?_
    · rcases Nat.lt_or_ge i c with h | h
      · rw [trms_at h]
        have := trm_lt (m := M) (cs := resL M L2) (ss := resL M L1) (by omega) (resL_lt (by omega) _) i
        omega
      · rw [List.getD_eq_getElem?_getD, List.getElem?_eq_none (by rw [trms_len]; exact h)]
        decide
    intro w5 hA5 hb5
    have HF := Lib.hid (HR1.out M b p w4.heap.size c w5 rfl hM2 HOK.out HP.out.1 HP.out.2.1 HP.out.2.2 hA5 (HB4.out.trans (hb5.mono HB4.out.size)))
    clear hA5 hb5
    dsimp only
    go_wp2
    first | go_ret | skip
    exact HF.out
  · intro w3 hno hb3
    have HF := Lib.hid (HR2.out w3 (noPer_of hno) (HBV.out.trans (hb3.mono HBV.out.size)))
    clear hno hb3 hB0 hB1 hB2
    dsimp only
    go_wp2
    first | go_ret | skip
    exact HF.out
end Go.Proofs.YtnfehccicnpbpaaGreatDoor

namespace Go.Proofs.YtnfehccicnpbpaaGreatDoor
open Go Go.RowKit

def cntB (c : Int) : Bool := decide (0 ≤ c ∧ c ≤ 40)
/-- whether there are residues of far terms -/
noncomputable def farTsB (L1 L2 : List ByteArray) (n c m : Int) : Bool := wholeB L1 L2 && (idxB n && (modB m && cntB c))
/-- the residues -/
noncomputable def farTsL (L1 L2 : List ByteArray) (n c m : Int) : List Nat := if farTsB L1 L2 n c m = true then tmf m.toNat (resL m.toNat L2) (resL m.toNat L1) n.toNat c.toNat else []
theorem farTsL_no {L1 L2 : List ByteArray} {n c m : Int} (h : farTsB L1 L2 n c m = false) : farTsL L1 L2 n c m = [] := by
  unfold farTsL; rw [if_neg (by rw [h]; decide)]
theorem farTsL_yes {L1 L2 : List ByteArray} {N C M : Nat} (h : farTsB L1 L2 (N : Int) (C : Int) (M : Int) = true) : farTsL L1 L2 (N : Int) (C : Int) (M : Int) = tmf M (resL M L2) (resL M L1) N C := by
  unfold farTsL; rw [if_pos h, Int.toNat_natCast, Int.toNat_natCast, Int.toNat_natCast]
theorem farTs_small (L1 L2 : List ByteArray) (n c m : Int) : (farTsL L1 L2 n c m).length ≤ 40 := by
  unfold farTsL
  split
  · rename_i h
    rw [tmf_len]
    unfold farTsB cntB at h
    simp only [Bool.and_eq_true, decide_eq_true_eq] at h
    omega
  · exact Nat.zero_le _

theorem Own.ofArr {k : IntKind} {e : TypeId} {w : World} {g B n : Nat} {xs : List Nat} (h : Arr k e w g xs) (hn : n = xs.length) (hm : n ≤ maxLen) (hB : B ≤ g) : Own k e w B (.slice (some ⟨g, 0, none⟩) n n) xs := by
  subst hn
  refine ⟨by simp [nums], .inr ⟨g, xs.length, (nums k xs).toArray, rfl, hB, h, Nat.le_refl _, hm, by simp [nums], ?_⟩⟩
  rw [List.take_of_length_le (by simp [nums])]

set_option maxRecDepth 100000 in
set_option maxHeartbeats 4000000 in
theorem impl_farTs (v : Value) (L1 L2 : List ByteArray) (n c m : Int) (w : World) (hE : Env w) (h : IsRec w v L1 L2) (hn1 : L1.length ≤ 1048576) (hn2 : L2.length ≤ 1048576) (R : Ending → World → Prop)
    (hR : ∀ v' w', Own .i64 2 w' w.heap.size v' (farTsL L1 L2 n c m) → Below w.heap.size w w' → R (.returned (.tuple #[v', .bool (farTsB L1 L2 n c m)])) w') :
    Calls Tryz.prog 21 #[v, .int .i64 n, .int .i64 c, .int .i64 m] w R := by
  have HR := Lib.hid hR; clear hR
  have HE := Lib.hid hE
  have h9 := h
  obtain ⟨a1, n1, c1, a2, n2, c2, rfl, e1, e2, h1, h2⟩ := h.parts
  obtain ⟨L, hL⟩ : ∃ L, L = w.alloc (.cells #[.slice a1 n1 c1, .slice a2 n2 c2] 28) := ⟨_, rfl⟩
  have HBL : Hid (Below w.heap.size w L) := Lib.hid (by rw [hL]; exact (Below.refl _ _).alloc (Nat.le_refl _) _)
  have HBX : Hid (Box2 L w.heap.size (.slice a1 n1 c1) (.slice a2 n2 c2) 28) := Lib.hid (by rw [hL]; exact Box2.made _ _ _ _)
  have HL := Lib.hid hL
  have HV := Lib.hid (h9.later HBL.out (Nat.le_refl _))
  have HN := Lib.hid (And.intro hn1 hn2)
  obtain ⟨hA0, hA1, _, _⟩ := HBX.out.cells
  have HNO : Hid (farTsB L1 L2 n c m = false → ∀ w', Below w.heap.size w w' → R (.returned (.tuple #[.slice none 0 0, .bool false])) w') := Lib.hid fun hf w' hb => by
    have := HR.out (.slice none 0 0) w' (by rw [farTsL_no hf]; exact Own.nil _ _ _ _) hb
    rw [hf] at this; exact this
  clear h h9 e1 e2 h1 h2 hn1 hn2 hL hE
  go_enter Tryz.func21, Tryz.ntmps21
  rw [HL.out] at hA0 hA1
  go_wp2_with fail
  rw [← HL.out]
  refine readres_any _ L1 L2 m L (HE.out.later HBL.out (Nat.le_refl _)) HV.out HN.out.1 HN.out.2 _ ?_ ?_
  rotate_left
  · intro e w2 hno he hb2
    obtain ⟨t, p, rfl⟩ := he
    have HF := Lib.hid (HNO.out (by
      unfold farTsB modB
      cases hx : wholeB L1 L2
      · rfl
      · rw [hx, Bool.true_and] at hno; rw [hno]; simp) (w2.alloc (.cells #[.int .u64 0, .slice none 0 0, .slice none 0 0] 65)) ((HBL.out.trans (hb2.mono HBL.out.size)).alloc (Nat.le_trans HBL.out.size hb2.size) _))
    clear hno hb2 hA0 hA1
    unfold zeroU
    dsimp only
    go_wp2
    first | go_ret | skip
    exact HF.out
  intro M vs vc w2 hM hM2 hM3 hw hvs hvc hb2
  subst hM
  obtain ⟨b1, o1, d1, rfl, hvs'⟩ := hvs.op
  obtain ⟨b2, o2, d2, rfl, hvc'⟩ := hvc.op
  obtain ⟨k1, hk1⟩ : ∃ k1, k1 = (resL M L1).length := ⟨_, rfl⟩
  obtain ⟨k2, hk2⟩ : ∃ k2, k2 = (resL M L2).length := ⟨_, rfl⟩
  rw [← hk1] at hvs' ⊢
  rw [← hk2] at hvc' ⊢
  obtain ⟨V, hV⟩ : ∃ V, V = w2.alloc (.cells #[.int .u64 (M : Int), .slice (some ⟨b1, o1, none⟩) k1 d1, .slice (some ⟨b2, o2, none⟩) k2 d2] 65) := ⟨_, rfl⟩
  have hbV : Below w2.heap.size w2 V := by rw [hV]; exact (Below.refl _ _).alloc (Nat.le_refl _) _
  have HBV : Hid (Below w.heap.size w V) := Lib.hid ((HBL.out.trans (hb2.mono HBL.out.size)).trans (hbV.mono (by have := HBL.out.size; have := hb2.size; omega)))
  have HVS := Lib.hid (hvs'.later hbV (Nat.le_refl _))
  have HVC := Lib.hid (hvc'.later hbV (Nat.le_refl _))
  have HRB : Hid (Box3 V w2.heap.size (.int .u64 (M : Int)) (.slice (some ⟨b1, o1, none⟩) k1 d1) (.slice (some ⟨b2, o2, none⟩) k2 d2) 65) := Lib.hid (by rw [hV]; exact Box3.made _ _ _ _ _)
  have HV2 := Lib.hid hV
  have HW := Lib.hid hw
  have HLE := Lib.hid (res_le (m := M) hw)
  obtain ⟨⟨hB0, hB1, hB2⟩, _, _, _⟩ := HRB.out.cells
  rw [hV] at hB0 hB1 hB2
  clear hw hvs hvc hvs' hvc' hb2 hbV hV hk1 hk2 hA0 hA1
  dsimp only
  go_wp2_with fail
  rw [← HV2.out]
  refine iidx_any n _ _ ?_
  cases hy : idxB n with
  | false =>
    have HF := Lib.hid (HNO.out (by unfold farTsB; rw [hy]; simp) V HBV.out)
    clear hy hB0 hB1 hB2
    dsimp only
    go_wp2
    first | go_ret | skip
    exact HF.out
  | true =>
    have HY := Lib.hid hy
    clear hy
    dsimp only
    rcases (show c < 0 ∨ 0 ≤ c by omega) with hc0 | hc0
    · have HF := Lib.hid (HNO.out (by unfold farTsB cntB; rw [decide_eq_false (fun h => by omega)]; simp) V HBV.out)
      clear hB0 hB1 hB2
      go_wp2
      first | go_ret | skip
      exact HF.out
    rcases (show 40 < c ∨ c ≤ 40 by omega) with hc1 | hc1
    · have HF := Lib.hid (HNO.out (by unfold farTsB cntB; rw [decide_eq_false (fun h => by omega)]; simp) V HBV.out)
      have hc2 : ¬ c < 0 := by omega
      clear hB0 hB1 hB2
      go_wp2
      first | go_ret | skip
      exact HF.out
    have hn := of_decide_eq_true (show decide (0 ≤ n ∧ n ≤ 1000000000000000000) = true from HY.out)
    have hOK : farTsB L1 L2 n c (M : Int) = true := by unfold farTsB modB cntB; rw [HW.out, HY.out, decide_eq_true ⟨by omega, by omega⟩, decide_eq_true ⟨hc0, hc1⟩]; rfl
    obtain ⟨K, rfl⟩ : ∃ K : Nat, n = (K : Int) := ⟨n.toNat, by omega⟩
    obtain ⟨C, rfl⟩ : ∃ C : Nat, c = (C : Int) := ⟨c.toNat, by omega⟩
    have HF : Hid (∀ v' w', Own .i64 2 w' w.heap.size v' (tmf M (resL M L2) (resL M L1) K C) → Below w.heap.size w w' → R (.returned (.tuple #[v', .bool true])) w') := Lib.hid fun v' w' ho hb => by
      have := HR.out v' w' (by rw [farTsL_yes hOK]; exact ho) hb
      rw [hOK] at this; exact this
    have hwK : IntKind.u64.wrap (K : Int) = (K : Int) := wrapu _ (by omega) (by omega)
    have hcn : ¬ ((C : Int) < 0) := by omega
    have hcm : ¬ (40 < (C : Int)) := by omega
    have HCC := Lib.hid (show C ≤ 40 by omega)
    have HKN := Lib.hid (show K < 18446744073709551616 by omega)
    clear hn hOK hB0 hB1 hB2 hc0 hc1
    obtain ⟨⟨hB0, hB1, hB2⟩, _, _, _⟩ := HRB.out.cells
    go_wp2_with fail
    refine termsFrom_any M K C _ _ (resL M L2) (resL M L1) _ HVS.out HVC.out HLE.out.1 HLE.out.2 hM2 hM3 (resL_lt (by omega) _) (resL_lt (by omega) _) (by have := HCC.out; omega) HKN.out _ ?_
    intro g w3 hA hg hb3
    have HA3 := Lib.hid hA
    have HB3 := Lib.hid (HBV.out.trans (hb3.mono HBV.out.size))
    clear hA hg hb3 hB0 hB1 hB2 hwK
    dsimp only
    go_wp2_with fail
    refine signed_any g C _ _ HA3.out (by rw [tmf_len]) (by have := HCC.out; omega) (fun i => ?_) _ ?_
    · rcases Nat.lt_or_ge i C with h | h
      · have e : (tmf M (resL M L2) (resL M L1) K C).getD i 0 = trm M (resL M L2) (resL M L1) (K + i) := by
          rw [List.getD_eq_getElem?_getD]; unfold tmf; rw [List.getElem?_map, List.getElem?_range h]; rfl
        rw [e]
        have := trm_lt (m := M) (cs := resL M L2) (ss := resL M L1) (by omega) (resL_lt (by omega) _) (K + i)
        omega
      · rw [List.getD_eq_getElem?_getD, List.getElem?_eq_none (by rw [tmf_len]; exact h)]
        decide
    intro w5 hA5 hb5
    have HFF := Lib.hid (HF.out _ w5 (Own.ofArr hA5 (by rw [tmf_len]) (by have := HCC.out; simp only [maxLen]; omega) HB3.out.size) (HB3.out.trans (hb5.mono HB3.out.size)))
    clear hA5 hb5
    dsimp only
    go_wp2
    first | go_ret | skip
    exact HFF.out
end Go.Proofs.YtnfehccicnpbpaaGreatDoor

namespace Go.Proofs.YtnfehccicnpbpaaGreatDoor
open Go Go.RowKit

def FtR (W : World) (M : Nat) (C S : List Nat) (N c : Nat) (v iv : Value) (wr : World) : Prop :=
  ∃ j : Nat, iv = .int .i64 (j : Int) ∧ j ≤ c ∧ Own .i64 2 wr W.heap.size v (tmf M C S N j) ∧ Below W.heap.size W wr

set_option maxRecDepth 100000 in
set_option maxHeartbeats 16000000 in
theorem spec_farTs (v : Value) (L1 L2 : List ByteArray) (n c m : Int) (w : World) (h : IsRec w v L1 L2) (hn1 : L1.length ≤ 1048576) (hs1 : ∀ s ∈ L1, s.size ≤ 1048576) (hn2 : L2.length ≤ 1048576) (hs2 : ∀ s ∈ L2, s.size ≤ 1048576) (R : Ending → World → Prop)
    (hR : ∀ v' w', Own .i64 2 w' w.heap.size v' (farTsL L1 L2 n c m) → Below w.heap.size w w' → R (.returned (.tuple #[v', .bool (farTsB L1 L2 n c m)])) w') :
    Calls Tryz.prog 20 #[v, .int .i64 n, .int .i64 c, .int .i64 m] w R := by
  have HR := Lib.hid hR; clear hR
  obtain ⟨a1, n1, c1, a2, n2, c2, rfl, e1, e2, h1, h2⟩ := h.parts
  obtain ⟨L, hL⟩ : ∃ L, L = w.alloc (.cells #[.slice a1 n1 c1, .slice a2 n2 c2] 28) := ⟨_, rfl⟩
  have HBL : Hid (Below w.heap.size w L) := Lib.hid (by rw [hL]; exact (Below.refl _ _).alloc (Nat.le_refl _) _)
  have HBX : Hid (Box2 L w.heap.size (.slice a1 n1 c1) (.slice a2 n2 c2) 28) := Lib.hid (by rw [hL]; exact Box2.made _ _ _ _)
  have HL := Lib.hid hL
  have H1 := Lib.hid (h1.later HBL.out (Nat.le_refl _))
  have H2 := Lib.hid (h2.later HBL.out (Nat.le_refl _))
  have HH := Lib.hid (And.intro hn1 (And.intro hs1 (And.intro hn2 hs2)))
  have HE := Lib.hid (And.intro e1 e2)
  have HNO : Hid (farTsB L1 L2 n c m = false → ∀ w', Below w.heap.size w w' → R (.returned (.tuple #[.slice none 0 0, .bool false])) w') := Lib.hid fun hf w' hb => by
    have := HR.out (.slice none 0 0) w' (by rw [farTsL_no hf]; exact Own.nil _ _ _ _) hb
    rw [hf] at this; exact this
  clear h e1 e2 h1 h2 hn1 hs1 hn2 hs2 hL
  go_enter Tryz.func20, Tryz.ntmps20
  go_wp2_with fail
  rw [← HL.out]
  refine l04is_any _ n1 n2 c1 c2 a1 a2 L1 L2 L HBX.out HE.out.1 HE.out.2 H1.out H2.out HH.out.1 HH.out.2.1 HH.out.2.2.1 HH.out.2.2.2 _ ?_
  intro w1 hb1
  have HB := Lib.hid (HBL.out.trans (hb1.mono HBL.out.size))
  have HB1 := Lib.hid hb1
  clear hb1
  cases hx : wholeB L1 L2 with
  | false =>
    have HF := Lib.hid (HNO.out (by unfold farTsB; rw [hx]; rfl) w1 HB.out)
    clear hx
    dsimp only
    go_wp2
    first | go_ret | skip
    exact HF.out
  | true =>
    have HX := Lib.hid hx
    clear hx
    dsimp only
    go_wp2_with fail
    refine sidx_any n _ _ ?_
    cases hy : idxB n with
    | false =>
      have HF := Lib.hid (HNO.out (by unfold farTsB; rw [hy]; simp) w1 HB.out)
      clear hy
      dsimp only
      go_wp2
      first | go_ret | skip
      exact HF.out
    | true =>
      have HY := Lib.hid hy
      clear hy
      dsimp only
      go_wp2_with fail
      refine smod_any m _ _ ?_
      cases hz : decide (2 ≤ m ∧ m ≤ 1000000) with
      | false =>
        have HF := Lib.hid (HNO.out (by unfold farTsB modB; rw [hz]; simp) w1 HB.out)
        clear hz
        dsimp only
        go_wp2
        first | go_ret | skip
        exact HF.out
      | true =>
        have HZ := Lib.hid hz
        clear hz
        dsimp only
        go_wp2_with fail
        refine in_any c 0 40 _ _ ?_
        cases hq : decide ((0 : Int) ≤ c ∧ c ≤ 40) with
        | false =>
          have HF := Lib.hid (HNO.out (by unfold farTsB cntB; rw [hq]; simp) w1 HB.out)
          clear hq
          dsimp only
          go_wp2
          first | go_ret | skip
          exact HF.out
        | true =>
          have hm := of_decide_eq_true HZ.out
          have hc := of_decide_eq_true hq
          have hn := of_decide_eq_true (show decide (0 ≤ n ∧ n ≤ 1000000000000000000) = true from HY.out)
          have hOK : farTsB L1 L2 n c m = true := by unfold farTsB modB cntB; rw [HX.out, HY.out, HZ.out, hq]; rfl
          obtain ⟨M, rfl⟩ : ∃ M : Nat, m = (M : Int) := ⟨m.toNat, by omega⟩
          obtain ⟨K, rfl⟩ : ∃ K : Nat, n = (K : Int) := ⟨n.toNat, by omega⟩
          obtain ⟨ct, rfl⟩ : ∃ ct : Nat, c = (ct : Int) := ⟨c.toNat, by omega⟩
          have HF : Hid (∀ v' w', Own .i64 2 w' w.heap.size v' (tmf M (resL M L2) (resL M L1) K ct) → Below w.heap.size w w' → R (.returned (.tuple #[v', .bool true])) w') := Lib.hid fun v' w' ho hb => by
            have := HR.out v' w' (by rw [farTsL_yes hOK]; exact ho) hb
            rw [hOK] at this; exact this
          have hM2 : 2 ≤ M := by omega
          have hM3 : M ≤ 1000000 := by omega
          have HK9 := Lib.hid (show K ≤ 1000000000000000000 ∧ ct ≤ 40 by omega)
          have HP := Lib.hid (whole_parts HX.out)
          have HBX1 := Lib.hid (HBX.out.later HB1.out (lt_of_block HBX.out))
          have H11 := Lib.hid (H1.out.later HB1.out (Nat.le_refl _))
          have H21 := Lib.hid (H2.out.later HB1.out (Nat.le_refl _))
          obtain ⟨W, hW⟩ : ∃ W, W = w1.alloc (.cells #[] 2) := ⟨_, rfl⟩
          have HBW : Hid (Below w1.heap.size w1 W) := Lib.hid (by rw [hW]; exact (Below.refl _ _).alloc (Nat.le_refl _) _)
          have HST : Hid (FtR w1 M (resL M L2) (resL M L1) K ct (.slice (some ⟨w1.heap.size, 0, none⟩) 0 0) (.int .i64 0) W) := Lib.hid ⟨0, rfl, Nat.zero_le _, by rw [hW]; exact Own.lit _ _ _ _ (Nat.le_refl _), HBW.out⟩
          have HW := Lib.hid hW
          clear hq hm hc hn hOK hW
          dsimp only
          go_wp2
          try rw [← HW.out]
          go_loopw [10, 11] (fun v i wr => FtR w1 M (resL M L2) (resL M L1) K ct v i wr) (fun _ i _ => ct - (intOf i).toNat)
          case atStart => exact HST.out
          case round =>
            clear HST
            obtain ⟨j, rfl, hj, how, hbel⟩ := hrel
            have HOW := Lib.hid how
            have HBE := Lib.hid hbel
            by_cases hjn : j = ct
            · subst hjn
              have HFF := Lib.hid (HF.out _ wr (how.mono' HB.out.size) (HB.out.trans (hbel.mono HB.out.size)))
              have hjj : ¬ ((j : Int) < (j : Int)) := by omega
              clear hj how hbel
              go_wp2
              first | go_ret | skip
              exact HFF.out
            · have hjl : j < ct := by omega
              obtain ⟨av, nv, cv, rfl, hnv⟩ := how.shape
              rw [tmf_len] at hnv
              subst hnv
              have HBXr := Lib.hid (HBX1.out.later hbel (lt_of_block HBX1.out))
              have H1r := Lib.hid (H11.out.later hbel (Nat.le_refl _))
              have H2r := Lib.hid (H21.out.later hbel (Nat.le_refl _))
              obtain ⟨N, hN⟩ : ∃ N, N = K + nv := ⟨_, rfl⟩
              obtain ⟨t, ht⟩ : ∃ t, t = trm M (resL M L2) (resL M L1) N := ⟨_, rfl⟩
              have HT := Lib.hid ht
              have HTM : Hid (tmf M (resL M L2) (resL M L1) K (nv + 1) = tmf M (resL M L2) (resL M L1) K nv ++ [t]) := Lib.hid (by rw [tmf_succ, ht, hN])
              have hwN : IntKind.i64.wrap ((K : Int) + (nv : Int)) = (N : Int) := by have := HK9.out; rw [IntWalk.i64_in _ (by omega)]; omega
              have hw1 : IntKind.i64.wrap ((nv : Int) + 1) = ((nv + 1 : Nat) : Int) := by have := HK9.out; rw [IntWalk.i64_in _ (by omega)]; omega
              have HN9 := Lib.hid (show N ≤ 9000000000000000000 by have := HK9.out; omega)
              have hj1 : (nv : Int) < (ct : Int) := by omega
              have HJL := Lib.hid hjl
              obtain ⟨hA0, hA1, _, _⟩ := HBXr.out.cells
              have HSOF : Hid (∀ w', Below wr.heap.size wr w' → (w'.cell? ⟨w.heap.size, 0, none⟩ = some (.slice a1 n1 c1) ∧ w'.cell? ⟨w.heap.size, 1, none⟩ = some (.slice a2 n2 c2))) :=
                Lib.hid fun w' hb => ⟨(HBXr.out.later hb (lt_of_block HBXr.out)).cells.1, (HBXr.out.later hb (lt_of_block HBXr.out)).cells.2.1⟩
              clear hj how hbel hjn hjl hN ht
              go_wp2_with fail
              go_region_law (first
                | (have hguard := HT3; refine step_append_any rfl (.tmp 35) (.tmp 49) 32 rfl 2 .i64 8 Tryz.underlying32 info_i64 (by omega) w1.heap.size (tmf M (resL M L2) (resL M L1) K nv) [t] ((HOW.out.later HT3.out (Nat.le_refl _)).alloc _) (Own.lit1 .i64 2 _ _ t _ rfl (Nat.le_refl _)).sl (by rw [tmf_len]; have := HK9.out; have := HJL.out; simp; omega) (by have := HBE.out.size; have := HT3.out.size; simp; omega) ?_; intro ao9 n9 c9 w9 hown9 hn9 hb9; have HOW9 : Hid (Own .i64 2 w9 w1.heap.size (.slice ao9 n9 c9) (tmf M (resL M L2) (resL M L1) K (nv + 1))) := Lib.hid (by rw [HTM.out]; exact hown9); have HB9 : Hid (Below w1.heap.size w1 w9) := Lib.hid (((HBE.out.trans (HT3.out.mono HBE.out.size)).alloc (Nat.le_trans HBE.out.size HT3.out.size) _).trans hb9); clear hguard hown9 hn9 hb9)
                | (have hguard := HT2; (try go_simp); go_at_call 51; refine sterm_any M N _ _ (resL M L1) (resL M L2) _ HV1'.out HV2.out (by rw [resL_len, resL_len]; exact HP.out.1) (resL_lt (by omega) _) (resL_lt (by omega) _) hM2 hM3 (by rw [resL_len]; have := HP.out.2.2.1; omega) HN9.out _ ?_; rw [← HT.out]; intro w4 hb4; have HT3 := Lib.hid (HT2.out.trans (hb4.mono HT2.out.size)); clear hguard hb4; dsimp only)
                | (have hguard := HT1; (try go_simp); go_at_call 52; refine sresidues_any _ L2 M _ (H2r.out.later HT1.out (Nat.le_refl _)) HP.out.2.2.2.2.1 (by have := HP.out.2.2.1; omega) hM2 hM3 _ ?_; intro v3 w3 hv3 hb3; obtain ⟨a5, c5, rfl, hc5, hh5⟩ := hv3.sl; have HV2 : Hid (Sl .i64 w3 (.slice a5 (resL M L2).length c5) (resL M L2)) := Lib.hid ⟨a5, c5, rfl, hc5, hh5⟩; have HV1' := Lib.hid (HV1.out.later hb3 (Nat.le_refl _)); have HT2 := Lib.hid (HT1.out.trans (hb3.mono HT1.out.size)); clear hguard hv3 hb3 hc5 hh5; dsimp only)
                | ((try go_simp); go_at_call 52; refine sresidues_any _ L1 M _ (H1r.out.later (Below.refl _ _).drew (Nat.le_refl _)) HP.out.2.2.2.1 (by have := HP.out.2.1; omega) hM2 hM3 _ ?_; intro v2 w2 hv2 hb2; obtain ⟨a4, c4, rfl, hc4, hh4⟩ := hv2.sl; have HV1 : Hid (Sl .i64 w2 (.slice a4 (resL M L1).length c4) (resL M L1)) := Lib.hid ⟨a4, c4, rfl, hc4, hh4⟩; have HT1 : Hid (Below wr.heap.size wr w2) := Lib.hid (below_unDrew hb2); obtain ⟨hC0, hC1⟩ := HSOF.out w2 HT1.out; clear hv2 hb2 hc4 hh4; dsimp only))
              all_goals
                go_wp2
                go_roundw
                case rel => exact ⟨nv + 1, rfl, HJL.out, HOW9.out, HB9.out⟩
                case measure => simp [intOf]; have := HJL.out; omega
end Go.Proofs.YtnfehccicnpbpaaGreatDoor

namespace Go.Proofs.YtnfehccicnpbpaaGreatDoor
open Go Go.RowKit

/-- decimal digits, none of 0 -/
def mkD (k : Nat) : List UInt8 := (dig 10 k).reverse.map chr
theorem mkD_zero : mkD 0 = [] := by simp [mkD, dig]
theorem mkD_step {k : Nat} (h : 0 < k) : mkD k = mkD (k / 10) ++ [chr (k % 10)] := by
  unfold mkD
  rw [show dig 10 k = (k % 10) :: dig 10 (k / 10) by rw [dig]; rw [dif_neg (by omega)]]
  simp
theorem mkD_len {k : Nat} (h : k < 10 ^ 20) : (mkD k).length ≤ 20 := by
  unfold mkD
  rw [List.length_map, List.length_reverse]
  exact dig_length_le (by omega) _ _ h
/-- the mark of a number -/
def mkT (k : Nat) : ByteArray := if k = 0 then ⟨#[109, 48]⟩ else ⟨#[109]⟩ ++ ⟨(mkD k).toArray⟩

set_option maxRecDepth 100000 in
/-- a byte as a text -/
theorem conv1 (W : World) (x : Nat) :
    (convert 44 9 (.slice (some ⟨W.heap.size, 0, none⟩) 1 1)).run Tryz.prog (W.alloc (.cells #[.int .u8 (48 + (x : Int))] 5)) =
      .ok (.string ⟨([chr x] : List UInt8).toArray⟩) (W.alloc (.cells #[.int .u8 (48 + (x : Int))] 5)) := by
  rw [run_convert_bytes_string _ _ _ 5 _ _ _ Tryz.underlying44 Tryz.underlying5 Tryz.underlying9]
  rw [run_bytesToString _ _ _ _ [48 + (x : Int)] (by simp [go_sem])]
  have e : [48 + (x : Int)].foldl (fun r n => r.push (UInt8.ofNat n.toNat)) ByteArray.empty = ⟨([chr x] : List UInt8).toArray⟩ := by
    have h1 := chr_int x
    simp only [List.foldl_cons, List.foldl_nil, h1]
    rfl
  rw [e]

set_option maxRecDepth 100000 in
set_option maxHeartbeats 1000000 in
theorem markText_any (K : Nat) (w : World) (hK : K ≤ 1000000000000) (R : Ending → World → Prop)
    (hR : ∀ w', Below w.heap.size w w' → R (.returned (.string (mkT K))) w') :
    Calls Tryz.prog 94 #[.int .i64 (K : Int)] w R := by
  have HR := Lib.hid hR; clear hR
  by_cases h0 : K = 0
  · subst h0
    go_enter Tryz.func94, Tryz.ntmps94
    go_wp2
    first | go_ret | skip
    exact HR.out _ (Below.refl _ _)
  · have hp : ¬ ((K : Int) ≤ 0) := by omega
    have HT : Hid (mkT K = ⟨#[109]⟩ ++ ⟨(mkD K).toArray⟩) := Lib.hid (by unfold mkT; rw [if_neg h0])
    have HLK : Hid ((mkD K).length ≤ 20) := Lib.hid (mkD_len (by omega))
    have HKK := Lib.hid hK
    clear h0
    go_enter Tryz.func94, Tryz.ntmps94
    go_wp2
    clear hp
    go_loopw [0, 3] (fun kv ov wr => ∃ (j : Nat) (l : List UInt8), kv = .int .i64 (j : Int) ∧ ov = .string ⟨l.toArray⟩ ∧ j ≤ K ∧ mkD j ++ l = mkD K ∧ Below w.heap.size w wr) (fun kv _ _ => (intOf kv).toNat)
    case atStart => exact ⟨K, [], rfl, rfl, Nat.le_refl _, by simp, Below.refl _ _⟩
    case round =>
      obtain ⟨j, l, rfl, rfl, hj, hl, hbel⟩ := hrel
      have HL := Lib.hid hl
      have HB := Lib.hid hbel
      have hll : l.length ≤ 20 := by have := congrArg List.length hl; rw [List.length_append] at this; have := HLK.out; omega
      clear hl hbel
      by_cases hj0 : j = 0
      · subst hj0
        have hfin : l = mkD K := by rw [← HL.out, mkD_zero, List.nil_append]
        have HF := Lib.hid (show R (.returned (.string (⟨#[109]⟩ ++ ⟨l.toArray⟩))) wr by have := HR.out _ HB.out; rw [HT.out, ← hfin] at this; exact this)
        clear hfin
        go_wp2
        first | go_ret | skip
        exact HF.out
      · obtain ⟨r, hr⟩ : ∃ r, r = j % 10 := ⟨_, rfl⟩
        obtain ⟨q, hq⟩ : ∃ q, q = j / 10 := ⟨_, rfl⟩
        have hr10 : r < 10 := by omega
        have hqj : q < j := by omega
        have HN : Hid (mkD q ++ (chr r :: l) = mkD K) := Lib.hid (by
          have := HL.out
          rw [mkD_step (by omega), ← hr, ← hq] at this
          rw [← this]; simp)
        have hcv := conv1 wr r
        have e1 : (j : Int) % 10 = (r : Int) := by omega
        have e2 : Int.tmod (j : Int) 10 = (r : Int) := by rw [Int.tmod_eq_emod_of_nonneg (by omega)]; exact e1
        have e3 : IntKind.i64.wrap (r : Int) = (r : Int) := IntWalk.i64_in _ (by omega)
        have e4 : IntKind.i64.wrap (48 + (r : Int)) = 48 + (r : Int) := IntWalk.i64_in _ (by omega)
        have e5 : IntKind.u8.wrap (48 + (r : Int)) = 48 + (r : Int) := by rw [IntKind.wrap_u8]; omega
        have e6 : (j : Int) / 10 = (q : Int) := by omega
        have e7 : Int.tdiv (j : Int) 10 = (q : Int) := by rw [Int.tdiv_eq_ediv_of_nonneg (by omega)]; exact e6
        have e8 : IntKind.i64.wrap (q : Int) = (q : Int) := IntWalk.i64_in _ (by have := HKK.out; omega)
        have HBA := Lib.hid (HB.out.alloc HB.out.size (.cells #[.int .u8 (48 + (r : Int))] 5))
        have hqK : q ≤ K := by omega
        clear hr hq hj0
        go_wp2
        go_roundw
        case rel => exact ⟨q, chr r :: l, by first | rfl | go_num, by first | rfl | (rw [ByteArray.mk_append_mk]; rfl), hqK, HN.out, HBA.out⟩
        case measure => simp [intOf]; omega
end Go.Proofs.YtnfehccicnpbpaaGreatDoor

namespace Go.Proofs.YtnfehccicnpbpaaGreatDoor
open Go Go.RowKit

/-- of what there was, nothing but one block has turned, if any has -/
structure ButO (o : Option Nat) (w w' : World) : Prop where
  os : w'.os = w.os
  tape : w'.tape = w.tape
  output : w'.output = w.output
  size : w.heap.size ≤ w'.heap.size
  block : ∀ k, k < w.heap.size → o ≠ some k → w'.heap[k]? = w.heap[k]?

theorem ButO.refl (o : Option Nat) (w : World) : ButO o w w := ⟨rfl, rfl, rfl, Nat.le_refl _, fun _ _ _ => rfl⟩
theorem ButO.trans {o : Option Nat} {a b c : World} (h : ButO o a b) (k : ButO o b c) : ButO o a c :=
  ⟨k.os.trans h.os, k.tape.trans h.tape, k.output.trans h.output, Nat.le_trans h.size k.size, fun i hi ho => (k.block i (Nat.lt_of_lt_of_le hi h.size) ho).trans (h.block i hi ho)⟩
theorem ButO.of {o : Option Nat} {w w' : World} (h : Below w.heap.size w w') : ButO o w w' := ⟨h.os, h.tape, h.output, h.size, fun k hk _ => h.block k hk⟩
theorem ButO.set {g : Nat} (w : World) (i : Nat) (u : Value) : ButO (some g) w (w.setCell ⟨g, i, none⟩ u) :=
  ⟨rfl, rfl, rfl, by simp [World.setCell], fun k _ ho => Below.heap_setCell _ _ _ _ (fun e => ho (by rw [e]))⟩
theorem ButO.below {o : Option Nat} {B : Nat} {w w' : World} (h : ButO o w w') (ho : ∀ g, o = some g → B ≤ g) (hB : B ≤ w.heap.size) : Below B w w' :=
  ⟨h.os, h.tape, h.output, h.size, fun k hk => h.block k (by omega) (fun e => by have := ho k e; omega)⟩
theorem OwE.base {α : Type} {sz : Nat} {E : World → List Value → α → Prop} {e : TypeId} {w : World} {B : Nat} {v : Value} {xs : List α} (h : OwE sz E e w B v xs) : ∀ g, v.ownBlock = some g → B ≤ g := by
  rcases h with ⟨rfl, _⟩ | ⟨g, cap, cur, rfl, h2, _⟩
  · intro g hg; cases hg
  · intro g' hg
    obtain rfl : g = g' := by simpa [Value.ownBlock] using hg
    exact h2
theorem OwE.butO {e : TypeId} {w w' : World} {B : Nat} {v : Value} {xs : List ByteArray} {o : Option Nat} (h : OwE 1 ET e w B v xs) (hb : ButO o w w') (hne : ∀ g, v.ownBlock = some g → o ≠ some g) : OwE 1 ET e w' B v xs := by
  rcases h with h | ⟨g, cap, cur, rfl, h2, h3, h4, h5, h6, h7, h8⟩
  · exact .inl h
  · exact .inr ⟨g, cap, cur, rfl, h2, by rw [hb.block g (lt_of_block h3) (hne g (by simp [Value.ownBlock]))]; exact h3, h4, h5, h6, h7, fun i x hi => h8 i x hi⟩

/-- a text of an own list is replaced -/
theorem OwE.setT {e : TypeId} {w : World} {B : Nat} {v : Value} {L : List ByteArray} (h : OwE 1 ET e w B v L) (i : Nat) (hi : i < L.length) :
    ∃ g cap u, v = .slice (some ⟨g, 0, none⟩) L.length cap ∧ v.ownBlock = some g ∧ g < w.heap.size ∧ w.cell? ⟨g, i, none⟩ = some u ∧ w.frozen? ⟨g, i, none⟩ = false ∧ ∀ s, OwE 1 ET e (w.setCell ⟨g, i, none⟩ (.string s)) B v (L.set i s) := by
  rcases h with ⟨_, rfl⟩ | ⟨g, cap, cur, rfl, h2, h3, h4, h5, h6, h7, h8⟩
  · simp at hi
  · have hic : i < cur.size := by rw [h6]; omega
    refine ⟨g, cap, cur[i], rfl, by simp [Value.ownBlock], lt_of_block h3, ?_, ?_, fun s => ?_⟩
    · simp only [World.cell?, h3, Option.isSome_none, Bool.false_eq_true, if_false]
      exact Array.getElem?_eq_getElem hic
    · simp [World.frozen?, h3]
    · refine .inr ⟨g, cap, cur.setIfInBounds i (.string s), by rw [List.length_set], h2, ?_, by rw [List.length_set]; exact h4, h5, by rw [Array.size_setIfInBounds]; exact h6, ?_, fun j x hj => ?_⟩
      · simp only [World.setCell, Array.getElem?_modify, h3]
        simp
      · intro u hu
        rw [Array.toList_setIfInBounds] at hu
        rcases List.mem_or_eq_of_mem_set hu with hu | rfl
        · exact h7 u hu
        · rfl
      · show ((cur.setIfInBounds i (.string s)).toList.drop (j * 1)).take 1 = [.string x]
        rw [Array.toList_setIfInBounds, Nat.mul_one]
        rw [List.getElem?_set] at hj
        by_cases hij : i = j
        · subst hij
          rw [if_pos rfl, if_pos hi] at hj
          cases hj
          rw [List.drop_eq_getElem_cons (by rw [List.length_set, Array.length_toList]; exact hic)]
          simp
        · rw [if_neg hij] at hj
          have := h8 j x hj
          rw [Nat.mul_one] at this
          have hj2 : j < cur.size := by have := (List.getElem?_eq_some_iff.1 hj).1; rw [h6]; omega
          have h9 : (cur.toList.drop j).take 1 = [cur.toList[j]'(by rw [Array.length_toList]; exact hj2)] := by
            rw [List.drop_eq_getElem_cons (by rw [Array.length_toList]; exact hj2)]; simp
          have h10 : ((cur.toList.set i (.string s)).drop j).take 1 = [cur.toList[j]'(by rw [Array.length_toList]; exact hj2)] := by
            rw [List.drop_eq_getElem_cons (by rw [List.length_set, Array.length_toList]; exact hj2)]
            simp [List.getElem_set_ne hij]
          rw [h10, ← h9]; exact this

theorem below_unD {B : Nat} {w w' : World} (h : Below B w.drew w') : Below B w w' := ⟨h.os, h.tape, h.output, h.size, h.block⟩

/-- the marks from a number on -/
def marks (k0 n : Nat) : List ByteArray := (List.range n).map fun i => mkT (k0 + i)
theorem marks_len (k0 n : Nat) : (marks k0 n).length = n := by simp [marks]
theorem marks_at {k0 n i : Nat} (h : i < n) : (marks k0 n)[i]? = some (mkT (k0 + i)) := by
  simp [marks, h]
theorem marks_set {k0 k : Nat} {L : List ByteArray} (h : k < L.length) : (marks k0 k ++ L.drop k).set k (mkT (k0 + k)) = marks k0 (k + 1) ++ L.drop (k + 1) := by
  rw [List.set_append_right _ _ (by rw [marks_len]; exact Nat.le_refl _), marks_len, Nat.sub_self, List.drop_eq_getElem_cons h, List.set_cons_zero]
  unfold marks
  rw [List.range_succ, List.map_append]
  simp

/-- the loop that marks -/
def MarkRel (e : TypeId) (w : World) (B : Nat) (v : Value) (k0 n : Nat) (L : List ByteArray) (kv iv : Value) (wr : World) : Prop :=
  ∃ k, iv = .int .i64 ((k : Nat) : Int) ∧ kv = .int .i64 ((k0 + k : Nat) : Int) ∧ k ≤ n ∧ OwE 1 ET e wr B v (marks k0 k ++ L.drop k) ∧ ButO v.ownBlock w wr

set_option maxRecDepth 100000 in
set_option maxHeartbeats 1000000 in
theorem mark_any (v : Value) (L : List ByteArray) (k0 : Nat) (B : Nat) (w : World) (h : OwE 1 ET 9 w B v L) (hn : L.length ≤ 1000000000) (hk : k0 ≤ 1000000000) (R : Ending → World → Prop)
    (hR : ∀ w', OwE 1 ET 9 w' B v (marks k0 L.length) → ButO v.ownBlock w w' → R (.returned (.int .i64 ((k0 + L.length : Nat) : Int))) w') :
    Calls Tryz.prog 61 #[v, .int .i64 (k0 : Int)] w R := by
  have HR := Lib.hid hR; clear hR
  have HST : Hid (MarkRel 9 w B v k0 L.length L (.int .i64 (k0 : Int)) (.int .i64 0) w) := Lib.hid ⟨0, rfl, rfl, Nat.zero_le _, by simpa [marks] using h, ButO.refl _ _⟩
  obtain ⟨ao, n, cap, rfl, hnl⟩ := h.shape
  obtain ⟨v0, hv0⟩ : ∃ v0, v0 = Value.slice ao n cap := ⟨_, rfl⟩
  rw [← hv0] at HST HR
  have HV0 := Lib.hid hv0
  have HN := Lib.hid hnl
  have hn9 : n ≤ 1000000000 := by omega
  clear h hnl hv0 hn
  rw [← HN.out] at HST HR
  go_enter Tryz.func61, Tryz.ntmps61
  go_wp2
  go_loopw [1, 5] (fun kv iv wr => MarkRel 9 w B v0 k0 n L kv iv wr) (fun _ iv _ => n - (intOf iv).toNat)
  case atStart => exact HST.out
  case round =>
    clear HST
    obtain ⟨k, rfl, rfl, hkn, hown, hbut⟩ := hrel
    have HBUT := Lib.hid hbut
    clear hbut
    by_cases hke : k = n
    · subst hke
      have he : marks k0 k ++ L.drop k = marks k0 k := by rw [HN.out, List.drop_length, List.append_nil]
      rw [he] at hown
      have HF := Lib.hid (HR.out wr hown HBUT.out)
      have hk0 : ¬ ((k : Int) < (k : Int)) := by omega
      clear hown he
      go_wp2
      first | go_ret | skip
      exact HF.out
    · have hkl : k < n := by omega
      have hlen : k < (marks k0 k ++ L.drop k).length := by rw [List.length_append, marks_len, List.length_drop, ← HN.out]; omega
      have HOWN := Lib.hid hown
      have HKL := Lib.hid hkl
      have hw1 : IntKind.i64.wrap ((k : Int) + 1) = ((k + 1 : Nat) : Int) := by rw [IntWalk.i64_in _ (by omega)]; omega
      have hw2 : IntKind.i64.wrap (((k0 + k : Nat) : Int) + 1) = ((k0 + (k + 1) : Nat) : Int) := by rw [IntWalk.i64_in _ (by omega)]; omega
      have HLEN := Lib.hid hlen
      obtain ⟨z, hz⟩ : ∃ z, z = k0 + k := ⟨_, rfl⟩
      have HZ := Lib.hid hz
      rw [← hz] at hw2 ⊢
      have hzl : z ≤ 1000000000000 := by omega
      obtain ⟨z2, hz2⟩ : ∃ z2 : Nat, z2 = k0 + (k + 1) := ⟨_, rfl⟩
      have HZ2 := Lib.hid hz2
      rw [← hz2] at hw2
      have hi0 : (0 : Int) ≤ (k : Int) := by omega
      have hi1 : (k : Int) < (n : Int) := by omega
      clear hown hlen hke hz hz2 hk
      go_wp2_with fail
      refine markText_any z _ hzl _ ?_
      intro w1 hb1
      have HB1 := Lib.hid hb1
      have hown1 := HOWN.out.later elemT hb1 (Nat.le_refl _)
      obtain ⟨g, cap', u, hv, hob, hg, hc, hf, hset⟩ := hown1.setT k HLEN.out
      have hs := hset (mkT z)
      rw [HZ.out, marks_set (show k < L.length by rw [← HN.out]; exact HKL.out)] at hs
      rw [← HZ.out] at hs
      have HS := Lib.hid hs
      have HOB := Lib.hid hob
      have hv' : some (⟨g, 0, none⟩ : Addr) = ao := by
        have := HV0.out
        rw [hv] at this
        simp only [Value.slice.injEq] at this
        exact this.1
      subst hv'
      clear hb1 hown1 hset hs hob hv
      dsimp only
      go_wp2
      go_roundw
      case rel =>
        refine ⟨k + 1, by first | rfl | go_num, by rw [← HZ2.out], HKL.out, HS.out, HBUT.out.trans ((ButO.of HB1.out).trans ?_)⟩
        rw [HOB.out]; exact ButO.set _ _ _
      case measure => simp [intOf]; have := HKL.out; omega

theorem OwE.tx {e : TypeId} {w : World} {B : Nat} {v : Value} {L : List ByteArray} (h : OwE 1 ET e w B v L) : TxL w v L := h.sl
theorem OwE.mono {α : Type} {sz : Nat} {E : World → List Value → α → Prop} {e : TypeId} {w : World} {B B' : Nat} {v : Value} {xs : List α} (h : OwE sz E e w B v xs) (hB : B' ≤ B) : OwE sz E e w B' v xs := by
  rcases h with h | ⟨g, cap, cur, h1, h2, h3⟩
  · exact .inl h
  · exact .inr ⟨g, cap, cur, h1, Nat.le_trans hB h2, h3⟩
theorem OwE.own_lt {α : Type} {sz : Nat} {E : World → List Value → α → Prop} {e : TypeId} {w : World} {B : Nat} {v : Value} {xs : List α} (h : OwE sz E e w B v xs) : ∀ g, v.ownBlock = some g → g < w.heap.size := by
  rcases h with ⟨rfl, _⟩ | ⟨g', cap, cur, rfl, _, h3, _⟩
  · intro g hg; cases hg
  · intro g hg
    obtain rfl : g' = g := by simpa [Value.ownBlock] using hg
    exact lt_of_block h3
end Go.Proofs.YtnfehccicnpbpaaGreatDoor

namespace Go.Proofs.YtnfehccicnpbpaaGreatDoor
open Go Go.RowKit

theorem TArr.own {e : TypeId} {w : World} {g : Nat} {L : List ByteArray} (h : TArr e w g L) (B n : Nat) (hn : n = L.length) (hB : B ≤ g) (hm : n ≤ 1048576) : OwE 1 ET e w B (.slice (some ⟨g, 0, none⟩) n n) L := by
  subst hn
  refine .inr ⟨g, L.length, _, rfl, hB, h, Nat.le_refl _, by simp only [maxLen]; omega, by simp, ?_, ?_⟩
  · intro u hu
    simp at hu
    obtain ⟨s, _, rfl⟩ := hu
    rfl
  · intro i x hx
    show ((L.map Value.string).toArray.toList.drop (i * 1)).take 1 = [.string x]
    obtain ⟨hi, rfl⟩ := List.getElem?_eq_some_iff.1 hx
    rw [Nat.mul_one, List.toList_toArray, List.drop_eq_getElem_cons (by rw [List.length_map]; exact hi)]
    simp

set_option maxRecDepth 100000 in
set_option maxHeartbeats 1000000 in
theorem toT_own (v : Value) (L : List ByteArray) (w : World) (h : TxL w v L) (hn : L.length ≤ 1048576) (R : Ending → World → Prop)
    (hR : ∀ v' w', OwE 1 ET 9 w' w.heap.size v' L → Below w.heap.size w w' → R (.returned v') w') :
    Calls Tryz.prog 53 #[v] w R := by
  have HR := Lib.hid hR; clear hR
  obtain ⟨ao, n, cap, rfl, hnl, hc, hh⟩ := h.open
  have HH := Lib.hid hh
  have HN := Lib.hid hnl
  rw [← hnl] at hn
  clear h hnl hh
  go_enter Tryz.func53, Tryz.ntmps53
  go_wp2_with (at_make; go_must (refine wpList_maket _ rfl (.tmp 6) 22 rfl 9 16 Tryz.underlying22 info_str (by omega) .i64 _ n rfl (by omega) (by omega) ?_))
  intro W hA hbW hsW
  have HST : Hid (CopyRel w n L (.int .i64 0) W) := Lib.hid ⟨0, rfl, Nat.zero_le _, by simpa using hA, hbW⟩
  clear hA hbW hsW
  go_wp2
  go_loopw [4] (fun i wr => CopyRel w n L i wr) (fun i _ => n - (intOf i).toNat)
  case atStart => exact HST.out
  case round =>
    clear HST
    obtain ⟨k, rfl, hk, hA, hbel⟩ := hrel
    have HB := Lib.hid hbel
    by_cases hkn : k = n
    · subst hkn
      have hL : L.take k ++ List.replicate (k - k) ByteArray.empty = L := by rw [Nat.sub_self, HN.out, List.take_length]; simp
      rw [hL] at hA
      have HT := Lib.hid (hA.own w.heap.size k HN.out (Nat.le_refl _) (by omega))
      clear hA hbel hL
      go_wp2
      first | go_ret | skip
      exact HR.out _ _ HT.out HB.out
    · have hkl : k < n := by omega
      obtain ⟨s, hs⟩ : ∃ s, L[k]? = some s := ⟨_, List.getElem?_eq_getElem (by rw [← HN.out]; exact hkl)⟩
      obtain ⟨b, off, rfl, hb, hcell⟩ := TxL.at HH.out k s hs
      rw [← hbel.cell (p := ⟨b, off + k, none⟩) hb] at hcell
      have hlen : (L.take k ++ List.replicate (n - k) ByteArray.empty).length = n := by rw [List.length_append, List.length_take, List.length_replicate, ← HN.out]; omega
      have hc2 := hA.cell k _ (List.getElem?_eq_getElem (by rw [hlen]; exact hkl))
      have hf2 := hA.frozen k
      have hA2 := hA.set k s
      rw [set_copy L k n ByteArray.empty s hkl hs] at hA2
      have HA2 := Lib.hid hA2
      obtain ⟨u, hu⟩ : ∃ u, u = (L.take k ++ List.replicate (n - k) ByteArray.empty)[k]'(by rw [hlen]; exact hkl) := ⟨_, rfl⟩
      rw [← hu] at hc2
      have hw1 : IntKind.i64.wrap ((k : Int) + 1) = ((k + 1 : Nat) : Int) := by rw [IntWalk.i64_in _ (by omega)]; omega
      clear hA hA2 hbel hlen hs hu
      go_wp2
      go_roundw
      case rel => exact ⟨k + 1, by first | rfl | go_num, by omega, HA2.out, HB.out.setCell (Nat.le_refl _) _⟩
      case measure => simp [intOf]; omega
end Go.Proofs.YtnfehccicnpbpaaGreatDoor

namespace Go.Proofs.YtnfehccicnpbpaaGreatDoor
open Go Go.RowKit

/-- a value of the program's type of recurrences whose lists are own, in different blocks -/
def OwR (w : World) (B : Nat) (v : Value) (L1 L2 : List ByteArray) : Prop :=
  ∃ s1 s2 M, v = .agg #[s1, s2] ∧ OwE 1 ET 9 w B s1 L1 ∧ OwE 1 ET 9 w M s2 L2 ∧ B ≤ M ∧ M ≤ w.heap.size ∧ ∀ g, s1.ownBlock = some g → g < M

theorem OwR.rec {w : World} {B : Nat} {v : Value} {L1 L2 : List ByteArray} (h : OwR w B v L1 L2) : IsRec w v L1 L2 := by
  obtain ⟨s1, s2, M, rfl, h1, h2, _⟩ := h
  exact ⟨s1, s2, rfl, h1.tx, h2.tx⟩

/-- the blocks of a recurrence's lists -/
def rcBlock (v : Value) (g : Nat) : Prop := match v with
  | .agg #[s1, s2] => s1.ownBlock = some g ∨ s2.ownBlock = some g
  | _ => False

theorem ButO.both {a b c d : World} {o1 o2 : Option Nat} {B : Nat} (h1 : Below a.heap.size a b) (h2 : ButO o1 b c) (h3 : ButO o2 c d) (k1 : ∀ g, o1 = some g → B ≤ g) (k2 : ∀ g, o2 = some g → B ≤ g) (hB : B ≤ a.heap.size) : Below B a d :=
  ((h1.mono hB).trans (h2.below k1 (Nat.le_trans hB h1.size))).trans (h3.below k2 (Nat.le_trans hB (Nat.le_trans h1.size h2.size)))

set_option maxRecDepth 100000 in
set_option maxHeartbeats 2000000 in
theorem markRO_any (s1 s2 : Value) (L1 L2 : List ByteArray) (k0 : Nat) (B : Nat) (w : World) (h : OwR w B (.agg #[s1, s2]) L1 L2) (hn1 : L1.length ≤ 2000000) (hn2 : L2.length ≤ 2000000) (hk : k0 ≤ 1000000) (R : Ending → World → Prop)
    (hR : ∀ w' La wm, Below w.heap.size w La → ButO s1.ownBlock La wm → ButO s2.ownBlock wm w' → R (.returned (.int .i64 ((k0 + L1.length + L2.length : Nat) : Int))) w') :
    Calls Tryz.prog 23 #[.agg #[s1, s2], .int .i64 (k0 : Int)] w R := by
  have HR := Lib.hid hR; clear hR
  obtain ⟨t1, t2, M, ev, h1, h2, h3, h4, h5⟩ := h
  simp only [Value.agg.injEq, Array.mk.injEq, List.cons.injEq, and_true] at ev
  obtain ⟨rfl, rfl⟩ := ev
  obtain ⟨a1, n1, c1, rfl, e1⟩ := h1.shape
  obtain ⟨a2, n2, c2, rfl, e2⟩ := h2.shape
  obtain ⟨L, hL⟩ : ∃ L, L = w.alloc (.cells #[.slice a1 n1 c1, .slice a2 n2 c2] 28) := ⟨_, rfl⟩
  have HBL : Hid (Below w.heap.size w L) := Lib.hid (by rw [hL]; exact (Below.refl _ _).alloc (Nat.le_refl _) _)
  have B0 : Hid (Box2 L w.heap.size (.slice a1 n1 c1) (.slice a2 n2 c2) 28) := Lib.hid (by rw [hL]; exact Box2.made _ _ _ _)
  have HL := Lib.hid hL
  have HO1 := Lib.hid h1.own_lt
  have HO2 := Lib.hid h2.own_lt
  have H1 := Lib.hid (h1.later elemT HBL.out (Nat.le_refl _))
  have H2 := Lib.hid (h2.later elemT HBL.out (Nat.le_refl _))
  have HM := Lib.hid (And.intro h3 (And.intro h4 h5))
  have HN := Lib.hid (And.intro hn1 (And.intro hn2 hk))
  obtain ⟨hA0, hA1, _, _⟩ := B0.out.cells
  clear h1 h2 h3 h4 h5 e1 e2 hn1 hn2 hk hL
  go_enter Tryz.func23, Tryz.ntmps23
  rw [HL.out] at hA0 hA1
  go_wp2_with fail
  rw [← HL.out]
  refine mark_any _ L1 k0 B L H1.out (by have := HN.out.1; omega) (by have := HN.out.2.2; omega) _ ?_
  intro w1 hv1 hb1
  have B1 : Hid (Box2 w1 w.heap.size (.slice a1 n1 c1) (.slice a2 n2 c2) 28) := Lib.hid (by
    have k := hb1.block w.heap.size (lt_of_block B0.out) (fun e => by have := HO1.out _ e; omega)
    have := B0.out
    unfold Box2 at *
    rw [k]; exact this)
  have H2b := Lib.hid (H2.out.butO hb1 (fun g hg e => by have k1 := HM.out.2.2 g e; have k2 := H2.out.base g hg; omega))
  have HB1 := Lib.hid hb1
  obtain ⟨k1, hk1⟩ : ∃ k1, k1 = k0 + L1.length := ⟨_, rfl⟩
  rw [← hk1] at HR ⊢
  have HK1 : Hid (k1 ≤ 1000000000) := Lib.hid (by have := HN.out; omega)
  clear hv1 hb1 hk1 hA0 hA1
  obtain ⟨hA0, hA1, _, _⟩ := B1.out.cells
  dsimp only
  go_wp2_with fail
  refine mark_any _ L2 k1 M w1 H2b.out (by have := HN.out.2.1; omega) HK1.out _ ?_
  intro w2 hv2 hb2
  have HF := Lib.hid (HR.out w2 L w1 HBL.out HB1.out hb2)
  clear hv2 hb2 hA0 hA1
  dsimp only
  go_wp2
  first | go_ret | skip
  exact HF.out
end Go.Proofs.YtnfehccicnpbpaaGreatDoor

namespace Go.Proofs.YtnfehccicnpbpaaGreatDoor
open Go Go.RowKit

theorem OwR.later0 {w w' : World} {B : Nat} {v : Value} {L1 L2 : List ByteArray} (h : OwR w B v L1 L2) (hb : Below w.heap.size w w') : OwR w' B v L1 L2 := by
  obtain ⟨s1, s2, M, rfl, h1, h2, h3, h4, h5⟩ := h
  exact ⟨s1, s2, M, rfl, h1.later elemT hb (Nat.le_refl _), h2.later elemT hb (Nat.le_refl _), h3, Nat.le_trans h4 hb.size, h5⟩

set_option maxRecDepth 100000 in
set_option maxHeartbeats 2000000 in
theorem toR_own (v : Value) (L1 L2 : List ByteArray) (w : World) (h : IsRec w v L1 L2) (hn1 : L1.length ≤ 1048576) (hn2 : L2.length ≤ 1048576) (R : Ending → World → Prop)
    (hR : ∀ v' w', OwR w' w.heap.size v' L1 L2 → (∀ g, rcBlock v' g → g < w'.heap.size) → Below w.heap.size w w' → R (.returned v') w') :
    Calls Tryz.prog 17 #[v] w R := by
  have HR := Lib.hid hR; clear hR
  obtain ⟨s1, s2, rfl, h1, h2⟩ := h
  obtain ⟨a1, n1, c1, rfl, h1'⟩ := h1.op
  obtain ⟨a2, n2, c2, rfl, h2'⟩ := h2.op
  obtain ⟨L, hL⟩ : ∃ L, L = ((w.alloc (.cells #[.slice a1 n1 c1, .slice a2 n2 c2] 24)).alloc (.cells #[.slice none 0 0, .slice none 0 0] 28)).alloc (.cells #[.slice none 0 0, .slice none 0 0] 28) := ⟨_, rfl⟩
  have HLS : Hid (L.heap.size = w.heap.size + 3) := Lib.hid (by rw [hL]; simp)
  have B0 : Hid (Box2 L w.heap.size (.slice a1 n1 c1) (.slice a2 n2 c2) 24) := Lib.hid (by
    rw [hL]; exact ((Box2.made w _ _ _).later (B := w.heap.size + 1) ((Below.refl _ _).alloc (by simp) _) (by omega)).later (B := w.heap.size + 2) ((Below.refl _ _).alloc (by simp) _) (by omega))
  have B1 : Hid (Box2 L (w.heap.size + 1) (.slice none 0 0) (.slice none 0 0) 28) := Lib.hid (by
    have := (Box2.made (w.alloc (.cells #[.slice a1 n1 c1, .slice a2 n2 c2] 24)) (.slice none 0 0) (.slice none 0 0) 28).later (B := w.heap.size + 2) ((Below.refl _ _).alloc (by simp) (.cells #[.slice none 0 0, .slice none 0 0] 28)) (by simp)
    rw [World.size_alloc, ← hL] at this; exact this)
  have B2 : Hid (Box2 L (w.heap.size + 2) (.slice none 0 0) (.slice none 0 0) 28) := Lib.hid (by
    have := Box2.made ((w.alloc (.cells #[.slice a1 n1 c1, .slice a2 n2 c2] 24)).alloc (.cells #[.slice none 0 0, .slice none 0 0] 28)) (.slice none 0 0) (.slice none 0 0) 28
    rw [World.size_alloc, World.size_alloc, ← hL] at this; exact this)
  have HEXT : Hid (Below w.heap.size w L) := Lib.hid (by rw [hL]; exact (((Below.refl w.heap.size w).alloc (Nat.le_refl _) _).alloc (by simp) _).alloc (by simp; omega) _)
  have H1 := Lib.hid (h1'.later HEXT.out (Nat.le_refl _))
  have H2 := Lib.hid (h2'.later HEXT.out (Nat.le_refl _))
  have HN := Lib.hid (And.intro hn1 hn2)
  have HL := Lib.hid hL
  obtain ⟨hA0, hA1, _, _⟩ := B0.out.cells
  clear h1 h2 h1' h2' hn1 hn2 hL
  go_enter Tryz.func17, Tryz.ntmps17
  rw [HL.out] at hA0 hA1
  go_wp2_with fail
  rw [← HL.out] at hA0 hA1 ⊢
  refine toT_own _ L1 L H1.out HN.out.1 _ ?_
  intro v1 w1 hv1 hb1
  obtain ⟨x1, m1, y1, rfl, ex1⟩ := hv1.shape
  clear ex1
  have HOL := Lib.hid hv1.own_lt
  have B0a := Lib.hid (B0.out.later hb1 (lt_of_block B0.out))
  have B1a := Lib.hid (B1.out.later hb1 (lt_of_block B1.out))
  have B2a := Lib.hid (B2.out.later hb1 (lt_of_block B2.out))
  obtain ⟨hC0, hC1, hF0, hF1⟩ := B2a.out.cells
  obtain ⟨W, hW⟩ : ∃ W, W = w1.setCell ⟨w.heap.size + 2, 0, none⟩ (.slice x1 m1 y1) := ⟨_, rfl⟩
  have HW := Lib.hid hW
  have HV1 := Lib.hid (hv1.setOld elemT (b := w.heap.size + 2) (by rw [HLS.out]; omega) (B2a.out.noInt rfl rfl) 0 (.slice x1 m1 y1))
  rw [← hW] at HV1
  have H2a := Lib.hid ((H2.out.later hb1 (Nat.le_refl _)).setAt hC0 (no_str_sl _ _ _) (.slice x1 m1 y1))
  rw [← hW] at H2a
  have HBW : Hid (Below w.heap.size w W) := Lib.hid (by rw [hW]; exact (HEXT.out.trans (hb1.mono HEXT.out.size)).setCell (by simp) _)
  have hlt : w.heap.size + 2 < w1.heap.size := by have := HLS.out; have := hb1.size; omega
  have HWS : Hid (W.heap.size = w1.heap.size) := Lib.hid (by rw [hW]; simp)
  have B2b : Hid (Box2 W (w.heap.size + 2) (.slice x1 m1 y1) (.slice none 0 0) 28) := Lib.hid (by
    rw [hW]
    have := B2a.out
    unfold Box2 at this ⊢
    simp [World.setCell, Array.getElem?_modify, this])
  have B0b : Hid (Box2 W w.heap.size (.slice a1 n1 c1) (.slice a2 n2 c2) 24) := Lib.hid (by
    have := B0a.out
    unfold Box2 at this ⊢
    rw [hW, Below.heap_setCell _ _ _ _ (by simp)]; exact this)
  have B1b : Hid (Box2 W (w.heap.size + 1) (.slice none 0 0) (.slice none 0 0) 28) := Lib.hid (by
    have := B1a.out
    unfold Box2 at this ⊢
    rw [hW, Below.heap_setCell _ _ _ _ (by simp)]; exact this)
  have e1 : ¬ w.heap.size = w.heap.size + 2 := by omega
  have HLT := Lib.hid hlt
  obtain ⟨hD0, hD1, _, _⟩ := B0a.out.cells
  have HZ1 : Hid (w.heap.size ≤ L.heap.size ∧ L.heap.size ≤ W.heap.size) := Lib.hid ⟨HEXT.out.size, by rw [HWS.out]; exact hb1.size⟩
  clear hA0 hA1 hv1 hb1 hW hlt
  dsimp only
  go_wp2_with fail
  rw [← HW.out]
  clear hC0 hC1 hF0 hF1 hD0 hD1
  refine toT_own _ L2 W H2a.out HN.out.2 _ ?_
  intro v2 w2 hv2 hb2
  obtain ⟨x2, m2, y2, rfl, ex2⟩ := hv2.shape
  clear ex2
  have HOL2 := Lib.hid hv2.own_lt
  have B1c := Lib.hid (B1b.out.later hb2 (lt_of_block B1b.out))
  have B2c := Lib.hid (B2b.out.later hb2 (lt_of_block B2b.out))
  have HV1c := Lib.hid (HV1.out.later elemT hb2 (Nat.le_refl _))
  have HV2 := Lib.hid hv2
  have HZ2 : Hid (W.heap.size ≤ w2.heap.size) := Lib.hid hb2.size
  have HB2 := Lib.hid (HBW.out.trans (hb2.mono HBW.out.size))
  obtain ⟨hC0, hC1, hF0, hF1⟩ := B2c.out.cells
  obtain ⟨hR0, hR1, hG0, hG1⟩ := B1c.out.cells
  have e2 : ¬ w.heap.size + 1 = w.heap.size + 2 := by omega
  have e3 : ¬ w.heap.size + 2 = w.heap.size + 1 := by omega
  clear hv2 hb2
  dsimp only
  go_wp2
  refine bodyPost_ret_at (by simp [results, Tryz.results17, go_sem, hC0, hC1, hF0, hF1, hR0, hR1, hG0, hG1] <;> rfl) rfl ?_
  have n2 := B2c.out.noInt rfl rfl
  have n1 := B1c.out.noInt rfl rfl
  have T1 := HV1c.out.setOld elemT (b := w.heap.size + 2) (by rw [HLS.out]; omega) n2 1 (.slice x2 m2 y2)
  have T2 := HV2.out.setOld elemT (b := w.heap.size + 2) (by have := HZ1.out.2; have := HLS.out; omega) n2 1 (.slice x2 m2 y2)
  have nn : ∀ (wz : World) (o : Nat) (u : Value), NoInt wz (w.heap.size + 1) → notInt u = true → ∀ b, NoInt (wz.setCell ⟨b, o, none⟩ u) (w.heap.size + 1) := by
    intro wz o u hz hu b o' u' h'
    rw [cell?_set] at h'
    split at h'
    · rw [Option.map_eq_some_iff] at h'
      obtain ⟨_, _, rfl⟩ := h'
      exact hu
    · exact hz _ _ h'
  have k0 := nn _ 1 (.slice x2 m2 y2) n1 rfl (w.heap.size + 2)
  have T3 := T1.setOld elemT (b := w.heap.size + 1) (by rw [HLS.out]; omega) k0 0 (.slice x1 m1 y1)
  have T4 := T2.setOld elemT (b := w.heap.size + 1) (by have := HZ1.out.2; have := HLS.out; omega) k0 0 (.slice x1 m1 y1)
  have k1 := nn _ 0 (.slice x1 m1 y1) k0 rfl (w.heap.size + 1)
  have T5 := T3.setOld elemT (b := w.heap.size + 1) (by rw [HLS.out]; omega) k1 1 (.slice x2 m2 y2)
  have T6 := T4.setOld elemT (b := w.heap.size + 1) (by have := HZ1.out.2; have := HLS.out; omega) k1 1 (.slice x2 m2 y2)
  refine HR.out _ _ ⟨_, _, W.heap.size, rfl, T5.mono HZ1.out.1, T6, Nat.le_trans HZ1.out.1 HZ1.out.2, ?_, fun g hg => by have := HOL.out g hg; rw [HWS.out]; exact this⟩ ?_ (((HB2.out.setCell (by simp <;> omega) _).setCell (by simp <;> omega) _).setCell (by simp <;> omega) _)
  · simp; exact HZ2.out
  · intro g hg
    simp
    rcases hg with hg | hg
    · have := HOL.out g hg; have h8 := HZ2.out; have h9 := HWS.out; omega
    · exact HOL2.out g hg
end Go.Proofs.YtnfehccicnpbpaaGreatDoor

namespace Go.Proofs.YtnfehccicnpbpaaGreatDoor
open Go Go.RowKit

theorem Own.butO {k : IntKind} {e : TypeId} {w w' : World} {B : Nat} {v : Value} {xs : List Nat} {o : Option Nat} (h : Own k e w B v xs) (hb : ButO o w w') (hne : ∀ g, v.ownBlock = some g → o ≠ some g) : Own k e w' B v xs := by
  obtain ⟨h1, h2⟩ := h
  refine ⟨h1, ?_⟩
  rcases h2 with h2 | ⟨g, cap, cur, rfl, hbs, hh, h3⟩
  · exact .inl h2
  · exact .inr ⟨g, cap, cur, rfl, hbs, by rw [hb.block g (lt_of_block hh) (hne g (by simp [Value.ownBlock]))]; exact hh, h3⟩

theorem Own.base {k : IntKind} {e : TypeId} {w : World} {B : Nat} {v : Value} {xs : List Nat} (h : Own k e w B v xs) : ∀ g, v.ownBlock = some g → B ≤ g := fun g hg => (h.ownBlock g hg).1
theorem Own.own_lt {k : IntKind} {e : TypeId} {w : World} {B : Nat} {v : Value} {xs : List Nat} (h : Own k e w B v xs) : ∀ g, v.ownBlock = some g → g < w.heap.size := fun g hg => (h.ownBlock g hg).2

/-- a number of an own list is replaced -/
theorem Own.setI {k : IntKind} {e : TypeId} {w : World} {B : Nat} {v : Value} {xs : List Nat} (h : Own k e w B v xs) (i : Nat) (hi : i < xs.length) :
    ∃ g cap u, v = .slice (some ⟨g, 0, none⟩) xs.length cap ∧ v.ownBlock = some g ∧ g < w.heap.size ∧ w.cell? ⟨g, i, none⟩ = some u ∧ w.frozen? ⟨g, i, none⟩ = false ∧ ∀ x : Nat, Own k e (w.setCell ⟨g, i, none⟩ (.int k (x : Int))) B v (xs.set i x) := by
  obtain ⟨h1, h2⟩ := h
  rcases h2 with ⟨_, h2⟩ | ⟨g, cap, cur, rfl, hbs, hh, hn, hcm, hs, ht⟩
  · omega
  · have hic : i < cur.size := by rw [hs]; omega
    refine ⟨g, cap, cur[i], rfl, by simp [Value.ownBlock], lt_of_block hh, ?_, ?_, fun x => ?_⟩
    · simp only [World.cell?, hh, Option.isSome_none, Bool.false_eq_true, if_false]
      exact Array.getElem?_eq_getElem hic
    · simp [World.frozen?, hh]
    · have hlen : (xs.set i x).length = xs.length := List.length_set ..
      have hnum : nums k (xs.set i x) = (nums k xs).set i (.int k (x : Int)) := by simp [nums, List.map_set]
      refine ⟨by rw [hnum, List.length_set, hlen]; exact h1, .inr ⟨g, cap, cur.setIfInBounds i (.int k (x : Int)), by rw [hlen], hbs, ?_, by rw [hlen]; exact hn, hcm, by rw [Array.size_setIfInBounds]; exact hs, ?_⟩⟩
      · simp only [World.setCell, Array.getElem?_modify, hh]
        simp
      · rw [Array.toList_setIfInBounds, hlen, hnum, ← ht, List.take_set]

/-- equal lists are found equal -/
theorem eqI_any (v1 v2 : Value) (xs : List Nat) (w : World) (h1 : Sl .i64 w v1 xs) (h2 : Sl .i64 w v2 xs) (hn : xs.length ≤ 1000000000) (R : Ending → World → Prop)
    (hR : ∀ w', Below w.heap.size w w' → R (.returned (.bool true)) w') :
    Calls Tryz.prog 22 #[v1, v2] w R := by
  have HR := Lib.hid hR; clear hR
  obtain ⟨a1, c1, rfl, hc1, hh1⟩ := h1
  obtain ⟨a2, c2, rfl, hc2, hh2⟩ := h2
  have HH1 := Lib.hid hh1
  have HH2 := Lib.hid hh2
  obtain ⟨n, hn1⟩ : ∃ n, n = xs.length := ⟨_, rfl⟩
  have HN := Lib.hid hn1
  rw [← hn1] at hn ⊢
  clear hn1 hh1 hh2 hc1 hc2
  have e0 : ((n : Int) != (n : Int)) = false := by simp
  go_enter Tryz.func22, Tryz.ntmps22
  go_wp2
  clear e0
  go_loopw [5] (fun i wr => ∃ k : Nat, i = .int .i64 (k : Int) ∧ k ≤ n ∧ Below w.heap.size w wr) (fun i _ => n - (intOf i).toNat)
  case atStart => exact ⟨0, rfl, Nat.zero_le _, Below.refl _ _⟩
  case round =>
    obtain ⟨k, rfl, hk, hbel⟩ := hrel
    have HB := Lib.hid hbel
    by_cases hkn : k = n
    · subst hkn
      clear hbel
      go_wp2
      first | go_ret | skip
      exact HR.out _ HB.out
    · have hkl : k < n := by omega
      obtain ⟨b1, o1, rfl, hb1, hcell1⟩ := HH1.out k (by rw [← HN.out]; exact hkl)
      obtain ⟨b2, o2, rfl, hb2, hcell2⟩ := HH2.out k (by rw [← HN.out]; exact hkl)
      rw [← hbel.cell (p := ⟨b1, o1 + k, none⟩) hb1] at hcell1
      rw [← hbel.cell (p := ⟨b2, o2 + k, none⟩) hb2] at hcell2
      obtain ⟨x, hx⟩ : ∃ x, x = xs.getD k 0 := ⟨_, rfl⟩
      rw [← hx] at hcell1 hcell2
      have hxx : ((x : Int) != (x : Int)) = false := by simp
      have hw1 : IntKind.i64.wrap ((k : Int) + 1) = ((k + 1 : Nat) : Int) := by rw [IntWalk.i64_in _ (by omega)]; omega
      have hk0 : (0 : Int) ≤ (k : Int) := by omega
      have hk1 : (k : Int) < (n : Int) := by omega
      have HKL := Lib.hid hkl
      clear hx hbel hkn hb1 hb2
      go_wp2
      go_quiet (fail)
      go_wp2
      go_roundw
      case rel => exact ⟨k + 1, by first | rfl | go_num, HKL.out, below_draws HB.out _⟩
      case measure => simp [intOf]; have := HKL.out; omega

/-- the marks from a number on -/
def marksI (k0 n : Nat) : List Nat := (List.range n).map fun i => k0 + i
theorem marksI_len (k0 n : Nat) : (marksI k0 n).length = n := by simp [marksI]
theorem marksI_at {k0 n i : Nat} (h : i < n) : (marksI k0 n).getD i 0 = k0 + i := by simp [marksI, List.getD_eq_getElem?_getD, h]
theorem marksI_set {k0 k : Nat} {L : List Nat} (h : k < L.length) : (marksI k0 k ++ L.drop k).set k (k0 + k) = marksI k0 (k + 1) ++ L.drop (k + 1) := by
  rw [List.set_append_right _ _ (by rw [marksI_len]; exact Nat.le_refl _), marksI_len, Nat.sub_self, List.drop_eq_getElem_cons h, List.set_cons_zero]
  unfold marksI
  rw [List.range_succ, List.map_append]
  simp

def MarkRI (w : World) (B : Nat) (v : Value) (k0 n : Nat) (L : List Nat) (kv iv : Value) (wr : World) : Prop :=
  ∃ k, iv = .int .i64 ((k : Nat) : Int) ∧ kv = .int .i64 ((k0 + k : Nat) : Int) ∧ k ≤ n ∧ Own .i64 2 wr B v (marksI k0 k ++ L.drop k) ∧ ButO v.ownBlock w wr

set_option maxRecDepth 100000 in
set_option maxHeartbeats 1000000 in
theorem markI_any (v : Value) (L : List Nat) (k0 : Nat) (B : Nat) (w : World) (h : Own .i64 2 w B v L) (hn : L.length ≤ 1000000000) (hk : k0 ≤ 1000000000) (R : Ending → World → Prop)
    (hR : ∀ w', Own .i64 2 w' B v (marksI k0 L.length) → ButO v.ownBlock w w' → R (.returned (.int .i64 ((k0 + L.length : Nat) : Int))) w') :
    Calls Tryz.prog 24 #[v, .int .i64 (k0 : Int)] w R := by
  have HR := Lib.hid hR; clear hR
  have HST : Hid (MarkRI w B v k0 L.length L (.int .i64 (k0 : Int)) (.int .i64 0) w) := Lib.hid ⟨0, rfl, rfl, Nat.zero_le _, by simpa [marksI] using h, ButO.refl _ _⟩
  obtain ⟨ao, n, cap, rfl, hnl⟩ := h.shape
  obtain ⟨v0, hv0⟩ : ∃ v0, v0 = Value.slice ao n cap := ⟨_, rfl⟩
  rw [← hv0] at HST HR
  have HV0 := Lib.hid hv0
  have HN := Lib.hid hnl
  have hn9 : n ≤ 1000000000 := by omega
  clear h hnl hv0 hn
  rw [← HN.out] at HST HR
  go_enter Tryz.func24, Tryz.ntmps24
  go_wp2
  go_loopw [1, 5] (fun kv iv wr => MarkRI w B v0 k0 n L kv iv wr) (fun _ iv _ => n - (intOf iv).toNat)
  case atStart => exact HST.out
  case round =>
    clear HST
    obtain ⟨k, rfl, rfl, hkn, hown, hbut⟩ := hrel
    have HBUT := Lib.hid hbut
    clear hbut
    by_cases hke : k = n
    · subst hke
      have he : marksI k0 k ++ L.drop k = marksI k0 k := by rw [HN.out, List.drop_length, List.append_nil]
      rw [he] at hown
      have HF := Lib.hid (HR.out wr hown HBUT.out)
      have hk0 : ¬ ((k : Int) < (k : Int)) := by omega
      clear hown he
      go_wp2
      first | go_ret | skip
      exact HF.out
    · have hkl : k < n := by omega
      have hlen : k < (marksI k0 k ++ L.drop k).length := by rw [List.length_append, marksI_len, List.length_drop, ← HN.out]; omega
      have HKL := Lib.hid hkl
      have hw1 : IntKind.i64.wrap ((k : Int) + 1) = ((k + 1 : Nat) : Int) := by rw [IntWalk.i64_in _ (by omega)]; omega
      obtain ⟨g, cap', u, hv, hob, hg, hc, hf, hset⟩ := hown.setI k hlen
      have hs := hset (k0 + k)
      rw [marksI_set (show k < L.length by rw [← HN.out]; exact hkl)] at hs
      obtain ⟨z, hz⟩ : ∃ z, z = k0 + k := ⟨_, rfl⟩
      rw [← hz] at hs ⊢
      have hw2 : IntKind.i64.wrap ((z : Int) + 1) = ((k0 + (k + 1) : Nat) : Int) := by rw [IntWalk.i64_in _ (by omega)]; omega
      have hw3 : IntKind.i64.wrap (z : Int) = (z : Int) := IntWalk.i64_in _ (by omega)
      obtain ⟨z2, hz2⟩ : ∃ z2 : Nat, z2 = k0 + (k + 1) := ⟨_, rfl⟩
      have HZ2 := Lib.hid hz2
      rw [← hz2] at hw2
      have hv' : some (⟨g, 0, none⟩ : Addr) = ao := by
        have := HV0.out
        rw [hv] at this
        simp only [Value.slice.injEq] at this
        exact this.1
      subst hv'
      have HNX : Hid (MarkRI w B v0 k0 n L (.int .i64 (z2 : Int)) (.int .i64 ((k + 1 : Nat) : Int)) (wr.setCell ⟨g, k, none⟩ (.int .i64 (z : Int)))) := Lib.hid
        ⟨k + 1, rfl, by rw [hz2], hkl, hs, HBUT.out.trans (by rw [hob]; exact ButO.set wr k _)⟩
      have hi0 : (0 : Int) ≤ (k : Int) := by omega
      have hi1 : (k : Int) < (n : Int) := by omega
      clear hown hlen hke hz hz2 hk hset hs hob hv hg hkn hkl
      go_wp2
      try go_region
      all_goals
        try go_wp2
        go_roundw
        case rel => exact HNX.out
        case measure => simp [intOf]; have := HKL.out; omega

set_option maxRecDepth 100000 in
theorem heldI_any (v : Value) (k0 n : Nat) (w : World) (h : Sl .i64 w v (marksI k0 n)) (hn : n ≤ 1000000000) (hk : k0 ≤ 1000000000) (R : Ending → World → Prop)
    (hR : ∀ w', Below w.heap.size w w' → R (.returned (.int .i64 ((k0 + n : Nat) : Int))) w') :
    Calls Tryz.prog 25 #[v, .int .i64 (k0 : Int)] w R := by
  have HR := Lib.hid hR; clear hR
  obtain ⟨ao, cap, rfl, hc, hh⟩ := h
  have HH := Lib.hid hh
  rw [marksI_len]
  clear hh hc
  go_enter Tryz.func25, Tryz.ntmps25
  go_wp2
  go_loopw [1, 5] (fun kv iv wr => ∃ k : Nat, iv = .int .i64 (k : Int) ∧ kv = .int .i64 ((k0 + k : Nat) : Int) ∧ k ≤ n ∧ Below w.heap.size w wr) (fun _ iv _ => n - (intOf iv).toNat)
  case atStart => exact ⟨0, rfl, rfl, Nat.zero_le _, Below.refl _ _⟩
  case round =>
    obtain ⟨k, rfl, rfl, hkn, hbel⟩ := hrel
    have HB := Lib.hid hbel
    by_cases hke : k = n
    · subst hke
      have HF := Lib.hid (HR.out wr HB.out)
      have hk0 : ¬ ((k : Int) < (k : Int)) := by omega
      clear hbel
      go_wp2
      first | go_ret | skip
      exact HF.out
    · have hkl : k < n := by omega
      have HKL := Lib.hid hkl
      obtain ⟨b, off, rfl, hb, hcell⟩ := HH.out k (by rw [marksI_len]; exact hkl)
      rw [marksI_at hkl, ← hbel.cell (p := ⟨b, off + k, none⟩) hb] at hcell
      obtain ⟨z, hz⟩ : ∃ z, z = k0 + k := ⟨_, rfl⟩
      rw [← hz] at hcell ⊢
      have hw1 : IntKind.i64.wrap ((k : Int) + 1) = ((k + 1 : Nat) : Int) := by rw [IntWalk.i64_in _ (by omega)]; omega
      have hw3 : IntKind.i64.wrap (z : Int) = (z : Int) := IntWalk.i64_in _ (by omega)
      obtain ⟨z2, hz2⟩ : ∃ z2 : Nat, z2 = k0 + (k + 1) := ⟨_, rfl⟩
      have HZ2 := Lib.hid hz2
      have hw2 : IntKind.i64.wrap ((z : Int) + 1) = (z2 : Int) := by rw [IntWalk.i64_in _ (by omega)]; omega
      have hzz : ((z : Int) != (z : Int)) = false := by simp
      have hi0 : (0 : Int) ≤ (k : Int) := by omega
      have hi1 : (k : Int) < (n : Int) := by omega
      clear hke hz hz2 hk hbel hkl hb
      go_wp2
      try go_quiet (fail)
      try go_wp2
      go_roundw
      case rel => exact ⟨k + 1, by first | rfl | go_num, by rw [← HZ2.out], HKL.out, by first | exact HB.out | exact below_draws HB.out _⟩
      case measure => simp [intOf]; have := HKL.out; omega
end Go.Proofs.YtnfehccicnpbpaaGreatDoor

namespace Go.Proofs.YtnfehccicnpbpaaGreatDoor
open Go Go.RowKit

set_option maxRecDepth 100000 in
set_option maxHeartbeats 8000000 in
theorem law_farTerms (v : Value) (L1 L2 : List ByteArray) (n c d : Int) (w : World) (hE : Env w) (h : IsRec w v L1 L2) (hn1 : L1.length ≤ maxLen) (hs1 : ∀ s ∈ L1, s.size ≤ maxLen) (hn2 : L2.length ≤ maxLen) (hs2 : ∀ s ∈ L2, s.size ≤ maxLen) (_hi0 : -9223372036854775807 - 1 ≤ n) (_hi1 : n ≤ 9223372036854775807) (_hc0 : -9223372036854775807 - 1 ≤ c) (_hc1 : c ≤ 9223372036854775807) (_hd0 : -9223372036854775807 - 1 ≤ d) (_hd1 : d ≤ 9223372036854775807) (R : Ending → World → Prop)
    (hR : ∀ w', Below w.heap.size w w' → R (.returned (.bool true)) w') :
    Calls Tryz.prog 4 #[v, .int .i64 n, .int .i64 c, .int .i64 d] w R := by
  have HR := Lib.hid hR; clear hR
  have HE := Lib.hid hE; clear hE
  have h9 := h
  obtain ⟨s1, s2, rfl, h1, h2⟩ := h9
  obtain ⟨a1, n1, c1, rfl, h1'⟩ := h1.op
  obtain ⟨a2, n2, c2, rfl, h2'⟩ := h2.op
  obtain ⟨L, hL⟩ : ∃ L, L = w.alloc (.cells #[.slice a1 n1 c1, .slice a2 n2 c2] 24) := ⟨_, rfl⟩
  have HBL : Hid (Below w.heap.size w L) := Lib.hid (by rw [hL]; exact (Below.refl _ _).alloc (Nat.le_refl _) _)
  have HBX : Hid (Box2 L w.heap.size (.slice a1 n1 c1) (.slice a2 n2 c2) 24) := Lib.hid (by rw [hL]; exact Box2.made _ _ _ _)
  have HL := Lib.hid hL
  have HV := Lib.hid (h.later HBL.out (Nat.le_refl _))
  have HN := Lib.hid (And.intro hn1 (And.intro hs1 (And.intro hn2 hs2)))
  clear _hc0 _hc1 _hd0 _hd1
  have HSM := Lib.hid (farTs_small L1 L2 n c d)
  obtain ⟨bq, hbq⟩ : ∃ bq, bq = (farTsB L1 L2 n c d) := ⟨_, rfl⟩
  have HBQ := Lib.hid hbq
  have cbq : (bq != bq) = false := by cases bq <;> rfl
  obtain ⟨hA0, hA1, _, _⟩ := HBX.out.cells
  clear h h1 h2 h1' h2' hn1 hs1 hn2 hs2 hL hbq _hi0 _hi1
  go_enter Tryz.func4, Tryz.ntmps4
  rw [HL.out] at hA0 hA1
  go_wp2_with fail
  rw [← HL.out]
  refine szR_any _ L1 L2 L 1048576 HV.out HN.out.1 HN.out.2.1 HN.out.2.2.1 HN.out.2.2.2 (by omega) _ ?_ ?_
  rotate_left
  · intro w1 _ hb1
    have HF := Lib.hid (HR.out w1 (HBL.out.trans (hb1.mono HBL.out.size)))
    clear hb1 hA0 hA1
    dsimp only
    go_wp2
    first | go_ret | skip
    exact HF.out
  intro w1 ht hb1
  obtain ⟨p1, p2⟩ := sizes_each (L := L1) (by omega)
  obtain ⟨p3, p4⟩ := sizes_each (L := L2) (by omega)
  have HP := Lib.hid (And.intro p1 (And.intro p2 (And.intro p3 p4)))
  obtain ⟨m, hm⟩ : ∃ m : Nat, m = 1048576 - (tot L1 + tot L2) := ⟨_, rfl⟩
  rw [← hm]
  have hm0 : ¬ ((m : Int) < 0) := by omega
  have HB1 : Hid (Below L.heap.size L w1) := Lib.hid hb1
  have HX1 := Lib.hid (HBX.out.later hb1 (lt_of_block HBX.out))
  clear hm ht p1 p2 p3 p4 hb1 hA0 hA1
  obtain ⟨hA0, hA1, _, _⟩ := HX1.out.cells
  dsimp only
  go_wp2_with fail
  refine toR_any _ L1 L2 w1 (HV.out.later HB1.out (Nat.le_refl _)) HP.out.1 HP.out.2.2.1 _ ?_
  intro v2 w2 hv2 hb2
  have SC := Lib.hid hv2
  obtain ⟨x2, m2, y2, z2, q2, r2, rfl, t1, t2, t3, t4⟩ := hv2.parts
  clear t1 t2 t3 t4
  have HB2 := Lib.hid (HB1.out.trans (hb2.mono HB1.out.size))
  have HX2 := Lib.hid (HX1.out.later hb2 (lt_of_block HX1.out))
  clear HB1 HX1 hb2 hv2 hA0 hA1
  obtain ⟨hA0, hA1, _, _⟩ := HX2.out.cells
  dsimp only
  go_wp2_with fail
  refine spec_farTs _ L1 L2 n c d w2 SC.out HP.out.1 HP.out.2.1 HP.out.2.2.1 HP.out.2.2.2 _ ?_
  intro v3 w3 hv3 hb3
  rw [← HBQ.out]
  obtain ⟨x3, m3, y3, rfl, esh⟩ := hv3.shape
  have W0 := Lib.hid hv3
  have W0U : Hid (∀ g, (Value.slice x3 m3 y3).ownBlock = some g → g < w3.heap.size) := Lib.hid hv3.own_lt
  have W0Z : Hid (w2.heap.size ≤ w3.heap.size) := Lib.hid hb3.size
  have HB3 := Lib.hid (HB2.out.trans (hb3.mono HB2.out.size))
  have HX3 := Lib.hid (HX2.out.later hb3 (lt_of_block HX2.out))
  clear HB2 HX2 hb3 hv3 esh hA0 hA1 SC
  obtain ⟨hA0, hA1, _, _⟩ := HX3.out.cells
  dsimp only
  go_wp2_with fail
  refine toR_own _ L1 L2 w3 (HV.out.later HB3.out (Nat.le_refl _)) HP.out.1 HP.out.2.2.1 _ ?_
  intro v4 w40 hv4 hlt4 hb4
  have ho4 := hv4
  obtain ⟨t1, t2, M, rfl, o1, o2, oM1, oM2, oM3⟩ := ho4
  obtain ⟨xa, ma, ya, rfl, exa⟩ := o1.shape
  obtain ⟨xb, mb, yb, rfl, exb⟩ := o2.shape
  clear o1 o2 oM1 oM2 oM3 exa exb
  obtain ⟨w4, hW⟩ : ∃ W, W = w40.alloc (.cells #[.slice xa ma ya, .slice xb mb yb] 28) := ⟨_, rfl⟩
  have hbW : Below w40.heap.size w40 w4 := by rw [hW]; exact (Below.refl _ _).alloc (Nat.le_refl _) _
  have XB : Hid (Box2 w4 w40.heap.size (.slice xa ma ya) (.slice xb mb yb) 28) := Lib.hid (by rw [hW]; exact Box2.made _ _ _ _)
  have X0 := Lib.hid (OwR.later0 hv4 hbW)
  have X0U : Hid (∀ g, rcBlock (.agg #[.slice xa ma ya, .slice xb mb yb]) g → g < w40.heap.size) := Lib.hid hlt4
  have hbb : Below w3.heap.size w3 w4 := hb4.trans (hbW.mono hb4.size)
  have X0Z : Hid (w3.heap.size ≤ w4.heap.size) := Lib.hid hbb.size
  have X0E : Hid (w40.heap.size ≤ w4.heap.size) := Lib.hid hbW.size
  have WX : Hid (w3.heap.size ≤ w3.heap.size ∧ w.heap.size < w3.heap.size) := Lib.hid ⟨Nat.le_refl _, lt_of_block HX3.out⟩
  have LX : Hid (L.heap.size ≤ w3.heap.size) := Lib.hid HB3.out.size
  have HW := Lib.hid hW
  have HB4 := Lib.hid (HB3.out.trans (hbb.mono HB3.out.size))
  have HX4 := Lib.hid (HX3.out.later hbb (lt_of_block HX3.out))
  have W0_4 := Lib.hid (W0.out.later hbb (Nat.le_refl _))
  have W0Z_4 : Hid (w2.heap.size ≤ w4.heap.size) := Lib.hid (Nat.le_trans W0Z.out hbb.size)
  clear HB3 HX3 W0 W0Z hbb hv4 hlt4 hb4 hbW hW hA0 hA1
  obtain ⟨hA0, hA1, _, _⟩ := HX4.out.cells
  obtain ⟨hC0, hC1, _, _⟩ := XB.out.cells
  rw [HW.out] at hA0 hA1 hC0 hC1
  dsimp only
  go_wp2_with fail
  rw [← HW.out]
  have XR := Lib.hid X0.out.rec
  refine impl_farTs _ L1 L2 n c d w4 (HE.out.later (HBL.out.trans (HB4.out.mono HBL.out.size)) (Nat.le_refl _)) XR.out HP.out.1 HP.out.2.2.1 _ ?_
  intro v5 w5 hv5 hb5
  rw [← HBQ.out]
  obtain ⟨x5, m5, y5, rfl, esh⟩ := hv5.shape
  have G0 := Lib.hid hv5
  have GZ : Hid (w4.heap.size ≤ w5.heap.size) := Lib.hid hb5.size
  have XG : Hid (w40.heap.size ≤ w4.heap.size) := X0E
  have WG : Hid (w3.heap.size ≤ w4.heap.size) := Lib.hid (Nat.le_trans WX.out.1 X0Z.out)
  have LG : Hid (L.heap.size ≤ w4.heap.size) := Lib.hid (Nat.le_trans LX.out X0Z.out)
  have HB5 := Lib.hid (HB4.out.trans (hb5.mono HB4.out.size))
  have HX5 := Lib.hid (HX4.out.later hb5 (lt_of_block HX4.out))
  have W0_5 := Lib.hid (W0_4.out.later hb5 (Nat.le_refl _))
  have W0Z_5 : Hid (w2.heap.size ≤ w5.heap.size) := Lib.hid (Nat.le_trans W0Z_4.out hb5.size)
  have X0_5 := Lib.hid (OwR.later0 X0.out hb5)
  have XB_5 := Lib.hid (XB.out.later hb5 (lt_of_block XB.out))
  have X0Z_5 : Hid (w3.heap.size ≤ w5.heap.size) := Lib.hid (Nat.le_trans X0Z.out hb5.size)
  have XR_5 := Lib.hid (IsRec.later XR.out hb5 (Nat.le_refl _))
  clear HB4 HX4 W0_4 W0Z_4 X0 XB X0Z XR hb5 hv5 esh hA0 hA1 hC0 hC1
  obtain ⟨hA0, hA1, _, _⟩ := HX5.out.cells
  dsimp only
  go_wp2_with fail
  refine eqI_any _ _ (farTsL L1 L2 n c d) _ G0.out.sl W0_5.out.sl (Nat.le_trans HSM.out (by omega)) _ ?_
  intro w6 hb6
  have HB6 := Lib.hid (HB5.out.trans (hb6.mono HB5.out.size))
  have HX6 := Lib.hid (HX5.out.later hb6 (lt_of_block HX5.out))
  have W0_6 := Lib.hid (W0_5.out.later hb6 (Nat.le_refl _))
  have W0Z_6 : Hid (w2.heap.size ≤ w6.heap.size) := Lib.hid (Nat.le_trans W0Z_5.out hb6.size)
  have X0_6 := Lib.hid (OwR.later0 X0_5.out hb6)
  have XB_6 := Lib.hid (XB_5.out.later hb6 (lt_of_block XB_5.out))
  have X0Z_6 : Hid (w3.heap.size ≤ w6.heap.size) := Lib.hid (Nat.le_trans X0Z_5.out hb6.size)
  have XR_6 := Lib.hid (IsRec.later XR_5.out hb6 (Nat.le_refl _))
  have G0_6 := Lib.hid (G0.out.later hb6 (Nat.le_refl _))
  have GZ_6 : Hid (w4.heap.size ≤ w6.heap.size) := Lib.hid (Nat.le_trans GZ.out hb6.size)
  clear HB5 HX5 W0_5 W0Z_5 X0_5 XB_5 X0Z_5 XR_5 G0 GZ hb6 hA0 hA1
  obtain ⟨hA0, hA1, _, _⟩ := HX6.out.cells
  have HSOF : Hid (∀ w', Below w6.heap.size w6 w' → (Below w6.heap.size w6 w' ∧ (w'.cell? ⟨w.heap.size, 0, none⟩ = some (.slice a1 n1 c1) ∧ w'.cell? ⟨w.heap.size, 1, none⟩ = some (.slice a2 n2 c2)) ∧ (w'.cell? ⟨w40.heap.size, 0, none⟩ = some (.slice xa ma ya) ∧ w'.cell? ⟨w40.heap.size, 1, none⟩ = some (.slice xb mb yb)))) :=
    Lib.hid fun w' hb => ⟨hb, ⟨(HX6.out.later hb (lt_of_block HX6.out)).cells.1, (HX6.out.later hb (lt_of_block HX6.out)).cells.2.1⟩, ⟨(XB_6.out.later hb (lt_of_block XB_6.out)).cells.1, (XB_6.out.later hb (lt_of_block XB_6.out)).cells.2.1⟩⟩
  have HVL := Lib.hid (HV.out.later HB6.out (Nat.le_refl _))
  have HLEN : Hid (L1.length ≤ 281474976710656 ∧ L2.length ≤ 281474976710656) := Lib.hid (by have := HP.out.1; have := HP.out.2.2.1; omega)
  obtain ⟨hC0, hC1, _, _⟩ := XB_6.out.cells
  dsimp only
  go_wp2_with fail
  first
    | (go_region_held3 (fun w' => Below w6.heap.size w6 w' ∧ (w'.cell? ⟨w.heap.size, 0, none⟩ = some (.slice a1 n1 c1) ∧ w'.cell? ⟨w.heap.size, 1, none⟩ = some (.slice a2 n2 c2)) ∧ (w'.cell? ⟨w40.heap.size, 0, none⟩ = some (.slice xa ma ya) ∧ w'.cell? ⟨w40.heap.size, 1, none⟩ = some (.slice xb mb yb)))
        (first
          | exact HSOF.out _ HQ2.out
          | exact HSOF.out _ HQ1.out
          | exact HSOF.out _ (Below.refl _ _).drew)
        (first
          | (go_at_call 19; refine eqR_any _ _ L1 L2 _ (XR_6.out.later HQ1.out (Nat.le_refl _)) HV6.out HLEN.out.1 HLEN.out.2 _ ?_; intro w8 hb7; have HQ2 : Hid (Below w6.heap.size w6 w8) := Lib.hid (HQ1.out.trans (hb7.mono HQ1.out.size)); clear hb7; dsimp only)
          | (go_at_call 17; refine toR_any _ L1 L2 _ (HVL.out.later (Below.refl _ _).drew (Nat.le_refl _)) HP.out.1 HP.out.2.2.1 _ ?_; intro v6 w7 hv6 hb6; have HV6 := Lib.hid hv6; have HQ1 : Hid (Below w6.heap.size w6 w7) := Lib.hid ⟨hb6.os, hb6.tape, hb6.output, hb6.size, hb6.block⟩; clear hv6 hb6; dsimp only)))
    | fail
  all_goals
    have hbr := HQ2.out
    have HB8 := Lib.hid (HB6.out.trans (hbr.mono HB6.out.size))
    have HX8 := Lib.hid (HX6.out.later hbr (lt_of_block HX6.out))
    have W0_8 := Lib.hid (W0_6.out.later hbr (Nat.le_refl _))
    have W0Z_8 : Hid (w2.heap.size ≤ w8.heap.size) := Lib.hid (Nat.le_trans W0Z_6.out hbr.size)
    have X0_8 := Lib.hid (OwR.later0 X0_6.out hbr)
    have XB_8 := Lib.hid (XB_6.out.later hbr (lt_of_block XB_6.out))
    have X0Z_8 : Hid (w3.heap.size ≤ w8.heap.size) := Lib.hid (Nat.le_trans X0Z_6.out hbr.size)
    have XR_8 := Lib.hid (IsRec.later XR_6.out hbr (Nat.le_refl _))
    have G0_8 := Lib.hid (G0_6.out.later hbr (Nat.le_refl _))
    have GZ_8 : Hid (w4.heap.size ≤ w8.heap.size) := Lib.hid (Nat.le_trans GZ_6.out hbr.size)
    clear HB6 HX6 W0_6 W0Z_6 X0_6 XB_6 X0Z_6 XR_6 G0_6 GZ_6 hbr hA0 hA1 hC0 hC1
    obtain ⟨hA0, hA1, _, _⟩ := HX8.out.cells
    obtain ⟨hC0, hC1, _, _⟩ := XB_8.out.cells
    go_wp2_with fail
    refine markRO_any _ _ L1 L2 1 w3.heap.size w8 X0_8.out (Nat.le_trans HP.out.1 (by omega)) (Nat.le_trans HP.out.2.2.1 (by omega)) (by omega) _ ?_
    intro w9 La wm hm1 hm2 hm3
    obtain ⟨k0, hk0⟩ : ∃ k0, k0 = 1 + L1.length + L2.length := ⟨_, rfl⟩
    rw [← hk0]
    have d0 : ¬ ((k0 : Int) < 0) := by omega
    obtain ⟨t1, t2, M, ev, q1, q2, q3, q4, q5⟩ := X0_8.out
    simp only [Value.agg.injEq, Array.mk.injEq, List.cons.injEq, and_true] at ev
    obtain ⟨rfl, rfl⟩ := ev
    have hB1 : ∀ g, (Value.slice xa ma ya).ownBlock = some g → w3.heap.size ≤ g := fun g hg => q1.base g hg
    have hB2 : ∀ g, (Value.slice xb mb yb).ownBlock = some g → w3.heap.size ≤ g := fun g hg => Nat.le_trans q3 (q2.base g hg)
    have hbel : Below w3.heap.size w8 w9 := ButO.both hm1 hm2 hm3 hB1 hB2 X0Z_8.out
    have W0_9 := Lib.hid (((W0_8.out.later hm1 (Nat.le_refl _)).butO hm2 (fun g hg hc => by have h1 := W0U.out g hg; have h2 := hB1 g hc; have h3 := WX.out.1; omega)).butO hm3 (fun g hg hc => by have h1 := W0U.out g hg; have h2 := hB2 g hc; have h3 := WX.out.1; omega))
    have G0_9 := Lib.hid (((G0_8.out.later hm1 (Nat.le_refl _)).butO hm2 (fun g hg hc => by have h1 := G0_8.out.base g hg; have h2 := X0U.out g (.inl hc); have h3 := XG.out; omega)).butO hm3 (fun g hg hc => by have h1 := G0_8.out.base g hg; have h2 := X0U.out g (.inr hc); have h3 := XG.out; omega))
    have GZ_9 : Hid (w4.heap.size ≤ w9.heap.size) := Lib.hid (Nat.le_trans GZ_8.out (Nat.le_trans hm1.size (Nat.le_trans hm2.size hm3.size)))
    have HB9 : Hid (Below L.heap.size L w9) := Lib.hid (HB8.out.trans (hbel.mono LX.out))
    have HX9 := Lib.hid (HX8.out.later hbel WX.out.2)
    clear W0_8 W0Z_8 X0_8 XB_8 X0Z_8 XR_8 G0_8 GZ_8 HB8 HX8 hm1 hm2 hm3 hk0 hbel hB1 hB2 q1 q2 q3 q4 q5 hA0 hA1 hC0 hC1
    obtain ⟨hA0, hA1, _, _⟩ := HX9.out.cells
    dsimp only
    go_wp2_with fail
    refine eqI_any _ _ (farTsL L1 L2 n c d) _ G0_9.out.sl W0_9.out.sl (Nat.le_trans HSM.out (by omega)) _ ?_
    intro w10 hb10
    have HB10 := Lib.hid (HB9.out.trans (hb10.mono HB9.out.size))
    have HX10 := Lib.hid (HX9.out.later hb10 (lt_of_block HX9.out))
    have W0_10 := Lib.hid (W0_9.out.later hb10 (Nat.le_refl _))
    have G0_10 := Lib.hid (G0_9.out.later hb10 (Nat.le_refl _))
    have GZ_10 : Hid (w4.heap.size ≤ w10.heap.size) := Lib.hid (Nat.le_trans GZ_9.out hb10.size)
    clear HB9 HX9 W0_9 G0_9 GZ_9 hb10 hA0 hA1
    obtain ⟨hA0, hA1, _, _⟩ := HX10.out.cells
    dsimp only
    go_wp2_with fail
    refine markI_any _ (farTsL L1 L2 n c d) 1 _ _ G0_10.out (Nat.le_trans HSM.out (by omega)) (by omega) _ ?_
    intro w11 hv hb
    obtain ⟨kg, hkg⟩ : ∃ kg, kg = 1 + (farTsL L1 L2 n c d).length := ⟨_, rfl⟩
    have HKG := Lib.hid hkg
    rw [← hkg]
    have d1 : ¬ ((kg : Int) < 0) := by omega
    have d2 : ((kg : Int) != (kg : Int)) = false := by simp
    have hbel := hb.below (fun g hg => G0_10.out.base g hg) GZ_10.out
    have GM := Lib.hid hv.sl
    have W0_11 := Lib.hid (W0_10.out.butO hb (fun g hg hc => by have h1 := W0U.out g hg; have h2 := G0_10.out.base g hc; have h3 := WG.out; omega))
    have HB11 : Hid (Below L.heap.size L w11) := Lib.hid (HB10.out.trans (hbel.mono LG.out))
    have HX11 := Lib.hid (HX10.out.later hbel (Nat.lt_of_lt_of_le (lt_of_block HBX.out) LG.out))
    clear W0_10 G0_10 GZ_10 HB10 HX10 hv hb hbel hkg hA0 hA1
    obtain ⟨hA0, hA1, _, _⟩ := HX11.out.cells
    dsimp only
    go_wp2_with fail
    refine heldI_any _ 1 (farTsL L1 L2 n c d).length _ GM.out (Nat.le_trans HSM.out (by omega)) (by omega) _ ?_
    intro w12 hb12
    rw [← HKG.out]
    have HB12 := Lib.hid (HB11.out.trans (hb12.mono HB11.out.size))
    have HX12 := Lib.hid (HX11.out.later hb12 (lt_of_block HX11.out))
    have W0_12 := Lib.hid (W0_11.out.later hb12 (Nat.le_refl _))
    have GM_12 := Lib.hid (Sl.later GM.out hb12 (Nat.le_refl _))
    clear HB11 HX11 W0_11 GM hb12 hA0 hA1
    obtain ⟨hA0, hA1, _, _⟩ := HX12.out.cells
    dsimp only
    go_wp2_with fail
    refine toR_any _ L1 L2 w12 (HV.out.later HB12.out (Nat.le_refl _)) HP.out.1 HP.out.2.2.1 _ ?_
    intro v13 w13 hv13 hb13
    have HC := Lib.hid hv13
    obtain ⟨x13, m13, y13, z13, q13, r13, rfl, t1, t2, t3, t4⟩ := hv13.parts
    clear t1 t2 t3 t4
    have HB13 := Lib.hid (HB12.out.trans (hb13.mono HB12.out.size))
    have HX13 := Lib.hid (HX12.out.later hb13 (lt_of_block HX12.out))
    have W0_13 := Lib.hid (W0_12.out.later hb13 (Nat.le_refl _))
    have GM_13 := Lib.hid (Sl.later GM_12.out hb13 (Nat.le_refl _))
    clear HB12 HX12 W0_12 GM_12 hb13 hv13 hA0 hA1
    obtain ⟨hA0, hA1, _, _⟩ := HX13.out.cells
    dsimp only
    go_wp2_with fail
    refine impl_farTs _ L1 L2 n c d w13 (HE.out.later (HBL.out.trans (HB13.out.mono HBL.out.size)) (Nat.le_refl _)) HC.out HP.out.1 HP.out.2.2.1 _ ?_
    intro v14 w14 hv14 hb14
    rw [← HBQ.out]
    obtain ⟨x14, m14, y14, rfl, esh⟩ := hv14.shape
    have H0 := Lib.hid hv14
    have H0U : Hid (∀ g, (Value.slice x14 m14 y14).ownBlock = some g → g < w14.heap.size) := Lib.hid hv14.own_lt
    have H0Z : Hid (w13.heap.size ≤ w14.heap.size) := Lib.hid hb14.size
    have HB14 := Lib.hid (HB13.out.trans (hb14.mono HB13.out.size))
    have HX14 := Lib.hid (HX13.out.later hb14 (lt_of_block HX13.out))
    have W0_14 := Lib.hid (W0_13.out.later hb14 (Nat.le_refl _))
    have GM_14 := Lib.hid (Sl.later GM_13.out hb14 (Nat.le_refl _))
    clear HB13 HX13 W0_13 GM_13 hb14 hv14 esh hA0 hA1 HC
    obtain ⟨hA0, hA1, _, _⟩ := HX14.out.cells
    dsimp only
    go_wp2_with fail
    refine eqI_any _ _ (farTsL L1 L2 n c d) _ H0.out.sl W0_14.out.sl (Nat.le_trans HSM.out (by omega)) _ ?_
    intro w15 hb15
    have HB15 := Lib.hid (HB14.out.trans (hb15.mono HB14.out.size))
    have HX15 := Lib.hid (HX14.out.later hb15 (lt_of_block HX14.out))
    have W0_15 := Lib.hid (W0_14.out.later hb15 (Nat.le_refl _))
    have GM_15 := Lib.hid (Sl.later GM_14.out hb15 (Nat.le_refl _))
    have H0_15 := Lib.hid (H0.out.later hb15 (Nat.le_refl _))
    have H0Z_15 : Hid (w13.heap.size ≤ w15.heap.size) := Lib.hid (Nat.le_trans H0Z.out hb15.size)
    clear HB14 HX14 W0_14 GM_14 H0 H0Z hb15 hA0 hA1
    obtain ⟨hA0, hA1, _, _⟩ := HX15.out.cells
    dsimp only
    go_wp2_with fail
    refine heldI_any _ 1 (farTsL L1 L2 n c d).length _ GM_15.out (Nat.le_trans HSM.out (by omega)) (by omega) _ ?_
    intro w16 hb16
    rw [← HKG.out]
    have HB16 := Lib.hid (HB15.out.trans (hb16.mono HB15.out.size))
    have HX16 := Lib.hid (HX15.out.later hb16 (lt_of_block HX15.out))
    have W0_16 := Lib.hid (W0_15.out.later hb16 (Nat.le_refl _))
    have GM_16 := Lib.hid (Sl.later GM_15.out hb16 (Nat.le_refl _))
    have H0_16 := Lib.hid (H0_15.out.later hb16 (Nat.le_refl _))
    have H0Z_16 : Hid (w13.heap.size ≤ w16.heap.size) := Lib.hid (Nat.le_trans H0Z_15.out hb16.size)
    clear HB15 HX15 W0_15 GM_15 H0_15 H0Z_15 hb16 hA0 hA1
    obtain ⟨hA0, hA1, _, _⟩ := HX16.out.cells
    clear hA0 hA1
    dsimp only
    go_wp2
    first | go_ret | skip
    exact HR.out _ (HBL.out.trans (HB16.out.mono HBL.out.size))
end Go.Proofs.YtnfehccicnpbpaaGreatDoor
