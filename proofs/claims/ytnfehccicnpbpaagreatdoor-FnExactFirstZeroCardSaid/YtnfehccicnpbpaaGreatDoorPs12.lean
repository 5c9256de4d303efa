/- Contracts of functions of the program and of the model: ZeI, ZeF, ZeS, LawFirstZero. -/
import Derived.Test.YtnfehccicnpbpaaGreatDoorPs11
import Derived.Deep.RegionHeld3
set_option linter.all false
set_option linter.unusedVariables false
set_option linter.unusedSimpArgs false
set_option linter.unnecessarySimpa false
set_option linter.deprecated false
namespace Go.Proofs.YtnfehccicnpbpaaGreatDoor
open Go Go.RowKit

/-- the places before n at which f is 0 -/
def zs (f : Nat → Nat) (n : Nat) : List Nat := (List.range n).filter (fun i => f i == 0)
theorem zs_yes {f : Nat → Nat} {n : Nat} (h : f n = 0) : zs f (n + 1) = zs f n ++ [n] := by simp [zs, List.range_succ, List.filter_append, h]
theorem zs_no {f : Nat → Nat} {n : Nat} (h : f n ≠ 0) : zs f (n + 1) = zs f n := by simp [zs, List.range_succ, List.filter_append, h]
theorem zs_len (f : Nat → Nat) (n : Nat) : (zs f n).length ≤ n := by
  have := List.length_filter_le (fun i => f i == 0) (List.range n)
  rw [List.length_range] at this; exact this

def SgR (w : World) (xs : List Nat) (iv : Value) (wr : World) : Prop :=
  ∃ j : Nat, iv = .int .i64 (j : Int) ∧ j ≤ xs.length ∧ Arr .i64 2 wr w.heap.size (xs.take j ++ List.replicate (xs.length - j) 0) ∧ Below w.heap.size w wr

theorem sg_set {xs : List Nat} {j : Nat} (hj : j < xs.length) : List.set (xs.take j ++ List.replicate (xs.length - j) 0) j (xs.getD j 0) = xs.take (j + 1) ++ List.replicate (xs.length - (j + 1)) 0 := by
  have e : xs.length - j = (xs.length - (j + 1)) + 1 := by omega
  have el : (xs.take j).length = j := by rw [List.length_take]; omega
  have e2 : xs.take (j + 1) = xs.take j ++ [xs.getD j 0] := by
    rw [List.take_add_one, List.getD_eq_getElem?_getD, List.getElem?_eq_getElem hj]; rfl
  rw [e, List.replicate_succ, List.set_append_right _ _ (by rw [el]; exact Nat.le_refl _), el, Nat.sub_self, List.set_cons_zero, e2, List.append_assoc]
  rfl

set_option maxRecDepth 100000 in
set_option maxHeartbeats 2000000 in
theorem signed_any (g c : Nat) (xs : List Nat) (w : World) (hA : Arr .u64 61 w g xs) (hc : c = xs.length) (hcn : c ≤ 100000) (hx : ∀ i, xs.getD i 0 < 1000000) (R : Ending → World → Prop)
    (hR : ∀ w', Arr .i64 2 w' w.heap.size xs → Below w.heap.size w w' → R (.returned (.slice (some ⟨w.heap.size, 0, none⟩) c c)) w') :
    Calls Tryz.prog 59 #[.slice (some ⟨g, 0, none⟩) c c] w R := by
  have HR := Lib.hid hR; clear hR
  have HA := Lib.hid hA
  have HN := Lib.hid hc
  have HX := Lib.hid hx
  clear hA hc hx
  go_enter Tryz.func59, Tryz.ntmps59
  go_wp2_with (at_make; go_must (refine wpList_makez _ rfl _ 32 rfl 2 .i64 8 Tryz.underlying32 info_i64 (by omega) .i64 _ c rfl rfl (by omega) ?_))
  intro W hA hbW hsW
  have HST : Hid (SgR w xs (.int .i64 0) W) := Lib.hid ⟨0, rfl, Nat.zero_le _, by rw [← HN.out]; simpa using hA, hbW⟩
  clear hA hbW hsW
  go_wp2
  go_loopw [11] (fun i wr => SgR w xs i wr) (fun i _ => c - (intOf i).toNat)
  case atStart => exact HST.out
  case round =>
    clear HST
    obtain ⟨j, rfl, hj, hB, hbel⟩ := hrel
    rw [← HN.out] at hj
    by_cases hjn : j = c
    · subst hjn
      have HF := Lib.hid (HR.out wr (by
        have h9 := hB
        rw [HN.out, Nat.sub_self, List.replicate_zero, List.append_nil, List.take_length] at h9
        exact h9) hbel)
      have hjj : ¬ ((j : Int) < (j : Int)) := by omega
      clear hB hbel hj
      go_wp2
      first | go_ret | skip
      exact HF.out
    · have hjl : j < c := by omega
      obtain ⟨x, hx⟩ : ∃ x, x = xs.getD j 0 := ⟨_, rfl⟩
      have hxl : x < 1000000 := by rw [hx]; exact HX.out j
      have hcu := (HA.out.later hbel HA.out.lt).cell j (by rw [← HN.out]; exact hjl)
      rw [← hx] at hcu
      have hwx : IntKind.i64.wrap (x : Int) = (x : Int) := IntWalk.i64_in _ (by omega)
      have hcl := hB.cell j (by rw [List.length_append, List.length_take, List.length_replicate, ← HN.out]; omega)
      have hfl := hB.frozen j
      have hB7 := hB.set j x
      rw [hx, sg_set (by rw [← HN.out]; exact hjl), ← hx] at hB7
      have HNX : Hid (SgR w xs (.int .i64 ((j + 1 : Nat) : Int)) (wr.setCell ⟨w.heap.size, j, none⟩ (.int .i64 ((x : Nat) : Int)))) := Lib.hid
        ⟨j + 1, rfl, by rw [← HN.out]; exact hjl, hB7, hbel.setCell (Nat.le_refl _) _⟩
      have hw1 : IntKind.i64.wrap ((j : Int) + 1) = ((j + 1 : Nat) : Int) := by rw [IntWalk.i64_in _ (by omega)]; omega
      have hj0 : (0 : Int) ≤ (j : Int) := by omega
      have hj1 : (j : Int) < (c : Int) := by omega
      have HJL := Lib.hid hjl
      clear hx hxl hB hbel hj hjn hB7
      go_wp2
      go_roundw
      case rel => exact HNX.out
      case measure => simp [intOf]; have := HJL.out; omega

set_option maxRecDepth 100000 in
set_option maxHeartbeats 4000000 in
theorem repeats_any (v : Value) (L1 L2 : List ByteArray) (m : Int) (w : World) (hE : Env w) (h : IsRec w v L1 L2) (hn1 : L1.length ≤ 1048576) (hn2 : L2.length ≤ 1048576) (R : Ending → World → Prop)
    (hR1 : ∀ M b p g c w', m = ((M : Nat) : Int) → 2 ≤ M → (wholeB L1 L2 && modB m) = true → Per (sta M (resL M L2) (resL M L1)) b p → b + p ≤ 5000 → c = b + p → Arr .i64 2 w' g (trms M (resL M L2) (resL M L1) c) → Below w.heap.size w w' → R (.returned (.tuple #[.slice (some ⟨g, 0, none⟩) c c, .bool true])) w')
    (hR2 : ∀ w', ¬ HasPer L1 L2 m → Below w.heap.size w w' → R (.returned (.tuple #[.slice none 0 0, .bool false])) w') :
    Calls Tryz.prog 69 #[v, .int .i64 m] w R := by
  have HR1 := Lib.hid hR1; clear hR1
  have HR2 := Lib.hid hR2; clear hR2
  have HE := Lib.hid hE
  have h9 := h
  obtain ⟨a1, n1, c1, a2, n2, c2, rfl, e1, e2, h1, h2⟩ := h.parts
  obtain ⟨L, hL⟩ : ∃ L, L = w.alloc (.cells #[.slice a1 n1 c1, .slice a2 n2 c2] 28) := ⟨_, rfl⟩
  have HBL : Hid (Below w.heap.size w L) := Lib.hid (by rw [hL]; exact (Below.refl _ _).alloc (Nat.le_refl _) _)
  have HBX : Hid (Box2 L w.heap.size (.slice a1 n1 c1) (.slice a2 n2 c2) 28) := Lib.hid (by rw [hL]; exact Box2.made _ _ _ _)
  have HL := Lib.hid hL
  have HV := Lib.hid (h9.later HBL.out (Nat.le_refl _))
  have HN := Lib.hid (And.intro hn1 hn2)
  obtain ⟨hA0, hA1, _, _⟩ := HBX.out.cells
  clear h h9 e1 e2 h1 h2 hn1 hn2 hL hE
  go_enter Tryz.func69, Tryz.ntmps69
  rw [HL.out] at hA0 hA1
  go_wp2_with fail
  rw [← HL.out]
  refine readres_any _ L1 L2 m L (HE.out.later HBL.out (Nat.le_refl _)) HV.out HN.out.1 HN.out.2 _ ?_ ?_
  rotate_left
  · intro e w2 hno he hb2
    obtain ⟨t, p, rfl⟩ := he
    have HF := Lib.hid (HR2.out (w2.alloc (.cells #[.int .u64 0, .slice none 0 0, .slice none 0 0] 65)) (noPer_ok hno) ((HBL.out.trans (hb2.mono HBL.out.size)).alloc (Nat.le_trans HBL.out.size hb2.size) _))
    clear hno hb2 hA0 hA1
    unfold zeroU
    dsimp only
    go_wp2
    first | go_ret | skip
    exact HF.out
  intro M vs vc w2 hM hM2 hM3 hw hvs hvc hb2
  subst hM
  obtain ⟨b1, o1, d1, rfl, hvs'⟩ := hvs.op
  obtain ⟨b2, o2, d2, rfl, hvc'⟩ := hvc.op
  obtain ⟨k1, hk1⟩ : ∃ k1, k1 = (resL M L1).length := ⟨_, rfl⟩
  obtain ⟨k2, hk2⟩ : ∃ k2, k2 = (resL M L2).length := ⟨_, rfl⟩
  rw [← hk1] at hvs' ⊢
  rw [← hk2] at hvc' ⊢
  obtain ⟨V, hV⟩ : ∃ V, V = w2.alloc (.cells #[.int .u64 (M : Int), .slice (some ⟨b1, o1, none⟩) k1 d1, .slice (some ⟨b2, o2, none⟩) k2 d2] 65) := ⟨_, rfl⟩
  have hbV : Below w2.heap.size w2 V := by rw [hV]; exact (Below.refl _ _).alloc (Nat.le_refl _) _
  have HBV : Hid (Below w.heap.size w V) := Lib.hid ((HBL.out.trans (hb2.mono HBL.out.size)).trans (hbV.mono (by have := HBL.out.size; have := hb2.size; omega)))
  have HVS := Lib.hid (hvs'.later hbV (Nat.le_refl _))
  have HVC := Lib.hid (hvc'.later hbV (Nat.le_refl _))
  have HRB : Hid (Box3 V w2.heap.size (.int .u64 (M : Int)) (.slice (some ⟨b1, o1, none⟩) k1 d1) (.slice (some ⟨b2, o2, none⟩) k2 d2) 65) := Lib.hid (by rw [hV]; exact Box3.made _ _ _ _ _)
  have HV2 := Lib.hid hV
  have HOK : Hid ((wholeB L1 L2 && modB (M : Int)) = true) := Lib.hid (by unfold modB; rw [hw, decide_eq_true ⟨by omega, by omega⟩]; rfl)
  have HLE := Lib.hid (And.intro (res_le (m := M) hw).1 (show (resL M L2).length ≤ 8 by rw [resL_len]; exact (whole_parts hw).2.2.1))
  obtain ⟨⟨hB0, hB1, hB2⟩, _, _, _⟩ := HRB.out.cells
  rw [hV] at hB0 hB1 hB2
  clear hw hvs hvc hvs' hvc' hb2 hbV hV hk1 hk2 hA0 hA1
  dsimp only
  go_wp2_with fail
  rw [← HV2.out]
  refine period_any M _ _ (resL M L2) (resL M L1) _ HVS.out HVC.out HLE.out.1 HLE.out.2 hM2 hM3 (resL_lt (by omega) _) (resL_lt (by omega) _) _ ?_ ?_
  · intro b p w3 hp hb hb3
    obtain ⟨c, hc⟩ : ∃ c, c = b + p := ⟨_, rfl⟩
    have HP := Lib.hid (And.intro hp (And.intro hb hc))
    have HB3 := Lib.hid (HBV.out.trans (hb3.mono HBV.out.size))
    have HVS3 := Lib.hid (HVS.out.later hb3 (Nat.le_refl _))
    have HVC3 := Lib.hid (HVC.out.later hb3 (Nat.le_refl _))
    have hwb : IntKind.i64.wrap ((b : Int) + (p : Int)) = (c : Int) := by rw [IntWalk.i64_in _ (by omega)]; omega
    clear hB0 hB1 hB2
    obtain ⟨⟨hB0, hB1, hB2⟩, _, _, _⟩ := (HRB.out.later hb3 (lt_of_block HRB.out)).cells
    clear hp hb hb3 hc
    dsimp only
    go_wp2_with fail
    refine rterms_any M c _ _ (resL M L2) (resL M L1) _ HVS3.out HVC3.out HLE.out.1 (by have := HLE.out.2; omega) hM2 hM3 (resL_lt (by omega) _) (resL_lt (by omega) _) (by have := HP.out.2; omega) _ ?_
    intro g w4 hA hg hb4
    have HA4 := Lib.hid hA
    have HB4 := Lib.hid (HB3.out.trans (hb4.mono HB3.out.size))
    clear hA hg hb4 hB0 hB1 hB2 hwb
    dsimp only
    go_wp2_with fail
    refine signed_any g c _ _ HA4.out (by rw [trms_len]) (by have := HP.out.2; omega) (fun i => ?_) _ ?_
    · rcases Nat.lt_or_ge i c with h | h
      · rw [trms_at h]
        have := trm_lt (m := M) (cs := resL M L2) (ss := resL M L1) (by omega) (resL_lt (by omega) _) i
        omega
      · rw [List.getD_eq_getElem?_getD, List.getElem?_eq_none (by rw [trms_len]; exact h)]
        decide
    intro w5 hA5 hb5
    have HF := Lib.hid (HR1.out M b p w4.heap.size c w5 rfl hM2 HOK.out HP.out.1 HP.out.2.1 HP.out.2.2 hA5 (HB4.out.trans (hb5.mono HB4.out.size)))
    clear hA5 hb5
    dsimp only
    go_wp2
    first | go_ret | skip
    exact HF.out
  · intro w3 hno hb3
    have HF := Lib.hid (HR2.out w3 (noPer_of hno) (HBV.out.trans (hb3.mono HBV.out.size)))
    clear hno hb3 hB0 hB1 hB2
    dsimp only
    go_wp2
    first | go_ret | skip
    exact HF.out
end Go.Proofs.YtnfehccicnpbpaaGreatDoor

namespace Go.Proofs.YtnfehccicnpbpaaGreatDoor
open Go Go.RowKit

/-- the first place of the residue 0 -/
def frstV : List Nat → Value
  | [] => .tuple #[.int .i64 0, .bool false]
  | x :: _ => .tuple #[.int .i64 ((x : Nat) : Int), .bool true]

open Classical in
/-- the places of the residue 0 before the period and in its first round -/
noncomputable def zerL (L1 L2 : List ByteArray) (m : Int) : List Nat :=
  if h : HasPer L1 L2 m then zs (trm m.toNat (resL m.toNat L2) (resL m.toNat L1)) (h.2.choose + h.2.choose_spec.choose) else []

theorem zerL_no {L1 L2 : List ByteArray} {m : Int} (h : ¬ HasPer L1 L2 m) : zerL L1 L2 m = [] := by
  unfold zerL; rw [dif_neg h]

theorem zerL_yes {L1 L2 : List ByteArray} {M b p : Nat} (hok : (wholeB L1 L2 && modB (M : Int)) = true) (hp : Per (sta M (resL M L2) (resL M L1)) b p) (hb : b + p ≤ 5000) :
    zerL L1 L2 (M : Int) = zs (trm M (resL M L2) (resL M L1)) (b + p) := by
  have h : HasPer L1 L2 (M : Int) := ⟨hok, b, p, by rw [Int.toNat_natCast]; exact hp, hb⟩
  unfold zerL
  rw [dif_pos h]
  have h2 := h.2.choose_spec.choose_spec.1
  have h3 : Per (sta M (resL M L2) (resL M L1)) h.2.choose h.2.choose_spec.choose := h2
  obtain ⟨e1, e2⟩ := h3.one hp
  rw [e2, e1]
  rfl

/-- the answer -/
noncomputable def firstZeroV (L1 L2 : List ByteArray) (m : Int) : Value := frstV (zerL L1 L2 m)

theorem firstZeroV_shape (L1 L2 : List ByteArray) (m : Int) : ∃ (z0 : Int) (b : Bool), firstZeroV L1 L2 m = .tuple #[.int .i64 z0, .bool b] := by
  unfold firstZeroV
  cases zerL L1 L2 m
  · exact ⟨_, _, rfl⟩
  · exact ⟨_, _, rfl⟩

def ZpR (W : World) (B : Nat) (f : Nat → Nat) (c : Nat) (v iv : Value) (wr : World) : Prop :=
  ∃ j : Nat, iv = .int .i64 (j : Int) ∧ j ≤ c ∧ Own .i64 2 wr B v (zs f j) ∧ Below W.heap.size W wr

set_option maxRecDepth 100000 in
set_option maxHeartbeats 4000000 in
theorem izeros_any (v : Value) (L1 L2 : List ByteArray) (m : Int) (w : World) (hE : Env w) (h : IsRec w v L1 L2) (hn1 : L1.length ≤ 1048576) (hn2 : L2.length ≤ 1048576) (R : Ending → World → Prop)
    (hR1 : ∀ B v w', HasPer L1 L2 m → Own .i64 2 w' B v (zerL L1 L2 m) → Below w.heap.size w w' → R (.returned (.tuple #[v, .bool true])) w')
    (hR2 : ∀ w', ¬ HasPer L1 L2 m → Below w.heap.size w w' → R (.returned (.tuple #[.slice none 0 0, .bool false])) w') :
    Calls Tryz.prog 35 #[v, .int .i64 m] w R := by
  have HR1 := Lib.hid hR1; clear hR1
  have HR2 := Lib.hid hR2; clear hR2
  have HE := Lib.hid hE
  have h9 := h
  obtain ⟨a1, n1, c1, a2, n2, c2, rfl, e1, e2, h1, h2⟩ := h.parts
  obtain ⟨L, hL⟩ : ∃ L, L = w.alloc (.cells #[.slice a1 n1 c1, .slice a2 n2 c2] 28) := ⟨_, rfl⟩
  have HBL : Hid (Below w.heap.size w L) := Lib.hid (by rw [hL]; exact (Below.refl _ _).alloc (Nat.le_refl _) _)
  have HBX : Hid (Box2 L w.heap.size (.slice a1 n1 c1) (.slice a2 n2 c2) 28) := Lib.hid (by rw [hL]; exact Box2.made _ _ _ _)
  have HL := Lib.hid hL
  have HV := Lib.hid (h9.later HBL.out (Nat.le_refl _))
  have HN := Lib.hid (And.intro hn1 hn2)
  obtain ⟨hA0, hA1, _, _⟩ := HBX.out.cells
  clear h h9 e1 e2 h1 h2 hn1 hn2 hL hE
  go_enter Tryz.func35, Tryz.ntmps35
  rw [HL.out] at hA0 hA1
  go_wp2_with fail
  rw [← HL.out]
  refine repeats_any _ L1 L2 m L (HE.out.later HBL.out (Nat.le_refl _)) HV.out HN.out.1 HN.out.2 _ ?_ ?_
  rotate_left
  · intro w3 hno hb3
    have HF := Lib.hid (HR2.out w3 hno (HBL.out.trans (hb3.mono HBL.out.size)))
    clear hno hb3 hA0 hA1
    dsimp only
    go_wp2
    first | go_ret | skip
    exact HF.out
  intro M b p g c w2 hM hM2 hok hp hbp hc hA hb2
  subst hM
  have HA := Lib.hid hA
  have HC5 := Lib.hid (show c ≤ 5000 by omega)
  have HB2 := Lib.hid (HBL.out.trans (hb2.mono HBL.out.size))
  have HF : Hid (∀ B v w', Own .i64 2 w' B v (zs (trm M (resL M L2) (resL M L1)) c) → Below w2.heap.size w2 w' → R (.returned (.tuple #[v, .bool true])) w') := Lib.hid fun B v w' how hb =>
    HR1.out B v w' ⟨hok, b, p, by rw [Int.toNat_natCast]; exact hp, hbp⟩ (by rw [zerL_yes hok hp hbp, ← hc]; exact how) (HB2.out.trans (hb.mono HB2.out.size))
  obtain ⟨f, hf⟩ : ∃ f, f = trm M (resL M L2) (resL M L1) := ⟨_, rfl⟩
  have HAT : Hid (∀ w', Below w2.heap.size w2 w' → ∀ i, i < c → w'.cell? ⟨g, i, none⟩ = some (.int .i64 ((f i : Nat) : Int))) := Lib.hid fun w' hb i hi => by
    have := (HA.out.later hb HA.out.lt).cell i (by rw [trms_len]; exact hi)
    rw [trms_at hi, ← hf] at this; exact this
  rw [← hf] at HF
  obtain ⟨W, hW⟩ : ∃ W, W = w2.alloc (.cells #[] 2) := ⟨_, rfl⟩
  have HBW : Hid (Below w2.heap.size w2 W) := Lib.hid (by rw [hW]; exact (Below.refl _ _).alloc (Nat.le_refl _) _)
  have HST : Hid (ZpR w2 w2.heap.size f c (.slice (some ⟨w2.heap.size, 0, none⟩) 0 0) (.int .i64 0) W) := Lib.hid ⟨0, rfl, Nat.zero_le _, by rw [hW]; exact Own.lit _ _ _ _ (Nat.le_refl _), HBW.out⟩
  have HW := Lib.hid hW
  clear hf hok hp hbp hc hA hb2 hA0 hA1 hW
  dsimp only
  go_wp2
  try rw [← HW.out]
  go_loopw [8, 22] (fun v i wr => ZpR w2 w2.heap.size f c v i wr) (fun _ i _ => c - (intOf i).toNat)
  case atStart => exact HST.out
  case round =>
    clear HST
    obtain ⟨j, rfl, hj, how, hbel⟩ := hrel
    have HOW := Lib.hid how
    have HBE := Lib.hid hbel
    clear how hbel
    by_cases hjn : j = c
    · subst hjn
      have HFF := Lib.hid (HF.out _ _ wr HOW.out HBE.out)
      have hjj : ¬ ((j : Int) < (j : Int)) := by omega
      clear hj
      go_wp2
      first | go_ret | skip
      exact HFF.out
    · have hjl : j < c := by omega
      obtain ⟨x, hx⟩ : ∃ x, x = f j := ⟨_, rfl⟩
      have hcl := HAT.out wr HBE.out j hjl
      rw [← hx] at hcl
      have hw1 : IntKind.i64.wrap ((j : Int) + 1) = ((j + 1 : Nat) : Int) := by have := HC5.out; rw [IntWalk.i64_in _ (by omega)]; omega
      have hwj : IntKind.i64.wrap (j : Int) = (j : Int) := by have := HC5.out; exact IntWalk.i64_in _ (by omega)
      have hj0 : (0 : Int) ≤ (j : Int) := by omega
      have hj1 : (j : Int) < (c : Int) := by omega
      have HJL := Lib.hid hjl
      by_cases hx0 : x = 0
      · subst hx0
        have HZ := Lib.hid (zs_yes hx.symm)
        clear hx hj hjn
        go_wp2_with (at_builtin; go_must (refine wpList_pushz rfl (.tmp 29) (.tmp 31) 32 rfl 2 .i64 8 Tryz.underlying32 info_i64 (by omega) w2.heap.size _ (zs f j) j _ rfl rfl (HOW.out.alloc _) wr.heap.size rfl (World.cell?_alloc_at _ _ _ _ rfl) (by have := zs_len f j; have := HC5.out; have := HJL.out; omega) (by have := HBE.out.size; simp; omega) ?_))
        intro v' w1 hown1 hbw
        have HNX : Hid (ZpR w2 w2.heap.size f c v' (.int .i64 ((j + 1 : Nat) : Int)) w1) := Lib.hid
          ⟨j + 1, rfl, HJL.out, by rw [HZ.out]; exact hown1, (HBE.out.alloc HBE.out.size _).trans hbw⟩
        clear hown1 hbw
        go_wp2
        go_roundw
        case rel => exact HNX.out
        case measure => simp [intOf]; have := HJL.out; omega
      · have e1 : ((x : Int) == 0) = false := by rw [beq_eq_false_iff_ne]; omega
        have e2 : ¬ ((x : Int) = 0) := by omega
        have HNX := Lib.hid (show ZpR w2 w2.heap.size f c _ (.int .i64 ((j + 1 : Nat) : Int)) wr from
          ⟨j + 1, rfl, HJL.out, by rw [zs_no (by rw [← hx]; exact hx0)]; exact HOW.out, HBE.out⟩)
        clear hx hj hjn
        go_wp2
        go_roundw
        case rel => exact HNX.out
        case measure => simp [intOf]; have := HJL.out; omega

set_option maxRecDepth 100000 in
set_option maxHeartbeats 4000000 in
theorem impl_firstZero (v : Value) (L1 L2 : List ByteArray) (m : Int) (w : World) (hE : Env w) (h : IsRec w v L1 L2) (hn1 : L1.length ≤ 1048576) (hn2 : L2.length ≤ 1048576) (R : Ending → World → Prop)
    (hR : ∀ w', Below w.heap.size w w' → R (.returned (firstZeroV L1 L2 m)) w') :
    Calls Tryz.prog 37 #[v, .int .i64 m] w R := by
  have HR := Lib.hid hR; clear hR
  have HE := Lib.hid hE
  have h9 := h
  obtain ⟨a1, n1, c1, a2, n2, c2, rfl, e1, e2, h1, h2⟩ := h.parts
  obtain ⟨L, hL⟩ : ∃ L, L = w.alloc (.cells #[.slice a1 n1 c1, .slice a2 n2 c2] 28) := ⟨_, rfl⟩
  have HBL : Hid (Below w.heap.size w L) := Lib.hid (by rw [hL]; exact (Below.refl _ _).alloc (Nat.le_refl _) _)
  have HBX : Hid (Box2 L w.heap.size (.slice a1 n1 c1) (.slice a2 n2 c2) 28) := Lib.hid (by rw [hL]; exact Box2.made _ _ _ _)
  have HL := Lib.hid hL
  have HV := Lib.hid (h9.later HBL.out (Nat.le_refl _))
  have HN := Lib.hid (And.intro hn1 hn2)
  obtain ⟨hA0, hA1, _, _⟩ := HBX.out.cells
  clear h h9 e1 e2 h1 h2 hn1 hn2 hL hE
  go_enter Tryz.func37, Tryz.ntmps37
  rw [HL.out] at hA0 hA1
  go_wp2_with fail
  rw [← HL.out]
  refine izeros_any _ L1 L2 m L (HE.out.later HBL.out (Nat.le_refl _)) HV.out HN.out.1 HN.out.2 _ ?_ ?_
  rotate_left
  · intro w3 hno hb3
    have HF := Lib.hid (HR.out w3 (HBL.out.trans (hb3.mono HBL.out.size)))
    unfold firstZeroV at HF
    rw [zerL_no hno, frstV] at HF
    clear hno hb3 hA0 hA1
    dsimp only
    go_wp2_with fail
    try go_quiet (fail)
    go_wp2
    first | go_ret | skip
    exact HF.out
  intro B v w2 hper how hb2
  have HF : Hid (∀ w', Below w2.heap.size w2 w' → R (.returned (frstV (zerL L1 L2 m))) w') := Lib.hid fun w' hb => HR.out w' ((HBL.out.trans (hb2.mono HBL.out.size)).trans (hb.mono (Nat.le_trans HBL.out.size hb2.size)))
  obtain ⟨xs, hxs⟩ : ∃ xs, xs = zerL L1 L2 m := ⟨_, rfl⟩
  rw [← hxs] at how HF
  clear hper hxs hb2 hA0 hA1
  cases xs with
  | nil =>
    obtain ⟨ao, n, cc, rfl, hn⟩ := how.shape
    have hn0 : n = 0 := hn
    subst hn0
    have HFF := Lib.hid (HF.out w2 (Below.refl _ _))
    rw [frstV] at HFF
    have HFG : Hid (∀ n, R (.returned (.tuple #[.int .i64 0, .bool false])) (w2.drewN n)) := Lib.hid fun n => by
      have := HF.out (w2.drewN n) (below_draws (Below.refl _ _) n); rw [frstV] at this; exact this
    clear how hn HF
    dsimp only
    go_wp2_with fail
    try go_quiet (fail)
    go_wp2
    first | go_ret | skip
    first | exact HFF.out | exact HFG.out _
  | cons x r =>
    obtain ⟨ao, n, cc, rfl, hn⟩ := how.shape
    have HFF := Lib.hid (HF.out w2 (Below.refl _ _))
    rw [frstV] at HFF
    have HFG : Hid (∀ n, R (.returned (.tuple #[.int .i64 ((x : Nat) : Int), .bool true])) (w2.drewN n)) := Lib.hid fun n => by
      have := HF.out (w2.drewN n) (below_draws (Below.refl _ _) n); rw [frstV] at this; exact this
    obtain ⟨b0, off, ebo, hcell⟩ := how.sl.cellAt2 (i := 0) (by simp) (Below.refl _ _)
    subst ebo
    have hc0 : w2.cell? ⟨b0, off, none⟩ = some (.int .i64 ((x : Nat) : Int)) := hcell
    have hn1 : n = r.length + 1 := hn
    have hnn : (0 : Int) < (n : Int) := by omega
    have hne : ((n : Int) == 0) = false := by rw [beq_eq_false_iff_ne]; omega
    have hne2 : ¬ ((n : Int) = 0) := by omega
    have hn3 : ¬ (n = 0) := by omega
    have hn4 : 0 < n := by omega
    clear how hn HF hcell hn1
    dsimp only
    go_wp2_with fail
    try go_quiet (fail)
    go_wp2
    first | go_ret | skip
    first | exact HFF.out | exact HFG.out _
end Go.Proofs.YtnfehccicnpbpaaGreatDoor

namespace Go.Proofs.YtnfehccicnpbpaaGreatDoor
open Go Go.RowKit

set_option maxRecDepth 100000 in
theorem sfirst_any (v : Value) (xs : List Nat) (w : World) (h : Sl .i64 w v xs) (R : Ending → World → Prop)
    (hR : R (.returned (.int .i64 ((xs.getD 0 0 : Nat) : Int))) w) :
    Calls Tryz.prog 68 #[v] w R := by
  have HR := Lib.hid hR; clear hR
  obtain ⟨ao, cap, rfl, hc, hx⟩ := h
  cases xs with
  | nil =>
    have HF : Hid (R (.returned (.int .i64 0)) w) := HR
    clear HR hx
    simp only [List.length_nil] at hc ⊢
    go_enter Tryz.func68, Tryz.ntmps68
    go_wp2
    first | go_ret | skip
    exact HF.out
  | cons x r =>
    obtain ⟨b, off, rfl, hb, hcl⟩ := hx 0 (by simp)
    have hc0 : w.cell? ⟨b, off, none⟩ = some (.int .i64 ((x : Nat) : Int)) := hcl
    have HF : Hid (R (.returned (.int .i64 ((x : Nat) : Int))) w) := HR
    obtain ⟨n, hn⟩ : ∃ n, n = (x :: r).length := ⟨_, rfl⟩
    have hn1 : n = r.length + 1 := hn
    rw [← hn]
    have hnn : (0 : Int) < (n : Int) := by omega
    have hne : ((n : Int) == 0) = false := by rw [beq_eq_false_iff_ne]; omega
    have hne2 : ¬ ((n : Int) = 0) := by omega
    have hn3 : ¬ (n = 0) := by omega
    have hn4 : 0 < n := by omega
    clear HR hx hcl hn hn1 hb hc
    go_enter Tryz.func68, Tryz.ntmps68
    go_wp2
    first | go_ret | skip
    exact HF.out

set_option maxRecDepth 100000 in
set_option maxHeartbeats 8000000 in
theorem szeros_any (M : Nat) (b n1 n2 c1 c2 : Nat) (a1 a2 : Option Addr) (L1 L2 : List ByteArray) (w : World) (hbx : Box2 w b (.slice a1 n1 c1) (.slice a2 n2 c2) 28)
    (h1 : TxL w (.slice a1 n1 c1) L1) (h2 : TxL w (.slice a2 n2 c2) L2) (hw : wholeB L1 L2 = true) (hm : 2 ≤ M) (hm2 : M ≤ 1000000) (R : Ending → World → Prop)
    (hR1 : ∀ B v w', HasPer L1 L2 (M : Int) → Own .i64 2 w' B v (zerL L1 L2 (M : Int)) → Below w.heap.size w w' → R (.returned (.tuple #[v, .bool true])) w')
    (hR2 : ∀ B v xs w', ¬ HasPer L1 L2 (M : Int) → Own .i64 2 w' B v xs → Below w.heap.size w w' → R (.returned (.tuple #[v, .bool false])) w') :
    Calls Tryz.prog 72 #[.pointer (some ⟨b, 0, none⟩), .int .i64 ((M : Nat) : Int)] w R := by
  have HR1 := Lib.hid hR1; clear hR1
  have HR2 := Lib.hid hR2; clear hR2
  have HBX := Lib.hid hbx
  have H1 := Lib.hid h1
  have H2 := Lib.hid h2
  have HP := Lib.hid hw
  have HOK : Hid ((wholeB L1 L2 && modB (M : Int)) = true) := Lib.hid (by unfold modB; rw [hw, decide_eq_true ⟨by omega, by omega⟩]; rfl)
  clear hbx h1 h2 hw
  go_enter Tryz.func72, Tryz.ntmps72
  go_wp2_with fail
  refine swalk_any M b n1 n2 c1 c2 a1 a2 L1 L2 w HBX.out H1.out H2.out HP.out hm hm2 _ ?_ ?_
  · intro p q B vs vc w3 hp hpq hwk hb3
    obtain ⟨N, hN⟩ : ∃ N, N = p + q := ⟨_, rfl⟩
    have HB3 := Lib.hid hb3
    have HF : Hid (∀ B v w', Own .i64 2 w' B v (zs (trm M (resL M L2) (resL M L1)) N) → Below w3.heap.size w3 w' → R (.returned (.tuple #[v, .bool true])) w') := Lib.hid fun B v w' how hb =>
      HR1.out B v w' ⟨HOK.out, p, q, by rw [Int.toNat_natCast]; exact hp, hpq⟩ (by rw [zerL_yes HOK.out hp hpq, ← hN]; exact how) (HB3.out.trans (hb.mono HB3.out.size))
    rw [← hN] at hwk
    have HWK := Lib.hid hwk
    have HN5 := Lib.hid (show N ≤ 5001 by omega)
    clear hp hpq hwk hb3 hN
    obtain ⟨q1, q2, q3, q4⟩ := HWK.out.choose_spec
    obtain ⟨LX, hLX⟩ : ∃ LX, LX = HWK.out.choose := ⟨_, rfl⟩
    rw [← hLX] at q1 q2 q4
    obtain ⟨ao, nn, cc, rfl, hnn⟩ := q2.shape
    rw [q1] at hnn
    subst hnn
    have HQ := Lib.hid (And.intro q1 (And.intro q2 q4))
    obtain ⟨f, hf⟩ : ∃ f, f = trm M (resL M L2) (resL M L1) := ⟨_, rfl⟩
    rw [← hf] at HF
    have HFF := Lib.hid hf
    obtain ⟨W, hW⟩ : ∃ W, W = w3.alloc (.cells #[] 2) := ⟨_, rfl⟩
    have HBW : Hid (Below w3.heap.size w3 W) := Lib.hid (by rw [hW]; exact (Below.refl _ _).alloc (Nat.le_refl _) _)
    have HST : Hid (ZpR w3 w3.heap.size f nn (.slice (some ⟨w3.heap.size, 0, none⟩) 0 0) (.int .i64 0) W) := Lib.hid ⟨0, rfl, Nat.zero_le _, by rw [hW]; exact Own.lit _ _ _ _ (Nat.le_refl _), HBW.out⟩
    have HW := Lib.hid hW
    clear hf hW q1 q2 q3 q4 hLX HWK
    dsimp only
    go_wp2
    try rw [← HW.out]
    go_loopw [9, 10] (fun v i wr => ZpR w3 w3.heap.size f nn v i wr) (fun _ i _ => nn - (intOf i).toNat)
    case atStart => exact HST.out
    case round =>
      clear HST
      obtain ⟨j, rfl, hj, how, hbel⟩ := hrel
      have HOW := Lib.hid how
      have HBE := Lib.hid hbel
      clear how hbel
      by_cases hjn : j = nn
      · subst hjn
        have HE9 := Lib.hid (HF.out _ _ wr HOW.out HBE.out)
        have hjj : ¬ ((j : Int) < (j : Int)) := by omega
        clear hj
        go_wp2
        first | go_ret | skip
        exact HE9.out
      · have hjl : j < nn := by omega
        obtain ⟨vi, hvi⟩ : ∃ vi, LX[j]? = some vi := ⟨_, List.getElem?_eq_getElem (by rw [HQ.out.1]; exact hjl)⟩
        obtain ⟨b5, o5, eb5, hci, a9, n9, c9, rfl⟩ := HQ.out.2.1.cellV hvi HBE.out
        subst eb5
        have HSI := Lib.hid ((HQ.out.2.2 j _ hvi).1.later HBE.out (Nat.le_refl _))
        have hw1 : IntKind.i64.wrap ((j : Int) + 1) = ((j + 1 : Nat) : Int) := by have := HN5.out; rw [IntWalk.i64_in _ (by omega)]; omega
        have hj0 : (0 : Int) ≤ (j : Int) := by omega
        have hj1 : (j : Int) < (nn : Int) := by omega
        have HJL := Lib.hid hjl
        clear hvi hj hjn
        go_wp2_with fail
        refine sfirst_any _ _ _ HSI.out _ ?_
        obtain ⟨x, hx⟩ : ∃ x, x = f j := ⟨_, rfl⟩
        rw [show (sta M (resL M L2) (resL M L1) j).getD 0 0 = x by rw [hx, HFF.out]; rfl]
        by_cases hx0 : x = 0
        · subst hx0
          have HZ := Lib.hid (zs_yes hx.symm)
          clear hx
          dsimp only
          go_wp2_with (at_builtin; go_must (refine wpList_pushz rfl (.tmp 31) (.tmp 33) 32 rfl 2 .i64 8 Tryz.underlying32 info_i64 (by omega) w3.heap.size _ (zs f j) j _ rfl rfl (HOW.out.alloc _) wr.heap.size rfl (World.cell?_alloc_at _ _ _ _ rfl) (by have := zs_len f j; have := HN5.out; have := HJL.out; omega) (by have := HBE.out.size; simp; omega) ?_))
          intro v' w1 hown1 hbw
          have HNX : Hid (ZpR w3 w3.heap.size f nn v' (.int .i64 ((j + 1 : Nat) : Int)) w1) := Lib.hid
            ⟨j + 1, rfl, HJL.out, by rw [HZ.out]; exact hown1, (HBE.out.alloc HBE.out.size _).trans hbw⟩
          clear hown1 hbw
          go_wp2
          go_roundw
          case rel => exact HNX.out
          case measure => simp [intOf]; have := HJL.out; omega
        · have e1 : ((x : Int) == 0) = false := by rw [beq_eq_false_iff_ne]; omega
          have e2 : ¬ ((x : Int) = 0) := by omega
          have HNX := Lib.hid (show ZpR w3 w3.heap.size f nn _ (.int .i64 ((j + 1 : Nat) : Int)) wr from
            ⟨j + 1, rfl, HJL.out, by rw [zs_no (by rw [← hx]; exact hx0)]; exact HOW.out, HBE.out⟩)
          clear hx
          dsimp only
          go_wp2
          go_roundw
          case rel => exact HNX.out
          case measure => simp [intOf]; have := HJL.out; omega
  · intro B vs vc w3 hno hwk hb3
    obtain ⟨N, hN⟩ : ∃ N, N = 5001 := ⟨_, rfl⟩
    have HB3 := Lib.hid hb3
    have HF : Hid (∀ B v w', Own .i64 2 w' B v (zs (trm M (resL M L2) (resL M L1)) N) → Below w3.heap.size w3 w' → R (.returned (.tuple #[v, .bool false])) w') := Lib.hid fun B v w' how hb =>
      HR2.out B v _ w' (noPer_of2 hno) how (HB3.out.trans (hb.mono HB3.out.size))
    rw [← hN] at hwk
    have HWK := Lib.hid hwk
    have HN5 := Lib.hid (show N ≤ 5001 by omega)
    clear hno hwk hb3 hN
    obtain ⟨q1, q2, q3, q4⟩ := HWK.out.choose_spec
    obtain ⟨LX, hLX⟩ : ∃ LX, LX = HWK.out.choose := ⟨_, rfl⟩
    rw [← hLX] at q1 q2 q4
    obtain ⟨ao, nn, cc, rfl, hnn⟩ := q2.shape
    rw [q1] at hnn
    subst hnn
    have HQ := Lib.hid (And.intro q1 (And.intro q2 q4))
    obtain ⟨f, hf⟩ : ∃ f, f = trm M (resL M L2) (resL M L1) := ⟨_, rfl⟩
    rw [← hf] at HF
    have HFF := Lib.hid hf
    obtain ⟨W, hW⟩ : ∃ W, W = w3.alloc (.cells #[] 2) := ⟨_, rfl⟩
    have HBW : Hid (Below w3.heap.size w3 W) := Lib.hid (by rw [hW]; exact (Below.refl _ _).alloc (Nat.le_refl _) _)
    have HST : Hid (ZpR w3 w3.heap.size f nn (.slice (some ⟨w3.heap.size, 0, none⟩) 0 0) (.int .i64 0) W) := Lib.hid ⟨0, rfl, Nat.zero_le _, by rw [hW]; exact Own.lit _ _ _ _ (Nat.le_refl _), HBW.out⟩
    have HW := Lib.hid hW
    clear hf hW q1 q2 q3 q4 hLX HWK
    dsimp only
    go_wp2
    try rw [← HW.out]
    go_loopw [9, 10] (fun v i wr => ZpR w3 w3.heap.size f nn v i wr) (fun _ i _ => nn - (intOf i).toNat)
    case atStart => exact HST.out
    case round =>
      clear HST
      obtain ⟨j, rfl, hj, how, hbel⟩ := hrel
      have HOW := Lib.hid how
      have HBE := Lib.hid hbel
      clear how hbel
      by_cases hjn : j = nn
      · subst hjn
        have HE9 := Lib.hid (HF.out _ _ wr HOW.out HBE.out)
        have hjj : ¬ ((j : Int) < (j : Int)) := by omega
        clear hj
        go_wp2
        first | go_ret | skip
        exact HE9.out
      · have hjl : j < nn := by omega
        obtain ⟨vi, hvi⟩ : ∃ vi, LX[j]? = some vi := ⟨_, List.getElem?_eq_getElem (by rw [HQ.out.1]; exact hjl)⟩
        obtain ⟨b5, o5, eb5, hci, a9, n9, c9, rfl⟩ := HQ.out.2.1.cellV hvi HBE.out
        subst eb5
        have HSI := Lib.hid ((HQ.out.2.2 j _ hvi).1.later HBE.out (Nat.le_refl _))
        have hw1 : IntKind.i64.wrap ((j : Int) + 1) = ((j + 1 : Nat) : Int) := by have := HN5.out; rw [IntWalk.i64_in _ (by omega)]; omega
        have hj0 : (0 : Int) ≤ (j : Int) := by omega
        have hj1 : (j : Int) < (nn : Int) := by omega
        have HJL := Lib.hid hjl
        clear hvi hj hjn
        go_wp2_with fail
        refine sfirst_any _ _ _ HSI.out _ ?_
        obtain ⟨x, hx⟩ : ∃ x, x = f j := ⟨_, rfl⟩
        rw [show (sta M (resL M L2) (resL M L1) j).getD 0 0 = x by rw [hx, HFF.out]; rfl]
        by_cases hx0 : x = 0
        · subst hx0
          have HZ := Lib.hid (zs_yes hx.symm)
          clear hx
          dsimp only
          go_wp2_with (at_builtin; go_must (refine wpList_pushz rfl (.tmp 31) (.tmp 33) 32 rfl 2 .i64 8 Tryz.underlying32 info_i64 (by omega) w3.heap.size _ (zs f j) j _ rfl rfl (HOW.out.alloc _) wr.heap.size rfl (World.cell?_alloc_at _ _ _ _ rfl) (by have := zs_len f j; have := HN5.out; have := HJL.out; omega) (by have := HBE.out.size; simp; omega) ?_))
          intro v' w1 hown1 hbw
          have HNX : Hid (ZpR w3 w3.heap.size f nn v' (.int .i64 ((j + 1 : Nat) : Int)) w1) := Lib.hid
            ⟨j + 1, rfl, HJL.out, by rw [HZ.out]; exact hown1, (HBE.out.alloc HBE.out.size _).trans hbw⟩
          clear hown1 hbw
          go_wp2
          go_roundw
          case rel => exact HNX.out
          case measure => simp [intOf]; have := HJL.out; omega
        · have e1 : ((x : Int) == 0) = false := by rw [beq_eq_false_iff_ne]; omega
          have e2 : ¬ ((x : Int) = 0) := by omega
          have HNX := Lib.hid (show ZpR w3 w3.heap.size f nn _ (.int .i64 ((j + 1 : Nat) : Int)) wr from
            ⟨j + 1, rfl, HJL.out, by rw [zs_no (by rw [← hx]; exact hx0)]; exact HOW.out, HBE.out⟩)
          clear hx
          dsimp only
          go_wp2
          go_roundw
          case rel => exact HNX.out
          case measure => simp [intOf]; have := HJL.out; omega

set_option maxRecDepth 100000 in
set_option maxHeartbeats 4000000 in
theorem spec_firstZero (v : Value) (L1 L2 : List ByteArray) (m : Int) (w : World) (h : IsRec w v L1 L2) (hn1 : L1.length ≤ 1048576) (hs1 : ∀ s ∈ L1, s.size ≤ 1048576) (hn2 : L2.length ≤ 1048576) (hs2 : ∀ s ∈ L2, s.size ≤ 1048576) (R : Ending → World → Prop)
    (hR : ∀ w', Below w.heap.size w w' → R (.returned (firstZeroV L1 L2 m)) w') :
    Calls Tryz.prog 36 #[v, .int .i64 m] w R := by
  have HR := Lib.hid hR; clear hR
  obtain ⟨a1, n1, c1, a2, n2, c2, rfl, e1, e2, h1, h2⟩ := h.parts
  obtain ⟨L, hL⟩ : ∃ L, L = w.alloc (.cells #[.slice a1 n1 c1, .slice a2 n2 c2] 28) := ⟨_, rfl⟩
  have HBL : Hid (Below w.heap.size w L) := Lib.hid (by rw [hL]; exact (Below.refl _ _).alloc (Nat.le_refl _) _)
  have HBX : Hid (Box2 L w.heap.size (.slice a1 n1 c1) (.slice a2 n2 c2) 28) := Lib.hid (by rw [hL]; exact Box2.made _ _ _ _)
  have HL := Lib.hid hL
  have H1 := Lib.hid (h1.later HBL.out (Nat.le_refl _))
  have H2 := Lib.hid (h2.later HBL.out (Nat.le_refl _))
  have HH := Lib.hid (And.intro hn1 (And.intro hs1 (And.intro hn2 hs2)))
  have HE := Lib.hid (And.intro e1 e2)
  have HNO : Hid (¬ HasPer L1 L2 m → ∀ w', Below w.heap.size w w' → R (.returned (.tuple #[.int .i64 0, .bool false])) w') := Lib.hid fun hf w' hb => by
    have := HR.out w' hb
    unfold firstZeroV at this; rw [zerL_no hf, frstV] at this; exact this
  clear h e1 e2 h1 h2 hn1 hs1 hn2 hs2 hL
  go_enter Tryz.func36, Tryz.ntmps36
  go_wp2_with fail
  rw [← HL.out]
  refine l04is_any _ n1 n2 c1 c2 a1 a2 L1 L2 L HBX.out HE.out.1 HE.out.2 H1.out H2.out HH.out.1 HH.out.2.1 HH.out.2.2.1 HH.out.2.2.2 _ ?_
  intro w1 hb1
  have HB := Lib.hid (HBL.out.trans (hb1.mono HBL.out.size))
  have HB1 := Lib.hid hb1
  clear hb1
  cases hx : wholeB L1 L2 with
  | false =>
    have HF := Lib.hid (HNO.out (noPer_ok (by rw [hx]; rfl)) w1 HB.out)
    clear hx
    dsimp only
    go_wp2
    first | go_ret3 | go_ret | skip
    exact HF.out
  | true =>
    have HX := Lib.hid hx
    clear hx
    dsimp only
    go_wp2_with fail
    refine smod_any m _ _ ?_
    cases hz : decide (2 ≤ m ∧ m ≤ 1000000) with
    | false =>
      have HF := Lib.hid (HNO.out (noPer_ok (by unfold modB; rw [hz]; simp)) w1 HB.out)
      clear hz
      dsimp only
      go_wp2
      first | go_ret3 | go_ret | skip
      exact HF.out
    | true =>
      have hm := of_decide_eq_true hz
      have HOK : Hid ((wholeB L1 L2 && modB m) = true) := Lib.hid (by unfold modB; rw [HX.out, hz]; rfl)
      obtain ⟨M, rfl⟩ : ∃ M : Nat, m = (M : Int) := ⟨m.toNat, by omega⟩
      have hM2 : 2 ≤ M := by omega
      have hM3 : M ≤ 1000000 := by omega
      have HBX1 := Lib.hid (HBX.out.later HB1.out (lt_of_block HBX.out))
      have H11 := Lib.hid (H1.out.later HB1.out (Nat.le_refl _))
      have H21 := Lib.hid (H2.out.later HB1.out (Nat.le_refl _))
      clear hz hm
      dsimp only
      go_wp2_with fail
      refine szeros_any M w.heap.size n1 n2 c1 c2 a1 a2 L1 L2 w1 HBX1.out H11.out H21.out HX.out hM2 hM3 _ ?_ ?_
      · intro B v w2 hper how hb2
        have HF : Hid (∀ w', Below w2.heap.size w2 w' → R (.returned (frstV (zerL L1 L2 (M : Int)))) w') := Lib.hid fun w' hb => HR.out w' ((HB.out.trans (hb2.mono HB.out.size)).trans (hb.mono (Nat.le_trans HB.out.size hb2.size)))
        obtain ⟨xs, hxs⟩ : ∃ xs, xs = zerL L1 L2 (M : Int) := ⟨_, rfl⟩
        rw [← hxs] at how HF
        clear hper hxs hb2
        cases xs with
        | nil =>
          obtain ⟨ao, n, cc, rfl, hn⟩ := how.shape
          have hn0 : n = 0 := hn
          subst hn0
          have HFF := Lib.hid (HF.out w2 (Below.refl _ _))
          rw [frstV] at HFF
          have HFG : Hid (∀ n, R (.returned (.tuple #[.int .i64 0, .bool false])) (w2.drewN n)) := Lib.hid fun n => by
            have := HF.out (w2.drewN n) (below_draws (Below.refl _ _) n); rw [frstV] at this; exact this
          clear how hn HF
          dsimp only
          go_wp2_with fail
          try go_quiet (fail)
          go_wp2
          first | go_ret | skip
          first | exact HFF.out | exact HFG.out _
        | cons x r =>
          obtain ⟨ao, n, cc, rfl, hn⟩ := how.shape
          have HFF := Lib.hid (HF.out w2 (Below.refl _ _))
          rw [frstV] at HFF
          have HFG : Hid (∀ n, R (.returned (.tuple #[.int .i64 ((x : Nat) : Int), .bool true])) (w2.drewN n)) := Lib.hid fun n => by
            have := HF.out (w2.drewN n) (below_draws (Below.refl _ _) n); rw [frstV] at this; exact this
          obtain ⟨b0, off, ebo, hcell⟩ := how.sl.cellAt2 (i := 0) (by simp) (Below.refl _ _)
          subst ebo
          have hc0 : w2.cell? ⟨b0, off, none⟩ = some (.int .i64 ((x : Nat) : Int)) := hcell
          have hn1 : n = r.length + 1 := hn
          have hnn : (0 : Int) < (n : Int) := by omega
          have hne : ((n : Int) == 0) = false := by rw [beq_eq_false_iff_ne]; omega
          have hne2 : ¬ ((n : Int) = 0) := by omega
          have hn3 : ¬ (n = 0) := by omega
          have hn4 : 0 < n := by omega
          clear how hn HF hcell hn1
          dsimp only
          go_wp2_with fail
          try go_quiet (fail)
          go_wp2
          first | go_ret | skip
          first | exact HFF.out | exact HFG.out _
      · intro B v xs w2 hno how hb2
        obtain ⟨ao, n, cc, rfl, hn⟩ := how.shape
        have HFG : Hid (∀ w', Below w2.heap.size w2 w' → R (.returned (.tuple #[.int .i64 0, .bool false])) w') := Lib.hid fun w' hb => HNO.out hno w' ((HB.out.trans (hb2.mono HB.out.size)).trans (hb.mono (Nat.le_trans HB.out.size hb2.size)))
        clear hno how hn hb2
        dsimp only
        go_wp2_with fail
        try go_quiet (fail)
        go_wp2
        first | go_ret | skip
        first | exact HFG.out _ (Below.refl _ _) | exact HFG.out _ (below_draws (Below.refl _ _) _)
end Go.Proofs.YtnfehccicnpbpaaGreatDoor

namespace Go.Proofs.YtnfehccicnpbpaaGreatDoor
open Go Go.RowKit

set_option maxRecDepth 100000 in
set_option maxHeartbeats 8000000 in
theorem law_firstZero (v : Value) (L1 L2 : List ByteArray) (m : Int) (w : World) (hE : Env w) (h : IsRec w v L1 L2) (hn1 : L1.length ≤ maxLen) (hs1 : ∀ s ∈ L1, s.size ≤ maxLen) (hn2 : L2.length ≤ maxLen) (hs2 : ∀ s ∈ L2, s.size ≤ maxLen) (_hm0 : -9223372036854775807 - 1 ≤ m) (_hm1 : m ≤ 9223372036854775807) (R : Ending → World → Prop)
    (hR : ∀ w', Below w.heap.size w w' → R (.returned (.bool true)) w') :
    Calls Tryz.prog 10 #[v, .int .i64 m] w R := by
  have HR := Lib.hid hR; clear hR
  have HE := Lib.hid hE; clear hE
  have h9 := h
  obtain ⟨s1, s2, rfl, h1, h2⟩ := h9
  obtain ⟨a1, n1, c1, rfl, h1'⟩ := h1.op
  obtain ⟨a2, n2, c2, rfl, h2'⟩ := h2.op
  obtain ⟨L, hL⟩ : ∃ L, L = w.alloc (.cells #[.slice a1 n1 c1, .slice a2 n2 c2] 24) := ⟨_, rfl⟩
  have HBL : Hid (Below w.heap.size w L) := Lib.hid (by rw [hL]; exact (Below.refl _ _).alloc (Nat.le_refl _) _)
  have HBX : Hid (Box2 L w.heap.size (.slice a1 n1 c1) (.slice a2 n2 c2) 24) := Lib.hid (by rw [hL]; exact Box2.made _ _ _ _)
  have HL := Lib.hid hL
  have HV := Lib.hid (h.later HBL.out (Nat.le_refl _))
  have HN := Lib.hid (And.intro hn1 (And.intro hs1 (And.intro hn2 hs2)))
  obtain ⟨z0, bq, hzq⟩ := firstZeroV_shape L1 L2 m
  have HZQ := Lib.hid hzq
  have cz0 : (z0 != z0) = false := by simp
  have cbq : (bq != bq) = false := by cases bq <;> rfl
  obtain ⟨hA0, hA1, _, _⟩ := HBX.out.cells
  clear h h1 h2 h1' h2' hn1 hs1 hn2 hs2 hL hzq _hm0 _hm1
  go_enter Tryz.func10, Tryz.ntmps10
  rw [HL.out] at hA0 hA1
  go_wp2_with fail
  rw [← HL.out]
  refine szR_any _ L1 L2 L 1048576 HV.out HN.out.1 HN.out.2.1 HN.out.2.2.1 HN.out.2.2.2 (by omega) _ ?_ ?_
  rotate_left
  · intro w1 _ hb1
    have HF := Lib.hid (HR.out w1 (HBL.out.trans (hb1.mono HBL.out.size)))
    clear hb1 hA0 hA1
    dsimp only
    go_wp2
    first | go_ret | skip
    exact HF.out
  intro w1 ht hb1
  obtain ⟨p1, p2⟩ := sizes_each (L := L1) (by omega)
  obtain ⟨p3, p4⟩ := sizes_each (L := L2) (by omega)
  have HP := Lib.hid (And.intro p1 (And.intro p2 (And.intro p3 p4)))
  obtain ⟨mm, hmm⟩ : ∃ mm : Nat, mm = 1048576 - (tot L1 + tot L2) := ⟨_, rfl⟩
  rw [← hmm]
  have hm0 : ¬ ((mm : Int) < 0) := by omega
  have HB1 : Hid (Below L.heap.size L w1) := Lib.hid hb1
  have HX1 := Lib.hid (HBX.out.later hb1 (lt_of_block HBX.out))
  clear hmm ht p1 p2 p3 p4 hb1 hA0 hA1
  obtain ⟨hA0, hA1, _, _⟩ := HX1.out.cells
  dsimp only
  go_wp2_with fail
  refine toR_any _ L1 L2 w1 (HV.out.later HB1.out (Nat.le_refl _)) HP.out.1 HP.out.2.2.1 _ ?_
  intro v2 w2 hv2 hb2
  have HV2 := Lib.hid hv2
  obtain ⟨x1, m1, y1, x2, m2, y2, rfl, q1, q2, q3, q4⟩ := hv2.parts
  have HB2 := Lib.hid (HB1.out.trans (hb2.mono HB1.out.size))
  have HX2 := Lib.hid (HX1.out.later hb2 (lt_of_block HX1.out))
  clear hv2 q1 q2 q3 q4 hb2 hA0 hA1
  obtain ⟨hA0, hA1, _, _⟩ := HX2.out.cells
  dsimp only
  go_wp2_with fail
  refine spec_firstZero _ L1 L2 m w2 HV2.out HP.out.1 HP.out.2.1 HP.out.2.2.1 HP.out.2.2.2 _ ?_
  intro w3 hb3
  rw [HZQ.out]
  have HB3 := Lib.hid (HB2.out.trans (hb3.mono HB2.out.size))
  have HX3 := Lib.hid (HX2.out.later hb3 (lt_of_block HX2.out))
  clear hb3 hA0 hA1
  obtain ⟨hA0, hA1, _, _⟩ := HX3.out.cells
  dsimp only
  go_wp2_with fail
  refine toR_any _ L1 L2 w3 (HV.out.later HB3.out (Nat.le_refl _)) HP.out.1 HP.out.2.2.1 _ ?_
  intro v4 w4 hv4 hb4
  obtain ⟨x3, m3, y3, x4, m4, y4, rfl, q1, q2, q3, q4⟩ := hv4.parts
  obtain ⟨W, hW⟩ : ∃ W, W = w4.alloc (.cells #[.slice x3 m3 y3, .slice x4 m4 y4] 28) := ⟨_, rfl⟩
  have hbW : Below w4.heap.size w4 W := by rw [hW]; exact (Below.refl _ _).alloc (Nat.le_refl _) _
  have B4 : Hid (Box2 W w4.heap.size (.slice x3 m3 y3) (.slice x4 m4 y4) 28) := Lib.hid (by rw [hW]; exact Box2.made _ _ _ _)
  have HV4 := Lib.hid (hv4.later hbW (Nat.le_refl _))
  have hb4W : Below w3.heap.size w3 W := hb4.trans (hbW.mono hb4.size)
  have HB4 := Lib.hid (HB3.out.trans (hb4W.mono HB3.out.size))
  have HX4 := Lib.hid (HX3.out.later hb4W (lt_of_block HX3.out))
  have HW := Lib.hid hW
  obtain ⟨hC0, hC1, _, _⟩ := B4.out.cells
  clear hv4 q1 q2 q3 q4 hb4 hbW hb4W hW hA0 hA1
  rw [HW.out] at hC0 hC1
  dsimp only
  go_wp2_with fail
  rw [← HW.out]
  refine impl_firstZero _ L1 L2 m W (HE.out.later (HBL.out.trans (HB4.out.mono HBL.out.size)) (Nat.le_refl _)) HV4.out HP.out.1 HP.out.2.2.1 _ ?_
  intro w5 hb5
  rw [HZQ.out]
  have HB5 := Lib.hid (HB4.out.trans (hb5.mono HB4.out.size))
  have HX5 := Lib.hid (HX4.out.later hb5 (lt_of_block HX4.out))
  have B5 := Lib.hid (B4.out.later hb5 (lt_of_block B4.out))
  have HV5 := Lib.hid (HV4.out.later hb5 (Nat.le_refl _))
  have HSOF : Hid (∀ w', Below w5.heap.size w5 w' → (Below w5.heap.size w5 w' ∧ (w'.cell? ⟨w.heap.size, 0, none⟩ = some (.slice a1 n1 c1) ∧ w'.cell? ⟨w.heap.size, 1, none⟩ = some (.slice a2 n2 c2)) ∧ (w'.cell? ⟨w4.heap.size, 0, none⟩ = some (.slice x3 m3 y3) ∧ w'.cell? ⟨w4.heap.size, 1, none⟩ = some (.slice x4 m4 y4)))) :=
    Lib.hid fun w' hb => ⟨hb, ⟨(HX5.out.later hb (lt_of_block HX5.out)).cells.1, (HX5.out.later hb (lt_of_block HX5.out)).cells.2.1⟩, ⟨(B5.out.later hb (lt_of_block B5.out)).cells.1, (B5.out.later hb (lt_of_block B5.out)).cells.2.1⟩⟩
  have HVL := Lib.hid (HV.out.later HB5.out (Nat.le_refl _))
  have HLEN : Hid (L1.length ≤ 281474976710656 ∧ L2.length ≤ 281474976710656) := Lib.hid (by have := HP.out.1; have := HP.out.2.2.1; omega)
  clear hb5 hC0 hC1
  dsimp only
  go_wp2_with fail
  first
    | (go_region_held3 (fun w' => Below w5.heap.size w5 w' ∧ (w'.cell? ⟨w.heap.size, 0, none⟩ = some (.slice a1 n1 c1) ∧ w'.cell? ⟨w.heap.size, 1, none⟩ = some (.slice a2 n2 c2)) ∧ (w'.cell? ⟨w4.heap.size, 0, none⟩ = some (.slice x3 m3 y3) ∧ w'.cell? ⟨w4.heap.size, 1, none⟩ = some (.slice x4 m4 y4)))
        (first
          | exact HSOF.out _ HQ2.out
          | exact HSOF.out _ HQ1.out
          | exact HSOF.out _ (Below.refl _ _).drew)
        (first
          | (go_at_call 19; refine eqR_any _ _ L1 L2 _ (HV5.out.later HQ1.out (Nat.le_refl _)) HV6.out HLEN.out.1 HLEN.out.2 _ ?_; intro w7 hb7; have HQ2 : Hid (Below w5.heap.size w5 w7) := Lib.hid (HQ1.out.trans (hb7.mono HQ1.out.size)); clear hb7; dsimp only)
          | (go_at_call 17; refine toR_any _ L1 L2 _ (HVL.out.later (Below.refl _ _).drew (Nat.le_refl _)) HP.out.1 HP.out.2.2.1 _ ?_; intro v6 w6 hv6 hb6; have HV6 := Lib.hid hv6; have HQ1 : Hid (Below w5.heap.size w5 w6) := Lib.hid ⟨hb6.os, hb6.tape, hb6.output, hb6.size, hb6.block⟩; clear hv6 hb6; dsimp only)))
    | fail
  all_goals
    go_wp2
    first | go_ret | skip
    exact HR.out _ (HBL.out.trans ((HB5.out.trans (HQ2.out.mono HB5.out.size)).mono HBL.out.size))
end Go.Proofs.YtnfehccicnpbpaaGreatDoor
