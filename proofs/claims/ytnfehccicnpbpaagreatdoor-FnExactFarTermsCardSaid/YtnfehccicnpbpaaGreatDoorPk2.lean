/- Contracts of functions of the program and of the model: Far, Nat, But, AddP, TakeP, TimesP, DivS, Minus, Shift, ShiftD, TakeM, TakeMW, DivN, NCmp, DivNW, DivNB. -/
import Derived.Test.YtnfehccicnpbpaaGreatDoorPk1
import Derived.Laws.Externs
import Derived.Shelf.Spec.BitsCarry
import Derived.Deep.DeepCutAuto
import Derived.Laws.CopyOwn
set_option linter.all false
set_option linter.unusedVariables false
set_option linter.unusedSimpArgs false
set_option linter.unnecessarySimpa false
set_option linter.deprecated false
namespace Go.Proofs.YtnfehccicnpbpaaGreatDoor
open Go Go.RowKit

theorem cmpN_lt {a b : Nat} (h : a < b) : cmpN a b = -1 := if_pos h
theorem cmpN_gt {a b : Nat} (h : b < a) : cmpN a b = 1 := by rw [cmpN, if_neg (by omega), if_pos h]
theorem cmpN_eq (a : Nat) : cmpN a a = 0 := by rw [cmpN, if_neg (by omega), if_neg (by omega)]

set_option maxRecDepth 100000 in
theorem far_any (va vb : Value) (a b : Int) (w : World) (ha : IsZ w va a) (hb : IsZ w vb b) (hla : (dig 10000 a.natAbs).length ≤ 1000000000) (hlb : (dig 10000 b.natAbs).length ≤ 1000000000) (R : Ending → World → Prop)
    (hR : ∀ w', Below w.heap.size w w' → R (.returned (.int .i64 (cmpN a.natAbs b.natAbs))) w') :
    Calls Tryz.prog 208 #[va, vb] w R := by
  obtain ⟨aa, na, ca, rfl, ena, hsa⟩ := ha.open
  obtain ⟨ab, nb, cb, rfl, enb, hsb⟩ := hb.open
  obtain ⟨xs, hxs⟩ : ∃ xs, xs = dig 10000 a.natAbs := ⟨_, rfl⟩
  obtain ⟨ys, hys⟩ : ∃ ys, ys = dig 10000 b.natAbs := ⟨_, rfl⟩
  have hx : ∀ d ∈ xs, d < 10000 := by rw [hxs]; exact dig_lt (by omega) _
  have hy : ∀ d ∈ ys, d < 10000 := by rw [hys]; exact dig_lt (by omega) _
  have hvx : val 10000 xs = a.natAbs := by rw [hxs]; exact val_dig (by omega) _
  have hvy : val 10000 ys = b.natAbs := by rw [hys]; exact val_dig (by omega) _
  have hlt : na < nb → a.natAbs < b.natAbs := fun h => lt_of_dig_length (B := 10000) (by omega) _ _ (by omega)
  have hgt : nb < na → b.natAbs < a.natAbs := fun h => lt_of_dig_length (B := 10000) (by omega) _ _ (by omega)
  rw [← ena] at hla
  rw [← enb] at hlb
  rw [← hxs] at hsa ena
  rw [← hys] at hsb enb
  have HR := Lib.hid hR
  obtain ⟨nega, hnega⟩ : ∃ x, x = decide (a < 0) := ⟨_, rfl⟩
  obtain ⟨negb, hnegb⟩ : ∃ x, x = decide (b < 0) := ⟨_, rfl⟩
  rw [← hnega, ← hnegb]
  have Ena := Lib.hid ena
  have Enb := Lib.hid enb
  have Hvx := Lib.hid hvx
  have Hvy := Lib.hid hvy
  have Hx := Lib.hid hx
  have Hy := Lib.hid hy
  have hba := Box2.made w (.bool nega) (.slice aa na ca) 114
  have hbel1 : Below w.heap.size w (w.alloc (.cells #[.bool nega, .slice aa na ca] 114)) := (Below.refl _ _).alloc (Nat.le_refl _) _
  have hbb := Box2.made (w.alloc (.cells #[.bool nega, .slice aa na ca] 114)) (.bool negb) (.slice ab nb cb) 114
  have HB := Lib.hid (hbel1.alloc (by simp) (.cells #[.bool negb, .slice ab nb cb] 114))
  have H1 := Lib.hid (hba.alloc (.cells #[.bool negb, .slice ab nb cb] 114))
  have H2 := Lib.hid hbb
  simp only [World.size_alloc] at H2
  clear hR hnega hnegb hxs hys ena enb hvx hvy ha hb hx hy hba hbb hbel1
  by_cases hne : na = nb
  · obtain rfl := hne
    have e0 : ((na : Int) != (na : Int)) = false := by simp
    clear hlt hgt
    go_enter Tryz.func208, Tryz.ntmps208
    go_wp2
    go_loopw [5] (fun i wr => ∃ k : Nat, k ≤ na ∧ i = .int .i64 ((k : Int) - 1) ∧ xs.drop k = ys.drop k ∧ Box2 wr w.heap.size (.bool nega) (.slice aa na ca) 114 ∧ Box2 wr (w.heap.size + 1) (.bool negb) (.slice ab na cb) 114 ∧ Below w.heap.size w wr) (fun i _ => (intOf i + 1).toNat)
    case atStart => exact ⟨na, Nat.le_refl _, rfl, by rw [Ena.out, List.drop_length, ← Ena.out, Enb.out, List.drop_length], H1.out, H2.out, HB.out⟩
    case round =>
      obtain ⟨k, hk, rfl, hdr, hba, hbb, hbel⟩ := hrel
      have Hdr := Lib.hid hdr; clear hdr
      obtain ⟨hA, hB, _, _⟩ := hba.cells
      obtain ⟨hC, hD, _, _⟩ := hbb.cells
      have HBEL := Lib.hid hbel
      by_cases hk0 : k = 0
      · subst hk0
        have hxy : xs = ys := Hdr.out
        have hv : a.natAbs = b.natAbs := by rw [← Hvx.out, ← Hvy.out, hxy]
        rw [hv, cmpN_eq] at HR
        clear hv hxy
        go_wp2
        first | go_ret | skip
        exact HR.out _ HBEL.out
      · obtain ⟨j, rfl⟩ : ∃ j, k = j + 1 := ⟨k - 1, by omega⟩
        obtain ⟨b1, o1, rfl, hb1, hc1⟩ := hsa.at j (by omega)
        obtain ⟨b2, o2, rfl, hb2, hc2⟩ := hsb.at j (by omega)
        rw [← hbel.cell (p := ⟨b1, o1 + j, none⟩) hb1] at hc1
        rw [← hbel.cell (p := ⟨b2, o2 + j, none⟩) hb2] at hc2
        obtain ⟨x, hxe⟩ : ∃ x, x = xs.getD j 0 := ⟨_, rfl⟩
        obtain ⟨y, hye⟩ : ∃ y, y = ys.getD j 0 := ⟨_, rfl⟩
        rw [← hxe] at hc1
        rw [← hye] at hc2
        have hxl : x < 10000 := by rw [hxe]; exact getD_lt (by omega) _ Hx.out _
        have hyl : y < 10000 := by rw [hye]; exact getD_lt (by omega) _ Hy.out _
        have Hxe := Lib.hid hxe
        have Hye := Lib.hid hye
        have hjn : j < na := by omega
        have hji : (0 : Int) ≤ (j : Int) := by omega
        have hji2 : (j : Int) < (na : Int) := by omega
        clear hxe hye hbel
        have es : ((j + 1 : Nat) : Int) - 1 = (j : Int) := by omega
        rw [es]
        clear es
        rcases Nat.lt_trichotomy x y with hxy | hxy | hxy
        · have hcm : a.natAbs < b.natAbs := by
            rw [← Hvx.out, ← Hvy.out]
            exact val_lt_at xs ys Hx.out j (by rw [← Ena.out]; exact hjn) (by rw [← Enb.out]; exact hjn) Hdr.out (by rw [← Hxe.out, ← Hye.out]; exact hxy)
          rw [cmpN_lt hcm] at HR
          clear hcm
          go_wp2
          go_quiet (fail)
          go_wp2
          first | go_ret | skip
          exact HR.out _ (below_draws HBEL.out _)
        · subst hxy
          have hdr2 : xs.drop j = ys.drop j := by
            have l1 : j < xs.length := by rw [← Ena.out]; exact hjn
            have l2 : j < ys.length := by rw [← Enb.out]; exact hjn
            have d1 : xs.drop j = xs[j] :: xs.drop (j + 1) := List.drop_eq_getElem_cons l1
            have d2 : ys.drop j = ys[j] :: ys.drop (j + 1) := List.drop_eq_getElem_cons l2
            rw [d1, d2, Hdr.out, ← getD_eq l1, ← getD_eq l2, ← Hxe.out, ← Hye.out]
          have Hdr2 := Lib.hid hdr2
          clear hdr2
          go_wp2
          go_quiet (fail)
          go_wp2
          go_quiet (fail)
          go_wp2
          go_roundw
          case rel => exact ⟨j, by omega, by go_num, Hdr2.out, (hba.drewN _), (hbb.drewN _), below_draws HBEL.out _⟩
          case measure => simp [intOf]
        · have hcm : b.natAbs < a.natAbs := by
            rw [← Hvx.out, ← Hvy.out]
            exact val_lt_at ys xs Hy.out j (by rw [← Enb.out]; exact hjn) (by rw [← Ena.out]; exact hjn) Hdr.out.symm (by rw [← Hxe.out, ← Hye.out]; exact hxy)
          rw [cmpN_gt hcm] at HR
          clear hcm
          go_wp2
          go_quiet (fail)
          go_wp2
          go_quiet (fail)
          go_wp2
          first | go_ret | skip
          exact HR.out _ (below_draws (below_draws HBEL.out _) _)
  · have e0 : ((na : Int) != (nb : Int)) = true := by simp; omega
    by_cases h : na < nb
    · rw [cmpN_lt (hlt h)] at HR
      clear hlt hgt hsa hsb
      go_enter Tryz.func208, Tryz.ntmps208
      go_wp2
      first | go_ret | skip
      exact HR.out _ HB.out
    · rw [cmpN_gt (hgt (by omega))] at HR
      clear hlt hgt hsa hsb
      go_enter Tryz.func208, Tryz.ntmps208
      go_wp2
      first | go_ret | skip
      exact HR.out _ HB.out
end Go.Proofs.YtnfehccicnpbpaaGreatDoor

namespace Go.Proofs.YtnfehccicnpbpaaGreatDoor
open Go Go.RowKit

/-- a value of the program's type of natural numbers -/
def IsN (w : World) (v : Value) (n : Nat) : Prop := Sl .u64 w v (dig W64 n)

theorem IsN.later {w w' : World} {v : Value} {n : Nat} {B : Nat} (h : IsN w v n) (hb : Below B w w') (hB : w.heap.size ≤ B) : IsN w' v n := Sl.later h hb hB

theorem IsN.open {w : World} {v : Value} {n : Nat} (h : IsN w v n) : ∃ ao k cap, v = .slice ao k cap ∧ k = (dig W64 n).length ∧ IsN w (.slice ao k cap) n := by
  obtain ⟨ao, cap, rfl, h2⟩ := h
  exact ⟨ao, _, cap, rfl, rfl, ao, cap, rfl, h2⟩

theorem IsN.drewN {w : World} {v : Value} {n : Nat} (h : IsN w v n) (k : Nat) : IsN (w.drewN k) v n := h

theorem info_u64 : (Tryz.prog.info? 61).map (fun i => (i.zero, i.size, i.bytes)) = some (some (.int .u64 0), 1, 8) := by kernel_rfl

theorem limb_lt (n : Nat) : ∀ d ∈ dig W64 n, d < W64 := dig_lt W64_two n

set_option maxRecDepth 100000 in
theorem nzero_any (v : Value) (n : Nat) (w : World) (h : IsN w v n) (R : Ending → World → Prop) (hR : R (.returned (.bool (decide (n = 0)))) w) :
    Calls Tryz.prog 149 #[v] w R := by
  have HR := Lib.hid hR; clear hR
  obtain ⟨ao, k, cap, rfl, hk, _⟩ := h.open
  clear h
  by_cases h0 : n = 0
  · subst h0
    rw [dig_zero] at hk
    have hk0 : k = 0 := hk
    clear hk
    subst hk0
    rw [decide_eq_true rfl] at HR
    go_enter Tryz.func149, Tryz.ntmps149
    go_wp2
    first | go_ret | skip
    exact HR.out
  · have hk0 : k ≠ 0 := fun e => h0 ((dig_eq_nil W64_two).1 (List.length_eq_zero_iff.1 (hk.symm.trans e)))
    have e : ((k : Int) == 0) = false := by simp; omega
    rw [decide_eq_false h0] at HR
    clear hk
    go_enter Tryz.func149, Tryz.ntmps149
    go_wp2
    first | go_ret | skip
    exact HR.out

theorem dig_one {B : Nat} (hB : 2 ≤ B) (n x : Nat) (h : dig B n = [x]) : n = x := by
  have := val_dig hB n
  rw [h] at this
  simpa [val] using this.symm

set_option maxRecDepth 100000 in
theorem none_any (v : Value) (n : Nat) (w : World) (h : IsN w v n) (R : Ending → World → Prop) (hR : R (.returned (.bool (decide (n = 1)))) w) :
    Calls Tryz.prog 115 #[v] w R := by
  have HR := Lib.hid hR; clear hR
  obtain ⟨ao, k, cap, rfl, hk, hs⟩ := h.open
  by_cases h1 : k = 1
  · subst h1
    obtain ⟨x, hx⟩ := List.length_eq_one_iff.1 hk.symm
    have hnx := dig_one W64_two n x hx
    obtain ⟨b, off, rfl, hb, hc⟩ := Sl.at hs 0 (by omega)
    rw [hx, Nat.add_zero] at hc
    have hc2 : w.cell? ⟨b, off, none⟩ = some (.int .u64 (x : Int)) := hc
    rw [hnx] at HR
    clear hx hc hk hnx h hs
    by_cases hx1 : x = 1
    · subst hx1
      rw [decide_eq_true rfl] at HR
      go_enter Tryz.func115, Tryz.ntmps115
      go_wp2
      first | go_ret | skip
      exact HR.out
    · have e : ((x : Int) == 1) = false := by simp; omega
      rw [decide_eq_false hx1] at HR
      go_enter Tryz.func115, Tryz.ntmps115
      go_wp2
      first | go_ret | skip
      exact HR.out
  · have hn : n ≠ 1 := by
      intro e
      subst e
      rw [dig_small (by omega) (by rw [W64_eq]; omega)] at hk
      exact h1 hk
    have e : ((k : Int) == 1) = false := by simp; omega
    rw [decide_eq_false hn] at HR
    clear hk hs h
    go_enter Tryz.func115, Tryz.ntmps115
    go_wp2
    first | go_ret | skip
    exact HR.out

/-- the block that a slice lies in -/
def blk : Value → Option Nat
  | .slice (some a) _ _ => some a.block
  | _ => none

set_option maxRecDepth 100000 in
/-- limbs without the zeros at their end -/
theorem trimmed_any (v : Value) (xs : List Nat) (w : World) (hs : Sl .u64 w v xs) (hd : ∀ d ∈ xs, d < W64) (hlen : xs.length ≤ 1000000000) (R : Ending → World → Prop)
    (hR : ∀ v', IsN w v' (val W64 xs) → blk v' = blk v → R (.returned v') w) :
    Calls Tryz.prog 186 #[v] w R := by
  have HR := Lib.hid hR; clear hR
  rcases hs.cases with ⟨rfl, ao2, cap2, rfl⟩ | ⟨h0, b, off, cap2, rfl, hcap, hb, hc⟩
  · go_enter Tryz.func186, Tryz.ntmps186
    go_wp2
    go_loop [0] (fun v => v = .slice ao2 0 cap2) (fun _ => 0)
    case atStart => rfl
    case round =>
      subst hrel
      go_wp2
      first | go_ret | skip
      refine HR.out _ ?_ rfl
      show Sl _ _ _ (dig W64 0)
      rw [dig_zero]; exact hs
  · obtain ⟨len, hl⟩ : ∃ len, len = xs.length := ⟨_, rfl⟩
    have HC := Lib.hid (take_cut W64_two xs hd)
    have hcm : len ≤ 1000000000 := by omega
    rw [← hl] at h0 hc hcap
    have Hl := Lib.hid hl
    rw [← hl]
    clear hl hlen hd hs
    have hcm2 : len ≤ cap2 := hcap
    go_enter Tryz.func186, Tryz.ntmps186
    go_wp2
    go_loop [0] (fun v => ∃ k : Nat, k ≤ len ∧ v = .slice (some ⟨b, off, none⟩) k cap2 ∧ cutLen xs k = cutLen xs len) (fun v => match v with | .slice _ n _ => n | _ => 0)
    case atStart => exact ⟨len, Nat.le_refl _, rfl, rfl⟩
    case round =>
      obtain ⟨k, hk, rfl, hcut⟩ := hrel
      have Hcut := Lib.hid hcut; clear hcut
      have hfin : cutLen xs k = k → R (.returned (.slice (some ⟨b, off, none⟩) k cap2)) w := by
        intro e
        refine HR.out _ ?_ rfl
        show Sl _ _ _ (dig W64 (val W64 xs))
        rw [← HC.out, ← Hl.out, ← Hcut.out, e]
        exact Sl.take k (by rw [← Hl.out]; exact hk) (by rw [← Hl.out]; exact hcm2) hb (fun i hi => hc i (by rw [Hl.out]; exact hi))
      have HF := Lib.hid hfin
      clear hfin
      by_cases hk0 : 0 < k
      · obtain ⟨j, rfl⟩ : ∃ j, k = j + 1 := ⟨k - 1, by omega⟩
        have hcell := hc j (by omega)
        obtain ⟨x, hx⟩ : ∃ x, x = xs.getD j 0 := ⟨_, rfl⟩
        rw [← hx] at hcell
        have Hx := Lib.hid hx; clear hx
        have hjc : j ≤ cap2 := by omega
        by_cases hz : x = 0
        · subst hz
          clear hc
          go_wp2
          go_round
          case rel => exact ⟨j, by omega, rfl, by have := Hcut.out; rw [← this, cutLen, if_pos Hx.out.symm]⟩
          case measure => simp
        · have e : (((x : Nat) : Int) == 0) = false := by simp; omega
          have hce : cutLen xs (j + 1) = j + 1 := by rw [cutLen, if_neg (by rw [← Hx.out]; exact hz)]
          have hr := HF.out hce
          clear hce hc
          have HRR := Lib.hid hr
          clear hr
          go_wp2
          first | go_ret | skip
          exact HRR.out
      · obtain rfl : k = 0 := by omega
        have HRR := Lib.hid (HF.out rfl)
        clear hc
        go_wp2
        first | go_ret | skip
        exact HRR.out
end Go.Proofs.YtnfehccicnpbpaaGreatDoor

namespace Go.Proofs.YtnfehccicnpbpaaGreatDoor
open Go Go.RowKit

/-- of what there was, nothing but block g has turned -/
structure But (g : Nat) (w w' : World) : Prop where
  os : w'.os = w.os
  tape : w'.tape = w.tape
  output : w'.output = w.output
  size : w.heap.size ≤ w'.heap.size
  block : ∀ k, k < w.heap.size → k ≠ g → w'.heap[k]? = w.heap[k]?

theorem But.refl (g : Nat) (w : World) : But g w w := ⟨rfl, rfl, rfl, Nat.le_refl _, fun _ _ _ => rfl⟩
theorem But.trans {g : Nat} {a b c : World} (h : But g a b) (k : But g b c) : But g a c :=
  ⟨k.os.trans h.os, k.tape.trans h.tape, k.output.trans h.output, Nat.le_trans h.size k.size, fun i hi hg => (k.block i (Nat.lt_of_lt_of_le hi h.size) hg).trans (h.block i hi hg)⟩
theorem But.setCell {g : Nat} {a w : World} (h : But g a w) (i : Nat) (u : Value) : But g a (w.setCell ⟨g, i, none⟩ u) :=
  h.trans ⟨rfl, rfl, rfl, by simp [World.setCell], fun _ _ hg => Below.heap_setCell _ _ _ _ hg⟩
theorem But.alloc {g : Nat} {a w : World} (h : But g a w) (o : Obj) : But g a (w.alloc o) :=
  h.trans ⟨rfl, rfl, rfl, by simp, fun _ hi _ => Below.heap_alloc _ _ _ hi⟩
theorem But.drew {g : Nat} {a w : World} (h : But g a w) : But g a w.drew := ⟨h.os, h.tape, h.output, h.size, h.block⟩
theorem But.ofBelow {g : Nat} {w w' : World} (h : Below w.heap.size w w') : But g w w' := ⟨h.os, h.tape, h.output, h.size, fun k hk _ => h.block k hk⟩
/-- a block of the call's own -/
theorem But.below {g B : Nat} {w w' : World} (h : But g w w') (hg : B ≤ g) (hB : B ≤ w.heap.size) : Below B w w' :=
  ⟨h.os, h.tape, h.output, h.size, fun k hk => h.block k (by omega) (by omega)⟩

theorem But.cell {g : Nat} {w w' : World} (h : But g w w') {b o : Nat} (hb : b < w.heap.size) (hg : b ≠ g) : w'.cell? ⟨b, o, none⟩ = w.cell? ⟨b, o, none⟩ :=
  World.cell?_of_block (w := w) (h.block b hb hg)

theorem Arr.but {k : IntKind} {e : TypeId} {w w' : World} {g g' : Nat} {xs : List Nat} (h : Arr k e w g xs) (hb : But g' w w') (hg : g ≠ g') : Arr k e w' g xs := by
  unfold Arr at *; rw [hb.block g (lt_of_block h) hg]; exact h

/-- a slice that does not lie in block g reads as before -/
theorem Sl.but {k : IntKind} {w w' : World} {v : Value} {xs : List Nat} {g : Nat} (h : Sl k w v xs) (hb : But g w w') (hg : 0 < xs.length → blk v ≠ some g) : Sl k w' v xs := by
  obtain ⟨ao, cap, hv, hc, hx⟩ := h
  refine ⟨ao, cap, hv, hc, fun i hi => ?_⟩
  obtain ⟨b, off, h1, h2, h3⟩ := hx i hi
  have hbg : b ≠ g := by
    intro e
    apply hg (by omega)
    rw [hv, h1, ← e]; rfl
  exact ⟨b, off, h1, Nat.lt_of_lt_of_le h2 hb.size, by rw [hb.cell h2 hbg]; exact h3⟩

/-- a slice that was there does not lie in a new block -/
theorem Sl.off {k : IntKind} {w : World} {v : Value} {xs : List Nat} (h : Sl k w v xs) {g : Nat} (hg : w.heap.size ≤ g) : 0 < xs.length → blk v ≠ some g := by
  intro h0
  rcases h.cases with ⟨rfl, _⟩ | ⟨_, b, off, cap, rfl, _, hb, _⟩
  · simp at h0
  · intro e
    simp [blk] at e
    omega

theorem Sl.blk_lt {k : IntKind} {w : World} {v : Value} {xs : List Nat} (h : Sl k w v xs) (hne : xs ≠ []) : ∃ b, blk v = some b ∧ b < w.heap.size := by
  rcases h.cases with ⟨rfl, _⟩ | ⟨_, b, off, cap, rfl, _, hb, _⟩
  · exact absurd rfl hne
  · exact ⟨b, rfl, hb⟩

theorem Sl.drw {k : IntKind} {w : World} {v : Value} {xs : List Nat} (h : Sl k w v xs) : Sl k w.drew v xs := h

/-- Add64 at this program -/
theorem add64_at (x y c : Nat) (hc : c ≤ 1) (s m : Nat) (hs : s = (x + y + c) % W64) (hm : m = (x + y + c) / W64) (w : World) :
    (callFunc 192 #[.int .u64 x, .int .u64 y, .int .u64 c]).run Tryz.prog w = .ok (.value (.tuple #[.int .u64 s, .int .u64 m])) w := by
  subst hs hm
  rw [run_callFunc_extern Tryz.func192 (by kernel_rfl) (by kernel_rfl) (by kernel_rfl) (e := add64Entry) (by kernel_rfl), run_add64 x y c (by omega) (by omega) (by omega) (by omega)]
  simp only [Result.andThen, W64]
  congr 5 <;> omega

theorem add64_0 (x y : Nat) (s m : Nat) (hs : s = (x + y) % W64) (hm : m = (x + y) / W64) (w : World) :
    (callFunc 192 #[.int .u64 x, .int .u64 y, .int .u64 0]).run Tryz.prog w = .ok (.value (.tuple #[.int .u64 s, .int .u64 m])) w :=
  add64_at x y 0 (by omega) s m hs hm w

theorem sub64_at (x y c : Nat) (hc : c ≤ 1) (s m : Nat) (hs : s = (x + W64 - y - c) % W64) (hm : m = if x < y + c then 1 else 0) (w : World) :
    (callFunc 216 #[.int .u64 x, .int .u64 y, .int .u64 c]).run Tryz.prog w = .ok (.value (.tuple #[.int .u64 s, .int .u64 m])) w := by
  subst hs hm
  rw [run_callFunc_extern Tryz.func216 (by kernel_rfl) (by kernel_rfl) (by kernel_rfl) (e := sub64Entry) (by kernel_rfl), run_sub64 x y c hc]
  rfl

theorem sub64_0 (x y : Nat) (s m : Nat) (hs : s = (x + W64 - y) % W64) (hm : m = if x < y then 1 else 0) (w : World) :
    (callFunc 216 #[.int .u64 x, .int .u64 y, .int .u64 0]).run Tryz.prog w = .ok (.value (.tuple #[.int .u64 s, .int .u64 m])) w :=
  sub64_at x y 0 (by omega) s m hs hm w

end Go.Proofs.YtnfehccicnpbpaaGreatDoor

namespace Go.Proofs.YtnfehccicnpbpaaGreatDoor
open Go Go.RowKit

theorem take_set_out (xs : List Nat) (off i z : Nat) (h : off ≤ i) : (xs.set i z).take off = xs.take off := by
  rw [List.take_set_of_le h]
theorem drop_set_out (xs : List Nat) (m i z : Nat) (h : i < m) : (xs.set i z).drop m = xs.drop m := by
  rw [List.drop_set_of_lt h]
theorem set_ltN {B : Nat} (xs : List Nat) (i z : Nat) (h : ∀ d ∈ xs, d < B) (hz : z < B) : ∀ d ∈ xs.set i z, d < B := by
  intro d hd
  rcases List.mem_or_eq_of_mem_set hd with h1 | h1
  · exact h d h1
  · rw [h1]; exact hz

def AddPRel (w : World) (g off : Nat) (rs ys : List Nat) (f : Nat) (cv iv : Value) (wr : World) : Prop :=
  ∃ (k c : Nat) (cur : List Nat), iv = .int .i64 k ∧ cv = .int .u64 c ∧ k ≤ ys.length ∧ c < W64 ∧ Arr .u64 61 wr g cur ∧ cur.length = rs.length ∧ (∀ d ∈ cur, d < W64) ∧
    cur.take off = rs.take off ∧ cur.drop (off + k) = rs.drop (off + k) ∧ val W64 cur + W64 ^ (off + k) * c = val W64 rs + W64 ^ off * (f * val W64 (ys.take k)) ∧ But g w wr ∧ wr.heap.size = w.heap.size

theorem addp_rel (w wr : World) (g off : Nat) (rs ys cur : List Nat) (f k c y x z c' : Nat) (zc : Int) (hk : k < ys.length) (hoff : off + ys.length ≤ rs.length) (hA : Arr .u64 61 wr g cur)
    (hl : cur.length = rs.length) (hlt : ∀ d ∈ cur, d < W64) (ht : cur.take off = rs.take off) (hd : cur.drop (off + k) = rs.drop (off + k))
    (hv : val W64 cur + W64 ^ (off + k) * c = val W64 rs + W64 ^ off * (f * val W64 (ys.take k))) (hb : But g w wr) (hs : wr.heap.size = w.heap.size)
    (hx : x = cur.getD (off + k) 0) (hy : y = ys.getD k 0) (hz : z + W64 * c' = x + y * f + c) (hzl : z < W64) (hcl : c' < W64) (hzc : zc = (c' : Int)) :
    AddPRel w g off rs ys f (.int .u64 zc) (.int .i64 ((k + 1 : Nat) : Int)) (wr.setCell ⟨g, off + k, none⟩ (.int .u64 z)) := by
  subst hzc
  refine ⟨k + 1, c', cur.set (off + k) z, rfl, rfl, by omega, hcl, hA.set _ _, by simp [hl], set_ltN _ _ _ hlt hzl, by rw [take_set_out _ _ _ _ (by omega)]; exact ht, ?_, ?_, hb.setCell _ _, by simp [hs]⟩
  · rw [drop_set_out _ _ _ _ (by omega)]
    have h2 := congrArg (List.drop 1) hd
    rw [List.drop_drop, List.drop_drop] at h2
    rw [← Nat.add_assoc]; exact h2
  · exact addp_step W64 cur rs ys off k f c z c' hk (by omega) (by rw [← hx, ← hy]; exact hz) hv

set_option maxRecDepth 100000 in
set_option maxHeartbeats 1000000 in
theorem addp_any (g off nl cap : Nat) (rs ys : List Nat) (bv : Value) (f : Nat) (w : World) (hA : Arr .u64 61 w g rs) (hb : Sl .u64 w bv ys) (hne : 0 < ys.length → blk bv ≠ some g) (hoff : off + ys.length ≤ rs.length)
    (hnl : ys.length ≤ nl) (hrs : ∀ d ∈ rs, d < W64) (hys : ∀ d ∈ ys, d < W64) (hf : f < W64) (hlen : rs.length ≤ 1000000000) (R : Ending → World → Prop)
    (hR : ∀ zs c w', Arr .u64 61 w' g zs → zs.length = rs.length → (∀ d ∈ zs, d < W64) → zs.take off = rs.take off → zs.drop (off + ys.length) = rs.drop (off + ys.length) →
      val W64 zs + W64 ^ (off + ys.length) * c = val W64 rs + W64 ^ off * (f * val W64 ys) → c < W64 → But g w w' → w'.heap.size = w.heap.size → R (.returned (.int .u64 ((c : Nat) : Int))) w') :
    Calls Tryz.prog 191 #[.slice (some ⟨g, off, none⟩) nl cap, bv, .int .u64 ((f : Nat) : Int)] w R := by
  have HR := Lib.hid hR; clear hR
  obtain ⟨ao, capb, hbv, hcb, hcell⟩ := hb
  subst hbv
  obtain ⟨n, hn⟩ : ∃ n, n = ys.length := ⟨_, rfl⟩
  have HN := Lib.hid hn
  have hnl2 : n ≤ nl := by omega
  have hn9 : n ≤ 1000000000 := by omega
  have HRS := Lib.hid hrs
  have HYS := Lib.hid hys
  have HOFF := Lib.hid hoff
  have HLEN := Lib.hid hlen
  have HCELL := Lib.hid hcell
  have HNE := Lib.hid hne
  rw [← hn]
  have hf2 : f < 18446744073709551616 := by rw [← W64_eq]; exact hf
  have HF := Lib.hid hf
  have hstart : AddPRel w g off rs ys f (.int .u64 0) (.int .i64 0) w :=
    ⟨0, 0, rs, rfl, rfl, Nat.zero_le _, by rw [W64_eq]; omega, hA, rfl, hrs, rfl, rfl, by simp [val], But.refl _ _, rfl⟩
  have HST := Lib.hid hstart
  clear hn hrs hys hoff hlen hcell hne hcb hf hstart hA hnl
  go_enter Tryz.func191, Tryz.ntmps191
  go_wp2
  go_loopw [7, 15] (fun c i wr => AddPRel w g off rs ys f c i wr) (fun _ i _ => n - (intOf i).toNat)
  case atStart => exact HST.out
  case round =>
    obtain ⟨k, c, cur, rfl, rfl, hk, hc, hA, hl, hlt, ht, hd, hv, hbut, hsz⟩ := hrel
    have HHL := Lib.hid hl
    have HLT := Lib.hid hlt
    have HT := Lib.hid ht
    have HD := Lib.hid hd
    have HV := Lib.hid hv
    have HSZ := Lib.hid hsz
    have HK := Lib.hid hk
    have HC := Lib.hid hc
    clear hl hlt ht hd hv hsz hk hc
    by_cases hkn : k < n
    · have hky : k < ys.length := by rw [← HN.out]; exact hkn
      obtain ⟨b, o, rfl, hb1, hc1⟩ := HCELL.out k hky
      have hbg : b ≠ g := fun e => HNE.out (by omega) (by rw [e]; rfl)
      rw [← hbut.cell (o := o + k) hb1 hbg] at hc1
      have hik : off + k < cur.length := by rw [HHL.out]; have := HOFF.out; omega
      have hc2 := hA.cell (off + k) hik
      have hc3 := hA.frozen (off + k)
      obtain ⟨y, hy⟩ : ∃ y, y = ys.getD k 0 := ⟨_, rfl⟩
      obtain ⟨x, hx⟩ : ∃ x, x = cur.getD (off + k) 0 := ⟨_, rfl⟩
      rw [← hy] at hc1
      rw [← hx] at hc2
      have hyl : y < W64 := by rw [hy]; exact getD_lt (by rw [W64_eq]; omega) _ HYS.out _
      have hxl : x < W64 := by rw [hx]; exact getD_lt (by rw [W64_eq]; omega) _ HLT.out _
      obtain ⟨hmc1, hmc2⟩ := mul_carry2 hyl HF.out HC.out hxl
      obtain ⟨hmd1, _⟩ := mul_carry hyl HF.out HC.out
      obtain ⟨hi, hhi⟩ : ∃ hi, hi = y * f / W64 := ⟨_, rfl⟩
      obtain ⟨lo, hlo⟩ : ∃ lo, lo = y * f % W64 := ⟨_, rfl⟩
      rw [← hhi, ← hlo] at hmc1 hmc2 hmd1
      obtain ⟨s1, hs1⟩ : ∃ s, s = (lo + c) % W64 := ⟨_, rfl⟩
      obtain ⟨m1, hm1⟩ : ∃ s, s = (lo + c) / W64 := ⟨_, rfl⟩
      rw [← hm1] at hmd1
      rw [← hs1, ← hm1] at hmc1 hmc2
      obtain ⟨s2, hs2⟩ : ∃ s, s = (x + s1) % W64 := ⟨_, rfl⟩
      obtain ⟨m2, hm2⟩ : ∃ s, s = (x + s1) / W64 := ⟨_, rfl⟩
      rw [← hm2] at hmc1
      rw [← hs2, ← hm2] at hmc2
      have ea1 := add64_0 lo c s1 m1 hs1 hm1
      have ea2 := add64_0 x s1 s2 m2 hs2 hm2
      have em := Lib.hid (Tryz.bits_Mul64 y f (by rw [← W64_eq]; exact hyl) (by rw [← W64_eq]; exact HF.out))
      have hs2l : s2 < W64 := by rw [hs2]; exact Nat.mod_lt _ (by rw [W64_eq]; omega)
      have hw1 : (hi : Int) + (m1 : Int) ≤ 18446744073709551615 := by rw [W64_eq] at hmd1; omega
      have hw2 : (hi : Int) + (m1 : Int) + (m2 : Int) ≤ 18446744073709551615 := by rw [W64_eq] at hmc1; omega
      have hyl2 : y < 18446744073709551616 := by rw [← W64_eq]; exact hyl
      have hkl : k < nl := by omega
      have HREL := Lib.hid (addp_rel w wr g off rs ys cur f k c y x s2 (hi + m1 + m2) ((hi : Int) + (m1 : Int) + (m2 : Int)) hky HOFF.out hA HHL.out HLT.out HT.out HD.out HV.out hbut HSZ.out hx hy hmc2 hs2l hmc1 (by omega))
      have hhi' := Lib.hid (show y * f / 18446744073709551616 = hi from hhi.symm)
      have hlo' := Lib.hid (show y * f % 18446744073709551616 = lo from hlo.symm)
      clear hhi hlo hs1 hm1 hs2 hm2 hmc1 hmc2 hmd1 hs2l hx hy hyl hxl hA hbut
      go_wp2_with fail
      refine (em.out _).mono ?_
      rintro e w1 ⟨rfl, rfl⟩
      rw [hhi'.out, hlo'.out]
      dsimp only
      go_wp2_with (first | simp only [ea1] | simp only [ea2])
      go_roundw
      case rel => exact HREL.out
      case measure => simp [intOf]; omega
    · obtain rfl : k = n := by have := HK.out; rw [← HN.out] at this; omega
      have HV2 := HV
      go_wp2
      first | go_ret | skip
      refine HR.out cur c wr hA HHL.out HLT.out HT.out (by rw [← HN.out]; exact HD.out) ?_ HC.out hbut HSZ.out
      have := HV.out
      rw [HN.out, List.take_length] at this
      exact this
end Go.Proofs.YtnfehccicnpbpaaGreatDoor

namespace Go.Proofs.YtnfehccicnpbpaaGreatDoor
open Go Go.RowKit

theorem borrow_parts (x s1 s2 m2 W : Nat) (hx : x < W) (hs : s1 < W) (hs2 : s2 = (x + W - s1) % W) (hm2 : m2 = if x < s1 then 1 else 0) : s2 + s1 = x + W * m2 ∧ m2 ≤ 1 ∧ s2 < W := by
  by_cases h : x < s1
  · rw [if_pos h] at hm2
    rw [Nat.mod_eq_of_lt (by omega)] at hs2
    subst hm2; omega
  · rw [if_neg h] at hm2
    rw [show x + W - s1 = (x - s1) + W by omega, Nat.add_mod_right, Nat.mod_eq_of_lt (by omega)] at hs2
    subst hm2; omega

def TakePRel (w : World) (g off : Nat) (rs ys : List Nat) (f : Nat) (cv iv : Value) (wr : World) : Prop :=
  ∃ (k c : Nat) (cur : List Nat), iv = .int .i64 k ∧ cv = .int .u64 c ∧ k ≤ ys.length ∧ c < W64 ∧ Arr .u64 61 wr g cur ∧ cur.length = rs.length ∧ (∀ d ∈ cur, d < W64) ∧
    cur.take off = rs.take off ∧ cur.drop (off + k) = rs.drop (off + k) ∧ val W64 cur + W64 ^ off * (f * val W64 (ys.take k)) = val W64 rs + W64 ^ (off + k) * c ∧ But g w wr ∧ wr.heap.size = w.heap.size

theorem takep_rel (w wr : World) (g off : Nat) (rs ys cur : List Nat) (f k c y x z c' : Nat) (zc : Int) (hk : k < ys.length) (hoff : off + ys.length ≤ rs.length) (hA : Arr .u64 61 wr g cur)
    (hl : cur.length = rs.length) (hlt : ∀ d ∈ cur, d < W64) (ht : cur.take off = rs.take off) (hd : cur.drop (off + k) = rs.drop (off + k))
    (hv : val W64 cur + W64 ^ off * (f * val W64 (ys.take k)) = val W64 rs + W64 ^ (off + k) * c) (hb : But g w wr) (hs : wr.heap.size = w.heap.size)
    (hx : x = cur.getD (off + k) 0) (hy : y = ys.getD k 0) (hz : z + y * f + c = x + W64 * c') (hzl : z < W64) (hcl : c' < W64) (hzc : zc = (c' : Int)) :
    TakePRel w g off rs ys f (.int .u64 zc) (.int .i64 ((k + 1 : Nat) : Int)) (wr.setCell ⟨g, off + k, none⟩ (.int .u64 z)) := by
  subst hzc
  refine ⟨k + 1, c', cur.set (off + k) z, rfl, rfl, by omega, hcl, hA.set _ _, by simp [hl], set_ltN _ _ _ hlt hzl, by rw [take_set_out _ _ _ _ (by omega)]; exact ht, ?_, ?_, hb.setCell _ _, by simp [hs]⟩
  · rw [drop_set_out _ _ _ _ (by omega)]
    have h2 := congrArg (List.drop 1) hd
    rw [List.drop_drop, List.drop_drop] at h2
    rw [← Nat.add_assoc]; exact h2
  · exact takep_step W64 cur rs ys off k f c z c' hk (by omega) (by rw [← hx, ← hy]; exact hz) hv

set_option maxRecDepth 100000 in
set_option maxHeartbeats 1000000 in
theorem takep_any (g off nl cap : Nat) (rs ys : List Nat) (bv : Value) (f : Nat) (w : World) (hA : Arr .u64 61 w g rs) (hb : Sl .u64 w bv ys) (hne : 0 < ys.length → blk bv ≠ some g) (hoff : off + ys.length ≤ rs.length)
    (hnl : ys.length ≤ nl) (hrs : ∀ d ∈ rs, d < W64) (hys : ∀ d ∈ ys, d < W64) (hf : f < W64) (hlen : rs.length ≤ 1000000000) (R : Ending → World → Prop)
    (hR : ∀ zs c w', Arr .u64 61 w' g zs → zs.length = rs.length → (∀ d ∈ zs, d < W64) → zs.take off = rs.take off → zs.drop (off + ys.length) = rs.drop (off + ys.length) →
      val W64 zs + W64 ^ off * (f * val W64 ys) = val W64 rs + W64 ^ (off + ys.length) * c → c < W64 → But g w w' → w'.heap.size = w.heap.size → R (.returned (.int .u64 ((c : Nat) : Int))) w') :
    Calls Tryz.prog 217 #[.slice (some ⟨g, off, none⟩) nl cap, bv, .int .u64 ((f : Nat) : Int)] w R := by
  have HR := Lib.hid hR; clear hR
  obtain ⟨ao, capb, hbv, hcb, hcell⟩ := hb
  subst hbv
  obtain ⟨n, hn⟩ : ∃ n, n = ys.length := ⟨_, rfl⟩
  have HN := Lib.hid hn
  have hnl2 : n ≤ nl := by omega
  have hn9 : n ≤ 1000000000 := by omega
  have HRS := Lib.hid hrs
  have HYS := Lib.hid hys
  have HOFF := Lib.hid hoff
  have HLEN := Lib.hid hlen
  have HCELL := Lib.hid hcell
  have HNE := Lib.hid hne
  rw [← hn]
  have hf2 : f < 18446744073709551616 := by rw [← W64_eq]; exact hf
  have HF := Lib.hid hf
  have hstart : TakePRel w g off rs ys f (.int .u64 0) (.int .i64 0) w :=
    ⟨0, 0, rs, rfl, rfl, Nat.zero_le _, by rw [W64_eq]; omega, hA, rfl, hrs, rfl, rfl, by simp [val], But.refl _ _, rfl⟩
  have HST := Lib.hid hstart
  clear hn hrs hys hoff hlen hcell hne hcb hf hstart hA hnl
  go_enter Tryz.func217, Tryz.ntmps217
  go_wp2
  go_loopw [7, 15] (fun c i wr => TakePRel w g off rs ys f c i wr) (fun _ i _ => n - (intOf i).toNat)
  case atStart => exact HST.out
  case round =>
    obtain ⟨k, c, cur, rfl, rfl, hk, hc, hA, hl, hlt, ht, hd, hv, hbut, hsz⟩ := hrel
    have HHL := Lib.hid hl
    have HLT := Lib.hid hlt
    have HT := Lib.hid ht
    have HD := Lib.hid hd
    have HV := Lib.hid hv
    have HSZ := Lib.hid hsz
    have HK := Lib.hid hk
    have HC := Lib.hid hc
    clear hl hlt ht hd hv hsz hk hc
    by_cases hkn : k < n
    · have hky : k < ys.length := by rw [← HN.out]; exact hkn
      obtain ⟨b, o, rfl, hb1, hc1⟩ := HCELL.out k hky
      have hbg : b ≠ g := fun e => HNE.out (by omega) (by rw [e]; rfl)
      rw [← hbut.cell (o := o + k) hb1 hbg] at hc1
      have hik : off + k < cur.length := by rw [HHL.out]; have := HOFF.out; omega
      have hc2 := hA.cell (off + k) hik
      have hc3 := hA.frozen (off + k)
      obtain ⟨y, hy⟩ : ∃ y, y = ys.getD k 0 := ⟨_, rfl⟩
      obtain ⟨x, hx⟩ : ∃ x, x = cur.getD (off + k) 0 := ⟨_, rfl⟩
      rw [← hy] at hc1
      rw [← hx] at hc2
      have hyl : y < W64 := by rw [hy]; exact getD_lt (by rw [W64_eq]; omega) _ HYS.out _
      have hxl : x < W64 := by rw [hx]; exact getD_lt (by rw [W64_eq]; omega) _ HLT.out _
      have htb := take_borrow hyl HF.out HC.out hxl
      obtain ⟨hmd1, hmd2⟩ := mul_carry hyl HF.out HC.out
      obtain ⟨hi, hhi⟩ : ∃ hi, hi = y * f / W64 := ⟨_, rfl⟩
      obtain ⟨lo, hlo⟩ : ∃ lo, lo = y * f % W64 := ⟨_, rfl⟩
      rw [← hhi, ← hlo] at htb hmd1 hmd2
      obtain ⟨s1, hs1⟩ : ∃ s, s = (lo + c) % W64 := ⟨_, rfl⟩
      obtain ⟨m1, hm1⟩ : ∃ s, s = (lo + c) / W64 := ⟨_, rfl⟩
      have hs1l : s1 < W64 := by rw [hs1]; exact Nat.mod_lt _ (by rw [W64_eq]; omega)
      rw [← hs1, ← hm1] at htb hmd2
      rw [← hm1] at hmd1
      obtain ⟨s2, hs2⟩ : ∃ s, s = (x + W64 - s1) % W64 := ⟨_, rfl⟩
      obtain ⟨m2, hm2⟩ : ∃ s, s = if x < s1 then 1 else 0 := ⟨_, rfl⟩
      obtain ⟨hb1', hb2', hs2l⟩ := borrow_parts x s1 s2 m2 W64 hxl hs1l hs2 hm2
      have hmc1 : hi + m1 + m2 < W64 := by
        by_cases h : x < s1
        · rw [if_pos h] at htb; omega
        · rw [if_neg h] at hm2; omega
      have hmc2 : s2 + y * f + c = x + W64 * (hi + m1 + m2) := by
        rw [Nat.mul_add W64 (hi + m1)]; omega
      have ea1 := add64_0 lo c s1 m1 hs1 hm1
      have ea2 := sub64_0 x s1 s2 m2 hs2 hm2
      have em := Lib.hid (Tryz.bits_Mul64 y f (by rw [← W64_eq]; exact hyl) (by rw [← W64_eq]; exact HF.out))
      have hw1 : (hi : Int) + (m1 : Int) ≤ 18446744073709551615 := by rw [W64_eq] at hmd1; omega
      have hw2 : (hi : Int) + (m1 : Int) + (m2 : Int) ≤ 18446744073709551615 := by rw [W64_eq] at hmc1; omega
      have hyl2 : y < 18446744073709551616 := by rw [← W64_eq]; exact hyl
      have hkl : k < nl := by omega
      have HREL := Lib.hid (takep_rel w wr g off rs ys cur f k c y x s2 (hi + m1 + m2) ((hi : Int) + (m1 : Int) + (m2 : Int)) hky HOFF.out hA HHL.out HLT.out HT.out HD.out HV.out hbut HSZ.out hx hy hmc2 hs2l hmc1 (by omega))
      have hhi' := Lib.hid (show y * f / 18446744073709551616 = hi from hhi.symm)
      have hlo' := Lib.hid (show y * f % 18446744073709551616 = lo from hlo.symm)
      clear hhi hlo hs1 hm1 hs2 hm2 hmc1 hmc2 hmd1 hmd2 hs2l hx hy hyl hxl hA hbut htb hs1l hb1' hb2'
      go_wp2_with fail
      refine (em.out _).mono ?_
      rintro e w1 ⟨rfl, rfl⟩
      rw [hhi'.out, hlo'.out]
      dsimp only
      go_wp2_with (first | simp only [ea1] | simp only [ea2])
      go_roundw
      case rel => exact HREL.out
      case measure => simp [intOf]; omega
    · obtain rfl : k = n := by have := HK.out; rw [← HN.out] at this; omega
      have HV2 := HV
      go_wp2
      first | go_ret | skip
      refine HR.out cur c wr hA HHL.out HLT.out HT.out (by rw [← HN.out]; exact HD.out) ?_ HC.out hbut HSZ.out
      have := HV.out
      rw [HN.out, List.take_length] at this
      exact this
end Go.Proofs.YtnfehccicnpbpaaGreatDoor

namespace Go.Proofs.YtnfehccicnpbpaaGreatDoor
open Go Go.RowKit

theorem Arr.drew {k : IntKind} {e : TypeId} {w : World} {g : Nat} {xs : List Nat} (h : Arr k e w g xs) : Arr k e w.drew g xs := h
theorem But.ofDrew {g : Nat} {w w' : World} (h : But g w.drew w') : But g w w' := ⟨h.os, h.tape, h.output, h.size, h.block⟩

theorem val_zeros (B n : Nat) : val B (List.replicate n 0) = 0 := by
  induction n with
  | zero => rfl
  | succ n ih => rw [List.replicate_succ, val, ih]; simp
theorem zeros_lt {B : Nat} (hB : 2 ≤ B) (n : Nat) : ∀ d ∈ List.replicate n 0, d < B := by
  intro d hd
  rw [(List.mem_replicate.1 hd).2]; omega
theorem getD_zeros (n i : Nat) : (List.replicate n 0).getD i 0 = 0 := by
  simp only [List.getD, List.getElem?_replicate]
  split <;> rfl

/-- limbs of the call's own with a value -/
def Limbs (w : World) (g len V : Nat) (wx : World) : Prop :=
  ∃ zs, Arr .u64 61 wx g zs ∧ zs.length = len ∧ (∀ d ∈ zs, d < W64) ∧ val W64 zs = V ∧ Below w.heap.size w wx ∧ wx.heap.size = w.heap.size + 1

theorem timesp_end (w W w1 : World) (n a f e c : Nat) (zs : List Nat) (hz : zs.length = n + 1) (hzl : ∀ d ∈ zs, d < W64) (hd : zs.drop n = ((List.replicate (n + 1) 0).set 0 e).drop n) (he : e < W64)
    (hv : val W64 zs + W64 ^ n * c = val W64 ((List.replicate (n + 1) 0).set 0 e) + (f * a)) (hc : c < W64) (hA : Arr .u64 61 w1 w.heap.size zs) (hb : But w.heap.size W w1) (hbW : Below w.heap.size w W) (hs : w1.heap.size = W.heap.size) (hsW : W.heap.size = w.heap.size + 1)
    (x : Nat) (hx : x = ((List.replicate (n + 1) 0).set 0 e).getD n 0) (hna : n = 0 → a = 0) : x + c < W64 ∧ zs.getD n 0 = x ∧
      Limbs w w.heap.size (n + 1) (a * f + e) (w1.setCell ⟨w.heap.size, n, none⟩ (.int .u64 ((x : Int) + (c : Int)))) := by
  have hv0 : val W64 ((List.replicate (n + 1) 0).set 0 e) = e := by
    have := val_setN W64 (List.replicate (n + 1) 0) 0 e (by simp)
    rw [val_zeros, getD_zeros] at this
    simpa using this
  have hzx : zs.getD n 0 = x := by
    have h1 := congrArg (fun l => l.getD 0 0) hd
    simp only [List.getD_eq_getElem?_getD, List.getElem?_drop, Nat.add_zero] at h1
    rw [hx]; simpa [List.getD_eq_getElem?_getD] using h1
  have hxc : x + c < W64 := by
    by_cases h0 : n = 0
    · subst h0
      have ha := hna rfl
      subst ha
      rw [hv0] at hv
      have hx0 : x = e := by rw [hx]; simp
      have : zs = [x] := by
        obtain ⟨y, rfl⟩ := List.length_eq_one_iff.1 hz
        simp at hzx; rw [hzx]
      rw [this] at hv
      simp [val] at hv
      omega
    · have hx0 : x = 0 := by
        rw [hx]
        simp only [List.getD_eq_getElem?_getD]
        rw [List.getElem?_set_ne (by omega)]
        simpa [List.getD_eq_getElem?_getD] using getD_zeros (n + 1) n
      omega
  refine ⟨hxc, hzx, zs.set n (x + c), hA.setz _ _ _ (by omega), by simp [hz], set_ltN _ _ _ hzl hxc, ?_, (hbW.trans (hb.below (by omega) (by omega))).setCell (by simp) _, by simp [hs, hsW]⟩
  have := val_setN W64 zs n (x + c) (by omega)
  rw [hzx, Nat.mul_add] at this
  rw [hv0] at hv
  have e1 : f * a = a * f := Nat.mul_comm _ _
  omega

set_option maxRecDepth 100000 in
set_option maxHeartbeats 1000000 in
theorem timesp_any (v : Value) (a f e : Nat) (w : World) (h : IsN w v a) (hf : f < W64) (he : e < W64) (hlen : (dig W64 a).length ≤ 100000000) (R : Ending → World → Prop)
    (hR : ∀ v' w', IsN w' v' (a * f + e) → Below w.heap.size w w' → (∀ b, blk v' = some b → w.heap.size ≤ b) → R (.returned v') w') :
    Calls Tryz.prog 225 #[v, .int .u64 ((f : Nat) : Int), .int .u64 ((e : Nat) : Int)] w R := by
  have HR := Lib.hid hR; clear hR
  obtain ⟨ao, n, cap, rfl, hn, hs⟩ := h.open
  have hna : n = 0 → a = 0 := by
    intro h0
    exact (dig_eq_nil W64_two).1 (List.length_eq_zero_iff.1 (hn.symm.trans h0))
  rw [← hn] at hlen
  have HN := Lib.hid hn
  have HNA := Lib.hid hna
  have HF := Lib.hid hf
  have HE := Lib.hid he
  have HS := Lib.hid hs
  have hblk := Sl.off hs (Nat.le_refl w.heap.size)
  have HBLK := Lib.hid hblk
  clear h hn hna hf he hs hblk
  go_enter Tryz.func225, Tryz.ntmps225
  go_wp2_with (at_make; go_must (refine wpList_makez _ rfl (.tmp 10) 63 rfl 61 .u64 8 Tryz.underlying63 info_u64 (by omega) .i64 _ (n + 1) rfl (by omega) (by omega) ?_))
  intro W hA hbW hsW
  have hfz := hA.frozen 0
  have hcz := hA.cell 0 (by simp)
  go_wp2
  obtain ⟨L, hL⟩ : ∃ L, L = W.setCell ⟨w.heap.size, 0, none⟩ (.int .u64 (e : Int)) := ⟨_, rfl⟩
  have hA2 : Arr .u64 61 L w.heap.size ((List.replicate (n + 1) 0).set 0 e) := by rw [hL]; exact hA.set _ _
  have hbL : Below w.heap.size w L := by rw [hL]; exact hbW.setCell (by simp) _
  have hsL : L.heap.size = w.heap.size + 1 := by rw [hL]; simp [hsW]
  have hsl : Sl .u64 L (.slice ao n cap) (dig W64 a) := HS.out.later hbL (Nat.le_refl _)
  rw [← hL]
  clear hA hbW hfz hcz hL hsW
  obtain ⟨x, hx⟩ : ∃ x, x = ((List.replicate (n + 1) 0).set 0 e).getD n 0 := ⟨_, rfl⟩
  have hcx := hA2.cell n (by simp)
  have hfx := hA2.frozen n
  rw [← hx] at hcx
  have hrsl : ∀ d ∈ ((List.replicate (n + 1) 0).set 0 e), d < W64 := set_ltN _ _ _ (zeros_lt W64_two _) HE.out
  have HRS := Lib.hid hrsl
  have HX := Lib.hid hx
  have HSL := Lib.hid hsL
  have hnn : (0 : Int) ≤ (n : Int) := by omega
  have hnn2 : (n : Int) < (n : Int) + 1 := by omega
  clear hrsl hx hsL
  go_cut [] (fun wx => Limbs w w.heap.size (n + 1) (a * f + e) wx)
  case first =>
    go_region_law (go_simp; go_at_call 191; refine addp_any w.heap.size 0 (n + 1) (n + 1) ((List.replicate (n + 1) 0).set 0 e) (dig W64 a) _ f _ hA2.drew (Sl.drw hsl) HBLK.out (by rw [← HN.out]; simp) (by rw [← HN.out]; omega) HRS.out (limb_lt _) HF.out (by simp; omega) _ ?_; intro zs c w1 hz1 hz2 hz3 hz4 hz5 hz6 hz7 hz8 hz9; rw [← HN.out, Nat.zero_add] at hz5 hz6; rw [Nat.pow_zero, Nat.one_mul, val_dig W64_two] at hz6; obtain ⟨ht1, ht2, ht3⟩ := timesp_end w L w1 n a f e c zs (by rw [hz2]; simp) hz3 hz5 HE.out hz6 hz7 hz1 hz8.ofDrew hbL hz9 HSL.out x HX.out HNA.out; have hcy := hz1.cell n (by rw [hz2]; simp); rw [ht2] at hcy; have hfy := hz1.frozen n; have hxc : (x : Int) + (c : Int) ≤ 18446744073709551615 := (by rw [W64_eq] at ht1; omega); have hwr := wrapu ((x : Int) + (c : Int)) (by omega) hxc; have HT3 := Lib.hid ht3; clear hz1 hz2 hz3 hz4 hz5 hz6 hz7 hz8 hz9 ht1 ht2 ht3; dsimp only)
    all_goals (go_wp2_with fail; go_meet; exact HT3.out)
  case rest =>
    clear hcx hfx hA2 hsl hbL
    obtain ⟨zs, hz1, hz2, hz3, hz4, hz5, hz6⟩ := hcut
    have HZ4 := Lib.hid hz4
    have HZ6 := Lib.hid hz6
    have HZ5 := Lib.hid hz5
    have hz2' := Lib.hid hz2
    clear hz4 hz6 hz5 hz2
    go_wp2_with fail
    refine trimmed_any _ zs _ (hz1.sl _ _ (by rw [hz2'.out]) (Nat.le_refl _)) hz3 (by rw [hz2'.out]; omega) _ ?_
    intro v' hv' hb'
    rw [HZ4.out] at hv'
    dsimp only
    go_wp2
    first | go_ret | skip
    refine HR.out _ _ hv' HZ5.out ?_
    intro b hb
    have hb2 : blk v' = some b := hb
    rw [hb'] at hb2
    simp [blk] at hb2
    omega
end Go.Proofs.YtnfehccicnpbpaaGreatDoor

namespace Go.Proofs.YtnfehccicnpbpaaGreatDoor
open Go Go.RowKit

theorem rem_step (m x W v r : Nat) (hr : r = v % m) : (r * W + x) % m = (x + W * v) % m := by
  rw [hr, Nat.add_comm, Nat.mul_comm, Nat.add_mod, Nat.mul_mod, Nat.mod_mod, ← Nat.mul_mod, ← Nat.add_mod]

set_option maxRecDepth 100000 in
set_option maxHeartbeats 1000000 in
theorem rems_any (v : Value) (a m : Nat) (w : World) (h : IsN w v a) (hm : 0 < m) (hmw : m < W64) (hlen : (dig W64 a).length ≤ 1000000000) (R : Ending → World → Prop)
    (hR : ∀ w', Below w.heap.size w w' → w'.heap.size = w.heap.size → R (.returned (.int .u64 ((a % m : Nat) : Int))) w') :
    Calls Tryz.prog 118 #[v, .int .u64 ((m : Nat) : Int)] w R := by
  have HR := Lib.hid hR; clear hR
  obtain ⟨ao, n, cap, rfl, hn, hs⟩ := h.open
  obtain ⟨xs, hxs⟩ : ∃ xs, xs = dig W64 a := ⟨_, rfl⟩
  have hvx : val W64 xs = a := by rw [hxs]; exact val_dig W64_two _
  have hx : ∀ d ∈ xs, d < W64 := by rw [hxs]; exact limb_lt _
  unfold IsN at hs
  rw [← hn] at hlen
  rw [← hxs] at hs hn
  have HN := Lib.hid hn
  have HVX := Lib.hid hvx
  have HX := Lib.hid hx
  have HS := Lib.hid hs
  have HMW := Lib.hid hmw
  clear h hn hxs hvx hx hs hmw
  go_enter Tryz.func118, Tryz.ntmps118
  go_wp2
  go_loopw [5, 6] (fun r i wr => ∃ k z : Nat, i = .int .i64 ((k : Int) - 1) ∧ k ≤ n ∧ r = .int .u64 ((z : Nat) : Int) ∧ z = val W64 (xs.drop k) % m ∧ Below w.heap.size w wr ∧ wr.heap.size = w.heap.size) (fun _ i _ => (intOf i + 1).toNat)
  case atStart => exact ⟨n, 0, rfl, Nat.le_refl _, rfl, by rw [HN.out, List.drop_length]; simp [val], Below.refl _ _, rfl⟩
  case round =>
    obtain ⟨k, z, rfl, hk, rfl, hz, hbel, hsz⟩ := hrel
    have HZ := Lib.hid hz
    have HSZ := Lib.hid hsz
    clear hz hsz
    by_cases hk0 : k = 0
    · subst hk0
      have hfin : z = a % m := by rw [HZ.out, List.drop_zero, HVX.out]
      have HF := Lib.hid hfin
      have HB := Lib.hid hbel
      clear hfin hbel
      go_wp2
      first | go_ret | skip
      have := HR.out _ HB.out HSZ.out
      rw [← HF.out] at this
      exact this
    · obtain ⟨j, rfl⟩ : ∃ j, k = j + 1 := ⟨k - 1, by omega⟩
      obtain ⟨b, o, rfl, hb1, hc1⟩ := Sl.at HS.out j (by omega)
      rw [← hbel.cell (p := ⟨b, o + j, none⟩) hb1] at hc1
      obtain ⟨x, hxe⟩ : ∃ x, x = xs.getD j 0 := ⟨_, rfl⟩
      rw [← hxe] at hc1
      have hxl : x < W64 := by rw [hxe]; exact getD_lt (by rw [W64_eq]; omega) _ HX.out _
      have es : ((j + 1 : Nat) : Int) - 1 = (j : Int) := by omega
      rw [es]
      have hzm : z < m := by rw [HZ.out]; exact Nat.mod_lt _ hm
      have hstep : (z * W64 + x) % m = val W64 (xs.drop j) % m := by
        rw [rem_step m x W64 (val W64 (xs.drop (j + 1))) z HZ.out, hxe, ← val_drop W64 xs j (by rw [← HN.out]; omega)]
      have HST := Lib.hid hstep
      have HXL := Lib.hid hxl
      have HB := Lib.hid hbel
      have hjn : (j : Int) < (n : Int) := by omega
      clear hxe hxl es hstep hbel
      go_wp2_with fail
      refine div64_any z x m _ HXL.out HMW.out hzm _ _ rfl rfl _ ?_
      intro nd
      rw [HST.out]
      dsimp only
      go_wp2
      go_roundw
      case rel => exact ⟨j, _, rfl, by omega, rfl, rfl, below_draws HB.out _, HSZ.out⟩
      case measure => simp [intOf]

def DivSRel (w : World) (g n m : Nat) (xs : List Nat) (rv iv : Value) (wr : World) : Prop :=
  ∃ (k z : Nat) (qs : List Nat), iv = .int .i64 ((k : Int) - 1) ∧ k ≤ n ∧ rv = .int .u64 ((z : Nat) : Int) ∧ z < m ∧ Arr .u64 61 wr g qs ∧ qs.length = n ∧ (∀ d ∈ qs, d < W64) ∧
    val W64 (qs.drop k) * m + z = val W64 (xs.drop k) ∧ Below w.heap.size w wr ∧ wr.heap.size = w.heap.size + 1

theorem drop_set_at (xs : List Nat) (i z : Nat) (h : i < xs.length) : (xs.set i z).drop i = z :: xs.drop (i + 1) := by
  rw [List.drop_eq_getElem_cons (by simpa using h), List.getElem_set_self, drop_set_out _ _ _ _ (by omega)]

theorem divs_rel (w wr : World) (g n m j z x q r : Nat) (xs qs : List Nat) (hj : j < n) (hxn : n = xs.length) (hA : Arr .u64 61 wr g qs) (hl : qs.length = n) (hlt : ∀ d ∈ qs, d < W64)
    (hv : val W64 (qs.drop (j + 1)) * m + z = val W64 (xs.drop (j + 1))) (hb : Below w.heap.size w wr) (hs : wr.heap.size = w.heap.size + 1) (hg : w.heap.size ≤ g) (hx : x = xs.getD j 0)
    (hm : 0 < m) (hzm : z < m) (hxl : x < W64) (hq : q = (z * W64 + x) / m) (hr : r = (z * W64 + x) % m) (nd : Nat) :
    DivSRel w g n m xs (.int .u64 ((r : Nat) : Int)) (.int .i64 ((j : Int) - 1)) ((wr.drewN nd).setCell ⟨g, j, none⟩ (.int .u64 ((q : Nat) : Int))) := by
  have hql : q < W64 := by
    rw [hq, Nat.div_lt_iff_lt_mul hm]
    have : (z + 1) * W64 ≤ m * W64 := Nat.mul_le_mul_right _ hzm
    rw [Nat.add_mul, Nat.one_mul] at this
    rw [Nat.mul_comm W64]
    omega
  refine ⟨j, r, qs.set j q, rfl, by omega, rfl, by rw [hr]; exact Nat.mod_lt _ hm, (hA.drewN nd).set _ _, by simp [hl], set_ltN _ _ _ hlt hql, ?_, (below_draws hb nd).setCell hg _, by simp [hs]⟩
  rw [drop_set_at _ _ _ (by omega), val_cons_pos, val_drop W64 xs j (by omega), ← hx]
  have hdm := Nat.div_add_mod (z * W64 + x) m
  rw [← hq, ← hr] at hdm
  generalize val W64 (qs.drop (j + 1)) = A at *
  generalize val W64 (xs.drop (j + 1)) = X at *
  grind

set_option maxRecDepth 100000 in
set_option maxHeartbeats 1000000 in
theorem divs_own (v : Value) (a m : Nat) (w : World) (h : IsN w v a) (hm : 0 < m) (hmw : m < W64) (hlen : (dig W64 a).length ≤ 100000000) (R : Ending → World → Prop)
    (hR : ∀ v' w', IsN w' v' (a / m) → Below w.heap.size w w' → (∀ b, blk v' = some b → w.heap.size ≤ b) → R (.returned (.tuple #[v', .int .u64 ((a % m : Nat) : Int)])) w') :
    Calls Tryz.prog 155 #[v, .int .u64 ((m : Nat) : Int)] w R := by
  have HR := Lib.hid hR; clear hR
  obtain ⟨ao, n, cap, rfl, hn, hs⟩ := h.open
  obtain ⟨xs, hxs⟩ : ∃ xs, xs = dig W64 a := ⟨_, rfl⟩
  have hvx : val W64 xs = a := by rw [hxs]; exact val_dig W64_two _
  have hx : ∀ d ∈ xs, d < W64 := by rw [hxs]; exact limb_lt _
  unfold IsN at hs
  rw [← hn] at hlen
  rw [← hxs] at hs hn
  have HN := Lib.hid hn
  have HVX := Lib.hid hvx
  have HX := Lib.hid hx
  have HS := Lib.hid hs
  have HMW := Lib.hid hmw
  clear h hn hxs hvx hx hs hmw
  go_enter Tryz.func155, Tryz.ntmps155
  go_wp2_with (at_make; go_must (refine wpList_makez _ rfl (.tmp 10) 63 rfl 61 .u64 8 Tryz.underlying63 info_u64 (by omega) .i64 _ n rfl (by omega) (by omega) ?_))
  intro W hA hbW hsW
  have hst : DivSRel w w.heap.size n m xs (.int .u64 0) (.int .i64 ((n : Int) - 1)) W :=
    ⟨n, 0, _, rfl, Nat.le_refl _, rfl, hm, hA, by simp, zeros_lt W64_two _, by rw [List.drop_eq_nil_of_le (by simp), HN.out, List.drop_length]; simp [val], hbW, hsW⟩
  have HST := Lib.hid hst
  clear hA hbW hsW hst
  go_wp2
  go_loopw [7, 8] (fun r i wr => DivSRel w w.heap.size n m xs r i wr) (fun _ i _ => (intOf i + 1).toNat)
  case atStart => exact HST.out
  case round =>
    clear HST
    obtain ⟨k, z, qs, rfl, hk, rfl, hzm, hA, hl, hlt, hv, hbel, hsz⟩ := hrel
    have HL := Lib.hid hl
    have HLT := Lib.hid hlt
    have HV := Lib.hid hv
    have HSZ := Lib.hid hsz
    have HB := Lib.hid hbel
    clear hl hlt hv hsz
    by_cases hk0 : k = 0
    · subst hk0
      have hv0 := HV.out
      rw [List.drop_zero, List.drop_zero, HVX.out] at hv0
      have hq : val W64 qs = a / m ∧ z = a % m := by
        have h1 : a / m = val W64 qs := by
          rw [← hv0, Nat.mul_comm, Nat.mul_add_div hm, Nat.div_eq_of_lt hzm, Nat.add_zero]
        have h2 : a % m = z := by
          rw [← hv0, Nat.mul_comm, Nat.mul_add_mod, Nat.mod_eq_of_lt hzm]
        exact ⟨h1.symm, h2.symm⟩
      have HQ := Lib.hid hq
      clear hv0 hq hbel
      go_wp2_with fail
      refine trimmed_any _ qs _ (hA.sl _ _ (by rw [HL.out]) (Nat.le_refl _)) HLT.out (by rw [HL.out]; omega) _ ?_
      intro v' hv' hbv
      rw [HQ.out.1] at hv'
      have HBV : Hid (∀ b, blk v' = some b → w.heap.size ≤ b) := Lib.hid (by
        intro b e; rw [hbv] at e; simp only [blk, Option.some.injEq] at e; omega)
      clear hbv
      dsimp only
      go_wp2
      first | go_ret | skip
      have := HR.out _ _ hv' HB.out HBV.out
      rw [← HQ.out.2] at this
      exact this
    · obtain ⟨j, rfl⟩ : ∃ j, k = j + 1 := ⟨k - 1, by omega⟩
      obtain ⟨b, o, rfl, hb1, hc1⟩ := Sl.at HS.out j (by omega)
      rw [← hbel.cell (p := ⟨b, o + j, none⟩) hb1] at hc1
      obtain ⟨x, hxe⟩ : ∃ x, x = xs.getD j 0 := ⟨_, rfl⟩
      rw [← hxe] at hc1
      have hxl : x < W64 := by rw [hxe]; exact getD_lt (by rw [W64_eq]; omega) _ HX.out _
      have es : ((j + 1 : Nat) : Int) - 1 = (j : Int) := by omega
      rw [es]
      obtain ⟨q, hq⟩ : ∃ q, q = (z * W64 + x) / m := ⟨_, rfl⟩
      obtain ⟨r, hr⟩ : ∃ r, r = (z * W64 + x) % m := ⟨_, rfl⟩
      have HREL := Lib.hid (divs_rel w wr w.heap.size n m j z x q r xs qs (by omega) HN.out hA HL.out HLT.out HV.out HB.out HSZ.out (Nat.le_refl _) hxe hm hzm hxl hq hr)
      have HQ := Lib.hid hq
      have HRR := Lib.hid hr
      have HXL := Lib.hid hxl
      have hcj := hA.cell j (by rw [HL.out]; omega)
      have hfj := hA.frozen j
      have hjn : (j : Int) < (n : Int) := by omega
      clear hxe hxl es hbel hq hr hA
      go_wp2_with fail
      refine div64_any z x m _ HXL.out HMW.out hzm q r HQ.out HRR.out _ ?_
      intro nd
      dsimp only
      go_wp2
      go_roundw
      case rel => exact HREL.out nd
      case measure => simp [intOf]

theorem divs_any (v : Value) (a m : Nat) (w : World) (h : IsN w v a) (hm : 0 < m) (hmw : m < W64) (hlen : (dig W64 a).length ≤ 100000000) (R : Ending → World → Prop)
    (hR : ∀ v' w', IsN w' v' (a / m) → Below w.heap.size w w' → R (.returned (.tuple #[v', .int .u64 ((a % m : Nat) : Int)])) w') :
    Calls Tryz.prog 155 #[v, .int .u64 ((m : Nat) : Int)] w R :=
  divs_own v a m w h hm hmw hlen R fun v' w' h1 h2 _ => hR v' w' h1 h2
end Go.Proofs.YtnfehccicnpbpaaGreatDoor

namespace Go.Proofs.YtnfehccicnpbpaaGreatDoor
open Go Go.RowKit

/-- copy of numbers to the head of a block that is known whole -/
theorem wpList_copy_nums {P : Program} {w : World} {ops : Array Oper} {rest : List Oper} {o : Oper} {a : Act} {Q : Exit → Act → World → Prop} (hgd : o.guard = none) (d s : Operand) (dT sT : TypeId)
    (ho : o.op = .call { callee := .builtin .copy, args := #[d, s], argTypes := #[dT, sT] }) (elem : TypeId) (hu : P.underlying dT = some (.slice elem)) (hsz : (P.info? elem).map (·.size) = some 1)
    (k : IntKind) (e : TypeId) (g dl dcap : Nat) (rs ys : List Nat) (hA : Arr k e w g rs) (hd : a.eval d = .slice (some ⟨g, 0, none⟩) dl dcap) (sv : Value) (hs : a.eval s = sv) (hS : Sl k w sv ys)
    (hle : ys.length ≤ dl) (hdl : dl ≤ rs.length)
    (h : ∀ w', Arr k e w' g (ys ++ rs.drop ys.length) → But g w w' → w'.heap.size = w.heap.size → wpList P ops Q rest (a.put o.dst (goInt ys.length)) w') :
    wpList P ops Q (o :: rest) a w := by
  obtain ⟨ao, cap, rfl, hc, hx⟩ := hS
  by_cases h0 : ys.length = 0
  · obtain rfl : ys = [] := List.eq_nil_of_length_eq_zero h0
    refine wpList_copy_nothing hgd d s dT sT ho elem hu hsz _ ao dl dcap _ cap hd hs (by simp [Nat.min_def]) ?_
    exact h w (by simpa using hA) (But.refl _ _) rfl
  · obtain ⟨b, off, rfl, _, _⟩ := hx 0 (by omega)
    have hcs : ∀ j v, (nums k ys)[j]? = some v → w.cell? ((⟨b, off, none⟩ : Addr).add j) = some v := by
      intro j v hj
      have hjl : j < ys.length := by
        have := (List.getElem?_eq_some_iff.1 hj).1
        simpa [nums] using this
      obtain ⟨b2, off2, e2, _, h3⟩ := hx j hjl
      cases e2
      rw [nums_get k ys j hjl] at hj
      rw [← Option.some.inj hj]
      have ea : (⟨b, off, none⟩ : Addr).add j = ⟨b, off + j, none⟩ := by
        by_cases hj0 : j = 0
        · subst hj0; rfl
        · simp [Addr.add, hj0]
      rw [ea]; exact h3
    refine wpList_copy_own hgd d s dT sT ho elem hu hsz g 0 dl dcap ⟨b, off, none⟩ ys.length cap hd hs (nums k rs).toArray e hA (nums k ys) (by rw [nums_length]; exact (Nat.min_eq_left hle).symm) hcs (by rw [nums_length]; simp [nums_length]; omega)
      (by intro v hv; obtain ⟨x, _, rfl⟩ := List.mem_map.1 hv; rfl) ?_
    rw [nums_length]
    refine h _ ?_ ⟨rfl, rfl, rfl, by simp [World.setRow], fun i hi hg => setRow_other w g i _ hg⟩ (by simp [World.setRow])
    unfold Arr
    rw [setRow_heap w g _ _ e _ hA]
    simp [nums, List.map_drop]

/-- a round of a difference -/
theorem minus_step (W : Nat) (cur xs ys : List Nat) (k x y c s m : Nat) (hk : k < cur.length) (hx : cur.getD k 0 = x) (hy : y = ys.getD k 0) (hs : s + y + c = x + W * m)
    (hv : val W cur + val W (ys.take k) = val W xs + W ^ k * c) : val W (cur.set k s) + val W (ys.take (k + 1)) = val W xs + W ^ (k + 1) * m := by
  have h1 := val_setN W cur k s hk
  rw [hx] at h1
  have h2 : val W (ys.take (k + 1)) = val W (ys.take k) + W ^ k * y := by
    by_cases h : k < ys.length
    · rw [val_take_succ W ys k h, hy]
    · rw [List.take_of_length_le (by omega), List.take_of_length_le (by omega), hy]
      simp [List.getD, List.getElem?_eq_none (by omega : ys.length ≤ k)]
  rw [h2, Nat.pow_succ]
  generalize val W (cur.set k s) = A at *
  generalize W ^ k = P at *
  grind

def MinusRel (w : World) (g n : Nat) (xs ys : List Nat) (cv iv : Value) (wr : World) : Prop :=
  ∃ (k c : Nat) (cur : List Nat), iv = .int .i64 ((k : Nat) : Int) ∧ cv = .int .u64 ((c : Nat) : Int) ∧ k ≤ n ∧ c ≤ 1 ∧ Arr .u64 61 wr g cur ∧ cur.length = n ∧ (∀ d ∈ cur, d < W64) ∧
    cur.drop k = xs.drop k ∧ val W64 cur + val W64 (ys.take k) = val W64 xs + W64 ^ k * c ∧ Below w.heap.size w wr ∧ wr.heap.size = w.heap.size + 1

theorem sub_parts (x y c s m : Nat) (hx : x < W64) (hy : y < W64) (hc : c ≤ 1) (hs : s = (x + W64 - y - c) % W64) (hm : m = if x < y + c then 1 else 0) : s + y + c = x + W64 * m ∧ m ≤ 1 ∧ s < W64 := by
  rw [W64_eq] at *
  by_cases h : x < y + c
  · rw [if_pos h] at hm; subst hm; omega
  · rw [if_neg h] at hm; subst hm; omega

theorem minus_rel (w wr : World) (g n k c x y s m : Nat) (xs ys cur : List Nat) (hk : k < n) (hxl : xs.length = n) (hA : Arr .u64 61 wr g cur) (hl : cur.length = n) (hlt : ∀ d ∈ cur, d < W64)
    (hd : cur.drop k = xs.drop k) (hv : val W64 cur + val W64 (ys.take k) = val W64 xs + W64 ^ k * c) (hb : Below w.heap.size w wr) (hs : wr.heap.size = w.heap.size + 1) (hg : w.heap.size ≤ g)
    (hx : cur.getD k 0 = x) (hy : y = ys.getD k 0) (hsm : s + y + c = x + W64 * m) (hm : m ≤ 1) (hsl : s < W64) :
    MinusRel w g n xs ys (.int .u64 ((m : Nat) : Int)) (.int .i64 ((k + 1 : Nat) : Int)) (wr.setCell ⟨g, k, none⟩ (.int .u64 ((s : Nat) : Int))) := by
  refine ⟨k + 1, m, cur.set k s, rfl, rfl, by omega, hm, hA.set _ _, by simp [hl], set_ltN _ _ _ hlt hsl, ?_, minus_step W64 cur xs ys k x y c s m (by omega) hx hy hsm hv, hb.setCell hg _, by simp [hs]⟩
  rw [drop_set_out _ _ _ _ (by omega)]
  have h2 := congrArg (List.drop 1) hd
  rw [List.drop_drop, List.drop_drop] at h2
  exact h2

set_option maxRecDepth 100000 in
set_option maxHeartbeats 1000000 in
theorem minus_any (va vb : Value) (a b : Nat) (w : World) (ha : IsN w va a) (hb : IsN w vb b) (hle : b ≤ a) (hlen : (dig W64 a).length ≤ 100000000) (R : Ending → World → Prop)
    (hR : ∀ v' w', IsN w' v' (a - b) → Below w.heap.size w w' → R (.returned v') w') :
    Calls Tryz.prog 213 #[va, vb] w R := by
  have HR := Lib.hid hR; clear hR
  obtain ⟨ao, n, cap, rfl, hn, hsa⟩ := ha.open
  obtain ⟨bo, nb, capb, rfl, hnb, hsb⟩ := hb.open
  have hnn : nb ≤ n := by
    rw [hn, hnb]
    exact dig_length_le W64_two _ _ (Nat.lt_of_le_of_lt hle (lt_pow_dig W64_two a))
  obtain ⟨xs, hxs⟩ : ∃ xs, xs = dig W64 a := ⟨_, rfl⟩
  obtain ⟨ys, hys⟩ : ∃ ys, ys = dig W64 b := ⟨_, rfl⟩
  have hvx : val W64 xs = a := by rw [hxs]; exact val_dig W64_two _
  have hvy : val W64 ys = b := by rw [hys]; exact val_dig W64_two _
  have hx : ∀ d ∈ xs, d < W64 := by rw [hxs]; exact limb_lt _
  have hy : ∀ d ∈ ys, d < W64 := by rw [hys]; exact limb_lt _
  unfold IsN at hsa hsb
  rw [← hn] at hlen
  rw [← hxs] at hsa hn
  rw [← hys] at hsb hnb
  have HN := Lib.hid hn
  have HNB := Lib.hid hnb
  have HVX := Lib.hid hvx
  have HVY := Lib.hid hvy
  have HX := Lib.hid hx
  have HY := Lib.hid hy
  have HSA := Lib.hid hsa
  have HSB := Lib.hid hsb
  have HLE := Lib.hid hle
  clear ha hb hn hnb hxs hys hvx hvy hx hy hsa hsb hle
  go_enter Tryz.func213, Tryz.ntmps213
  go_wp2_with (at_make; go_must (refine wpList_makez _ rfl (.tmp 10) 63 rfl 61 .u64 8 Tryz.underlying63 info_u64 (by omega) .i64 _ n rfl (by omega) (by omega) ?_))
  intro W hA hbW hsW
  go_wp2_with (with_reducible refine wpList_copy_nums rfl (.tmp 12) (.tmp 13) 63 96 rfl 61 Tryz.underlying63 (by kernel_rfl) .u64 61 w.heap.size n n (List.replicate n 0) xs hA rfl (.slice ao n cap) rfl (HSA.out.later hbW (Nat.le_refl _)) (by rw [← HN.out]; exact Nat.le_refl _) (by simp) ?_)
  intro W2 hA2 hbut2 hsz2
  have hst : MinusRel w w.heap.size n xs ys (.int .u64 0) (.int .i64 0) W2 := by
    refine ⟨0, 0, xs, rfl, rfl, Nat.zero_le _, Nat.zero_le _, ?_, HN.out.symm, HX.out, rfl, by simp [val], hbW.trans (hbut2.below (Nat.le_refl _) (by omega)), by omega⟩
    have := hA2
    rwa [← HN.out, Nat.sub_self, List.replicate_zero, List.append_nil] at this
  have HST := Lib.hid hst
  clear hst hA hbW hsW hA2 hbut2 hsz2
  go_wp2
  go_loopw [6, 17] (fun c i wr => MinusRel w w.heap.size n xs ys c i wr) (fun _ i _ => n - (intOf i).toNat)
  case atStart => exact HST.out
  case round =>
    clear HST
    obtain ⟨k, c, cur, rfl, rfl, hk, hc, hA, hl, hlt, hd, hv, hbel, hsz⟩ := hrel
    have HL := Lib.hid hl
    have HLT := Lib.hid hlt
    have HD := Lib.hid hd
    have HV := Lib.hid hv
    have HB := Lib.hid hbel
    have HSZ := Lib.hid hsz
    clear hl hlt hd hv hsz
    by_cases hkn : k < n
    · obtain ⟨x, hx⟩ : ∃ x, x = cur.getD k 0 := ⟨_, rfl⟩
      obtain ⟨y, hy⟩ : ∃ y, y = ys.getD k 0 := ⟨_, rfl⟩
      have hck := hA.cell k (by rw [HL.out]; exact hkn)
      have hfk := hA.frozen k
      rw [← hx] at hck
      have hxl : x < W64 := by rw [hx]; exact getD_lt (by rw [W64_eq]; omega) _ HLT.out _
      have hyl : y < W64 := by rw [hy]; exact getD_lt (by rw [W64_eq]; omega) _ HY.out _
      obtain ⟨s, hs⟩ : ∃ s, s = (x + W64 - y - c) % W64 := ⟨_, rfl⟩
      obtain ⟨m, hm⟩ : ∃ m, m = if x < y + c then 1 else 0 := ⟨_, rfl⟩
      obtain ⟨h1, h2, h3⟩ := sub_parts x y c s m hxl hyl hc hs hm
      have HREL := Lib.hid (minus_rel w wr w.heap.size n k c x y s m xs ys cur hkn HN.out.symm hA HL.out HLT.out HD.out HV.out HB.out HSZ.out (Nat.le_refl _) hx.symm hy h1 h2 h3)
      have ea := sub64_at x y c hc s m hs hm
      have Hy := Lib.hid hy
      have hkn2 : (k : Int) < (n : Int) := by omega
      clear hx hy hxl hyl hs hm h1 h2 h3 hA
      by_cases hkb : k < nb
      · obtain ⟨b, o, rfl, hb1, hc1⟩ := Sl.at HSB.out k hkb
        rw [← hbel.cell (p := ⟨b, o + k, none⟩) hb1, ← Hy.out] at hc1
        have hkb2 : (k : Int) < (nb : Int) := by omega
        clear hbel
        go_wp2_with (simp only [ea])
        go_roundw
        case rel => exact HREL.out
        case measure => simp [intOf]; omega
      · have hkb2 : ¬ (k : Int) < (nb : Int) := by omega
        have hy0 : y = 0 := by rw [Hy.out]; simp [List.getD, List.getElem?_eq_none (by rw [← HNB.out]; omega : ys.length ≤ k)]
        clear hbel
        subst hy0
        have ea0 := ea
        rw [show ((0 : Nat) : Int) = 0 from rfl] at ea0
        clear ea
        go_wp2_with (simp only [ea0])
        go_roundw
        case rel => exact HREL.out
        case measure => simp [intOf]; omega
    · obtain rfl : k = n := by omega
      have hfin : val W64 cur = a - b := by
        have h1 := HV.out
        rw [List.take_of_length_le (by rw [← HNB.out]; exact hnn), HVX.out, HVY.out] at h1
        have h2 := val_lt cur HLT.out
        rw [HL.out] at h2
        have h3 := HLE.out
        rcases (by omega : c = 0 ∨ c = 1) with h | h
        · rw [h, Nat.mul_zero] at h1; omega
        · rw [h, Nat.mul_one] at h1; omega
      have HF := Lib.hid hfin
      clear hfin hbel
      go_wp2_with fail
      refine trimmed_any _ cur _ (hA.sl _ _ (by rw [HL.out]) (Nat.le_refl _)) HLT.out (by rw [HL.out]; omega) _ ?_
      intro v' hv' _
      rw [HF.out] at hv'
      dsimp only
      go_wp2
      first | go_ret | skip
      exact HR.out _ _ hv' HB.out
end Go.Proofs.YtnfehccicnpbpaaGreatDoor

namespace Go.Proofs.YtnfehccicnpbpaaGreatDoor
open Go Go.RowKit

theorem pow_split (s : Nat) (h : s ≤ 64) : 2 ^ s * 2 ^ (64 - s) = W64 := by
  rw [← Nat.pow_add, show s + (64 - s) = 64 by omega]; rfl

theorem or_lt (p q c a : Nat) (hpq : p * q = W64) (hc : c < p) (hp : 0 < q) : c + a % q * p < W64 := by
  have h1 : a % q + 1 ≤ q := Nat.mod_lt _ hp
  have h2 : (a % q + 1) * p ≤ q * p := Nat.mul_le_mul_right _ h1
  rw [Nat.add_mul, Nat.one_mul, Nat.mul_comm q p, hpq] at h2
  omega

/-- a limb that is shifted up by t bits, laid to c -/
theorem shl_or (x c t : Nat) (ht : t ≤ 64) (hx : x < W64) (hc : c < 2 ^ t) : ∃ h : Nat, IntKind.u64.wrap ((x : Int) * 2 ^ t) = (h : Int) ∧ bits .or .u64 (c : Int) (h : Int) = ((c + x % 2 ^ (64 - t) * 2 ^ t : Nat) : Int) ∧ c + x % 2 ^ (64 - t) * 2 ^ t < W64 := by
  have hp : 0 < 2 ^ t := Nat.pow_pos (by omega)
  have hq : 0 < 2 ^ (64 - t) := Nat.pow_pos (by omega)
  have hpq := pow_split t ht
  have hpt := shl_parts W64 (2 ^ t) (2 ^ (64 - t)) x hpq.symm hp
  have hlt := or_lt (2 ^ t) (2 ^ (64 - t)) c x hpq hc hq
  have hcw : c < W64 := by omega
  have hhw : x * 2 ^ t % W64 < W64 := Nat.mod_lt _ (by rw [W64_eq]; omega)
  refine ⟨x * 2 ^ t % W64, ?_, ?_, hlt⟩
  · rw [show ((x : Int) * 2 ^ t) = ((x * 2 ^ t : Nat) : Int) by rw [Int.natCast_mul, Int.natCast_pow]; rfl]
    exact Mul64.wrapM _
  · have := bits_or_u64_nat c (x * 2 ^ t % W64) hcw hhw
    rw [this, hpt.1, or_add _ _ _ hc]

theorem shr_nat (x t : Nat) : (x : Int) / 2 ^ t = ((x / 2 ^ t : Nat) : Int) := by rw [Int.natCast_ediv, Int.natCast_pow]; rfl

theorem shr_lt (x s : Nat) (hs : s ≤ 64) (hx : x < W64) : x / 2 ^ (64 - s) < 2 ^ s := by
  rw [Nat.div_lt_iff_lt_mul (Nat.pow_pos (by omega)), pow_split s hs]; exact hx
theorem shr_lt2 (x s : Nat) (hs : s ≤ 64) (hx : x < W64) : x / 2 ^ s < 2 ^ (64 - s) := by
  rw [Nat.div_lt_iff_lt_mul (Nat.pow_pos (by omega)), Nat.mul_comm, pow_split s hs]; exact hx

def UpRel (w : World) (g n s : Nat) (xs : List Nat) (iv : Value) (wr : World) : Prop :=
  ∃ (k : Nat) (cur : List Nat), iv = .int .i64 ((k : Nat) : Int) ∧ k ≤ n ∧ Arr .u64 61 wr g cur ∧ cur.length = n + 1 ∧ (∀ d ∈ cur, d < W64) ∧ cur.getD k 0 < 2 ^ s ∧ (∀ i, k < i → cur.getD i 0 = 0) ∧
    val W64 cur = 2 ^ s * val W64 (xs.take k) ∧ Below w.heap.size w wr ∧ wr.heap.size = w.heap.size + 1

theorem getD_set_ne (xs : List Nat) (i j z : Nat) (h : i ≠ j) : (xs.set i z).getD j 0 = xs.getD j 0 := by
  simp only [List.getD_eq_getElem?_getD]
  rw [List.getElem?_set_ne h]
theorem getD_set_eq (xs : List Nat) (i z : Nat) (h : i < xs.length) : (xs.set i z).getD i 0 = z := by
  simp only [List.getD_eq_getElem?_getD]
  rw [List.getElem?_set_self h]; rfl

theorem up_rel (w wr : World) (g n s k x c : Nat) (xs cur : List Nat) (hk : k < n) (hxl : n = xs.length) (hs : s ≤ 64) (hA : Arr .u64 61 wr g cur) (hl : cur.length = n + 1) (hlt : ∀ d ∈ cur, d < W64)
    (hz : ∀ i, k < i → cur.getD i 0 = 0) (hv : val W64 cur = 2 ^ s * val W64 (xs.take k)) (hb : Below w.heap.size w wr) (hsz : wr.heap.size = w.heap.size + 1) (hg : w.heap.size ≤ g) (hx : x = xs.getD k 0) (hc : c = cur.getD k 0)
    (hxw : x < W64) (z : Nat) (hzz : z = c + x % 2 ^ (64 - s) * 2 ^ s) (d : Nat) (hdd : d = x / 2 ^ (64 - s)) (hh : z < W64) :
    UpRel w g n s xs (.int .i64 ((k + 1 : Nat) : Int)) (((wr.setCell ⟨g, k, none⟩ (.int .u64 ((z : Nat) : Int))).drew).setCell ⟨g, k + 1, none⟩ (.int .u64 ((d : Nat) : Int))) := by
  subst hzz hdd
  have hd := shr_lt x s hs hxw
  have hp : 2 ^ s ≤ W64 := by rw [← pow_split s hs]; exact Nat.le_mul_of_pos_right _ (Nat.pow_pos (by omega))
  refine ⟨k + 1, _, rfl, by omega, (hA.set k _).drew.set (k + 1) _, by simp [hl], set_ltN _ _ _ (set_ltN _ _ _ hlt hh) (by omega), ?_, ?_, ?_, (hb.setCell hg _).drew.setCell hg _, by simp [hsz]⟩
  · rw [getD_set_eq _ _ _ (by simp; omega)]; exact hd
  · intro i hi
    rw [getD_set_ne _ _ _ _ (by omega), getD_set_ne _ _ _ _ (by omega)]
    exact hz i (by omega)
  · have := up_step W64 (2 ^ s) (2 ^ (64 - s)) cur xs k (pow_split s hs).symm (Nat.pow_pos (by omega)) (by omega) (by omega) (hz (k + 1) (by omega)) hv
    rw [← hx, ← hc] at this
    exact this

set_option maxRecDepth 100000 in
set_option maxHeartbeats 1000000 in
theorem up_any (v : Value) (a s : Nat) (w : World) (h : IsN w v a) (hs64 : s < 64) (hlen : (dig W64 a).length ≤ 100000000) (R : Ending → World → Prop)
    (hR : ∀ cur w', Arr .u64 61 w' w.heap.size cur → cur.length = (dig W64 a).length + 1 → (∀ d ∈ cur, d < W64) → val W64 cur = 2 ^ s * a → Below w.heap.size w w' → w'.heap.size = w.heap.size + 1 →
      R (.returned (.slice (some ⟨w.heap.size, 0, none⟩) ((dig W64 a).length + 1) ((dig W64 a).length + 1))) w') :
    Calls Tryz.prog 188 #[v, .int .i64 ((s : Nat) : Int)] w R := by
  have HR := Lib.hid hR; clear hR
  obtain ⟨ao, n, cap, rfl, hn, hsl⟩ := h.open
  obtain ⟨xs, hxs⟩ : ∃ xs, xs = dig W64 a := ⟨_, rfl⟩
  have hvx : val W64 xs = a := by rw [hxs]; exact val_dig W64_two _
  have hx : ∀ d ∈ xs, d < W64 := by rw [hxs]; exact limb_lt _
  unfold IsN at hsl
  rw [← hn] at hlen HR
  rw [← hxs] at hsl hn
  have HN := Lib.hid hn
  have HVX := Lib.hid hvx
  have HX := Lib.hid hx
  have HS := Lib.hid hsl
  have hs0 : (0 : Int) ≤ (s : Int) := by omega
  have hs65 : (s : Int) < 64 := by omega
  clear h hn hxs hvx hx hsl
  go_enter Tryz.func188, Tryz.ntmps188
  go_wp2_with (at_make; go_must (refine wpList_makez _ rfl (.tmp 10) 63 rfl 61 .u64 8 Tryz.underlying63 info_u64 (by omega) .i64 _ (n + 1) rfl (by omega) (by omega) ?_))
  intro W hA hbW hsW
  have hst : UpRel w w.heap.size n s xs (.int .i64 0) W :=
    ⟨0, _, rfl, Nat.zero_le _, hA, by simp, zeros_lt W64_two _, by rw [getD_zeros]; exact Nat.pow_pos (by omega), fun i _ => getD_zeros _ _, by rw [val_zeros]; simp [val], hbW, hsW⟩
  have HST := Lib.hid hst
  clear hst hA hbW hsW
  go_wp2
  go_loopw [14] (fun i wr => UpRel w w.heap.size n s xs i wr) (fun i _ => n - (intOf i).toNat)
  case atStart => exact HST.out
  case round =>
    clear HST
    obtain ⟨k, cur, rfl, hk, hA, hl, hlt, hck, hz, hv, hbel, hsz⟩ := hrel
    have HL := Lib.hid hl
    have HLT := Lib.hid hlt
    have HCK := Lib.hid hck
    have HZ := Lib.hid hz
    have HV := Lib.hid hv
    have HB := Lib.hid hbel
    have HSZ := Lib.hid hsz
    clear hl hlt hck hz hv hsz
    by_cases hkn : k < n
    · obtain ⟨b, o, rfl, hb1, hc1⟩ := Sl.at HS.out k hkn
      rw [← hbel.cell (p := ⟨b, o + k, none⟩) hb1] at hc1
      obtain ⟨x, hx⟩ : ∃ x, x = xs.getD k 0 := ⟨_, rfl⟩
      rw [← hx] at hc1
      obtain ⟨c, hc⟩ : ∃ c, c = cur.getD k 0 := ⟨_, rfl⟩
      have hcl : c < 2 ^ s := by rw [hc]; exact HCK.out
      have hc2 := hA.cell k (by rw [HL.out]; omega)
      have hf2 := hA.frozen k
      have hf3 := hA.frozen (k + 1)
      have hc3 := hA.cell (k + 1) (by rw [HL.out]; omega)
      rw [← hc] at hc2
      rw [HZ.out (k + 1) (by omega)] at hc3
      have hxl : x < W64 := by rw [hx]; exact getD_lt (by rw [W64_eq]; omega) _ HX.out _
      obtain ⟨h, hh1, hh2, hh3⟩ := shl_or x c s (by omega) hxl hcl
      obtain ⟨z, hzz⟩ : ∃ z, z = c + x % 2 ^ (64 - s) * 2 ^ s := ⟨_, rfl⟩
      obtain ⟨d, hdd⟩ : ∃ d, d = x / 2 ^ (64 - s) := ⟨_, rfl⟩
      have hsr := shr_nat x (64 - s)
      rw [← hdd] at hsr
      rw [← hzz] at hh2 hh3
      have hcn : (0 : Int) ≤ 64 - (s : Int) := by omega
      have hcn2 : ¬ (64 - (s : Int) < 0) := by omega
      have hcn3 : (64 - (s : Int)).toNat = 64 - s := by omega
      have hkn2 : (k : Int) < (n : Int) := by omega
      have hki : (0 : Int) ≤ (k : Int) := by omega
      have hkn3 : (k : Int) < (n : Int) + 1 := by omega
      have HXL := Lib.hid hxl
      have HXE := Lib.hid hx
      have HCE := Lib.hid hc
      have HH3 := Lib.hid hh3
      have HREL := Lib.hid (up_rel w wr w.heap.size n s k x c xs cur hkn HN.out (by omega) hA HL.out HLT.out HZ.out HV.out HB.out HSZ.out (Nat.le_refl _) hx hc hxl z hzz d hdd hh3)
      clear hx hc hcl hbel hxl hh3 hA hzz hdd
      go_wp2
      go_region
      all_goals
        go_wp2
        go_roundw
        case rel => exact HREL.out
        case measure => simp [intOf]; omega
    · obtain rfl : k = n := by omega
      clear hbel
      go_wp2
      first | go_ret | skip
      refine HR.out cur wr hA HL.out HLT.out ?_ HB.out HSZ.out
      rw [HV.out, List.take_of_length_le (by rw [← HN.out]; exact Nat.le_refl _), HVX.out]
end Go.Proofs.YtnfehccicnpbpaaGreatDoor

namespace Go.Proofs.YtnfehccicnpbpaaGreatDoor
open Go Go.RowKit

def DownRel (w : World) (g n s : Nat) (xs : List Nat) (iv : Value) (wr : World) : Prop :=
  ∃ (k r : Nat) (cur : List Nat), iv = .int .i64 ((k : Nat) : Int) ∧ k ≤ n ∧ Arr .u64 61 wr g cur ∧ cur.length = n ∧ (∀ d ∈ cur, d < W64) ∧ (∀ i, k ≤ i → cur.getD i 0 = 0) ∧
    cur.getD (k - 1) 0 < 2 ^ (64 - s) ∧ r < 2 ^ s ∧ 2 ^ s * val W64 cur + r = val W64 (xs.take k) ∧ Below w.heap.size w wr ∧ wr.heap.size = w.heap.size + 1

theorem down_rel0 (w wr : World) (g n s x d : Nat) (xs cur : List Nat) (hk : 0 < n) (hxl : n = xs.length) (hs : s ≤ 64) (hA : Arr .u64 61 wr g cur) (hl : cur.length = n) (hlt : ∀ d ∈ cur, d < W64)
    (hz : ∀ i, 0 ≤ i → cur.getD i 0 = 0) (r : Nat) (hv : 2 ^ s * val W64 cur + r = val W64 (xs.take 0)) (hb : Below w.heap.size w wr) (hsz : wr.heap.size = w.heap.size + 1) (hg : w.heap.size ≤ g) (hx : x = xs.getD 0 0)
    (hxw : x < W64) (hdd : d = x / 2 ^ s) :
    DownRel w g n s xs (.int .i64 ((1 : Nat) : Int)) (wr.setCell ⟨g, 0, none⟩ (.int .u64 ((d : Nat) : Int))).drew := by
  have hd := shr_lt2 x s hs hxw
  rw [← hdd] at hd
  have hq : 2 ^ (64 - s) ≤ W64 := by rw [← pow_split s hs]; exact Nat.le_mul_of_pos_left _ (Nat.pow_pos (by omega))
  have h1 := val_setN W64 cur 0 d (by omega)
  rw [hz 0 (Nat.le_refl _), Nat.pow_zero] at h1
  have h2 : val W64 cur = 0 ∧ r = 0 := by
    rw [List.take_zero] at hv
    simp only [val] at hv
    have hp : 0 < 2 ^ s := Nat.pow_pos (by omega)
    rcases Nat.eq_zero_or_pos (val W64 cur) with h | h
    · rw [h] at hv; exact ⟨h, by omega⟩
    · have := Nat.mul_pos hp h; omega
  refine ⟨1, x % 2 ^ s, _, rfl, hk, (hA.set 0 _).drew, by simp [hl], set_ltN _ _ _ hlt (by omega), ?_, ?_, Nat.mod_lt _ (Nat.pow_pos (by omega)), ?_, (hb.setCell hg _).drew, by simp [hsz]⟩
  · intro i hi
    rw [getD_set_ne _ _ _ _ (by omega)]
    exact hz i (by omega)
  · rw [getD_set_eq _ _ _ (by omega)]; exact hd
  · rw [val_take_succ W64 xs 0 (by omega), ← hx, List.take_zero]
    have := Nat.div_add_mod x (2 ^ s)
    simp only [val, Nat.pow_zero, Nat.one_mul, Nat.zero_add]
    rw [← hdd] at this
    rw [h2.1] at h1
    have e : val W64 (cur.set 0 d) = d := by omega
    rw [e]; exact this

theorem down_rel (w wr : World) (g n s k x c z d : Nat) (xs cur : List Nat) (hk : k + 1 < n) (hxl : n = xs.length) (hs : s ≤ 64) (hA : Arr .u64 61 wr g cur) (hl : cur.length = n) (hlt : ∀ d ∈ cur, d < W64)
    (hz : ∀ i, k + 1 ≤ i → cur.getD i 0 = 0) (r : Nat) (hr : r < 2 ^ s) (hv : 2 ^ s * val W64 cur + r = val W64 (xs.take (k + 1))) (hb : Below w.heap.size w wr) (hsz : wr.heap.size = w.heap.size + 1) (hg : w.heap.size ≤ g)
    (hx : x = xs.getD (k + 1) 0) (hc : c = cur.getD k 0) (hxw : x < W64) (hdd : d = x / 2 ^ s) (hzz : z = c + x % 2 ^ s * 2 ^ (64 - s)) (hh : z < W64) :
    DownRel w g n s xs (.int .i64 ((k + 1 + 1 : Nat) : Int)) (((wr.setCell ⟨g, k + 1, none⟩ (.int .u64 ((d : Nat) : Int))).drew).setCell ⟨g, k, none⟩ (.int .u64 ((z : Nat) : Int))).drew := by
  have hd := shr_lt2 x s hs hxw
  have hq : 2 ^ (64 - s) ≤ W64 := by rw [← pow_split s hs]; exact Nat.le_mul_of_pos_left _ (Nat.pow_pos (by omega))
  subst hzz hdd
  refine ⟨k + 1 + 1, r, _, rfl, by omega, ((hA.set (k + 1) _).drew.set k _).drew, by simp [hl], set_ltN _ _ _ (set_ltN _ _ _ hlt (by omega)) hh, ?_, ?_, hr, ?_, ((hb.setCell hg _).drew.setCell hg _).drew, by simp [hsz]⟩
  · intro i hi
    rw [getD_set_ne _ _ _ _ (by omega), getD_set_ne _ _ _ _ (by omega)]
    exact hz i (by omega)
  · rw [Nat.add_sub_cancel, getD_set_ne _ _ _ _ (by omega), getD_set_eq _ _ _ (by omega)]; exact hd
  · have := down_step W64 (2 ^ s) (2 ^ (64 - s)) cur xs k r (pow_split s hs).symm (by omega) (by omega) (hz (k + 1) (Nat.le_refl _)) hv
    rw [← hx, ← hc] at this
    exact this

set_option maxRecDepth 100000 in
set_option maxHeartbeats 1000000 in
theorem down_any (v : Value) (xs : List Nat) (s : Nat) (w : World) (h : Sl .u64 w v xs) (hx : ∀ d ∈ xs, d < W64) (hs64 : s < 64) (hlen : xs.length ≤ 100000000) (R : Ending → World → Prop)
    (hR : ∀ cur w', Arr .u64 61 w' w.heap.size cur → cur.length = xs.length → (∀ d ∈ cur, d < W64) → val W64 cur = val W64 xs / 2 ^ s → Below w.heap.size w w' → w'.heap.size = w.heap.size + 1 →
      R (.returned (.slice (some ⟨w.heap.size, 0, none⟩) xs.length xs.length)) w') :
    Calls Tryz.prog 190 #[v, .int .i64 ((s : Nat) : Int)] w R := by
  have HR := Lib.hid hR; clear hR
  obtain ⟨ao, cap, rfl, hrest⟩ := h
  have hsl : Sl .u64 w (.slice ao xs.length cap) xs := ⟨ao, cap, rfl, hrest⟩
  clear hrest
  obtain ⟨n, hn⟩ : ∃ n, n = xs.length := ⟨_, rfl⟩
  rw [← hn] at hlen HR hsl ⊢
  have HN := Lib.hid hn
  have HX := Lib.hid hx
  have HS := Lib.hid hsl
  have hs0 : (0 : Int) ≤ (s : Int) := by omega
  have hs65 : (s : Int) < 64 := by omega
  clear hn hx hsl
  go_enter Tryz.func190, Tryz.ntmps190
  go_wp2_with (at_make; go_must (refine wpList_makez _ rfl (.tmp 9) 63 rfl 61 .u64 8 Tryz.underlying63 info_u64 (by omega) .i64 _ n rfl (by omega) (by omega) ?_))
  intro W hA hbW hsW
  have hst : DownRel w w.heap.size n s xs (.int .i64 0) W :=
    ⟨0, 0, _, rfl, Nat.zero_le _, hA, by simp, zeros_lt W64_two _, fun i _ => getD_zeros _ _, by rw [getD_zeros]; exact Nat.pow_pos (by omega), Nat.pow_pos (by omega), by rw [val_zeros]; simp [val], hbW, hsW⟩
  have HST := Lib.hid hst
  clear hst hA hbW hsW
  go_wp2
  go_loopw [13] (fun i wr => DownRel w w.heap.size n s xs i wr) (fun i _ => n - (intOf i).toNat)
  case atStart => exact HST.out
  case round =>
    clear HST
    obtain ⟨k, r, cur, rfl, hk, hA, hl, hlt, hz, hck, hr, hv, hbel, hsz⟩ := hrel
    have HL := Lib.hid hl
    have HLT := Lib.hid hlt
    have HCK := Lib.hid hck
    have HZ := Lib.hid hz
    have HRR := Lib.hid hr
    have HV := Lib.hid hv
    have HB := Lib.hid hbel
    have HSZ := Lib.hid hsz
    clear hl hlt hck hz hv hsz hr
    by_cases hkn : k < n
    · obtain ⟨b, o, rfl, hb1, hc1⟩ := Sl.at HS.out k hkn
      rw [← hbel.cell (p := ⟨b, o + k, none⟩) hb1] at hc1
      obtain ⟨x, hx⟩ : ∃ x, x = xs.getD k 0 := ⟨_, rfl⟩
      rw [← hx] at hc1
      have hxl : x < W64 := by rw [hx]; exact getD_lt (by rw [W64_eq]; omega) _ HX.out _
      obtain ⟨d, hdd⟩ : ∃ d, d = x / 2 ^ s := ⟨_, rfl⟩
      have hdl : d < W64 := by rw [hdd]; exact Nat.lt_of_le_of_lt (Nat.div_le_self _ _) hxl
      have hsr := shr_nat x s
      rw [← hdd] at hsr
      have hor0 : bits .or .u64 0 (d : Int) = (d : Int) := by
        have := bits_or_u64_nat 0 d (by omega) hdl
        rw [Nat.zero_or] at this
        exact this
      have hkn2 : (k : Int) < (n : Int) := by omega
      have hki : (0 : Int) ≤ (k : Int) := by omega
      have hcn : (0 : Int) ≤ 64 - (s : Int) := by omega
      have hcn2 : ¬ (64 - (s : Int) < 0) := by omega
      have hcn3 : (64 - (s : Int)).toNat = 64 - s := by omega
      have hf2 := hA.frozen k
      have hc2 := hA.cell k (by rw [HL.out]; omega)
      rw [HZ.out k (Nat.le_refl _)] at hc2
      by_cases hk0 : k = 0
      · subst hk0
        have HREL := Lib.hid (down_rel0 w wr w.heap.size n s x d xs cur hkn HN.out (by omega) hA HL.out HLT.out HZ.out r HV.out HB.out HSZ.out (Nat.le_refl _) hx hxl hdd)
        clear hx hxl hdd hdl hbel hA
        rw [Nat.add_zero] at hc1
        go_wp2
        go_region
        all_goals
          go_wp2
          go_roundw
          case rel => exact HREL.out
          case measure => simp [intOf]; omega
      · obtain ⟨j, rfl⟩ : ∃ j, k = j + 1 := ⟨k - 1, by omega⟩
        obtain ⟨c, hc⟩ : ∃ c, c = cur.getD j 0 := ⟨_, rfl⟩
        have hcl : c < 2 ^ (64 - s) := by rw [hc]; exact HCK.out
        have hc4 := hA.cell j (by rw [HL.out]; omega)
        have hf4 := hA.frozen j
        rw [← hc] at hc4
        obtain ⟨h, hh1, hh2, hh3⟩ := shl_or x c (64 - s) (by omega) hxl hcl
        rw [show 64 - (64 - s) = s by omega] at hh2 hh3
        obtain ⟨z, hzz⟩ : ∃ z, z = c + x % 2 ^ s * 2 ^ (64 - s) := ⟨_, rfl⟩
        rw [← hzz] at hh2 hh3
        have HREL := Lib.hid (down_rel w wr w.heap.size n s j x c z d xs cur hkn HN.out (by omega) hA HL.out HLT.out HZ.out r HRR.out HV.out HB.out HSZ.out (Nat.le_refl _) hx hc hxl hdd hzz hh3)
        have hjp : ((j + 1 : Nat) : Int) - 1 = (j : Int) := by omega
        have hjb : (j : Int) + 1 < (n : Int) := by omega
        clear hx hxl hdd hdl hbel hA hc hcl hzz hh3 hjp hk0 hkn
        go_wp2
        go_region
        all_goals
          go_wp2
          go_region
          all_goals
            go_wp2
            go_roundw
            case rel => exact HREL.out
            case measure => simp [intOf]; omega
    · obtain rfl : k = n := by omega
      clear hbel
      go_wp2
      first | go_ret | skip
      refine HR.out cur wr hA HL.out HLT.out ?_ HB.out HSZ.out
      have := HV.out
      rw [List.take_of_length_le (by rw [← HN.out]; exact Nat.le_refl _)] at this
      rw [← this, Nat.mul_add_div (Nat.pow_pos (by omega)), Nat.div_eq_of_lt HRR.out, Nat.add_zero]
end Go.Proofs.YtnfehccicnpbpaaGreatDoor

namespace Go.Proofs.YtnfehccicnpbpaaGreatDoor
open Go Go.RowKit

/-- the value of n + 1 limbs from a place on -/
def win (xs : List Nat) (off n : Nat) : Nat := val W64 ((xs.drop off).take (n + 1))

theorem val_win (xs : List Nat) (off n : Nat) (h : off + n + 1 ≤ xs.length) : val W64 xs = val W64 (xs.take off) + W64 ^ off * (win xs off n + W64 ^ (n + 1) * val W64 (xs.drop (off + n + 1))) := by
  rw [val_take_drop W64 xs off (by omega), val_take_drop W64 (xs.drop off) (n + 1) (by rw [List.length_drop]; omega), List.drop_drop]
  rfl

theorem win_lt (xs : List Nat) (off n : Nat) (h : off + n + 1 ≤ xs.length) (hx : ∀ d ∈ xs, d < W64) : win xs off n < W64 ^ (n + 1) := by
  have := val_lt (B := W64) ((xs.drop off).take (n + 1)) (fun d hd => hx d (List.mem_of_mem_drop (List.mem_of_mem_take hd)))
  rw [List.length_take, List.length_drop, Nat.min_eq_left (by omega)] at this
  exact this

theorem win_eq (cur rs : List Nat) (off n G D m : Nat) (hl : cur.length = rs.length) (h : off + n + 1 ≤ rs.length) (ht : cur.take off = rs.take off) (hd : cur.drop (off + n + 1) = rs.drop (off + n + 1))
    (hv : val W64 cur + W64 ^ off * (G * D) = val W64 rs + W64 ^ (off + n + 1) * m) : win cur off n + G * D = win rs off n + W64 ^ (n + 1) * m := by
  rw [val_win cur off n (by omega), val_win rs off n h, ht, hd, Nat.add_assoc off n 1, Nat.pow_add W64 off] at hv
  have hp : 0 < W64 ^ off := Nat.pow_pos (by rw [W64_eq]; omega)
  apply Nat.eq_of_mul_eq_mul_left hp
  generalize W64 ^ off = P at *
  generalize W64 ^ (n + 1) = Q at *
  generalize win cur off n = A at *
  generalize win rs off n = B at *
  grind

theorem pow_pos' (n : Nat) : 0 < W64 ^ n := Nat.pow_pos (by rw [W64_eq]; omega)

/-- the highest limbs of a window bound it -/
theorem win_top (xs : List Nat) (off n : Nat) (hn : 1 ≤ n) (h : off + n + 1 ≤ xs.length) (hx : ∀ d ∈ xs, d < W64) :
    win xs off n < (xs.getD (off + n) 0 * W64 + xs.getD (off + n - 1) 0 + 1) * W64 ^ (n - 1) := by
  obtain ⟨k, rfl⟩ : ∃ k, n = k + 1 := ⟨n - 1, by omega⟩
  have e : ∀ i, i < k + 2 → (xs.drop off).getD i 0 = xs.getD (off + i) 0 := by
    intro i _
    simp only [List.getD_eq_getElem?_getD, List.getElem?_drop]
  unfold win
  rw [val_take_succ W64 (xs.drop off) (k + 1) (by rw [List.length_drop]; omega), val_take_succ W64 (xs.drop off) k (by rw [List.length_drop]; omega), e _ (by omega), e _ (by omega)]
  have h1 := val_lt (B := W64) ((xs.drop off).take k) (fun d hd => hx d (List.mem_of_mem_drop (List.mem_of_mem_take hd)))
  rw [List.length_take, List.length_drop, Nat.min_eq_left (by omega)] at h1
  rw [show off + (k + 1) - 1 = off + k by omega, Nat.add_sub_cancel, Nat.pow_succ]
  generalize W64 ^ k = P at *
  generalize val W64 ((xs.drop off).take k) = v at *
  generalize xs.getD (off + k) 0 = a at *
  generalize xs.getD (off + (k + 1)) 0 = b at *
  have : (b * W64 + a + 1) * P = P * W64 * b + P * a + P := by grind
  rw [this]
  have e2 : P * W64 * b + P * a = P * a + P * W64 * b := Nat.add_comm _ _
  omega

theorem top_le (ds : List Nat) (n : Nat) (hn : ds.length = n + 1) : ds.getD n 0 * W64 ^ n ≤ val W64 ds := by
  have := val_take_succ W64 ds n (by omega)
  rw [List.take_of_length_le (by omega)] at this
  rw [this, Nat.mul_comm]; omega

/-- what holds while a multiple is given back -/
def TMRel (w : World) (g off n : Nat) (rs ds : List Nat) (q : Nat) (gv mv : Value) (wr : World) : Prop :=
  ∃ (G m : Nat) (cur : List Nat), gv = .int .u64 ((G : Nat) : Int) ∧ mv = .int .u64 ((m : Nat) : Int) ∧ m ≤ 1 ∧ q ≤ G ∧ G < W64 ∧ Arr .u64 61 wr g cur ∧ cur.length = rs.length ∧ (∀ d ∈ cur, d < W64) ∧
    cur.take off = rs.take off ∧ cur.drop (off + n + 1) = rs.drop (off + n + 1) ∧ val W64 cur + W64 ^ off * (G * val W64 ds) = val W64 rs + W64 ^ (off + n + 1) * m ∧ But g w wr ∧ wr.heap.size = w.heap.size

theorem drop_one {xs ys : List Nat} {m : Nat} (h : xs.drop m = ys.drop m) : xs.drop (m + 1) = ys.drop (m + 1) := by
  have h2 := congrArg (List.drop 1) h
  rw [List.drop_drop, List.drop_drop] at h2
  exact h2
theorem getD_of_drop {xs ys : List Nat} {m : Nat} (h : xs.drop m = ys.drop m) : xs.getD m 0 = ys.getD m 0 := by
  have h1 := congrArg (fun l => l.getD 0 0) h
  simp only [List.getD_eq_getElem?_getD, List.getElem?_drop, Nat.add_zero] at h1
  simpa [List.getD_eq_getElem?_getD] using h1

/-- behind the first taking away -/
theorem tm_first (w w1 : World) (g off n q G c s m x : Nat) (rs ds zs : List Nat) (hw : off + n + 1 ≤ rs.length) (hds : ds.length = n) (hA : Arr .u64 61 w1 g zs) (hl : zs.length = rs.length) (hlt : ∀ d ∈ zs, d < W64)
    (ht : zs.take off = rs.take off) (hd : zs.drop (off + ds.length) = rs.drop (off + ds.length)) (hv : val W64 zs + W64 ^ off * (G * val W64 ds) = val W64 rs + W64 ^ (off + ds.length) * c) (hb : But g w w1) (hsz : w1.heap.size = w.heap.size)
    (hq : q ≤ G) (hG : G < W64) (hx : x = rs.getD (off + n) 0) (hs : s + c = x + W64 * m) (hm : m ≤ 1) (hsl : s < W64) :
    TMRel w g off n rs ds q (.int .u64 ((G : Nat) : Int)) (.int .u64 ((m : Nat) : Int)) (w1.setCell ⟨g, off + n, none⟩ (.int .u64 ((s : Nat) : Int))) := by
  rw [hds] at hd hv
  have hzx : zs.getD (off + n) 0 = x := by rw [hx]; exact getD_of_drop hd
  have h1 := val_setN W64 zs (off + n) s (by omega)
  rw [hzx] at h1
  refine ⟨G, m, zs.set (off + n) s, rfl, rfl, hm, hq, hG, hA.set _ _, by simp [hl], set_ltN _ _ _ hlt hsl, by rw [take_set_out _ _ _ _ (by omega)]; exact ht, by rw [drop_set_out _ _ _ _ (by omega)]; exact drop_one hd, ?_, hb.setCell _ _, by simp [hsz]⟩
  rw [Nat.pow_succ]
  generalize W64 ^ (off + n) = P at *
  have h2 : P * (s + c) = P * (x + W64 * m) := by rw [hs]
  rw [Nat.mul_add, Nat.mul_add, ← Nat.mul_assoc] at h2
  omega

theorem tm_more (cur rs ds : List Nat) (off n q G : Nat) (hl : cur.length = rs.length) (hw : off + n + 1 ≤ rs.length) (hlt : ∀ d ∈ cur, d < W64) (ht : cur.take off = rs.take off) (hd : cur.drop (off + n + 1) = rs.drop (off + n + 1))
    (hv : val W64 cur + W64 ^ off * (G * val W64 ds) = val W64 rs + W64 ^ (off + n + 1) * 1) (hq : q = win rs off n / val W64 ds) (hD : 0 < val W64 ds) : q + 1 ≤ G := by
  have h1 := win_eq cur rs off n G (val W64 ds) 1 hl hw ht hd hv
  have h2 := win_lt cur off n (by omega) hlt
  rw [Nat.mul_one] at h1
  have : q < G := by
    rw [hq, Nat.div_lt_iff_lt_mul hD]; omega
  omega

theorem tm_done (cur rs ds : List Nat) (off n q G : Nat) (hl : cur.length = rs.length) (hw : off + n + 1 ≤ rs.length) (ht : cur.take off = rs.take off) (hd : cur.drop (off + n + 1) = rs.drop (off + n + 1))
    (hv : val W64 cur + W64 ^ off * (G * val W64 ds) = val W64 rs + W64 ^ (off + n + 1) * 0) (hq : q = win rs off n / val W64 ds) (hD : 0 < val W64 ds) (hqG : q ≤ G) : G = q := by
  have h1 := win_eq cur rs off n G (val W64 ds) 0 hl hw ht hd hv
  have : G ≤ q := by
    rw [hq, Nat.le_div_iff_mul_le hD]; omega
  omega

/-- behind a giving back -/
theorem tm_back (w wr w1 : World) (g off n q G c s m x : Nat) (rs ds cur zs : List Nat) (hw : off + n + 1 ≤ rs.length) (hds : ds.length = n) (hcl : cur.length = rs.length) (hct : cur.take off = rs.take off) (hcd : cur.drop (off + n + 1) = rs.drop (off + n + 1))
    (hcv : val W64 cur + W64 ^ off * (G * val W64 ds) = val W64 rs + W64 ^ (off + n + 1) * 1) (hcb : But g w wr) (hcs : wr.heap.size = w.heap.size)
    (hA : Arr .u64 61 w1 g zs) (hl : zs.length = cur.length) (hlt : ∀ d ∈ zs, d < W64)
    (ht : zs.take off = cur.take off) (hd : zs.drop (off + ds.length) = cur.drop (off + ds.length)) (hv : val W64 zs + W64 ^ (off + ds.length) * c = val W64 cur + W64 ^ off * (1 * val W64 ds)) (hb : But g wr w1) (hsz : w1.heap.size = wr.heap.size)
    (hq : q + 1 ≤ G) (hG : G < W64) (hx : x = cur.getD (off + n) 0) (hs : s + W64 * m = x + c) (hm : m ≤ 1) (hsl : s < W64) (zg zm : Int) (hzg : zg = (G : Int) - 1) (hzm : zm = 1 - (m : Int)) :
    TMRel w g off n rs ds q (.int .u64 zg) (.int .u64 zm) (w1.setCell ⟨g, off + n, none⟩ (.int .u64 ((s : Nat) : Int))) := by
  rw [hds] at hd hv
  have hzx : zs.getD (off + n) 0 = x := by rw [hx]; exact getD_of_drop hd
  have h1 := val_setN W64 zs (off + n) s (by omega)
  rw [hzx] at h1
  refine ⟨G - 1, 1 - m, zs.set (off + n) s, congrArg _ (by omega), congrArg _ (by omega), by omega, by omega, by omega, hA.set _ _, by simp [hl, hcl], set_ltN _ _ _ hlt hsl, by rw [take_set_out _ _ _ _ (by omega), ht]; exact hct,
    by rw [drop_set_out _ _ _ _ (by omega), drop_one hd]; exact hcd, ?_, (hcb.trans hb).setCell _ _, by simp [hsz, hcs]⟩
  obtain ⟨H, rfl⟩ : ∃ H, G = H + 1 := ⟨G - 1, by omega⟩
  rw [Nat.add_sub_cancel]
  rw [Nat.pow_succ] at hcv ⊢
  generalize W64 ^ (off + n) = P at *
  have h2 : P * (s + W64 * m) = P * (x + c) := by rw [hs]
  rw [Nat.mul_add, Nat.mul_add, ← Nat.mul_assoc] at h2
  rw [Nat.one_mul] at hv
  rw [Nat.add_mul, Nat.one_mul, Nat.mul_add] at hcv
  rcases (by omega : m = 0 ∨ m = 1) with h | h
  · subst h; simp only [Nat.mul_zero, Nat.sub_zero] at *; omega
  · subst h; simp only [Nat.mul_one, Nat.sub_self, Nat.mul_zero] at *; omega
end Go.Proofs.YtnfehccicnpbpaaGreatDoor

namespace Go.Proofs.YtnfehccicnpbpaaGreatDoor
open Go Go.RowKit

/-- the guess -/
theorem guess_ok (rs ds : List Nat) (off n : Nat) (hn : 1 ≤ n) (hds : ds.length = n) (hw : off + n + 1 ≤ rs.length) (hr : ∀ d ∈ rs, d < W64) (hd0 : 0 < ds.getD (n - 1) 0) :
    win rs off n / val W64 ds ≤ (rs.getD (off + n) 0 * W64 + rs.getD (off + n - 1) 0) / ds.getD (n - 1) 0 := by
  have h1 := win_top rs off n hn hw hr
  have h2 := top_le ds (n - 1) (by omega)
  exact knuth_ge W64 (W64 ^ (n - 1)) _ _ _ _ _ h1 h2 hd0

theorem add_parts (x c s m : Nat) (hx : x < W64) (hc : c < W64) (hs : s = (x + c) % W64) (hm : m = (x + c) / W64) : s + W64 * m = x + c ∧ m ≤ 1 ∧ s < W64 := by
  rw [W64_eq] at *
  omega

theorem div64_quiet (hi lo y : Nat) (w : World) (hlo : lo < W64) (hy : y < W64) (hlt : hi < y) (q r : Nat) (hq : q = (hi * W64 + lo) / y) (hr : r = (hi * W64 + lo) % y) :
    Calls Tryz.prog 165 #[.int .u64 ((hi : Nat) : Int), .int .u64 ((lo : Nat) : Int), .int .u64 ((y : Nat) : Int)] w fun e w' => e = .returned (.tuple #[.int .u64 ((q : Nat) : Int), .int .u64 ((r : Nat) : Int)]) ∧ ∃ m, w' = w.drewN m :=
  div64_any hi lo y w hlo hy hlt q r hq hr _ fun n => ⟨rfl, n, rfl⟩

set_option maxRecDepth 100000 in
set_option maxHeartbeats 2000000 in
theorem takem_any (g off n cap : Nat) (rs ds : List Nat) (ao : Option Addr) (capd : Nat) (w : World) (hA : Arr .u64 61 w g rs) (hd : Sl .u64 w (.slice ao n capd) ds) (hne : 0 < ds.length → blk (.slice ao n capd) ≠ some g)
    (hn : 1 ≤ n) (hds : ds.length = n) (hw : off + n + 1 ≤ rs.length) (hrs : ∀ d ∈ rs, d < W64) (hdl : ∀ d ∈ ds, d < W64) (hlen : rs.length ≤ 1000000000) (hd0 : 0 < ds.getD (n - 1) 0)
    (q : Nat) (hq : q = win rs off n / val W64 ds) (hqw : q < W64) (R : Ending → World → Prop)
    (hR : ∀ cur w', Arr .u64 61 w' g cur → cur.length = rs.length → (∀ d ∈ cur, d < W64) → cur.take off = rs.take off → cur.drop (off + n + 1) = rs.drop (off + n + 1) →
      val W64 cur + W64 ^ off * (q * val W64 ds) = val W64 rs → But g w w' → w'.heap.size = w.heap.size → R (.returned (.int .u64 ((q : Nat) : Int))) w') :
    Calls Tryz.prog 189 #[.slice (some ⟨g, off, none⟩) (n + 1) cap, .slice ao n capd] w R := by
  have HR := Lib.hid hR; clear hR
  obtain ⟨k, rfl⟩ : ∃ k, n = k + 1 := ⟨n - 1, by omega⟩
  rw [Nat.add_sub_cancel] at hd0
  have hDpos : 0 < val W64 ds := by
    have := top_le ds k hds
    have h2 := Nat.mul_pos hd0 (pow_pos' k)
    omega
  have hgu := guess_ok rs ds off (k + 1) hn hds hw hrs (by rw [Nat.add_sub_cancel]; exact hd0)
  rw [← hq, Nat.add_sub_cancel, show off + (k + 1) - 1 = off + k by omega] at hgu
  obtain ⟨b, o, rfl, hb1, hc1⟩ := Sl.at hd k (by omega)
  have hbg : b ≠ g := fun e => hne (by omega) (by rw [e]; rfl)
  obtain ⟨d, hde⟩ : ∃ d, d = ds.getD k 0 := ⟨_, rfl⟩
  obtain ⟨x, hx⟩ : ∃ x, x = rs.getD (off + (k + 1)) 0 := ⟨_, rfl⟩
  obtain ⟨y, hy⟩ : ∃ y, y = rs.getD (off + k) 0 := ⟨_, rfl⟩
  have hc2 := hA.cell (off + (k + 1)) (by omega)
  have hc3 := hA.cell (off + k) (by omega)
  rw [← hde] at hc1 hgu hd0
  rw [← hx] at hc2 hgu
  rw [← hy] at hc3 hgu
  have hdw : d < W64 := by rw [hde]; exact getD_lt (by rw [W64_eq]; omega) _ hdl _
  have hxw : x < W64 := by rw [hx]; exact getD_lt (by rw [W64_eq]; omega) _ hrs _
  have hyw : y < W64 := by rw [hy]; exact getD_lt (by rw [W64_eq]; omega) _ hrs _
  have HGU := Lib.hid hgu
  have HDS := Lib.hid hds
  have HW := Lib.hid hw
  have HRS := Lib.hid hrs
  have HDL := Lib.hid hdl
  have HQ := Lib.hid hq
  have HQW := Lib.hid hqw
  have HNE := Lib.hid hne
  have HX := Lib.hid hx
  have HDW := Lib.hid hdw
  have HXW := Lib.hid hxw
  have HYW := Lib.hid hyw
  have HLEN := Lib.hid hlen
  have HD := Lib.hid hd
  have hk0 : (0 : Int) ≤ (k : Int) := by omega
  have hkn : (k : Int) ≤ 1000000000 := by omega
  have es : (k : Int) + 1 - 1 = (k : Int) := by omega
  have hk1 : (0 : Int) ≤ (k : Int) + 1 := by omega
  have hk2 : (k : Int) + 1 < (k : Int) + 1 + 1 := by omega
  have hk3 : (k : Int) < (k : Int) + 1 + 1 := by omega
  have hk4 : (k : Int) < (k : Int) + 1 := by omega
  clear hgu hds hw hrs hdl hq hqw hne hx hy hde hdw hxw hyw hlen hd
  go_enter Tryz.func189, Tryz.ntmps189
  go_wp2
  by_cases hlt : x < d
  · have hlti : (x : Int) < (d : Int) := by omega
    go_quiet (fail)
    go_wp2
    obtain ⟨W1, hW1⟩ : ∃ W1, W1 = w.drewN nq := ⟨_, rfl⟩
    have hcd1 : W1.cell? ⟨b, o + k, none⟩ = some (.int .u64 d) := by rw [hW1]; exact hc1
    have hcd2 : W1.cell? ⟨g, off + (k + 1), none⟩ = some (.int .u64 x) := by rw [hW1]; exact hc2
    have hcd3 : W1.cell? ⟨g, off + k, none⟩ = some (.int .u64 y) := by rw [hW1]; exact hc3
    have HW1 := Lib.hid hW1
    rw [← hW1]
    obtain ⟨G, hG⟩ : ∃ G, G = (x * W64 + y) / d := ⟨_, rfl⟩
    obtain ⟨G2, hG2⟩ : ∃ G2, G2 = (x * W64 + y) % d := ⟨_, rfl⟩
    have HG := Lib.hid hG
    have HG2 := Lib.hid hG2
    clear hG hG2 hW1
    go_quiet ((go_at_call 165; exact Calls.quiet_of (div64_quiet x y d _ HYW.out HDW.out hlt G G2 HG.out HG2.out)))
    obtain ⟨W0, hW0'⟩ : ∃ W0, W0 = W1.drewN nq := ⟨_, rfl⟩
    obtain ⟨na, nb, hW0⟩ : ∃ na nb, W0 = (w.drewN na).drewN nb := ⟨_, _, by rw [hW0', HW1.out]⟩
    go_wp2
    rw [← hW0']
    have hqG : q ≤ G := by rw [HG.out]; exact HGU.out
    have hGw : G < W64 := by
      have h1 := HYW.out
      have h2 : (x + 1) * W64 ≤ d * W64 := Nat.mul_le_mul_right _ hlt
      rw [HG.out, Nat.div_lt_iff_lt_mul hd0, Nat.mul_comm W64]
      rw [Nat.add_mul, Nat.one_mul] at h2
      omega
    clear hW0' hcd1 hcd2 hcd3
    have HB0 : Hid (But g w W0) := Lib.hid (by rw [hW0]; exact But.ofBelow (below_draws (below_draws (Below.refl _ _) _) _))
    have HS0 : Hid (W0.heap.size = w.heap.size) := Lib.hid (by rw [hW0]; rfl)
    have hA0 : Arr .u64 61 W0 g rs := by rw [hW0]; exact hA
    have HD0 : Hid (Sl .u64 W0 (.slice (some ⟨b, o, none⟩) (k + 1) capd) ds) := Lib.hid (by rw [hW0]; exact HD.out)
    have hx0 : W0.cell? ⟨g, off + (k + 1), none⟩ = some (.int .u64 x) := by rw [hW0]; exact hc2
    have hf0 := hA0.frozen (off + (k + 1))
    have hqG' := Lib.hid hqG
    have hGw' := Lib.hid hGw
    have hGb : (G : Int) ≤ 18446744073709551615 := by rw [W64_eq] at hGw; omega
    clear hc1 hc2 hc3 hW0 hlt hlti hqG hGw
    go_cut [7] (fun mv wx => TMRel w g off (k + 1) rs ds q (.int .u64 ((G : Nat) : Int)) mv wx)
    case first =>
      go_region_law (go_simp; go_at_call 217; refine takep_any g off (k + 1 + 1) cap rs ds _ G _ hA0.drew (Sl.drw HD0.out) HNE.out (by rw [HDS.out]; have := HW.out; omega) (by rw [HDS.out]; omega) HRS.out HDL.out hGw'.out HLEN.out _ ?_; intro zs c w1 hz1 hz2 hz3 hz4 hz5 hz6 hz7 hz8 hz9; obtain ⟨s, hs⟩ : ∃ s, s = (x + W64 - c) % W64 := ⟨_, rfl⟩; obtain ⟨m, hm⟩ : ∃ m, m = if x < c then 1 else 0 := ⟨_, rfl⟩; obtain ⟨ht1, ht2, ht3⟩ := borrow_parts x c s m W64 HXW.out hz7 hs hm; have hzd := hz5; rw [HDS.out] at hzd; have hxz : zs.getD (off + (k + 1)) 0 = x := (by rw [HX.out]; exact getD_of_drop hzd); have hcz := hz1.cell (off + (k + 1)) (by rw [hz2]; have := HW.out; omega); rw [hxz] at hcz; have hfz := hz1.frozen (off + (k + 1)); have hst := tm_first w w1 g off (k + 1) q G c s m x rs ds zs HW.out HDS.out hz1 hz2 hz3 hz4 hz5 hz6 (HB0.out.trans hz8.ofDrew) (hz9.trans HS0.out) hqG'.out hGw'.out HX.out ht1 ht2 ht3; have HST := Lib.hid hst; have ea := sub64_0 x c s m hs hm; clear hz1 hz2 hz3 hz4 hz5 hz6 hz7 hz8 hz9 hs hm ht1 ht2 ht3 hzd hxz hst; dsimp only)
      all_goals (go_wp2_with fail; go_meet; exact HST.out)
    case rest =>
      clear hx0 hf0 hA0
      go_wp2
      go_loopw [6, 7] (fun gv mv wr => TMRel w g off (k + 1) rs ds q gv mv wr) (fun gv _ _ => (intOf gv).toNat)
      case atStart => exact hcut
      case round =>
        clear hcut
        obtain ⟨G, m, cur, rfl, rfl, hm, hqG, hGw, hA, hl, hlt, ht, hd, hv, hbut, hsz⟩ := hrel
        have HL := Lib.hid hl
        have HLT := Lib.hid hlt
        have HT := Lib.hid ht
        have HDR := Lib.hid hd
        have HV := Lib.hid hv
        have HB := Lib.hid hbut
        have HSZ := Lib.hid hsz
        have HQG := Lib.hid hqG
        have HGW := Lib.hid hGw
        have hGb2 : (G : Int) ≤ 18446744073709551615 := by rw [W64_eq] at hGw; omega
        clear hl hlt ht hd hv hbut hsz hqG hGw
        rcases (by omega : m = 0 ∨ m = 1) with h0 | h1
        · subst h0
          have hGq := tm_done cur rs ds off (k + 1) q G HL.out HW.out HT.out HDR.out HV.out HQ.out hDpos HQG.out
          subst hGq
          have hfin := HR.out cur wr hA HL.out HLT.out HT.out HDR.out (by have := HV.out; rwa [Nat.mul_zero, Nat.add_zero] at this) HB.out HSZ.out
          have HFIN := Lib.hid hfin
          clear hfin hA
          go_wp2
          first | go_ret | skip
          exact HFIN.out
        · subst h1
          have hge := tm_more cur rs ds off (k + 1) q G HL.out HW.out HLT.out HT.out HDR.out HV.out HQ.out hDpos
          have HGE := Lib.hid hge
          have hG1 : (1 : Int) ≤ (G : Int) := by omega
          obtain ⟨x', hx'⟩ : ∃ x', x' = cur.getD (off + (k + 1)) 0 := ⟨_, rfl⟩
          have hcx := hA.cell (off + (k + 1)) (by rw [HL.out]; have := HW.out; omega)
          have hfx := hA.frozen (off + (k + 1))
          rw [← hx'] at hcx
          have hxw' : x' < W64 := by rw [hx']; exact getD_lt (by rw [W64_eq]; omega) _ HLT.out _
          have HX' := Lib.hid hx'
          have HXW' := Lib.hid hxw'
          have HDW2 : Hid (Sl .u64 wr (.slice (some ⟨b, o, none⟩) (k + 1) capd) ds) := Lib.hid (HD.out.but HB.out HNE.out)
          have HA' := Lib.hid hA
          clear hge hx' hxw' hA
          go_wp2
          go_cut [8] (fun cv wx => ∃ m : Nat, m ≤ 1 ∧ cv = .int .u64 ((m : Nat) : Int) ∧ TMRel w g off (k + 1) rs ds q (.int .u64 ((G : Int) - 1)) (.int .u64 (1 - (m : Int))) wx)
          case first =>
            go_region_law (go_simp; go_at_call 191; refine addp_any g off (k + 1 + 1) cap cur ds _ 1 _ HA'.out.drew (Sl.drw HDW2.out) HNE.out (by rw [HDS.out, HL.out]; have := HW.out; omega) (by rw [HDS.out]; omega) HLT.out HDL.out (by rw [W64_eq]; omega) (by rw [HL.out]; exact HLEN.out) _ ?_; intro zs c w1 hz1 hz2 hz3 hz4 hz5 hz6 hz7 hz8 hz9; obtain ⟨s, hs⟩ : ∃ s, s = (x' + c) % W64 := ⟨_, rfl⟩; obtain ⟨m, hm⟩ : ∃ m, m = (x' + c) / W64 := ⟨_, rfl⟩; obtain ⟨ht1, ht2, ht3⟩ := add_parts x' c s m HXW'.out hz7 hs hm; have hzd := hz5; rw [HDS.out] at hzd; have hxz : zs.getD (off + (k + 1)) 0 = x' := (by rw [HX'.out]; exact getD_of_drop hzd); have hcz := hz1.cell (off + (k + 1)) (by rw [hz2, HL.out]; have := HW.out; omega); rw [hxz] at hcz; have hfz := hz1.frozen (off + (k + 1)); have hst := tm_back w wr w1 g off (k + 1) q G c s m x' rs ds cur zs HW.out HDS.out HL.out HT.out HDR.out HV.out HB.out HSZ.out hz1 hz2 hz3 hz4 hz5 hz6 hz8.ofDrew hz9 HGE.out HGW.out HX'.out ht1 ht2 ht3 _ _ rfl rfl; have HST := Lib.hid hst; have HM1 := Lib.hid ht2; have ea := add64_0 x' c s m hs hm; clear hz1 hz2 hz3 hz4 hz5 hz6 hz7 hz8 hz9 hs hm ht1 ht2 ht3 hzd hxz hst; dsimp only)
            all_goals (go_wp2_with fail; go_meet; exact ⟨m, HM1.out, rfl, HST.out⟩)
          case rest =>
            clear hcx hfx
            obtain ⟨m, hm1, rfl, hrel⟩ := hcut
            have HREL := Lib.hid hrel
            have hmi : (m : Int) ≤ 1 := by omega
            clear hrel
            go_wp2
            go_roundw
            case rel => exact HREL.out
            case measure => simp [intOf]; omega
  · have hlti : ¬ (x : Int) < (d : Int) := by omega
    go_quiet (fail)
    go_wp2
    obtain ⟨W0, hW0'⟩ : ∃ W0, W0 = w.drewN nq := ⟨_, rfl⟩
    obtain ⟨na, nb, hW0⟩ : ∃ na nb, W0 = (w.drewN na).drewN nb := ⟨nq, 0, hW0'⟩
    rw [← hW0']
    obtain ⟨G, hG⟩ : ∃ G : Nat, G = 18446744073709551615 := ⟨_, rfl⟩
    have hGi : (18446744073709551615 : Int) = ((G : Nat) : Int) := by rw [hG]; rfl
    rw [hGi]
    have hGw : G < W64 := by rw [hG, W64_eq]; omega
    have hqG : q ≤ G := by have := HQW.out; rw [W64_eq] at this; rw [hG]; omega
    clear hGi hG hW0'
    have HB0 : Hid (But g w W0) := Lib.hid (by rw [hW0]; exact But.ofBelow (below_draws (below_draws (Below.refl _ _) _) _))
    have HS0 : Hid (W0.heap.size = w.heap.size) := Lib.hid (by rw [hW0]; rfl)
    have hA0 : Arr .u64 61 W0 g rs := by rw [hW0]; exact hA
    have HD0 : Hid (Sl .u64 W0 (.slice (some ⟨b, o, none⟩) (k + 1) capd) ds) := Lib.hid (by rw [hW0]; exact HD.out)
    have hx0 : W0.cell? ⟨g, off + (k + 1), none⟩ = some (.int .u64 x) := by rw [hW0]; exact hc2
    have hf0 := hA0.frozen (off + (k + 1))
    have hqG' := Lib.hid hqG
    have hGw' := Lib.hid hGw
    have hGb : (G : Int) ≤ 18446744073709551615 := by rw [W64_eq] at hGw; omega
    clear hc1 hc2 hc3 hW0 hlt hlti hqG hGw
    go_cut [7] (fun mv wx => TMRel w g off (k + 1) rs ds q (.int .u64 ((G : Nat) : Int)) mv wx)
    case first =>
      go_region_law (go_simp; go_at_call 217; refine takep_any g off (k + 1 + 1) cap rs ds _ G _ hA0.drew (Sl.drw HD0.out) HNE.out (by rw [HDS.out]; have := HW.out; omega) (by rw [HDS.out]; omega) HRS.out HDL.out hGw'.out HLEN.out _ ?_; intro zs c w1 hz1 hz2 hz3 hz4 hz5 hz6 hz7 hz8 hz9; obtain ⟨s, hs⟩ : ∃ s, s = (x + W64 - c) % W64 := ⟨_, rfl⟩; obtain ⟨m, hm⟩ : ∃ m, m = if x < c then 1 else 0 := ⟨_, rfl⟩; obtain ⟨ht1, ht2, ht3⟩ := borrow_parts x c s m W64 HXW.out hz7 hs hm; have hzd := hz5; rw [HDS.out] at hzd; have hxz : zs.getD (off + (k + 1)) 0 = x := (by rw [HX.out]; exact getD_of_drop hzd); have hcz := hz1.cell (off + (k + 1)) (by rw [hz2]; have := HW.out; omega); rw [hxz] at hcz; have hfz := hz1.frozen (off + (k + 1)); have hst := tm_first w w1 g off (k + 1) q G c s m x rs ds zs HW.out HDS.out hz1 hz2 hz3 hz4 hz5 hz6 (HB0.out.trans hz8.ofDrew) (hz9.trans HS0.out) hqG'.out hGw'.out HX.out ht1 ht2 ht3; have HST := Lib.hid hst; have ea := sub64_0 x c s m hs hm; clear hz1 hz2 hz3 hz4 hz5 hz6 hz7 hz8 hz9 hs hm ht1 ht2 ht3 hzd hxz hst; dsimp only)
      all_goals (go_wp2_with fail; go_meet; exact HST.out)
    case rest =>
      clear hx0 hf0 hA0
      go_wp2
      go_loopw [6, 7] (fun gv mv wr => TMRel w g off (k + 1) rs ds q gv mv wr) (fun gv _ _ => (intOf gv).toNat)
      case atStart => exact hcut
      case round =>
        clear hcut
        obtain ⟨G, m, cur, rfl, rfl, hm, hqG, hGw, hA, hl, hlt, ht, hd, hv, hbut, hsz⟩ := hrel
        have HL := Lib.hid hl
        have HLT := Lib.hid hlt
        have HT := Lib.hid ht
        have HDR := Lib.hid hd
        have HV := Lib.hid hv
        have HB := Lib.hid hbut
        have HSZ := Lib.hid hsz
        have HQG := Lib.hid hqG
        have HGW := Lib.hid hGw
        have hGb2 : (G : Int) ≤ 18446744073709551615 := by rw [W64_eq] at hGw; omega
        clear hl hlt ht hd hv hbut hsz hqG hGw
        rcases (by omega : m = 0 ∨ m = 1) with h0 | h1
        · subst h0
          have hGq := tm_done cur rs ds off (k + 1) q G HL.out HW.out HT.out HDR.out HV.out HQ.out hDpos HQG.out
          subst hGq
          have hfin := HR.out cur wr hA HL.out HLT.out HT.out HDR.out (by have := HV.out; rwa [Nat.mul_zero, Nat.add_zero] at this) HB.out HSZ.out
          have HFIN := Lib.hid hfin
          clear hfin hA
          go_wp2
          first | go_ret | skip
          exact HFIN.out
        · subst h1
          have hge := tm_more cur rs ds off (k + 1) q G HL.out HW.out HLT.out HT.out HDR.out HV.out HQ.out hDpos
          have HGE := Lib.hid hge
          have hG1 : (1 : Int) ≤ (G : Int) := by omega
          obtain ⟨x', hx'⟩ : ∃ x', x' = cur.getD (off + (k + 1)) 0 := ⟨_, rfl⟩
          have hcx := hA.cell (off + (k + 1)) (by rw [HL.out]; have := HW.out; omega)
          have hfx := hA.frozen (off + (k + 1))
          rw [← hx'] at hcx
          have hxw' : x' < W64 := by rw [hx']; exact getD_lt (by rw [W64_eq]; omega) _ HLT.out _
          have HX' := Lib.hid hx'
          have HXW' := Lib.hid hxw'
          have HDW2 : Hid (Sl .u64 wr (.slice (some ⟨b, o, none⟩) (k + 1) capd) ds) := Lib.hid (HD.out.but HB.out HNE.out)
          have HA' := Lib.hid hA
          clear hge hx' hxw' hA
          go_wp2
          go_cut [8] (fun cv wx => ∃ m : Nat, m ≤ 1 ∧ cv = .int .u64 ((m : Nat) : Int) ∧ TMRel w g off (k + 1) rs ds q (.int .u64 ((G : Int) - 1)) (.int .u64 (1 - (m : Int))) wx)
          case first =>
            go_region_law (go_simp; go_at_call 191; refine addp_any g off (k + 1 + 1) cap cur ds _ 1 _ HA'.out.drew (Sl.drw HDW2.out) HNE.out (by rw [HDS.out, HL.out]; have := HW.out; omega) (by rw [HDS.out]; omega) HLT.out HDL.out (by rw [W64_eq]; omega) (by rw [HL.out]; exact HLEN.out) _ ?_; intro zs c w1 hz1 hz2 hz3 hz4 hz5 hz6 hz7 hz8 hz9; obtain ⟨s, hs⟩ : ∃ s, s = (x' + c) % W64 := ⟨_, rfl⟩; obtain ⟨m, hm⟩ : ∃ m, m = (x' + c) / W64 := ⟨_, rfl⟩; obtain ⟨ht1, ht2, ht3⟩ := add_parts x' c s m HXW'.out hz7 hs hm; have hzd := hz5; rw [HDS.out] at hzd; have hxz : zs.getD (off + (k + 1)) 0 = x' := (by rw [HX'.out]; exact getD_of_drop hzd); have hcz := hz1.cell (off + (k + 1)) (by rw [hz2, HL.out]; have := HW.out; omega); rw [hxz] at hcz; have hfz := hz1.frozen (off + (k + 1)); have hst := tm_back w wr w1 g off (k + 1) q G c s m x' rs ds cur zs HW.out HDS.out HL.out HT.out HDR.out HV.out HB.out HSZ.out hz1 hz2 hz3 hz4 hz5 hz6 hz8.ofDrew hz9 HGE.out HGW.out HX'.out ht1 ht2 ht3 _ _ rfl rfl; have HST := Lib.hid hst; have HM1 := Lib.hid ht2; have ea := add64_0 x' c s m hs hm; clear hz1 hz2 hz3 hz4 hz5 hz6 hz7 hz8 hz9 hs hm ht1 ht2 ht3 hzd hxz hst; dsimp only)
            all_goals (go_wp2_with fail; go_meet; exact ⟨m, HM1.out, rfl, HST.out⟩)
          case rest =>
            clear hcx hfx
            obtain ⟨m, hm1, rfl, hrel⟩ := hcut
            have HREL := Lib.hid hrel
            have hmi : (m : Int) ≤ 1 := by omega
            clear hrel
            go_wp2
            go_roundw
            case rel => exact HREL.out
            case measure => simp [intOf]; omega
end Go.Proofs.YtnfehccicnpbpaaGreatDoor

namespace Go.Proofs.YtnfehccicnpbpaaGreatDoor
open Go Go.RowKit

theorem dig_length_mono' {B a b : Nat} (hB : 2 ≤ B) (h : a ≤ b) : (dig B a).length ≤ (dig B b).length :=
  dig_length_le hB _ a (Nat.lt_of_le_of_lt h (lt_pow_dig hB b))

theorem pow_le_digN {B n : Nat} (hB : 2 ≤ B) (h : n ≠ 0) : B ^ ((dig B n).length - 1) ≤ n := by
  rcases Nat.lt_or_ge n (B ^ ((dig B n).length - 1)) with h1 | h1
  · have h2 := dig_length_le hB _ n h1
    have h3 : (dig B n).length ≠ 0 := fun e => h ((dig_eq_nil hB).1 (List.length_eq_zero_iff.1 e))
    omega
  · exact h1

theorem top_pos {B n : Nat} (hB : 2 ≤ B) (h : n ≠ 0) : 0 < (dig B n).getD ((dig B n).length - 1) 0 := by
  have h3 : (dig B n).length ≠ 0 := fun e => h ((dig_eq_nil hB).1 (List.length_eq_zero_iff.1 e))
  have h1 := getLast_cut (dig B n) _ (Nat.le_refl _)
  rw [take_cut hB _ (dig_lt hB n), val_dig hB] at h1
  rw [List.getLast?_eq_getElem?] at h1
  rw [List.getD_eq_getElem?_getD]
  rw [List.getElem?_eq_getElem (by omega)] at h1 ⊢
  simp at h1 ⊢
  omega

/-- a divisor that is shifted has as many limbs -/
theorem shifted_len (b s : Nat) (hb : b ≠ 0) (h1 : (dig W64 b).getD ((dig W64 b).length - 1) 0 * 2 ^ s < W64) (hs : s ≤ 64) : (dig W64 (2 ^ s * b)).length = (dig W64 b).length := by
  have h3 : (dig W64 b).length ≠ 0 := fun e => hb ((dig_eq_nil W64_two).1 (List.length_eq_zero_iff.1 e))
  obtain ⟨m, hm⟩ : ∃ m, (dig W64 b).length = m + 1 := ⟨(dig W64 b).length - 1, by omega⟩
  rw [hm, Nat.add_sub_cancel] at h1
  have hp : 0 < 2 ^ s := Nat.pow_pos (by omega)
  have hv : b = val W64 ((dig W64 b).take m) + W64 ^ m * (dig W64 b).getD m 0 := by
    have := val_take_succ W64 (dig W64 b) m (by omega)
    rw [List.take_of_length_le (by omega), val_dig W64_two] at this
    exact this
  have hl := val_lt (B := W64) ((dig W64 b).take m) (fun d hd => limb_lt b d (List.mem_of_mem_take hd))
  rw [List.length_take, Nat.min_eq_left (by omega)] at hl
  have hdq : ((dig W64 b).getD m 0 + 1) * 2 ^ s ≤ W64 := by
    generalize (dig W64 b).getD m 0 = t at *
    have hW := pow_split s hs
    rw [← hW, Nat.mul_comm (2 ^ s)] at h1
    have h5 := Nat.lt_of_mul_lt_mul_right h1
    rw [← hW, Nat.mul_comm (2 ^ s)]
    exact Nat.mul_le_mul_right _ h5
  apply Nat.le_antisymm
  · rw [hm]
    apply dig_length_le W64_two
    have h4 : b < ((dig W64 b).getD m 0 + 1) * W64 ^ m := by
      rw [Nat.add_mul, Nat.one_mul, Nat.mul_comm]; omega
    have h5 : 2 ^ s * b < 2 ^ s * (((dig W64 b).getD m 0 + 1) * W64 ^ m) := Nat.mul_lt_mul_of_pos_left h4 hp
    have h6 : ((dig W64 b).getD m 0 + 1) * 2 ^ s * W64 ^ m ≤ W64 * W64 ^ m := Nat.mul_le_mul_right _ hdq
    rw [Nat.pow_succ, Nat.mul_comm (W64 ^ m)]
    refine Nat.lt_of_lt_of_le h5 ?_
    rw [← Nat.mul_assoc, Nat.mul_comm (2 ^ s)]; exact h6
  · have h4 : b ≤ 2 ^ s * b := Nat.le_mul_of_pos_left b hp
    exact dig_length_le W64_two _ _ (Nat.lt_of_le_of_lt h4 (lt_pow_dig W64_two _))

/-- what holds at the head of the loop of a division -/
def DivRel (w : World) (g1 g3 la n : Nat) (D A : Nat) (dv : Value) (iv : Value) (wr : World) : Prop :=
  ∃ (k : Nat) (rs qs : List Nat), iv = .int .i64 ((k : Int) - 1) ∧ k ≤ la - n + 1 ∧ Arr .u64 61 wr g1 rs ∧ rs.length = la + 1 ∧ (∀ d ∈ rs, d < W64) ∧ Arr .u64 61 wr g3 qs ∧ qs.length = la - n + 1 ∧ (∀ d ∈ qs, d < W64) ∧
    val W64 rs + D * (W64 ^ k * val W64 (qs.drop k)) = A ∧ val W64 (rs.drop k) < D ∧ Sl .u64 wr dv (dig W64 D) ∧ Below w.heap.size w wr

theorem drop_win (rs : List Nat) (i n D : Nat) (hl : i + n + 1 ≤ rs.length) (hD : D < W64 ^ n) (hlt : ∀ d ∈ rs, d < W64) (h : val W64 (rs.drop (i + 1)) < D) :
    val W64 (rs.drop i) = win rs i n ∧ val W64 (rs.drop i) < W64 * D := by
  have h1 := val_drop W64 rs i (by omega)
  have h2 := getD_lt (B := W64) (by rw [W64_eq]; omega) rs hlt i
  have h3 : W64 * (val W64 (rs.drop (i + 1)) + 1) ≤ W64 * D := Nat.mul_le_mul_left _ h
  rw [Nat.mul_add, Nat.mul_one] at h3
  have h4 : val W64 (rs.drop i) < W64 * D := by omega
  refine ⟨?_, h4⟩
  have h5 := val_take_drop W64 (rs.drop i) (n + 1) (by rw [List.length_drop]; omega)
  rw [List.drop_drop] at h5
  have h6 : W64 * D < W64 ^ (n + 1) := by
    rw [Nat.pow_succ, Nat.mul_comm (W64 ^ n)]
    exact Nat.mul_lt_mul_of_pos_left hD (by rw [W64_eq]; omega)
  have h7 : val W64 (rs.drop (i + (n + 1))) = 0 := by
    rcases Nat.eq_zero_or_pos (val W64 (rs.drop (i + (n + 1)))) with h | h
    · exact h
    · have := Nat.mul_le_mul_left (W64 ^ (n + 1)) h
      rw [Nat.mul_one] at this
      omega
  rw [h7, Nat.mul_zero, Nat.add_zero] at h5
  exact h5

theorem div_rel (w wr w1 : World) (g1 g3 la n D A i q : Nat) (dv : Value) (rs qs cur : List Nat) (hi : i < la - n + 1) (hn : 1 ≤ n) (hnl : n ≤ la) (hl : rs.length = la + 1) (hlt : ∀ d ∈ rs, d < W64) (hA3 : Arr .u64 61 wr g3 qs) (hql : qs.length = la - n + 1) (hqlt : ∀ d ∈ qs, d < W64)
    (hv : val W64 rs + D * (W64 ^ (i + 1) * val W64 (qs.drop (i + 1))) = A) (hr : val W64 (rs.drop (i + 1)) < D) (hsl : Sl .u64 wr dv (dig W64 D)) (hne : 0 < (dig W64 D).length → blk dv ≠ some g1) (hne3 : 0 < (dig W64 D).length → blk dv ≠ some g3) (hb : Below w.heap.size w wr) (hD : D < W64 ^ n) (hD0 : 0 < D)
    (hq : q = win rs i n / D) (hqw : q < W64) (hA1 : Arr .u64 61 w1 g1 cur) (hcl : cur.length = rs.length) (hclt : ∀ d ∈ cur, d < W64) (hct : cur.take i = rs.take i)
    (hcv : val W64 cur + W64 ^ i * (q * D) = val W64 rs) (hbut : But g1 wr w1) (hg : g1 ≠ g3) (hg1 : w.heap.size ≤ g1) (hg3 : w.heap.size ≤ g3) (hgs : w.heap.size ≤ wr.heap.size) :
    DivRel w g1 g3 la n D A dv (.int .i64 ((i : Int) - 1)) (w1.setCell ⟨g3, i, none⟩ (.int .u64 ((q : Nat) : Int))) := by
  obtain ⟨hw1, hw2⟩ := drop_win rs i n D (by omega) hD hlt hr
  have h3 := hA3.but hbut (fun e => hg e.symm)
  refine ⟨i, cur, qs.set i q, rfl, by omega, hA1.other hg _ _, by omega, hclt, h3.set _ _, by simp [hql], set_ltN _ _ _ hqlt hqw, ?_, ?_, (hsl.but hbut hne).but ((But.refl g3 w1).setCell i _) hne3, (hb.trans (hbut.below hg1 hgs)).setCell hg3 _⟩
  · rw [drop_set_at _ _ _ (by omega), val_cons_pos]
    rw [Nat.pow_succ] at hv
    generalize val W64 (qs.drop (i + 1)) = X at *
    generalize W64 ^ i = P at *
    grind
  · have h5 := val_take_drop W64 cur i (by omega)
    have h6 := val_take_drop W64 rs i (by omega)
    rw [hct] at h5
    have h7 : W64 ^ i * (val W64 (cur.drop i) + q * D) = W64 ^ i * val W64 (rs.drop i) := by
      rw [Nat.mul_add]; omega
    have h8 := Nat.eq_of_mul_eq_mul_left (pow_pos' i) h7
    rw [hw1] at h8
    have h9 := Nat.div_add_mod (win rs i n) D
    have h10 := Nat.mod_lt (win rs i n) hD0
    rw [← hq, Nat.mul_comm] at h9
    omega

theorem div_start (a b la n s : Nat) (rs : List Nat) (hb : b ≠ 0) (hla : la = (dig W64 a).length) (hn : n = (dig W64 b).length) (hle : n ≤ la) (hl : rs.length = la + 1) (hv : val W64 rs = 2 ^ s * a) :
    val W64 (rs.drop (la - n + 1)) < 2 ^ s * b := by
  have h3 : (dig W64 b).length ≠ 0 := fun e => hb ((dig_eq_nil W64_two).1 (List.length_eq_zero_iff.1 e))
  have h1 := val_take_drop W64 rs (la - n + 1) (by omega)
  have h2 := lt_pow_dig W64_two a
  have h4 := pow_le_digN W64_two hb
  rw [← hla] at h2
  rw [← hn] at h4 h3
  have hp : 0 < 2 ^ s := Nat.pow_pos (by omega)
  have h5 : 2 ^ s * a < 2 ^ s * W64 ^ la := Nat.mul_lt_mul_of_pos_left h2 hp
  have h6 : W64 ^ la = W64 ^ (n - 1) * W64 ^ (la - n + 1) := by rw [← Nat.pow_add]; congr 1; omega
  have h7 : 2 ^ s * (W64 ^ (n - 1) * W64 ^ (la - n + 1)) ≤ 2 ^ s * (b * W64 ^ (la - n + 1)) := Nat.mul_le_mul_left _ (Nat.mul_le_mul_right _ h4)
  rw [h6] at h5
  have h8 : W64 ^ (la - n + 1) * val W64 (rs.drop (la - n + 1)) < W64 ^ (la - n + 1) * (2 ^ s * b) := by
    have e : 2 ^ s * (b * W64 ^ (la - n + 1)) = W64 ^ (la - n + 1) * (2 ^ s * b) := by
      rw [← Nat.mul_assoc, Nat.mul_comm]
    rw [← e]; omega
  exact Nat.lt_of_mul_lt_mul_left h8

theorem div_end (a b s R Q : Nat) (hb : b ≠ 0) (h : R + 2 ^ s * b * Q = 2 ^ s * a) (hR : R < 2 ^ s * b) : Q = a / b ∧ R / 2 ^ s = a % b := by
  have hp : 0 < 2 ^ s := Nat.pow_pos (by omega)
  have hD : 0 < 2 ^ s * b := Nat.mul_pos hp (by omega)
  have h1 : 2 ^ s * a / (2 ^ s * b) = Q := by
    rw [← h, Nat.add_mul_div_left _ _ hD, Nat.div_eq_of_lt hR, Nat.zero_add]
  have h2 : 2 ^ s * a % (2 ^ s * b) = R := by
    rw [← h, Nat.add_mul_mod_self_left, Nat.mod_eq_of_lt hR]
  rw [Nat.mul_div_mul_left _ _ hp] at h1
  rw [Nat.mul_mod_mul_left] at h2
  exact ⟨h1.symm, by rw [← h2, Nat.mul_div_cancel_left _ hp]⟩
end Go.Proofs.YtnfehccicnpbpaaGreatDoor

namespace Go.Proofs.YtnfehccicnpbpaaGreatDoor
open Go Go.RowKit

set_option maxRecDepth 100000 in
theorem cmpu_any (x y : Nat) (w : World) (R : Ending → World → Prop) (hR : R (.returned (.int .i64 (cmpN x y))) w) :
    Calls Tryz.prog 215 #[.int .u64 x, .int .u64 y] w R := by
  have HR := Lib.hid hR; clear hR
  rcases Nat.lt_trichotomy x y with h | h | h
  · rw [cmpN_lt h] at HR
    go_enter Tryz.func215, Tryz.ntmps215
    go_wp2
    first | go_ret | skip
    exact HR.out
  · subst h
    rw [cmpN_eq] at HR
    go_enter Tryz.func215, Tryz.ntmps215
    go_wp2
    first | go_ret | skip
    exact HR.out
  · rw [cmpN_gt h] at HR
    go_enter Tryz.func215, Tryz.ntmps215
    go_wp2
    first | go_ret | skip
    exact HR.out

theorem cmpu_same (x y : Nat) (w : World) : Calls Tryz.prog 215 #[.int .u64 x, .int .u64 y] w fun e w' => e = .returned (.int .i64 (cmpN x y)) ∧ w' = w :=
  cmpu_any x y w _ ⟨rfl, rfl⟩

theorem compareInt_nat (x y : Nat) : Lib.compareInt (x : Int) (y : Int) = cmpN x y := by
  unfold Lib.compareInt cmpN
  by_cases h : x < y
  · rw [if_pos h, if_pos (by omega)]
  · rw [if_neg h, if_neg (by omega)]
    by_cases h2 : y < x
    · rw [if_pos h2, if_pos (by omega)]
    · rw [if_neg h2, if_neg (by omega)]

set_option maxRecDepth 100000 in
set_option maxHeartbeats 1000000 in
theorem ncmp_any (va vb : Value) (a b : Nat) (w : World) (ha : IsN w va a) (hb : IsN w vb b) (hla : (dig W64 a).length ≤ 1000000000) (hlb : (dig W64 b).length ≤ 1000000000) (R : Ending → World → Prop)
    (hR : ∀ w', Below w.heap.size w w' → w'.heap.size = w.heap.size → R (.returned (.int .i64 (cmpN a b))) w') :
    Calls Tryz.prog 185 #[va, vb] w R := by
  obtain ⟨aa, na, ca, rfl, ena, hsa⟩ := ha.open
  obtain ⟨ab, nb, cb, rfl, enb, hsb⟩ := hb.open
  obtain ⟨xs, hxs⟩ : ∃ xs, xs = dig W64 a := ⟨_, rfl⟩
  obtain ⟨ys, hys⟩ : ∃ ys, ys = dig W64 b := ⟨_, rfl⟩
  have hx : ∀ d ∈ xs, d < W64 := by rw [hxs]; exact limb_lt _
  have hy : ∀ d ∈ ys, d < W64 := by rw [hys]; exact limb_lt _
  have hvx : val W64 xs = a := by rw [hxs]; exact val_dig W64_two _
  have hvy : val W64 ys = b := by rw [hys]; exact val_dig W64_two _
  have hlt : na < nb → a < b := fun h => lt_of_dig_length (B := W64) W64_two _ _ (by omega)
  have hgt : nb < na → b < a := fun h => lt_of_dig_length (B := W64) W64_two _ _ (by omega)
  unfold IsN at hsa hsb
  rw [← ena] at hla
  rw [← enb] at hlb
  rw [← hxs] at hsa ena
  rw [← hys] at hsb enb
  have HR := Lib.hid hR
  have Ena := Lib.hid ena
  have Enb := Lib.hid enb
  have Hvx := Lib.hid hvx
  have Hvy := Lib.hid hvy
  have Hx := Lib.hid hx
  have Hy := Lib.hid hy
  clear hR hxs hys ena enb hvx hvy ha hb hx hy
  by_cases hne : na = nb
  · obtain rfl := hne
    have e0 : ((na : Int) != (na : Int)) = false := by simp
    clear hlt hgt
    go_enter Tryz.func185, Tryz.ntmps185
    go_wp2
    go_loopw [5] (fun i wr => ∃ k : Nat, k ≤ na ∧ i = .int .i64 ((k : Int) - 1) ∧ xs.drop k = ys.drop k ∧ Below w.heap.size w wr ∧ wr.heap.size = w.heap.size) (fun i _ => (intOf i + 1).toNat)
    case atStart => exact ⟨na, Nat.le_refl _, rfl, by rw [Ena.out, List.drop_length, ← Ena.out, Enb.out, List.drop_length], Below.refl _ _, rfl⟩
    case round =>
      obtain ⟨k, hk, rfl, hdr, hbel, hsz⟩ := hrel
      have Hdr := Lib.hid hdr
      have HBEL := Lib.hid hbel
      have HSZ := Lib.hid hsz
      clear hdr hsz
      by_cases hk0 : k = 0
      · subst hk0
        have hxy : xs = ys := Hdr.out
        have hv : a = b := by rw [← Hvx.out, ← Hvy.out, hxy]
        rw [hv, cmpN_eq] at HR
        clear hv hxy hbel
        go_wp2
        first | go_ret | skip
        exact HR.out _ HBEL.out HSZ.out
      · obtain ⟨j, rfl⟩ : ∃ j, k = j + 1 := ⟨k - 1, by omega⟩
        obtain ⟨b1, o1, rfl, hb1, hc1⟩ := Sl.at hsa j (by omega)
        obtain ⟨b2, o2, rfl, hb2, hc2⟩ := Sl.at hsb j (by omega)
        rw [← hbel.cell (p := ⟨b1, o1 + j, none⟩) hb1] at hc1
        rw [← hbel.cell (p := ⟨b2, o2 + j, none⟩) hb2] at hc2
        obtain ⟨x, hxe⟩ : ∃ x, x = xs.getD j 0 := ⟨_, rfl⟩
        obtain ⟨y, hye⟩ : ∃ y, y = ys.getD j 0 := ⟨_, rfl⟩
        rw [← hxe] at hc1
        rw [← hye] at hc2
        have Hxe := Lib.hid hxe
        have Hye := Lib.hid hye
        have hjn : j < na := by omega
        have hji : (0 : Int) ≤ (j : Int) := by omega
        have hji2 : (j : Int) < (na : Int) := by omega
        clear hxe hye hbel
        have es : ((j + 1 : Nat) : Int) - 1 = (j : Int) := by omega
        rw [es]
        clear es
        by_cases hxy : x = y
        · subst hxy
          have hdr2 : xs.drop j = ys.drop j := by
            have l1 : j < xs.length := by rw [← Ena.out]; exact hjn
            have l2 : j < ys.length := by rw [← Enb.out]; exact hjn
            have d1 : xs.drop j = xs[j] :: xs.drop (j + 1) := List.drop_eq_getElem_cons l1
            have d2 : ys.drop j = ys[j] :: ys.drop (j + 1) := List.drop_eq_getElem_cons l2
            rw [d1, d2, Hdr.out, ← getD_eq l1, ← getD_eq l2, ← Hxe.out, ← Hye.out]
          have Hdr2 := Lib.hid hdr2
          have e1 : ((x : Int) != (x : Int)) = false := by simp
          clear hdr2
          go_wp2
          go_quiet (fail)
          go_wp2
          go_roundw
          case rel => exact ⟨j, by omega, by go_num, Hdr2.out, below_draws HBEL.out _, HSZ.out⟩
          case measure => simp [intOf]
        · have hcm : cmpN a b = cmpN x y := by
            rcases Nat.lt_trichotomy x y with h | h | h
            · rw [cmpN_lt h, cmpN_lt]
              rw [← Hvx.out, ← Hvy.out]
              exact val_lt_at xs ys Hx.out j (by rw [← Ena.out]; exact hjn) (by rw [← Enb.out]; exact hjn) Hdr.out (by rw [← Hxe.out, ← Hye.out]; exact h)
            · exact absurd h hxy
            · rw [cmpN_gt h, cmpN_gt]
              rw [← Hvx.out, ← Hvy.out]
              exact val_lt_at ys xs Hy.out j (by rw [← Enb.out]; exact hjn) (by rw [← Ena.out]; exact hjn) Hdr.out.symm (by rw [← Hxe.out, ← Hye.out]; exact h)
          rw [hcm] at HR
          have e1 : ((x : Int) != (y : Int)) = true := by simp; omega
          clear hcm
          go_wp2
          go_quiet (fail)
          obtain ⟨W, hW⟩ : ∃ W, W = wr.drewN nq := ⟨_, rfl⟩
          rw [← hW]
          have hc3 : W.cell? ⟨b1, o1 + j, none⟩ = some (.int .u64 x) := by rw [hW]; exact hc1
          have hc4 : W.cell? ⟨b2, o2 + j, none⟩ = some (.int .u64 y) := by rw [hW]; exact hc2
          have HB2 : Hid (Below w.heap.size w W) := Lib.hid (by rw [hW]; exact below_draws HBEL.out _)
          have HS2 : Hid (W.heap.size = w.heap.size) := Lib.hid (by rw [hW]; exact HSZ.out)
          clear hc1 hc2 hW
          go_wp2
          go_quiet ((go_at_call 215; exact Calls.quiet_of_same (cmpu_same _ _ _)))
          go_wp2
          first | go_ret | skip
          exact HR.out _ (below_draws HB2.out _) HS2.out
  · have e0 : ((na : Int) != (nb : Int)) = true := by simp; omega
    have hcm : cmpN a b = cmpN na nb := by
      rcases Nat.lt_trichotomy na nb with h | h | h
      · rw [cmpN_lt h, cmpN_lt (hlt h)]
      · exact absurd h hne
      · rw [cmpN_gt h, cmpN_gt (hgt h)]
    rw [hcm, ← compareInt_nat] at HR
    clear hlt hgt hsa hsb hcm
    go_enter Tryz.func185, Tryz.ntmps185
    go_wp2_with (go_at_call 214; refine (Tryz.cmp_Compare_int _ _ _).mono ?_; rintro e w' ⟨rfl, rfl⟩)
    first | go_ret | skip
    exact HR.out _ (Below.refl _ _) rfl
end Go.Proofs.YtnfehccicnpbpaaGreatDoor

namespace Go.Proofs.YtnfehccicnpbpaaGreatDoor
open Go Go.RowKit

theorem IsN.op {w : World} {v : Value} {n : Nat} (h : IsN w v n) : ∃ ao k cap, v = .slice ao k cap ∧ IsN w (.slice ao k cap) n := by
  obtain ⟨ao, k, cap, h1, _, h2⟩ := h.open
  exact ⟨ao, k, cap, h1, h2⟩

theorem IsN.nil (w : World) : IsN w (.slice none 0 0) 0 := by
  show Sl _ _ _ (dig W64 0)
  rw [dig_zero]; exact Sl.nil _ _ _ _

set_option maxRecDepth 100000 in
set_option maxHeartbeats 1000000 in
theorem divide_less (va vb : Value) (a b : Nat) (w : World) (ha : IsN w va a) (hb : IsN w vb b) (hla : (dig W64 a).length ≤ 10000000) (hlb : (dig W64 b).length ≤ 10000000) (hlt : a < b) (R : Ending → World → Prop)
    (hR : ∀ v1 v2 w', IsN w' v1 (a / b) → IsN w' v2 (a % b) → Below w.heap.size w w' → R (.returned (.tuple #[v1, v2])) w') :
    Calls Tryz.prog 150 #[va, vb] w R := by
  have HR := Lib.hid hR; clear hR
  have HLT := Lib.hid hlt
  clear hlt
  obtain ⟨aa, na, ca, rfl, ha'⟩ := ha.op
  obtain ⟨ab, nb, cb, rfl, hb'⟩ := hb.op
  have HA := Lib.hid ha'
  have HLA := Lib.hid hla
  have HLB := Lib.hid hlb
  clear hla hlb
  go_enter Tryz.func150, Tryz.ntmps150
  go_wp2_with fail
  refine ncmp_any _ _ a b _ ha hb (by have := HLA.out; omega) (by have := HLB.out; omega) _ ?_
  rw [cmpN_lt HLT.out]
  intro w1 hb1 _
  have HB := Lib.hid hb1
  clear ha hb ha' hb' hb1
  dsimp only
  go_wp2
  first | go_ret | skip
  have h1 : a / b = 0 := Nat.div_eq_of_lt HLT.out
  have h2 : a % b = a := Nat.mod_eq_of_lt HLT.out
  exact HR.out _ _ _ (by rw [h1]; exact IsN.nil _) (by rw [h2]; exact HA.out.later HB.out (Nat.le_refl _)) HB.out

set_option maxRecDepth 100000 in
set_option maxHeartbeats 1000000 in
theorem divide_one (va vb : Value) (a b : Nat) (w : World) (ha : IsN w va a) (hb : IsN w vb b) (hla : (dig W64 a).length ≤ 10000000) (hlb : (dig W64 b).length = 1) (hle : b ≤ a) (R : Ending → World → Prop)
    (hR : ∀ v1 v2 w', IsN w' v1 (a / b) → IsN w' v2 (a % b) → Below w.heap.size w w' → R (.returned (.tuple #[v1, v2])) w') :
    Calls Tryz.prog 150 #[va, vb] w R := by
  have HR := Lib.hid hR; clear hR
  obtain ⟨x, hx⟩ := List.length_eq_one_iff.1 hlb
  have hbx := dig_one W64_two b x hx
  subst hbx
  have hxw : b < W64 := limb_lt b b (by rw [hx]; simp)
  have hx0 : b ≠ 0 := by intro h; subst h; rw [dig_zero] at hx; cases hx
  obtain ⟨aa, na, ca, rfl, ha'⟩ := ha.op
  obtain ⟨ab, nb, cb, rfl, hnb, hb'⟩ := hb.open
  rw [hlb] at hnb
  subst hnb
  obtain ⟨bk, o, rfl, hbk, hc⟩ := Sl.at hb' 0 (by omega)
  rw [hx, Nat.add_zero] at hc
  have hc2 : w.cell? ⟨bk, o, none⟩ = some (.int .u64 (b : Int)) := hc
  have HA := Lib.hid ha'
  have HXW := Lib.hid hxw
  have HX0 := Lib.hid hx0
  have hcm : ¬ (cmpN a b < 0) := by unfold cmpN; rw [if_neg (by omega)]; split <;> omega
  obtain ⟨cm, hcmp⟩ : ∃ cm, cm = cmpN a b := ⟨_, rfl⟩
  rw [← hcmp] at hcm
  have HCM := Lib.hid hcmp
  have HLA := Lib.hid hla
  clear hc hcmp hx hlb hle hxw hx0 hla
  go_enter Tryz.func150, Tryz.ntmps150
  go_wp2_with fail
  refine ncmp_any _ _ a b _ ha hb (by have := HLA.out; omega) (by have := dig_length_le W64_two 1 b (by rw [Nat.pow_one]; exact HXW.out); omega) _ ?_
  rw [← HCM.out]
  intro w1 hb1 hs1
  rw [← hb1.cell (p := ⟨bk, o, none⟩) hbk] at hc2
  have HB := Lib.hid hb1
  clear ha hb ha' hb' hb1 hs1
  dsimp only
  go_wp2_with fail
  refine divs_any _ a b _ (HA.out.later HB.out (Nat.le_refl _)) (by have := HX0.out; omega) HXW.out (by have := HLA.out; omega) _ ?_
  intro v1 w2 hv1 hb2
  obtain ⟨a1, n1, c1, rfl, hv1'⟩ := hv1.op
  have HV1 := Lib.hid hv1'
  have HB2 := Lib.hid (HB.out.trans (hb2.mono HB.out.size))
  obtain ⟨r, hr⟩ : ∃ r, r = a % b := ⟨_, rfl⟩
  rw [← hr]
  have hrw : r < W64 := by rw [hr]; exact Nat.lt_trans (Nat.mod_lt _ (by have := HX0.out; omega)) HXW.out
  have HRM := Lib.hid hr
  have HRW := Lib.hid hrw
  clear hv1 hv1' hb2 hr hrw hc2
  dsimp only
  go_wp2_with fail
  refine trimmed_any _ [r] _ (Own.lit1 .u64 61 w2 0 r _ rfl (Nat.zero_le _)).sl (by intro d hd; simp at hd; rw [hd]; exact HRW.out) (by simp) _ ?_
  intro v2 hv2 _
  obtain ⟨a2, n2, c2, rfl, hv2'⟩ := hv2.op
  have hvr : val W64 [r] = r := by simp [val]
  have HV2 := Lib.hid hv2'
  have HVR := Lib.hid hvr
  clear hv2 hv2' hvr
  dsimp only
  go_wp2
  first | go_ret | skip
  refine HR.out _ _ _ (HV1.out.later ((Below.refl _ _).alloc (Nat.le_refl _) _) (Nat.le_refl _)) ?_ (HB2.out.alloc HB2.out.size _)
  have hv := HV2.out
  rw [HVR.out] at hv
  rw [← HRM.out]
  exact hv
end Go.Proofs.YtnfehccicnpbpaaGreatDoor

namespace Go.Proofs.YtnfehccicnpbpaaGreatDoor
open Go Go.RowKit

set_option maxRecDepth 100000 in
set_option maxHeartbeats 2000000 in
theorem divide_big (va vb : Value) (a b : Nat) (w : World) (ha : IsN w va a) (hb : IsN w vb b) (hla : (dig W64 a).length ≤ 10000000) (hlb : 2 ≤ (dig W64 b).length) (hle : b ≤ a) (R : Ending → World → Prop)
    (hR : ∀ v1 v2 w', IsN w' v1 (a / b) → IsN w' v2 (a % b) → Below w.heap.size w w' → R (.returned (.tuple #[v1, v2])) w') :
    Calls Tryz.prog 150 #[va, vb] w R := by
  have HR := Lib.hid hR; clear hR
  have hb0 : b ≠ 0 := by intro h; subst h; rw [dig_zero] at hlb; simp at hlb
  have hnn : (dig W64 b).length ≤ (dig W64 a).length := dig_length_mono' W64_two hle
  obtain ⟨aa, la, ca, rfl, hlae, ha'⟩ := ha.open
  obtain ⟨ab, n, cb, rfl, hne, hb'⟩ := hb.open
  rw [← hlae] at hla hnn
  rw [← hne] at hlb hnn
  have htop := top_pos (B := W64) (n := b) W64_two hb0
  rw [← hne] at htop
  obtain ⟨d, hd⟩ : ∃ d, d = (dig W64 b).getD (n - 1) 0 := ⟨_, rfl⟩
  rw [← hd] at htop
  have hdw : d < W64 := by rw [hd]; exact getD_lt (by rw [W64_eq]; omega) _ (limb_lt b) _
  obtain ⟨s, hs64, hs, hn1, hn2⟩ := lead_spec d htop hdw
  have hslen := shifted_len b s hb0 (by rw [← hne, ← hd]; exact hn2) (by omega)
  rw [← hne] at hslen
  obtain ⟨bk, o, rfl, hbk, hc⟩ := Sl.at hb' (n - 1) (by omega)
  rw [← hd] at hc
  have hcm : ¬ (cmpN a b < 0) := by unfold cmpN; rw [if_neg (by omega)]; split <;> omega
  obtain ⟨cm, hcmp⟩ : ∃ cm, cm = cmpN a b := ⟨_, rfl⟩
  rw [← hcmp] at hcm
  have HCM := Lib.hid hcmp
  have HA := Lib.hid ha'
  have HBB := Lib.hid hb'
  have HLA := Lib.hid hlae
  have HNE := Lib.hid hne
  have HS := Lib.hid hs
  have HSL := Lib.hid hslen
  have HD := Lib.hid hd
  have hn1e : ((n : Int) == 1) = false := by simp; omega
  have hd1 : (0 : Int) ≤ (d : Int) := by omega
  have hd2 : (d : Int) ≤ 18446744073709551615 := by rw [W64_eq] at hdw; omega
  have hi1 : (0 : Int) ≤ (n : Int) - 1 := by omega
  have hi2 : (n : Int) - 1 < (n : Int) := by omega
  have hi3 : ((n : Int) - 1).toNat = n - 1 := by omega
  have HB0 := Lib.hid hb0
  clear hcmp ha' hb' hlae hne hs hslen hd hn1 hn2 htop hdw hle hb0
  go_enter Tryz.func150, Tryz.ntmps150
  go_wp2_with fail
  refine ncmp_any _ _ a b _ ha hb (by rw [← HLA.out]; omega) (by rw [← HNE.out]; omega) _ ?_
  rw [← HCM.out]
  intro w1 hb1 hs1
  rw [← hb1.cell (p := ⟨bk, o + (n - 1), none⟩) hbk] at hc
  have HB := Lib.hid hb1
  have HS1 := Lib.hid hs1
  clear ha hb hb1 hs1
  dsimp only
  go_wp2_with fail
  refine (Tryz.bits_LeadingZeros64 (d : Int) _ hd1 hd2).mono ?_
  rintro e w2 ⟨rfl, rfl⟩
  rw [HS.out]
  dsimp only
  go_wp2_with fail
  refine up_any _ a s _ (HA.out.later HB.out (Nat.le_refl _)) hs64 (by rw [← HLA.out]; omega) _ ?_
  rw [← HLA.out]
  intro rs W1 hA1 hl1 hlt1 hv1 hbW1 hsW1
  have HB1 := Lib.hid (HB.out.trans (hbW1.mono HB.out.size))
  obtain ⟨g1, hg1⟩ : ∃ g1, g1 = w2.heap.size := ⟨_, rfl⟩
  have hg1w : w.heap.size ≤ g1 := by rw [hg1]; exact HB.out.size
  rw [← hg1] at hA1 hsW1 ⊢
  have HA1 := Lib.hid hA1
  have HL1 := Lib.hid hl1
  have HLT1 := Lib.hid hlt1
  have HV1 := Lib.hid hv1
  have HSW1 := Lib.hid hsW1
  clear hA1 hl1 hlt1 hv1 hbW1 hsW1 hg1 hc
  dsimp only
  go_wp2_with fail
  refine up_any _ b s _ (HBB.out.later HB1.out (Nat.le_refl _)) hs64 (by rw [← HNE.out]; omega) _ ?_
  rw [← HNE.out]
  intro ds W2 hA2 hl2 hlt2 hv2 hbW2 hsW2
  have HB2 := Lib.hid (HB1.out.trans (hbW2.mono HB1.out.size))
  have HA1b := Lib.hid (HA1.out.later hbW2 HA1.out.lt)
  obtain ⟨g2, hg2⟩ : ∃ g2, g2 = W1.heap.size := ⟨_, rfl⟩
  have hg2w : w.heap.size ≤ g2 := by rw [hg2]; exact HB1.out.size
  have hg12 : g1 < g2 := by rw [hg2]; exact HA1.out.lt
  rw [← hg2] at hA2 hsW2 ⊢
  have HSW2 := Lib.hid hsW2
  clear hbW2 hsW2 hg2 HA1
  dsimp only
  go_wp2_with fail
  refine trimmed_any _ ds _ (hA2.sl _ _ (by rw [hl2]) (Nat.le_refl _)) hlt2 (by rw [hl2]; omega) _ ?_
  intro dv hdv hblk
  rw [hv2] at hdv
  obtain ⟨ad, nd, cd, rfl, hnd, hdv'⟩ := hdv.open
  have hndn : nd = n := by rw [hnd]; exact HSL.out
  clear hnd
  subst hndn
  have HDV := Lib.hid hdv'
  have HBLK : Hid (blk (.slice ad nd cd) = some g2) := Lib.hid hblk
  have HA2 := Lib.hid hA2
  clear hA2 hl2 hlt2 hv2 hdv hdv' hblk
  dsimp only
  have hLi : (la : Int) - (nd : Int) + 1 = ((la - nd + 1 : Nat) : Int) := by omega
  obtain ⟨L, hL⟩ : ∃ L, L = la - nd + 1 := ⟨_, rfl⟩
  rw [← hL] at hLi
  have HL := Lib.hid hL
  have hLb : L ≤ 10000001 := by omega
  clear hL
  go_wp2_with (at_make; go_must (refine wpList_makez _ rfl (.tmp 52) 63 rfl 61 .u64 8 Tryz.underlying63 info_u64 (by omega) .i64 _ L rfl (by omega) (by omega) ?_))
  intro W3 hA3 hbW3 hsW3
  have hsz2 : w.heap.size ≤ W2.heap.size := HB2.out.size
  have hg3w : w.heap.size ≤ W2.heap.size := hsz2
  have hD0 : 0 < 2 ^ s * b := Nat.mul_pos (Nat.pow_pos (by omega)) (by have := HB0.out; omega)
  have hDn : 2 ^ s * b < W64 ^ nd := by have := lt_pow_dig W64_two (2 ^ s * b); rwa [HSL.out] at this
  have hst : DivRel w g1 W2.heap.size la nd (2 ^ s * b) (2 ^ s * a) (.slice ad nd cd) (.int .i64 ((L : Int) - 1)) W3 := by
    refine ⟨L, rs, _, rfl, by rw [HL.out]; exact Nat.le_refl _, HA1b.out.later hbW3 HA1b.out.lt, HL1.out, HLT1.out, hA3, by rw [List.length_replicate]; exact HL.out, zeros_lt W64_two _, ?_, ?_, HDV.out.later hbW3 (Nat.le_refl _), HB2.out.trans (hbW3.mono hsz2)⟩
    · rw [List.drop_eq_nil_of_le (by rw [List.length_replicate]; exact Nat.le_refl _), HV1.out]; simp [val]
    · rw [HL.out]
      exact div_start a b la nd s rs HB0.out HLA.out HNE.out hnn HL1.out HV1.out
  have HST := Lib.hid hst
  obtain ⟨g3, hg3⟩ : ∃ g3, g3 = W2.heap.size := ⟨_, rfl⟩
  have hg13 : g1 ≠ g3 := by rw [hg3]; have := HA1b.out.lt; omega
  have hg23 : g2 ≠ g3 := by rw [hg3]; have := HA2.out.lt; omega
  rw [← hg3] at HST hg3w ⊢
  have HD0 := Lib.hid hD0
  have HDN := Lib.hid hDn
  have hnl : nd ≤ la := hnn
  obtain ⟨D, hD⟩ : ∃ D, D = 2 ^ s * b := ⟨_, rfl⟩
  obtain ⟨A, hA⟩ : ∃ A, A = 2 ^ s * a := ⟨_, rfl⟩
  rw [← hD, ← hA] at HST
  rw [← hD] at HD0 HDN HSL
  have HDD := Lib.hid hD
  have HAA := Lib.hid hA
  have hL1 : L = la - nd + 1 := HL.out
  have hLle : (L : Int) + (nd : Int) = (la : Int) + 1 := by omega
  clear hst hA3 hbW3 hsW3 HA1b HA2 hsz2 hg3 hD0 hDn hD hA hL1 hLi HL1 HLT1 HV1
  go_wp2
  go_loopw [12] (fun i wr => DivRel w g1 g3 la nd D A (.slice ad nd cd) i wr) (fun i _ => (intOf i + 1).toNat)
  case atStart => exact HST.out
  case round =>
    clear HST
    obtain ⟨k, rs, qs, rfl, hk, hA1, hl1, hlt1, hA3, hl3, hlt3, hv, hr, hsl, hbel⟩ := hrel
    have HA1 := Lib.hid hA1
    have HL1 := Lib.hid hl1
    have HLT1 := Lib.hid hlt1
    have HA3 := Lib.hid hA3
    have HL3 := Lib.hid hl3
    have HLT3 := Lib.hid hlt3
    have HV := Lib.hid hv
    have HRD := Lib.hid hr
    have HSD := Lib.hid hsl
    have HBL := Lib.hid hbel
    have hkL : k ≤ L := by rw [HL.out]; exact hk
    clear hk hA1 hl1 hlt1 hl3 hlt3 hv hr hsl hbel
    by_cases hk0 : k = 0
    · subst hk0
      have hend := div_end a b s (val W64 rs) (val W64 qs) HB0.out (by have h := HV.out; rw [List.drop_zero, Nat.pow_zero, Nat.one_mul, HDD.out, HAA.out] at h; exact h) (by have h := HRD.out; rw [List.drop_zero, HDD.out] at h; exact h)
      have HEND := Lib.hid hend
      clear hend
      go_wp2_with fail
      refine trimmed_any _ qs _ (hA3.sl _ _ (by rw [HL3.out, HL.out]) (Nat.le_refl _)) HLT3.out (by rw [HL3.out]; omega) _ ?_
      intro v1 hv1 _
      rw [HEND.out.1] at hv1
      obtain ⟨a1, n1, c1, rfl, hv1'⟩ := hv1.op
      have HV1 := Lib.hid hv1'
      clear hv1 hv1' hA3
      dsimp only
      go_wp2_with fail
      refine down_any _ rs s _ (HA1.out.sl (la + 1) (la + 1) (by rw [HL1.out]) (Nat.le_refl _)) HLT1.out hs64 (by rw [HL1.out]; omega) _ ?_
      rw [HL1.out]
      intro cur W4 hA4 hl4 hlt4 hv4 hbW4 hsW4
      rw [HEND.out.2] at hv4
      have HB4 := Lib.hid hbW4
      clear hbW4 hsW4
      dsimp only
      go_wp2_with fail
      refine trimmed_any _ cur _ (hA4.sl _ _ (by rw [hl4]) (Nat.le_refl _)) hlt4 (by rw [hl4]; omega) _ ?_
      intro v2 hv2 _
      rw [hv4] at hv2
      obtain ⟨a2, n2, c2, rfl, hv2'⟩ := hv2.op
      have HV2 := Lib.hid hv2'
      clear hv2 hv2' hA4 hl4 hlt4 hv4
      dsimp only
      go_wp2
      first | go_ret | skip
      exact HR.out _ _ _ (HV1.out.later HB4.out (Nat.le_refl _)) HV2.out (HBL.out.trans (HB4.out.mono HBL.out.size))
    · obtain ⟨i, rfl⟩ : ∃ i, k = i + 1 := ⟨k - 1, by omega⟩
      have es : ((i + 1 : Nat) : Int) - 1 = (i : Int) := by omega
      rw [es]
      have hiL : (i : Int) < (L : Int) := by omega
      have hii : (0 : Int) ≤ (i : Int) := by omega
      have hin : (i : Int) + (nd : Int) + 1 ≤ (la : Int) + 1 := by omega
      have hii2 : (i : Int) ≤ (i : Int) + (nd : Int) + 1 := by omega
      have hfz := hA3.frozen i
      have hcz := hA3.cell i (by rw [HL3.out, ← HL.out]; omega)
      clear es hk0
      have hdw := drop_win rs i nd D (by rw [HL1.out]; have := HL.out; omega) HDN.out HLT1.out HRD.out
      obtain ⟨q, hq⟩ : ∃ q, q = win rs i nd / D := ⟨_, rfl⟩
      have hqw : q < W64 := by
        rw [hq, Nat.div_lt_iff_lt_mul HD0.out, ← hdw.1]; exact hdw.2
      have hne1 : 0 < (dig W64 D).length → blk (.slice ad nd cd) ≠ some g1 := fun _ e => by rw [HBLK.out] at e; simp at e; omega
      have hne3 : 0 < (dig W64 D).length → blk (.slice ad nd cd) ≠ some g3 := fun _ e => by rw [HBLK.out] at e; simp at e; omega
      have htp : 0 < (dig W64 D).getD (nd - 1) 0 := by
        have := top_pos (B := W64) (n := D) W64_two (by have := HD0.out; omega)
        rwa [HSL.out] at this
      have hq2 : q = win rs i nd / val W64 (dig W64 D) := by rw [val_dig W64_two]; exact hq
      have HQ := Lib.hid hq
      have HQ2 := Lib.hid hq2
      have HQW := Lib.hid hqw
      have HN1 := Lib.hid hne1
      have HN3 := Lib.hid hne3
      have HTP := Lib.hid htp
      clear hdw hq hq2 hqw hne1 hne3 htp
      go_wp2_with fail
      rw [show i + nd + 1 - i = nd + 1 by omega]
      refine takem_any g1 i nd (la + 1 - i) rs (dig W64 D) ad cd wr HA1.out HSD.out HN1.out (by omega) HSL.out (by rw [HL1.out]; omega) HLT1.out (limb_lt D) (by rw [HL1.out]; omega) HTP.out q HQ2.out HQW.out _ ?_
      intro cur W4 hc1 hc2 hc3 hc4 hc5 hc6 hc7 hc8
      rw [val_dig W64_two] at hc6
      have hrel := div_rel w wr W4 g1 g3 la nd D A i q (.slice ad nd cd) rs qs cur (by rw [← HL.out]; omega) (by omega) hnl HL1.out HLT1.out HA3.out HL3.out HLT3.out HV.out HRD.out HSD.out HN1.out HN3.out HBL.out HDN.out HD0.out HQ.out HQW.out hc1 hc2 hc3 hc4 hc6 hc7 hg13 hg1w hg3w HBL.out.size
      have hA3' := HA3.out.but hc7 (fun e => hg13 e.symm)
      have hcz' := hA3'.cell i (by rw [HL3.out, ← HL.out]; omega)
      have hfz' := hA3'.frozen i
      have HREL := Lib.hid hrel
      clear hc1 hc2 hc3 hc4 hc5 hc6 hc7 hc8 hrel hA3' hfz hcz hA3
      dsimp only
      go_wp2
      go_roundw
      case rel => exact HREL.out
      case measure => simp [intOf]

theorem divide_any (va vb : Value) (a b : Nat) (w : World) (ha : IsN w va a) (hb : IsN w vb b) (hla : (dig W64 a).length ≤ 10000000) (hlb : (dig W64 b).length ≤ 10000000) (hb0 : b ≠ 0) (R : Ending → World → Prop)
    (hR : ∀ v1 v2 w', IsN w' v1 (a / b) → IsN w' v2 (a % b) → Below w.heap.size w w' → R (.returned (.tuple #[v1, v2])) w') :
    Calls Tryz.prog 150 #[va, vb] w R := by
  by_cases h : a < b
  · exact divide_less va vb a b w ha hb hla hlb h R hR
  · have h3 : (dig W64 b).length ≠ 0 := fun e => hb0 ((dig_eq_nil W64_two).1 (List.length_eq_zero_iff.1 e))
    by_cases h1 : (dig W64 b).length = 1
    · exact divide_one va vb a b w ha hb hla h1 (by omega) R hR
    · exact divide_big va vb a b w ha hb hla (by omega) (by omega) R hR

end Go.Proofs.YtnfehccicnpbpaaGreatDoor
