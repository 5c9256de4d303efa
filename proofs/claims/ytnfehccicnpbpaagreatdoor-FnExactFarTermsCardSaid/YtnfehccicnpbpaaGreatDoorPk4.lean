/- Contracts of functions of the program and of the model: MulWalk, Div, DivWalk, DivMain, Gcd, Q, Make, MulQ0, Of, OfDig, OfW, Digits. -/
import Derived.Test.YtnfehccicnpbpaaGreatDoorPk3
import Derived.Deep.RegionHeld3
import Derived.Deep.RegionLaw
import Derived.Deep.DeepCutAuto
import Derived.Laws.RangeAny
import Derived.Lib.Strings
import Derived.Laws.BytesString
set_option linter.all false
set_option linter.unusedVariables false
set_option linter.unusedSimpArgs false
set_option linter.unnecessarySimpa false
set_option linter.deprecated false
namespace Go.Proofs.YtnfehccicnpbpaaGreatDoor
open Go Go.RowKit

set_option maxRecDepth 100000 in
set_option maxHeartbeats 2000000 in
theorem zmul_any (va vb : Value) (a b : Int) (w : World) (ha : IsZ w va a) (hb : IsZ w vb b) (hla : (dig 10000 a.natAbs).length ≤ 10000000) (hlb : (dig 10000 b.natAbs).length ≤ 10000000) (R : Ending → World → Prop)
    (hR : ∀ v w', IsZ w' v (a * b) → Below w.heap.size w w' → R (.returned v) w') :
    Calls Tryz.prog 209 #[va, vb] w R := by
  have HR := Lib.hid hR; clear hR
  obtain ⟨aa, na, ca, rfl, ena, hsa⟩ := ha.open
  obtain ⟨ab, nb, cb, rfl, enb, hsb⟩ := hb.open
  obtain ⟨xs, hxs⟩ : ∃ xs, xs = dig 10000 a.natAbs := ⟨_, rfl⟩
  obtain ⟨ys, hys⟩ : ∃ ys, ys = dig 10000 b.natAbs := ⟨_, rfl⟩
  have hx : ∀ d ∈ xs, d < 10000 := by rw [hxs]; exact dig_lt (by omega) _
  have hy : ∀ d ∈ ys, d < 10000 := by rw [hys]; exact dig_lt (by omega) _
  have hvx : val 10000 xs = a.natAbs := by rw [hxs]; exact val_dig (by omega) _
  have hvy : val 10000 ys = b.natAbs := by rw [hys]; exact val_dig (by omega) _
  rw [← ena] at hla
  rw [← enb] at hlb
  rw [← hxs] at hsa ena
  rw [← hys] at hsb enb
  obtain ⟨nega, hnega⟩ : ∃ x, x = decide (a < 0) := ⟨_, rfl⟩
  obtain ⟨negb, hnegb⟩ : ∃ x, x = decide (b < 0) := ⟨_, rfl⟩
  have hz : a * b = if (nega != negb) = true then -((a.natAbs * b.natAbs : Nat) : Int) else ((a.natAbs * b.natAbs : Nat) : Int) := by
    rw [hnega, hnegb]; exact mul_sign a b
  rw [← hnega, ← hnegb]
  have Ena := Lib.hid ena
  have Enb := Lib.hid enb
  have Hvx := Lib.hid hvx
  have Hvy := Lib.hid hvy
  have Hx := Lib.hid hx
  have Hy := Lib.hid hy
  have Hz := Lib.hid hz
  have B0 := ((Box2.made w (.bool nega) (.slice aa na ca) 114).alloc (.cells #[.bool negb, .slice ab nb cb] 114)).alloc (.cells #[.bool false, .slice none 0 0] 114)
  have B1 := (Box2.made (w.alloc (.cells #[.bool nega, .slice aa na ca] 114)) (.bool negb) (.slice ab nb cb) 114).alloc (.cells #[.bool false, .slice none 0 0] 114)
  have B2 := Box2.made ((w.alloc (.cells #[.bool nega, .slice aa na ca] 114)).alloc (.cells #[.bool negb, .slice ab nb cb] 114)) (.bool false) (.slice none 0 0) 114
  simp only [World.size_alloc] at B0 B1 B2
  have HEXT := Lib.hid ((((Below.refl w.heap.size w).alloc (Nat.le_refl _) (.cells #[.bool nega, .slice aa na ca] 114)).alloc (by simp) (.cells #[.bool negb, .slice ab nb cb] 114)).alloc (by simp; omega) (.cells #[.bool false, .slice none 0 0] 114))
  clear hnega hnegb hxs hys ena enb hvx hvy ha hb hx hy hz
  go_enter Tryz.func209, Tryz.ntmps209
  go_wp2_with (at_make; go_must (refine wpList_makez _ rfl (.tmp 16) 32 rfl 2 .i64 8 Tryz.underlying32 info_i64 (by omega) .i64 (↑na + ↑nb + 1) (na + nb + 1) rfl (by omega) (by omega) ?_))
  intro w0 harr0 hbw0 hsz0
  have b0 := B0.later hbw0 (by omega)
  have b1 := B1.later hbw0 (by omega)
  have b2 := B2.later hbw0 (by omega)
  have hbel0 : Below w.heap.size w w0 := HEXT.out.trans (hbw0.mono (by omega))
  obtain ⟨hA0, hA1, _, _⟩ := b0.cells
  obtain ⟨hB0, hB1, _, _⟩ := b1.cells
  clear B0 B1 B2 hbw0
  go_wp2
  go_loopw [6] (fun i wr => MulOut w xs ys na nb (.bool nega) (.slice aa na ca) (.bool negb) (.slice ab nb cb) (.bool false) (.slice none 0 0) i wr) (fun i _ => na - (intOf i).toNat)
  case atStart =>
    exact ⟨List.replicate (na + nb + 1) 0, 0, rfl, by omega, by simp, fun x hx => by rw [(List.mem_replicate.1 hx).2]; omega, by
      have : ∀ n, val 10000 (List.replicate n 0) = 0 := fun n => by induction n with
        | zero => rfl
        | succ n ih => rw [List.replicate_succ, val, ih]
      rw [this]; simp [val], harr0, hbel0, b0, b1, b2⟩
  case round =>
    clear hA0 hA1 hB0 hB1
    obtain ⟨D, i, rfl, hi, hdl, hd, hval, harr, hbel, hb0, hb1, hb2⟩ := hrel
    have hsz := hbel.size
    have hlt2 := harr.lt
    obtain ⟨hA0, hA1, _, _⟩ := hb0.cells
    obtain ⟨hB0, hB1, _, _⟩ := hb1.cells
    have Hval := Lib.hid hval
    have Hd := Lib.hid hd
    have Hdl := Lib.hid hdl
    have HBEL := Lib.hid hbel
    clear hval hd hdl b0 b1 b2 hbel0 harr0 hsz0
    by_cases hia : i < na
    · obtain ⟨p1, o1, rfl, hp1, hc1⟩ := hsa.at i hia
      obtain ⟨x, hxe⟩ : ∃ x, x = xs.getD i 0 := ⟨_, rfl⟩
      rw [← hxe] at hc1
      have hxl : x < 10000 := by rw [hxe]; exact getD_lt (by omega) _ Hx.out _
      have htk : val 10000 (xs.take (i + 1)) = val 10000 (xs.take i) + 10000 ^ i * x := by
        rw [List.take_succ_eq_append_getElem (by rw [← Ena.out]; exact hia), val_snoc, List.length_take, Nat.min_eq_left (by rw [← Ena.out]; omega), hxe, getD_eq (by rw [← Ena.out]; exact hia)]
      obtain ⟨T, hT⟩ : ∃ T, T = val 10000 (xs.take (i + 1)) * val 10000 ys := ⟨_, rfl⟩
      have hTlt : T < 10000 ^ (i + 1 + nb) := by
        have l1 := val_lt (xs.take (i + 1)) (fun d hd => Hx.out d (List.mem_of_mem_take hd))
        have l2 := val_lt ys Hy.out
        rw [List.length_take, Nat.min_eq_left (by rw [← Ena.out]; omega)] at l1
        rw [← Enb.out] at l2
        rw [hT, Nat.pow_add]
        exact Nat.mul_lt_mul'' l1 l2
      have hT0 : val 10000 D + 10000 ^ (i + 0) * (0 + x * val 10000 (ys.drop 0)) = T := by
        rw [hT, htk, Hval.out, Nat.add_mul, Nat.add_zero, Nat.zero_add, List.drop_zero, Nat.mul_assoc]
      have HT := Lib.hid hT
      have HTlt := Lib.hid hTlt
      have HT0 := Lib.hid hT0
      clear hxe htk hT hTlt hT0
      obtain ⟨wo, hwo⟩ : ∃ wo : World, wo = wr := ⟨_, rfl⟩
      subst hwo
      go_wp2
      go_loopw [7, 8] (fun c q wq => MulIn w ys na nb i x T (.bool nega) (.slice (some ⟨p1, o1, none⟩) na ca) (.bool negb) (.slice ab nb cb) (.bool false) (.slice none 0 0) c q wq) (fun _ q _ => nb + 2 - (intOf q).toNat)
      case atStart => exact ⟨D, 0, 0, rfl, rfl, by omega, by omega, fun h => by omega, Hdl.out, Hd.out, HT0.out, harr, HBEL.out, hb0, hb1, hb2⟩
      case round =>
        clear hA0 hA1 hB0 hB1 hb0 hb1 hb2 harr hlt2 hbel hsz
        obtain ⟨D, cy, k, rfl, rfl, hcy, hk, hkc, hdl, hd, hval, harr, hbel, hb0, hb1, hb2⟩ := hrel
        have hlt2 := harr.lt
        obtain ⟨hA0, hA1, _, _⟩ := hb0.cells
        obtain ⟨hB0, hB1, _, _⟩ := hb1.cells
        have hcx := hc1
        rw [← hbel.cell (p := ⟨p1, o1 + i, none⟩) hp1] at hcx
        have Hvali := Lib.hid hval
        have Hdi := Lib.hid hd
        have Hdli := Lib.hid hdl
        have HBELi := Lib.hid hbel
        clear hval hd
        by_cases hkb : k < nb
        · obtain ⟨p2, o2, rfl, hp2, hc2⟩ := hsb.at k hkb
          rw [← hbel.cell (p := ⟨p2, o2 + k, none⟩) hp2] at hc2
          obtain ⟨y, hye⟩ : ∃ y, y = ys.getD k 0 := ⟨_, rfl⟩
          rw [← hye] at hc2
          have hyl : y < 10000 := by rw [hye]; exact getD_lt (by omega) _ Hy.out _
          have hdy : val 10000 (ys.drop k) = y + 10000 * val 10000 (ys.drop (k + 1)) := by rw [hye]; exact val_drop _ _ _ (by rw [← Enb.out]; exact hkb)
          have Hdy := Lib.hid hdy
          obtain ⟨dv, hdv⟩ : ∃ dv, dv = D.getD (i + k) 0 := ⟨_, rfl⟩
          have hcd := harr.cell (i + k) (by omega)
          have hfd := harr.frozen (i + k)
          rw [← hdv] at hcd
          have hdvl : dv < 10000 := by rw [hdv]; exact getD_lt (by omega) _ Hdi.out _
          have Hdv := Lib.hid hdv
          have hxy0 : (0 : Int) ≤ (x : Int) * (y : Int) := Int.mul_nonneg (by omega) (by omega)
          have hxy1 : (x : Int) * (y : Int) ≤ 99980001 := by
            have h1 : x * y ≤ 9999 * 9999 := Nat.mul_le_mul (by omega) (by omega)
            have h2 : ((x * y : Nat) : Int) ≤ 99980001 := by omega
            rwa [Int.natCast_mul] at h2
          have hk0 : (0 : Int) ≤ (k : Int) := by omega
          have hk1 : (k : Int) < (nb : Int) := by omega
          have hi0 : (0 : Int) ≤ (i : Int) := by omega
          have hi1 : (i : Int) < (na : Int) := by omega
          clear hye hdy hbel hdv hdl
          have hq1 : (0 : Int) ≤ (cy : Int) + (dv : Int) + (x : Int) * (y : Int) := by omega
          have hw1 : IntKind.i64.wrap ((x : Int) * (y : Int)) = (x : Int) * (y : Int) := IntWalk.i64_in _ (by omega)
          have hw2 : IntKind.i64.wrap ((cy : Int) + (dv : Int) + (x : Int) * (y : Int)) = (cy : Int) + (dv : Int) + (x : Int) * (y : Int) := IntWalk.i64_in _ (by omega)
          have HW1 := Lib.hid hw1
          have HW2 := Lib.hid hw2
          clear hw1 hw2
          go_wp2
          have hw1 := HW1.out
          have hw2 := HW2.out
          go_quiet (fail)
          clear hw1 hw2 HW1 HW2
          go_wp2
          go_roundw
          case rel => exact mul_rel w wr ys D na nb i x T cy k y dv _ _ _ _ _ _ _ _ _ _ hxl hyl hcy (by omega) hia Hdli.out Hdi.out Hdv.out Enb.out.symm Hdy.out Hvali.out HTlt.out (by push_cast; omega) (by omega) (by push_cast; omega) harr HBELi.out hb0 hb1 hb2
          case measure => simp [intOf] <;> omega
        · have hdy0 : val 10000 (ys.drop k) = 0 := val_drop_all _ _ _ (by rw [← Enb.out]; omega)
          have Hdy := Lib.hid (show val 10000 (ys.drop k) = 0 + 10000 * val 10000 (ys.drop (k + 1)) by rw [hdy0, val_drop_all _ _ _ (by rw [← Enb.out]; omega)])
          by_cases hc0 : cy = 0
          · subst hc0
            have hvD : val 10000 D = T := by have := Hvali.out; rw [hdy0] at this; simpa using this
            have HvD := Lib.hid hvD
            clear hdy0 hvD hbel
            go_wp2
            go_roundw
            case rel => exact ⟨D, i + 1, by go_num, by omega, Hdli.out, Hdi.out, by rw [HvD.out, HT.out], harr, HBELi.out, hb0, hb1, hb2⟩
            case measure => simp [intOf] <;> omega
          · obtain rfl : k = nb := by
              rcases Nat.lt_or_ge nb k with h | h
              · exact absurd (hkc (by omega)) hc0
              · omega
            have hc0' : 0 < cy := by omega
            obtain ⟨dv, hdv⟩ : ∃ dv, dv = D.getD (i + k) 0 := ⟨_, rfl⟩
            have hcd := harr.cell (i + k) (by omega)
            have hfd := harr.frozen (i + k)
            rw [← hdv] at hcd
            have hdvl : dv < 10000 := by rw [hdv]; exact getD_lt (by omega) _ Hdi.out _
            have Hdv := Lib.hid hdv
            have hk0 : (0 : Int) ≤ (k : Int) := by omega
            have hi0 : (0 : Int) ≤ (i : Int) := by omega
            have hi1 : (i : Int) < (na : Int) := by omega
            clear hdy0 hbel hdv hdl
            go_wp2
            go_roundw
            case rel => exact mul_rel w wr ys D na k i x T cy k 0 dv 0 _ _ _ _ _ _ _ _ _ hxl (by omega) hcy (by omega) hia Hdli.out Hdi.out Hdv.out Enb.out.symm Hdy.out Hvali.out HTlt.out (by push_cast; omega) (by omega) (by push_cast; omega) harr HBELi.out hb0 hb1 hb2
            case measure => simp [intOf] <;> omega
    · obtain rfl : i = na := by omega
      have hvD : val 10000 D = a.natAbs * b.natAbs := by rw [Hval.out, ← Hvx.out, ← Hvy.out]; congr 2; rw [Ena.out, List.take_length]
      have HvD := Lib.hid hvD
      have Hsl := Lib.hid (harr.sl (i + nb + 1) (i + nb + 1) Hdl.out.symm (Nat.le_refl _))
      clear hvD hbel harr
      go_wp2_with fail
      refine cut_z (nega != negb) _ D _ Hsl.out Hd.out (by rw [Hdl.out]; omega) (a * b) (by rw [HvD.out]; exact Hz.out) _ ?_
      intro v' w1 hz hbw
      obtain ⟨ao', n', cap', rfl, hn', hs'⟩ := hz.open
      have hbox1 := hb2.later hbw (by omega)
      obtain ⟨hA2, hB2, hA2', hB2'⟩ := hbox1.cells
      have hni := hbox1.noInt rfl rfl
      have HZ := Lib.hid (HBEL.out.trans (hbw.mono hsz))
      have HS := Lib.hid hs'
      clear hn' hb0 hb1 hb2 hbox1 hs' hz hbw hA0 hA1 hB0 hB1
      dsimp only
      go_wp2
      refine bodyPost_ret_at (by simp [results, Tryz.results209, go_sem, hA2, hB2, hA2', hB2'] <;> rfl) rfl ?_
      exact HR.out _ _ ⟨.slice ao' n' cap', by simp, (HS.out.set hni 0 _).set (hni.set 0 _ rfl) 1 _⟩ ((HZ.out.setCell (by simp <;> omega) _).setCell (by simp <;> omega) _)
end Go.Proofs.YtnfehccicnpbpaaGreatDoor

namespace Go.Proofs.YtnfehccicnpbpaaGreatDoor
open Go Go.RowKit

/-- numbers are appended to a slice that the call has made: whatever the other slice is -/
theorem run_append_any {P : Program} {w : World} (t ty : TypeId) (e : TypeId) (k : IntKind) (bytes : Nat) (ht : P.underlying t = some (.slice e)) (hi : (P.info? e).map (fun i => (i.zero, i.size, i.bytes)) = some (some (.int k 0), 1, bytes)) (hby : bytes ≤ 16)
    (B : Nat) (v x : Value) (xs ys : List Nat) (hown : Own k e w B v xs) (hx : Sl k w x ys) (hlen : xs.length + ys.length ≤ 100000000) (hB : B ≤ w.heap.size) :
    ∃ v' w', (Builtin.append_ #[t, t] ty #[v, x]).run P w = .ok v' w' ∧ Own k e w' B v' (xs ++ ys) ∧ Below B w w' := by
  obtain ⟨i0, hi0, hz0, hz1, hz2⟩ := info_parts hi
  obtain ⟨ao, cap, rfl, hc, hcell⟩ := hx
  cases ao with
  | none =>
    have h0 : ys.length = 0 := by
      rcases Nat.eq_zero_or_pos ys.length with h | h
      · exact h
      · obtain ⟨_, _, h1, _⟩ := hcell 0 h; cases h1
    have hnil : ys = [] := List.length_eq_zero_iff.1 h0
    subst hnil
    refine ⟨v, w, ?_, by simpa using hown, Below.refl _ _⟩
    rcases hown.2 with ⟨rfl, _⟩ | ⟨g, cap', cur, rfl, _, _, hnc, _⟩
    · simp [Builtin.append_, run_underlying ht, sizeOf, typeInfo, hi0, Builtin.lenOf, Builtin.firstCells]
    · simp [Builtin.append_, run_underlying ht, sizeOf, typeInfo, hi0, Builtin.lenOf, Builtin.firstCells, hnc, storeCells]
  | some ad =>
    obtain ⟨v', w', hr, hown', hg, _⟩ := run_append_own (P := P) w B t ty e i0 (.int k 0) 1 bytes ht hi0 hz0 hz1 hz2 rfl (by decide) v xs.length (nums k xs) hown ad ys.length cap (nums k ys) (by simp [nums]) (by
      intro j u hj
      have hj' : j < ys.length := by
        rcases Nat.lt_or_ge j ys.length with h | h
        · exact h
        · rw [List.getElem?_eq_none (by rw [nums_length]; exact h)] at hj; cases hj
      obtain ⟨b, off, h1, h2, h3⟩ := hcell j hj'
      rw [nums_get k ys j hj'] at hj
      cases h1
      rw [← hj, ← h3]
      unfold Addr.add
      split
      · rename_i h0; subst h0; rfl
      · rfl) (by intro u hu; simp only [nums, List.mem_map] at hu; obtain ⟨y, _, rfl⟩ := hu; rfl) (by simp only [maxLen]; omega) (by
      have : (xs.length + ys.length) * bytes ≤ (xs.length + ys.length) * 16 := Nat.mul_le_mul_left _ hby
      omega) hB
    refine ⟨v', w', hr, ?_, ?_⟩
    · unfold Own; rw [nums_append, List.length_append]; exact hown'
    · exact (Below.refl B w).grown hg hB (fun g' hg' => (Own.ownBlock hown g' hg').1)

theorem Sl.drew {k : IntKind} {w : World} {v : Value} {xs : List Nat} (h : Sl k w v xs) : Sl k w.drew v xs := h
theorem Own.drew {k : IntKind} {e : TypeId} {w : World} {B : Nat} {v : Value} {xs : List Nat} (h : Own k e w B v xs) : Own k e w.drew B v xs := h
theorem Own.shape {k : IntKind} {e : TypeId} {w : World} {B : Nat} {v : Value} {xs : List Nat} (h : Own k e w B v xs) : ∃ ao n c, v = .slice ao n c ∧ n = xs.length := by
  rcases h.2 with ⟨rfl, h0⟩ | ⟨g, cap, cur, rfl, _⟩
  · exact ⟨none, 0, 0, rfl, h0.symm⟩
  · exact ⟨_, _, _, rfl, rfl⟩

/-- the same as a step of a region that draws its order -/
theorem step_append_any {P : Program} {ops : Array Oper} {o : Oper} {a : Act} {w : World} {K : Act → World → Prop} {Q : Exit → Act → World → Prop} {E : Prop} (hgd : o.guard = none) (s x : Operand) (t : TypeId)
    (ho : o.op = .call { callee := .builtin .append, args := #[s, x], argTypes := #[t, t] })
    (e : TypeId) (k : IntKind) (bytes : Nat) (ht : P.underlying t = some (.slice e)) (hi : (P.info? e).map (fun i => (i.zero, i.size, i.bytes)) = some (some (.int k 0), 1, bytes)) (hby : bytes ≤ 16)
    (B : Nat) (xs ys : List Nat) (hown : Own k e w B (a.eval s) xs) (hx : Sl k w (a.eval x) ys) (hlen : xs.length + ys.length ≤ 100000000) (hB : B ≤ w.heap.size)
    (h : ∀ ao n c w', Own k e w' B (.slice ao n c) (xs ++ ys) → n = xs.length + ys.length → Below B w w' → K (a.put o.dst (.slice ao n c)) w') :
    if Region.wanted o (yielded ops a.tmps) = true then Oper.wp P o a w K Q else E := by
  have hw : Region.wanted o (yielded ops a.tmps) = true := by simp [Region.wanted, hgd]
  rw [if_pos hw]
  obtain ⟨v', w', hr, h2, h3⟩ := run_append_any (P := P) (w := w) t o.type e k bytes ht hi hby B _ _ xs ys hown hx hlen hB
  unfold Oper.wp execOp
  simp only [ho, resolve, invoke, builtin, Sem.run_bind, Sem.run_pure, Result.andThen_ok, List.map_toArray, List.map_cons, List.map_nil, hr]
  obtain ⟨ao, n, c, rfl, hn⟩ := h2.shape
  exact h ao n c w' h2 (by simpa using hn) h3

/-- the end of a slice, as one step; where it lies is not told -/
theorem wpList_slice_from {P : Program} {w : World} {ops : Array Oper} {rest : List Oper} {o : Oper} {a : Act} {Q : Exit → Act → World → Prop} (hgd : o.guard = none) (x l : Operand) (t : TypeId)
    (ho : o.op = .slice t x (some l) none none) (e : TypeId) (kk : IntKind) (bytes : Nat) (ht : P.underlying t = some (.slice e)) (hi : (P.info? e).map (fun i => (i.zero, i.size, i.bytes)) = some (some (.int kk 0), 1, bytes))
    (ao : Option Addr) (n c k : Nat) (xs : List Nat) (hx : a.eval x = .slice ao n c) (hl : a.eval l = .int .i64 (k : Int)) (hk : k ≤ n) (hs : Sl kk w (.slice ao n c) xs)
    (h : ∀ ao', Sl kk w (.slice ao' (n - k) (c - k)) (xs.drop k) → wpList P ops Q rest (a.put o.dst (.slice ao' (n - k) (c - k))) w) : wpList P ops Q (o :: rest) a w := by
  obtain ⟨i0, hi0, hz0, hz1, hz2⟩ := info_parts hi
  refine wpList_plain hgd fun K hK => ?_
  have hc := hs.cap
  have hl' := hs.len
  have hrun : (Instr.sliceAt t (.slice ao n c) (some (.int .i64 (k : Int))) none none).run P w = .ok (.slice (if c = k then ao else ao.map (·.add k)) (n - k) (c - k)) w := by
    simp [Instr.sliceAt, Instr.slice, run_underlying ht, Instr.sliceBounds, Instr.sliceBound, asIntOf, Sem.run_bind, Result.andThen, sizeOf, typeInfo, hi0, hz1, hk]
  unfold Oper.wp execOp
  simp only [ho, Option.map_some, Option.map_none, hx, hl, Sem.run_bind, hrun, Result.andThen_ok, Sem.run_pure]
  refine hK _ _ (h _ ?_)
  refine ⟨_, c - k, by rw [List.length_drop, hl'], by rw [List.length_drop]; omega, fun i hi => ?_⟩
  rw [List.length_drop] at hi
  obtain ⟨b, off, rfl, h2, h3⟩ := hs.at (k + i) (by omega)
  have hck : c ≠ k := by omega
  rw [if_neg hck]
  refine ⟨b, off + k, ?_, h2, ?_⟩
  · simp only [Option.map_some, Addr.add]
    split
    · rename_i h0; subst h0; rfl
    · rfl
  · rw [Nat.add_assoc, h3]; simp [List.getD, List.getElem?_drop]

/-- a slice does not lie in a block -/
def Away (ao : Option Addr) (n g : Nat) : Prop := ∀ b off, ao = some ⟨b, off, none⟩ → 0 < n → b ≠ g

/-- a store into a block in which a list of numbers does not lie -/
theorem Sl.setAway {k : IntKind} {w : World} {ao : Option Addr} {n c : Nat} {xs : List Nat} (h : Sl k w (.slice ao n c) xs) {g : Nat} (ha : Away ao n g) (i : Nat) (u : Value) : Sl k (w.setCell ⟨g, i, none⟩ u) (.slice ao n c) xs := by
  have hl := h.len
  refine ⟨ao, c, by rw [hl], by rw [← hl]; exact h.cap, fun j hj => ?_⟩
  obtain ⟨b, off, rfl, h2, h3⟩ := h.at j (by omega)
  refine ⟨b, off, rfl, by rw [heap_size_set]; exact h2, ?_⟩
  rw [cell?_set, if_neg]
  · exact h3
  · rintro ⟨e, _⟩
    exact ha b off rfl (by omega) e

theorem pow_le_dig {B : Nat} (hB : 2 ≤ B) (n l : Nat) (h : l < (dig B n).length) : B ^ l ≤ n := by
  rcases Nat.lt_or_ge n (B ^ l) with h1 | h1
  · exact absurd (dig_length_le hB l n h1) (by omega)
  · exact h1

/-- what holds at the head of the loop of the division: j digits are still to come down, r is the rest so far, D the digits of the quotient -/
def DivOut (w : World) (A M na k pa oa ca pb ob n1 cb g6 g8 g9 : Nat) (nega : Bool) (i : Value) (wr : World) : Prop :=
  ∃ (j : Nat) (D : List Nat) (r : Nat) (ar : Option Addr) (nr cr : Nat), i = .int .i64 ((j : Int) - 1) ∧ j ≤ k ∧ D.length = k ∧ (∀ x ∈ D, x < 10000) ∧ (∀ q, q < j → D.getD q 0 = 0) ∧
    val 10000 ((dig 10000 A).drop j) = M * val 10000 (D.drop j) + r ∧ r < M ∧ Arr .i64 2 wr g8 D ∧ Below w.heap.size w wr ∧
    Box2 wr w.heap.size (.bool nega) (.slice (some ⟨pa, oa, none⟩) na ca) 114 ∧ Box2 wr (w.heap.size + 2) (.bool false) (.slice none 0 0) 114 ∧ Box2 wr (w.heap.size + 3) (.bool false) (.slice none 0 0) 114 ∧
    Box2 wr g6 (.bool false) (.slice (some ⟨pb, ob, none⟩) n1 cb) 114 ∧ Sl .i64 wr (.slice (some ⟨pb, ob, none⟩) n1 cb) (dig 10000 M) ∧
    Box2 wr g9 (.bool false) (.slice ar nr cr) 114 ∧ Sl .i64 wr (.slice ar nr cr) (dig 10000 r)

theorem Box2.set01 {w : World} {b : Nat} {u v : Value} {t : TypeId} (h : Box2 w b u v t) (x y : Value) : Box2 ((w.setCell ⟨b, 0, none⟩ x).setCell ⟨b, 1, none⟩ y) b x y t := by
  unfold Box2 at *
  simp [World.setCell, Array.getElem?_modify, h]

theorem Arr.noSet {k : IntKind} {e : TypeId} {w : World} {g : Nat} {xs : List Nat} (h : Arr k e w g xs) {b : Nat} (hb : g ≠ b) (x y : Value) : Arr k e ((w.setCell ⟨b, 0, none⟩ x).setCell ⟨b, 1, none⟩ y) g xs :=
  (h.other hb 0 x).other hb 1 y

theorem Box2.noSet {w : World} {g : Nat} {u v : Value} {t : TypeId} (h : Box2 w g u v t) {b : Nat} (hb : g ≠ b) (x y : Value) : Box2 ((w.setCell ⟨b, 0, none⟩ x).setCell ⟨b, 1, none⟩ y) g u v t :=
  (h.setOther hb 0 x).setOther hb 1 y

theorem Sl.noSet {k : IntKind} {w : World} {v : Value} {xs : List Nat} (h : Sl k w v xs) {b : Nat} (hb : NoInt w b) (x y : Value) (hx : notInt x = true) : Sl k ((w.setCell ⟨b, 0, none⟩ x).setCell ⟨b, 1, none⟩ y) v xs :=
  (h.set hb 0 x).set (hb.set 0 b hx) 1 y

/-- what the round of the division leaves alone, and the rest -/
def DivMid (w : World) (M na pa oa ca pb ob n1 cb g6 g8 g9 : Nat) (nega : Bool) (D : List Nat) (t : Nat) (wx : World) : Prop :=
  ∃ (ar : Option Addr) (nr cr : Nat), Away ar nr g8 ∧ Arr .i64 2 wx g8 D ∧ Below w.heap.size w wx ∧
    Box2 wx w.heap.size (.bool nega) (.slice (some ⟨pa, oa, none⟩) na ca) 114 ∧ Box2 wx (w.heap.size + 2) (.bool false) (.slice none 0 0) 114 ∧ Box2 wx (w.heap.size + 3) (.bool false) (.slice none 0 0) 114 ∧
    Box2 wx g6 (.bool false) (.slice (some ⟨pb, ob, none⟩) n1 cb) 114 ∧ Sl .i64 wx (.slice (some ⟨pb, ob, none⟩) n1 cb) (dig 10000 M) ∧
    Box2 wx g9 (.bool false) (.slice ar nr cr) 114 ∧ Sl .i64 wx (.slice ar nr cr) (dig 10000 t)

theorem mid_rel (w wr wA wC : World) (M na pa oa ca pb ob n1 cb g6 g8 g9 : Nat) (nega : Bool) (D xs : List Nat) (t : Nat) (o : Obj) (av : Option Addr) (an ac nC : Nat) (ar : Option Addr) (nr cr : Nat)
    (hg6 : w.heap.size + 3 < g6) (hg8 : g6 < g8) (hg9 : g8 < g9)
    (harr : Arr .i64 2 wr g8 D) (hbel : Below w.heap.size w wr)
    (b0 : Box2 wr w.heap.size (.bool nega) (.slice (some ⟨pa, oa, none⟩) na ca) 114) (b2 : Box2 wr (w.heap.size + 2) (.bool false) (.slice none 0 0) 114) (b3 : Box2 wr (w.heap.size + 3) (.bool false) (.slice none 0 0) 114)
    (b6 : Box2 wr g6 (.bool false) (.slice (some ⟨pb, ob, none⟩) n1 cb) 114) (hsby : Sl .i64 wr (.slice (some ⟨pb, ob, none⟩) n1 cb) (dig 10000 M)) (b9 : Box2 wr g9 (.bool false) (.slice ar nr cr) 114)
    (hown : Own .i64 2 wA wr.heap.size (.slice av an ac) xs) (hbA : Below wr.heap.size (wr.alloc o).drew wA) (hbC : Below wA.heap.size wA wC) (hsC : Sl .i64 wC (.slice av nC ac) (dig 10000 t)) :
    DivMid w M na pa oa ca pb ob n1 cb g6 g8 g9 nega D t ((wC.setCell ⟨g9, 0, none⟩ (.bool false)).setCell ⟨g9, 1, none⟩ (.slice av nC ac)) := by
  have hl := lt_of_block b9
  have hA : Below wr.heap.size wr wA := ((Below.refl wr.heap.size wr).alloc (Nat.le_refl _) o).trans ⟨hbA.os, hbA.tape, hbA.output, hbA.size, hbA.block⟩
  have hC : Below wr.heap.size wr wC := hA.trans (hbC.mono hA.size)
  have b9C := b9.later hC hl
  have hni := b9C.noInt rfl rfl
  refine ⟨av, nC, ac, ?_, (harr.later hC harr.lt).noSet (by omega) _ _, ((hbel.trans (hC.mono hbel.size)).setCell (by show w.heap.size ≤ g9; omega) _).setCell (by show w.heap.size ≤ g9; omega) _, (b0.later hC (lt_of_block b0)).noSet (by omega) _ _, (b2.later hC (lt_of_block b2)).noSet (by omega) _ _, (b3.later hC (lt_of_block b3)).noSet (by omega) _ _, (b6.later hC (lt_of_block b6)).noSet (by omega) _ _, (hsby.later hC (Nat.le_refl _)).noSet hni _ _ rfl, b9C.set01 _ _, hsC.noSet hni _ _ rfl⟩
  intro b off he _
  subst he
  have := (Own.ownBlock hown b rfl).1
  have h8 := harr.lt
  omega

theorem div_cont (xs D : List Nat) (M i x r : Nat) (hi : i < xs.length) (hd : i < D.length) (hx : x = xs.getD i 0) (h0 : D.getD i 0 = 0)
    (h : val 10000 (xs.drop (i + 1)) = M * val 10000 (D.drop (i + 1)) + r) : val 10000 (xs.drop i) = M * val 10000 (D.drop i) + (x + 10000 * r) := by
  rw [val_drop _ xs i hi, val_drop _ D i hd, ← hx, h0, h, Nat.zero_add, Nat.mul_add, ← Nat.mul_assoc, ← Nat.mul_assoc, Nat.mul_comm M 10000]
  omega

theorem div_store (xs D : List Nat) (M i x r q t : Nat) (hi : i < xs.length) (hd : i < D.length) (hx : x = xs.getD i 0) (ht : x + 10000 * r = M * q + t)
    (h : val 10000 (xs.drop (i + 1)) = M * val 10000 (D.drop (i + 1)) + r) : val 10000 (xs.drop i) = M * val 10000 ((D.set i q).drop i) + t := by
  rw [val_drop _ xs i hi, val_drop _ (D.set i q) i (by simpa using hd), ← hx, h]
  have e1 : (D.set i q).getD i 0 = q := by simp [List.getD, hd]
  have e2 : (D.set i q).drop (i + 1) = D.drop (i + 1) := by rw [List.drop_set_of_lt (by omega)]
  rw [e1, e2, Nat.mul_add, Nat.mul_add, ← Nat.mul_assoc, ← Nat.mul_assoc, Nat.mul_comm M 10000]
  omega

theorem DivMid.later {w : World} {M na pa oa ca pb ob n1 cb g6 g8 g9 : Nat} {nega : Bool} {D : List Nat} {t : Nat} {wx wy : World} (h : DivMid w M na pa oa ca pb ob n1 cb g6 g8 g9 nega D t wx) (hb : Below wx.heap.size wx wy) : DivMid w M na pa oa ca pb ob n1 cb g6 g8 g9 nega D t wy := by
  obtain ⟨ar, nr, cr, h1, h2, h3, h4, h5, h6, h7, h8, h9, h10⟩ := h
  exact ⟨ar, nr, cr, h1, h2.later hb h2.lt, h3.trans (hb.mono h3.size), h4.later hb (lt_of_block h4), h5.later hb (lt_of_block h5), h6.later hb (lt_of_block h6), h7.later hb (lt_of_block h7), h8.later hb (Nat.le_refl _), h9.later hb (lt_of_block h9), h10.later hb (Nat.le_refl _)⟩

/-- what holds at the head of the search for a digit -/
def DivIn (w : World) (M na pa oa ca pb ob n1 cb g6 g8 g9 : Nat) (nega : Bool) (D : List Nat) (t : Nat) (low high : Value) (wx : World) : Prop :=
  ∃ lo hi : Nat, low = .int .i64 lo ∧ high = .int .i64 hi ∧ 1 ≤ lo ∧ lo ≤ hi ∧ hi ≤ 9999 ∧ M * lo ≤ t ∧ t < M * (hi + 1) ∧ DivMid w M na pa oa ca pb ob n1 cb g6 g8 g9 nega D t wx

theorem below_ofDrew {B : Nat} {w w' : World} (h : Below B w.drew w') : Below B w w' := ⟨h.os, h.tape, h.output, h.size, h.block⟩

theorem cmpN_le (a b : Nat) : decide (cmpN a b ≤ 0) = decide (a ≤ b) := by
  unfold cmpN
  by_cases h1 : a < b
  · rw [if_pos h1, decide_eq_true (by omega), decide_eq_true (by omega)]
  · rw [if_neg h1]
    by_cases h2 : b < a
    · rw [if_pos h2, decide_eq_false (by omega), decide_eq_false (by omega)]
    · rw [if_neg h2, decide_eq_true (by omega), decide_eq_true (by omega)]

theorem DivMid.store {w : World} {M na pa oa ca pb ob n1 cb g6 g8 g9 : Nat} {nega : Bool} {D : List Nat} {t : Nat} {wx : World} (h : DivMid w M na pa oa ca pb ob n1 cb g6 g8 g9 nega D t wx) (i q : Nat)
    (hpb : pb < w.heap.size) (hg6 : w.heap.size + 3 < g6) (hg8 : g6 < g8) (hg9 : g8 < g9) :
    DivMid w M na pa oa ca pb ob n1 cb g6 g8 g9 nega (D.set i q) t (wx.setCell ⟨g8, i, none⟩ (.int .i64 (q : Int))) := by
  obtain ⟨ar, nr, cr, h1, h2, h3, h4, h5, h6, h7, h8, h9, h10⟩ := h
  refine ⟨ar, nr, cr, h1, h2.set i q, h3.setCell (by show w.heap.size ≤ g8; omega) _, h4.setOther (by omega) _ _, h5.setOther (by omega) _ _, h6.setOther (by omega) _ _, h7.setOther (by omega) _ _, h8.setAway ?_ _ _, h9.setOther (by omega) _ _, h10.setAway h1 _ _⟩
  intro b off he _
  cases he
  omega

theorem end_rel (w wr wC : World) (A M na k pa oa ca pb ob n1 cb g6 g8 g9 i : Nat) (nega : Bool) (D : List Nat) (t r : Nat) (av : Option Addr) (nC ac : Nat)
    (hg6 : w.heap.size + 3 < g6) (hg8 : g6 < g8) (hg9 : g8 < g9) (h : DivMid w M na pa oa ca pb ob n1 cb g6 g8 g9 nega D t wr) (hC : Below wr.heap.size wr wC) (hsC : Sl .i64 wC (.slice av nC ac) (dig 10000 r))
    (hik : i ≤ k) (hdl : D.length = k) (hd : ∀ x ∈ D, x < 10000) (hd0 : ∀ q, q < i → D.getD q 0 = 0) (hval : val 10000 ((dig 10000 A).drop i) = M * val 10000 (D.drop i) + r) (hr : r < M) :
    DivOut w A M na k pa oa ca pb ob n1 cb g6 g8 g9 nega (.int .i64 ((i : Int) - 1)) ((wC.setCell ⟨g9, 0, none⟩ (.bool false)).setCell ⟨g9, 1, none⟩ (.slice av nC ac)) := by
  obtain ⟨ar, nr, cr, h1, h2, h3, h4, h5, h6, h7, h8, h9, h10⟩ := h
  have b9C := h9.later hC (lt_of_block h9)
  have hni := b9C.noInt rfl rfl
  exact ⟨i, D, r, av, nC, ac, rfl, hik, hdl, hd, hd0, hval, hr, (h2.later hC h2.lt).noSet (by omega) _ _, ((h3.trans (hC.mono h3.size)).setCell (by show w.heap.size ≤ g9; omega) _).setCell (by show w.heap.size ≤ g9; omega) _, (h4.later hC (lt_of_block h4)).noSet (by omega) _ _, (h5.later hC (lt_of_block h5)).noSet (by omega) _ _, (h6.later hC (lt_of_block h6)).noSet (by omega) _ _, (h7.later hC (lt_of_block h7)).noSet (by omega) _ _, (h8.later hC (Nat.le_refl _)).noSet hni _ _ rfl, b9C.set01 _ _, hsC.noSet hni _ _ rfl⟩

end Go.Proofs.YtnfehccicnpbpaaGreatDoor

namespace Go.Proofs.YtnfehccicnpbpaaGreatDoor
open Go Go.RowKit

/-- the value of the model's type, by its slice alone, of a number that is not negative -/
theorem IsZ.ofNat {w : World} {ao : Option Addr} {n c : Nat} {m : Nat} (h : IsZ w (.agg #[.bool false, .slice ao n c]) (m : Int)) : Sl .i64 w (.slice ao n c) (dig 10000 m) := by
  obtain ⟨s, h1, h2⟩ := h
  simp at h1
  subst h1
  simpa using h2

theorem IsZ.nat {w : World} {v : Value} {m : Nat} (h : IsZ w v (m : Int)) : ∃ ao n c, v = .agg #[.bool false, .slice ao n c] ∧ n = (dig 10000 m).length ∧ Sl .i64 w (.slice ao n c) (dig 10000 m) := by
  obtain ⟨ao, n, c, h1, h2, h3⟩ := h.open
  have e : decide ((m : Int) < 0) = false := by simp
  have e2 : (m : Int).natAbs = m := by simp
  rw [e] at h1
  rw [e2] at h2 h3
  exact ⟨ao, n, c, h1, h2, h3⟩

theorem IsZ.openB {w : World} {v : Value} {z : Int} (h : IsZ w v z) : ∃ bn ao n c, v = .agg #[.bool bn, .slice ao n c] ∧ IsZ w (.agg #[.bool bn, .slice ao n c]) z := by
  obtain ⟨ao, n, c, rfl, _, _⟩ := h.open
  exact ⟨_, ao, n, c, rfl, h⟩

theorem IsZ.mkNat {w : World} {ao : Option Addr} {n c : Nat} {m : Nat} (h : Sl .i64 w (.slice ao n c) (dig 10000 m)) : IsZ w (.agg #[.bool false, .slice ao n c]) (m : Int) :=
  ⟨.slice ao n c, by simp, by simpa using h⟩

set_option maxRecDepth 100000 in
set_option maxHeartbeats 2000000 in
/-- a quotient that is 0, as there are fewer digits -/
theorem zdiv_small (va vb : Value) (a b : Int) (w : World) (ha : IsZ w va a) (hb : IsZ w vb b) (hla : (dig 10000 a.natAbs).length ≤ 1000000) (hlb : (dig 10000 b.natAbs).length ≤ 1000000)
    (hless : (dig 10000 a.natAbs).length < (dig 10000 b.natAbs).length) (R : Ending → World → Prop)
    (hR : ∀ v1 v2 w', IsZ w' v1 ((a.natAbs / b.natAbs : Nat) : Int) → IsZ w' v2 ((a.natAbs % b.natAbs : Nat) : Int) → Below w.heap.size w w' → R (.returned (.tuple #[v1, v2])) w') :
    Calls Tryz.prog 170 #[va, vb] w R := by
  have hlt : a.natAbs < b.natAbs := lt_of_dig_length (B := 10000) (by omega) _ _ hless
  rw [Nat.div_eq_of_lt hlt, Nat.mod_eq_of_lt hlt] at hR
  have HR := Lib.hid hR; clear hR
  have HA := Lib.hid ha
  obtain ⟨aa, na, ca, rfl, ena, hsa⟩ := ha.open
  obtain ⟨ab, nb, cb, rfl, enb, hsb⟩ := hb.open
  rw [← ena] at hless hla
  rw [← enb] at hless hlb
  obtain ⟨nega, hnega⟩ : ∃ x, x = decide (a < 0) := ⟨_, rfl⟩
  obtain ⟨negb, hnegb⟩ : ∃ x, x = decide (b < 0) := ⟨_, rfl⟩
  rw [← hnega, ← hnegb]
  have Ena := Lib.hid ena
  have Enb := Lib.hid enb
  obtain ⟨L, hL⟩ : ∃ L, L = (((w.alloc (.cells #[.bool nega, .slice aa na ca] 114)).alloc (.cells #[.bool negb, .slice ab nb cb] 114)).alloc (.cells #[.bool false, .slice none 0 0] 114)).alloc (.cells #[.bool false, .slice none 0 0] 114) := ⟨_, rfl⟩
  have hLs : L.heap.size = w.heap.size + 4 := by rw [hL]; simp
  have B0 : Box2 L w.heap.size (.bool nega) (.slice aa na ca) 114 := by rw [hL]; exact (((Box2.made w _ _ _).alloc _).alloc _).alloc _
  have B1 : Box2 L (w.heap.size + 1) (.bool negb) (.slice ab nb cb) 114 := by rw [hL]; have := ((Box2.made (w.alloc (.cells #[.bool nega, .slice aa na ca] 114)) (.bool negb) (.slice ab nb cb) 114).alloc (.cells #[.bool false, .slice none 0 0] 114)).alloc (.cells #[.bool false, .slice none 0 0] 114); simpa using this
  have B2 : Box2 L (w.heap.size + 2) (.bool false) (.slice none 0 0) 114 := by rw [hL]; have := (Box2.made ((w.alloc (.cells #[.bool nega, .slice aa na ca] 114)).alloc (.cells #[.bool negb, .slice ab nb cb] 114)) (.bool false) (.slice none 0 0) 114).alloc (.cells #[.bool false, .slice none 0 0] 114); simpa using this
  have B3 : Box2 L (w.heap.size + 3) (.bool false) (.slice none 0 0) 114 := by rw [hL]; have := Box2.made (((w.alloc (.cells #[.bool nega, .slice aa na ca] 114)).alloc (.cells #[.bool negb, .slice ab nb cb] 114)).alloc (.cells #[.bool false, .slice none 0 0] 114)) (.bool false) (.slice none 0 0) 114; simpa using this
  have HEXT : Below w.heap.size w L := by rw [hL]; exact ((((Below.refl w.heap.size w).alloc (Nat.le_refl _) _).alloc (by simp) _).alloc (by simp; omega) _).alloc (by simp; omega) _
  have HEXT := Lib.hid HEXT
  obtain ⟨hA0, hA1, _, _⟩ := B0.cells
  obtain ⟨hB0, hB1, _, _⟩ := B1.cells
  have HL := Lib.hid hL
  clear hnega hnegb ena enb ha hb hlt hL
  go_enter Tryz.func170, Tryz.ntmps170
  go_wp2_with fail
  rw [← HL.out]
  refine cut_z false _ (dig 10000 b.natAbs) L (hsb.later HEXT.out (Nat.le_refl _)) (dig_lt (by omega) _) (by rw [← Enb.out]; omega) (b.natAbs : Int) (by rw [val_dig (by omega)]; rfl) _ ?_
  intro v1 w1 hz1 hb1
  obtain ⟨a1, n1, c1, rfl, e1, hs1⟩ := hz1.nat
  have b0 := B0.later hb1 (by omega)
  have b1 := B1.later hb1 (by omega)
  have b2 := B2.later hb1 (by omega)
  have b3 := B3.later hb1 (by omega)
  have HB1 := Lib.hid (HEXT.out.trans (hb1.mono (by omega)))
  have hsz1 := hb1.size
  clear B0 B1 B2 B3 hA0 hA1 hB0 hB1 e1 hs1 hz1 hb1
  obtain ⟨hA0, hA1, _, _⟩ := b0.cells
  obtain ⟨hB0, hB1, _, _⟩ := b1.cells
  have hk : (na : Int) - (nb : Int) + 1 < 1 := by omega
  have hl3 := lt_of_block b3
  have hl0 : w.heap.size < w1.heap.size := by omega
  have hl1 : w.heap.size + 1 < w1.heap.size := by omega
  dsimp only
  go_wp2_with fail
  obtain ⟨L2, hL2⟩ : ∃ L2, L2 = w1.alloc (.cells #[.bool false, .slice a1 n1 c1] 114) := ⟨_, rfl⟩
  rw [← hL2]
  have hb2 : Below w1.heap.size w1 L2 := by rw [hL2]; exact (Below.refl _ _).alloc (Nat.le_refl _) _
  have c2 := b2.later hb2 (by omega)
  have c3 := b3.later hb2 (by omega)
  have HB2 := Lib.hid (HB1.out.trans (hb2.mono HB1.out.size))
  clear hA0 hA1 hB0 hB1 b0 b1 b2 b3 hL2
  refine cut_z false _ (dig 10000 a.natAbs) L2 (hsa.later HB2.out (Nat.le_refl _)) (dig_lt (by omega) _) (by rw [← Ena.out]; omega) (a.natAbs : Int) (by rw [val_dig (by omega)]; rfl) _ ?_
  intro v2 w2 hz2 hb3
  obtain ⟨a2, n2, c2', rfl, e2, hs2⟩ := hz2.nat
  have hL2s := hb2.size
  have d2 := c2.later hb3 (by omega)
  have d3 := c3.later hb3 (by omega)
  have HB3 := Lib.hid (HB2.out.trans (hb3.mono HB2.out.size))
  have HS2 := Lib.hid hs2
  obtain ⟨hC0, hC1, hC2, hC3⟩ := d2.cells
  obtain ⟨hD0, hD1, hD2, hD3⟩ := d3.cells
  have hn2 := d2.noInt rfl rfl
  have hn3 := d3.noInt rfl rfl
  clear hz2 hs2 e2 c2 c3 d2 d3 hb2 hb3
  dsimp only
  go_wp2
  refine bodyPost_ret_at (by simp [results, Tryz.results170, go_sem, hC0, hC1, hD0, hD1] <;> rfl) rfl ?_
  refine HR.out _ _ _ ⟨.slice none 0 0, by simp, by rw [show ((0 : Nat) : Int).natAbs = 0 from rfl, dig_zero]; exact Sl.nil _ _ _ _⟩ (IsZ.mkNat ((((HS2.out.set hn2 0 _).set (hn2.set 0 _ rfl) 1 _).set ((hn3.set 0 _ rfl).set 1 _ rfl) 0 _).set (((hn3.set 0 _ rfl).set 1 _ rfl).set 0 _ rfl) 1 _)) ((((HB3.out.setCell (by simp <;> omega) _).setCell (by simp <;> omega) _).setCell (by simp <;> omega) _).setCell (by simp <;> omega) _)

end Go.Proofs.YtnfehccicnpbpaaGreatDoor

namespace Go.Proofs.YtnfehccicnpbpaaGreatDoor
open Go Go.RowKit

set_option maxRecDepth 100000 in
set_option maxHeartbeats 1000000 in
theorem zdiv_main (va vb : Value) (a b : Int) (w : World) (ha : IsZ w va a) (hb : IsZ w vb b) (hla : (dig 10000 a.natAbs).length ≤ 1000000) (hlb : (dig 10000 b.natAbs).length ≤ 1000000)
    (hb0 : b ≠ 0) (hmore : (dig 10000 b.natAbs).length ≤ (dig 10000 a.natAbs).length) (R : Ending → World → Prop)
    (hR : ∀ v1 v2 w', IsZ w' v1 ((a.natAbs / b.natAbs : Nat) : Int) → IsZ w' v2 ((a.natAbs % b.natAbs : Nat) : Int) → Below w.heap.size w w' → R (.returned (.tuple #[v1, v2])) w') :
    Calls Tryz.prog 170 #[va, vb] w R := by
  have HR := Lib.hid hR; clear hR
  have hbp : 0 < b.natAbs := by omega
  obtain ⟨aa, na, ca, rfl, ena, hsa⟩ := ha.open
  obtain ⟨ab, nb, cb, rfl, enb, hsb⟩ := hb.open
  have hnb : 0 < nb := by
    rcases Nat.eq_zero_or_pos nb with h | h
    · exfalso; rw [h] at enb; exact absurd ((dig_eq_nil (B := 10000) (by omega)).1 (List.length_eq_zero_iff.1 enb.symm)) (by omega)
    · exact h
  rw [← ena] at hmore hla
  rw [← enb] at hmore hlb
  obtain ⟨nega, hnega⟩ : ∃ x, x = decide (a < 0) := ⟨_, rfl⟩
  obtain ⟨negb, hnegb⟩ : ∃ x, x = decide (b < 0) := ⟨_, rfl⟩
  rw [← hnega, ← hnegb]
  obtain ⟨A, hA⟩ : ∃ A, A = a.natAbs := ⟨_, rfl⟩
  obtain ⟨M, hM⟩ : ∃ M, M = b.natAbs := ⟨_, rfl⟩
  rw [← hA] at HR ena hsa
  rw [← hM] at HR enb hsb hbp
  clear ha hb hb0 hnega hnegb hA hM
  obtain ⟨k, hk⟩ : ∃ k, na - nb + 1 = k := ⟨_, rfl⟩
  have hk1 : 1 ≤ k := by omega
  have hkn : k ≤ na := by omega
  have hki : (na : Int) - (nb : Int) + 1 = (k : Int) := by omega
  have Ena := Lib.hid ena
  have Enb := Lib.hid enb
  have Hk := Lib.hid hk
  have Hki := Lib.hid hki
  obtain ⟨pa, oa, rfl, hpa, _⟩ := hsa.at 0 (by omega)
  obtain ⟨pb, ob, rfl, hpb, _⟩ := hsb.at 0 (by omega)
  have hcap := hsa.cap
  obtain ⟨L, hL⟩ : ∃ L, L = (((w.alloc (.cells #[.bool nega, .slice (some ⟨pa, oa, none⟩) na ca] 114)).alloc (.cells #[.bool negb, .slice (some ⟨pb, ob, none⟩) nb cb] 114)).alloc (.cells #[.bool false, .slice none 0 0] 114)).alloc (.cells #[.bool false, .slice none 0 0] 114) := ⟨_, rfl⟩
  have hLs : L.heap.size = w.heap.size + 4 := by rw [hL]; simp
  have B0 : Box2 L w.heap.size (.bool nega) (.slice (some ⟨pa, oa, none⟩) na ca) 114 := by rw [hL]; exact (((Box2.made w _ _ _).alloc _).alloc _).alloc _
  have B1 : Box2 L (w.heap.size + 1) (.bool negb) (.slice (some ⟨pb, ob, none⟩) nb cb) 114 := by rw [hL]; have := ((Box2.made (w.alloc (.cells #[.bool nega, .slice (some ⟨pa, oa, none⟩) na ca] 114)) (.bool negb) (.slice (some ⟨pb, ob, none⟩) nb cb) 114).alloc (.cells #[.bool false, .slice none 0 0] 114)).alloc (.cells #[.bool false, .slice none 0 0] 114); simpa using this
  have B2 : Box2 L (w.heap.size + 2) (.bool false) (.slice none 0 0) 114 := by rw [hL]; have := (Box2.made ((w.alloc (.cells #[.bool nega, .slice (some ⟨pa, oa, none⟩) na ca] 114)).alloc (.cells #[.bool negb, .slice (some ⟨pb, ob, none⟩) nb cb] 114)) (.bool false) (.slice none 0 0) 114).alloc (.cells #[.bool false, .slice none 0 0] 114); simpa using this
  have B3 : Box2 L (w.heap.size + 3) (.bool false) (.slice none 0 0) 114 := by rw [hL]; have := Box2.made (((w.alloc (.cells #[.bool nega, .slice (some ⟨pa, oa, none⟩) na ca] 114)).alloc (.cells #[.bool negb, .slice (some ⟨pb, ob, none⟩) nb cb] 114)).alloc (.cells #[.bool false, .slice none 0 0] 114)) (.bool false) (.slice none 0 0) 114; simpa using this
  have HEXT : Below w.heap.size w L := by rw [hL]; exact ((((Below.refl w.heap.size w).alloc (Nat.le_refl _) _).alloc (by simp) _).alloc (by simp; omega) _).alloc (by simp; omega) _
  obtain ⟨hA0, hA1, _, _⟩ := B0.cells
  obtain ⟨hB0, hB1, _, _⟩ := B1.cells
  have HL := Lib.hid hL
  clear ena enb hL hki hk
  go_enter Tryz.func170, Tryz.ntmps170
  go_wp2_with fail
  rw [← HL.out]
  refine cut_at false _ _ _ (dig 10000 M) L (hsb.later HEXT (Nat.le_refl _)) (dig_lt (by omega) _) (by rw [← Enb.out]; omega) _ ?_
  intro n1 w1 hs1 hb1
  rw [val_dig (by omega)] at hs1
  have b0 := B0.later hb1 (by omega)
  have b1 := B1.later hb1 (by omega)
  have b2 := B2.later hb1 (by omega)
  have b3 := B3.later hb1 (by omega)
  have HB1 := HEXT.trans (hb1.mono (by omega : w.heap.size ≤ L.heap.size))
  have hsz1 := hb1.size
  clear B0 B1 B2 B3 hA0 hA1 hB0 hB1 hb1 HEXT
  obtain ⟨hA0, hA1, _, _⟩ := b0.cells
  obtain ⟨hB0, hB1, _, _⟩ := b1.cells
  have hl3 := lt_of_block b3
  have hl0 : w.heap.size < w1.heap.size := by omega
  have hl1 : w.heap.size + 1 < w1.heap.size := by omega
  have hkt := Hki.out
  have hk2 : (1 : Int) ≤ (k : Int) := by omega
  simp only [Bool.false_and]
  go_wp2_with (at_make; go_must (refine wpList_makez _ rfl (.tmp 31) 32 rfl 2 .i64 8 Tryz.underlying32 info_i64 (by omega) .i64 (↑k) k rfl rfl (by omega) ?_))
  intro w2 harr2 hbw2 hsz2
  have B4 := (Box2.made w1 (.bool false) (.slice (some ⟨pb, ob, none⟩) n1 cb) 114).later hbw2 (by omega)
  have d0 := (b0.alloc (.cells #[.bool false, .slice (some ⟨pb, ob, none⟩) n1 cb] 114)).later hbw2 (by omega)
  have d2 := (b2.alloc (.cells #[.bool false, .slice (some ⟨pb, ob, none⟩) n1 cb] 114)).later hbw2 (by omega)
  have d3 := (b3.alloc (.cells #[.bool false, .slice (some ⟨pb, ob, none⟩) n1 cb] 114)).later hbw2 (by omega)
  have hs1' := (hs1.alloc (.cells #[.bool false, .slice (some ⟨pb, ob, none⟩) n1 cb] 114)).later hbw2 (by simp)
  have HB2 := (HB1.alloc HB1.size (.cells #[.bool false, .slice (some ⟨pb, ob, none⟩) n1 cb] 114)).trans (hbw2.mono (by omega))
  clear hA0 hA1 hB0 hB1 b0 b1 b2 b3 hs1 hbw2 HB1
  obtain ⟨hA0, hA1, _, _⟩ := d0.cells
  have hkn2 : (k : Int) ≤ (na : Int) := by omega
  have hk3 : (0 : Int) ≤ (k : Int) := by omega
  have hkd : decide ((k : Int) < 1) = false := by simp; omega
  go_wp2_with (with_reducible (refine wpList_slice_from rfl (.tmp 34) (.tmp 35) 32 rfl 2 .i64 8 Tryz.underlying32 info_i64 (some ⟨pa, oa, none⟩) na ca k (dig 10000 A) rfl rfl hkn (hsa.later HB2 (Nat.le_refl _)) ?_))
  intro ak hsk
  go_wp2_with fail
  refine cut_at false _ _ _ _ w2 hsk (fun d hd => dig_lt (by omega : 2 ≤ 10000) A d (List.mem_of_mem_drop hd)) (by rw [← hsk.len]; omega) _ ?_
  intro n3 w3 hs3 hb3
  obtain ⟨r0, hr0⟩ : ∃ r0, r0 = val 10000 ((dig 10000 A).drop k) := ⟨_, rfl⟩
  rw [← hr0] at hs3
  have hr0M : r0 < M := by
    have h1 := val_lt ((dig 10000 A).drop k) (fun d hd => dig_lt (by omega : 2 ≤ 10000) A d (List.mem_of_mem_drop hd))
    rw [← hr0, List.length_drop, ← Ena.out] at h1
    have h2 : 10000 ^ (na - k) ≤ M := pow_le_dig (by omega) M _ (by rw [← Enb.out]; have := Hk.out; omega)
    omega
  have hr0v := Lib.hid hr0
  have e0 := d0.later hb3 (by omega)
  have e2 := d2.later hb3 (by omega)
  have e3 := d3.later hb3 (by omega)
  have e4 := B4.later hb3 (by omega)
  have earr := harr2.later hb3 (by omega)
  have hs1'' := hs1'.later hb3 (Nat.le_refl _)
  have HB3 := HB2.trans (hb3.mono HB2.size)
  have hsz3 := hb3.size
  clear hA0 hA1 d0 d2 d3 B4 harr2 hs1' hb3 HB2 hr0
  simp only [Bool.false_and]
  go_wp2
  go_loopw [10] (fun i wr => DivOut w A M na k pa oa ca pb ob n1 cb w1.heap.size (w1.heap.size + 1) w3.heap.size nega i wr) (fun i _ => (intOf i + 1).toNat)
  case atStart =>
    refine ⟨k, List.replicate k 0, r0, ak, n3, ca - k, rfl, Nat.le_refl _, by simp, fun x hx => by rw [(List.mem_replicate.1 hx).2]; omega, fun q hq => by simp [List.getD, hq], ?_, hr0M, earr.alloc _, HB3.alloc HB3.size _, e0.alloc _, e2.alloc _, e3.alloc _, e4.alloc _, hs1''.alloc _, Box2.made _ _ _ _, hs3.alloc _⟩
    rw [← hr0v.out, List.drop_eq_nil_of_le (by simp)]; simp [val]
  case round =>
    clear e0 e2 e3 e4 earr hs1'' hs3 HB3
    obtain ⟨j, D, r, ar, nr, cr, rfl, hj, hdl, hd, hd0, hval, hrM, harr, hbel, b0, b2, b3, b6, hsby, b9, hsr⟩ := hrel
    have Hdl := Lib.hid hdl
    have Hd := Lib.hid hd
    have Hd0 := Lib.hid hd0
    have Hval := Lib.hid hval
    have HBEL := Lib.hid hbel
    clear hdl hd hd0 hval
    obtain ⟨hA0, hA1, _, _⟩ := b0.cells
    obtain ⟨h60, h61, _, _⟩ := b6.cells
    obtain ⟨h90, h91, h92, h93⟩ := b9.cells
    by_cases hj0 : j = 0
    · subst hj0
      obtain ⟨h20, h21, h22, h23⟩ := b2.cells
      obtain ⟨h30, h31, h32, h33⟩ := b3.cells
      have hvq : A / M = val 10000 D ∧ A % M = r := by
        have h := Hval.out
        rw [List.drop_zero, List.drop_zero, val_dig (by omega)] at h
        have h1 : A / M = val 10000 D := Nat.div_eq_of_lt_le (by rw [h, Nat.mul_comm]; omega) (by rw [h, Nat.add_mul, Nat.mul_comm M]; omega)
        exact ⟨h1, by have := Nat.div_add_mod A M; rw [h1] at this; omega⟩
      rw [hvq.1, hvq.2] at HR
      have Hslw := Lib.hid (harr.sl k k Hdl.out.symm (Nat.le_refl _))
      have HB2 := Lib.hid b2
      have HB3 := Lib.hid b3
      have HB9 := Lib.hid b9
      have HSR := Lib.hid hsr
      have hl9 := lt_of_block b9
      clear hvq b0 b2 b3 b6 b9 hsby hsr harr hbel hA0 hA1 h60 h61
      go_wp2_with fail
      go_region_law (first
        | (go_simp; go_at_call 126; refine cut_at false _ _ _ D _ Hslw.out.drew Hd.out (by rw [Hdl.out]; omega) _ ?_; intro nq wq hsq hbq; have hbq' : Below wr.heap.size wr wq := below_ofDrew hbq; obtain ⟨m20, m21, m22, m23⟩ := (HB2.out.later hbq' (lt_of_block HB2.out)).cells; obtain ⟨m30, m31, m32, m33⟩ := (HB3.out.later hbq' (lt_of_block HB3.out)).cells; obtain ⟨m90, m91, m92, m93⟩ := (HB9.out.later hbq' hl9).cells; simp only [Bool.false_and]))
      all_goals
        go_wp2
        refine bodyPost_ret_at (by simp [results, Tryz.results170, go_sem, m20, m21, m30, m31] <;> rfl) rfl ?_
        have hbq2 : Below wr.heap.size wr wq := below_ofDrew hbq
        have hn2 := (HB2.out.later hbq2 (lt_of_block HB2.out)).noInt rfl rfl
        have hn3 := (HB3.out.later hbq2 (lt_of_block HB3.out)).noInt rfl rfl
        have hsr2 := HSR.out.later hbq2 (Nat.le_refl _)
        exact HR.out _ _ _ (IsZ.mkNat ((((hsq.set hn2 0 _).set (hn2.set 0 _ rfl) 1 _).set ((hn3.set 0 _ rfl).set 1 _ rfl) 0 _).set (((hn3.set 0 _ rfl).set 1 _ rfl).set 0 _ rfl) 1 _)) (IsZ.mkNat ((((hsr2.set hn2 0 _).set (hn2.set 0 _ rfl) 1 _).set ((hn3.set 0 _ rfl).set 1 _ rfl) 0 _).set (((hn3.set 0 _ rfl).set 1 _ rfl).set 0 _ rfl) 1 _)) (((((HBEL.out.trans (hbq2.mono HBEL.out.size)).setCell (by simp <;> omega) _).setCell (by simp <;> omega) _).setCell (by simp <;> omega) _).setCell (by simp <;> omega) _)
    · obtain ⟨i, rfl⟩ : ∃ i, j = i + 1 := ⟨j - 1, by omega⟩
      have es : ((i + 1 : Nat) : Int) - 1 = (i : Int) := by omega
      rw [es]
      clear es hj0
      have hina : i < na := by omega
      have hca := hsa.at i hina
      obtain ⟨_, _, he, _, hci⟩ := hca
      simp only [Option.some.injEq, Addr.mk.injEq, and_true] at he
      obtain ⟨rfl, rfl⟩ := he
      rw [← hbel.cell (p := ⟨pa, oa + i, none⟩) hpa] at hci
      obtain ⟨x, hxe⟩ : ∃ x, x = (dig 10000 A).getD i 0 := ⟨_, rfl⟩
      rw [← hxe] at hci
      have Hxe := Lib.hid hxe
      have hi0 : (0 : Int) ≤ (i : Int) := by omega
      have hi1 : (i : Int) < (na : Int) := by omega
      clear hxe
      go_wp2
      have hlp := lt_of_block b9
      have hlb0 := lt_of_block b0
      have hpw : pa < wr.heap.size := by have := hbel.size; omega
      have hrl : (dig 10000 r).length ≤ 1000000 := by
        have h1 := dig_length_le (B := 10000) (by omega) _ r (Nat.lt_trans hrM (lt_pow_dig (by omega : 2 ≤ 10000) M))
        rw [← Enb.out] at h1; omega
      have hdA := Lib.hid (show ∀ d ∈ [x] ++ dig 10000 r, d < 10000 from fun d hd => by
        rcases List.mem_append.1 hd with h | h
        · simp at h; rw [h, Hxe.out]; exact dig_getD_lt (by omega) _ _
        · exact dig_lt (by omega) _ _ h)
      have hvalA : val 10000 ([x] ++ dig 10000 r) = x + 10000 * r := by rw [List.singleton_append, val_cons_pos, val_dig (by omega)]
      have hvalA := Lib.hid hvalA
      go_cut [10] (fun s10 wx => s10 = .int .i64 i ∧ DivMid w M na pa oa ca pb ob n1 cb w1.heap.size (w1.heap.size + 1) w3.heap.size nega D (x + 10000 * r) wx)
      case first =>
        go_region_law (first
            | (refine step_append_any rfl (.tmp 49) (.tmp 51) 32 rfl 2 .i64 8 Tryz.underlying32 info_i64 (by omega) wr.heap.size [x] (dig 10000 r) (Own.lit1 _ _ _ _ _ _ rfl (Nat.le_refl _)).drew (hsr.alloc _).drew (by simp; omega) (by simp) ?_; intro av an ac wA hownA hnA hbA; have HnA := Lib.hid hnA; clear hnA; have hwA : wr.heap.size ≤ wA.heap.size := Nat.le_trans (by simp) hbA.size)
            | (go_simp; go_at_call 126; refine cut_at false _ _ _ _ _ hownA.sl hdA.out (by simp; omega) _ ?_; intro nC wC hsC hbC; have b9C := Box2.later (Box2.later (w := (wr.alloc (.cells #[.int .i64 x] 2)).drew) (b9.alloc _) hbA hlp) hbC (Nat.lt_of_lt_of_le hlp hwA); obtain ⟨hR0, hR1, hR2, hR3⟩ := b9C.cells; dsimp only))
        all_goals (go_wp2_with fail; go_meet; exact ⟨rfl, mid_rel w wr wA wC M na pa oa ca pb ob n1 cb w1.heap.size (w1.heap.size + 1) w3.heap.size nega D ([x] ++ dig 10000 r) (x + 10000 * r) _ av an ac nC ar nr cr hl3 (by omega) (by omega) harr HBEL.out b0 b2 b3 b6 hsby b9 hownA hbA hbC (by have := hsC; rwa [hvalA.out] at this)⟩)
      case rest =>
        obtain ⟨rfl, hmid⟩ := hcut
        have hib : i < k := by omega
        have hxi := Lib.hid (show i < (dig 10000 A).length by rw [← Ena.out]; exact hina)
        have hdi := Lib.hid (show i < D.length by rw [Hdl.out]; exact hib)
        have hxlt : x < 10000 := by rw [Hxe.out]; exact dig_getD_lt (by omega) _ _
        obtain ⟨t, ht⟩ : ∃ t, t = x + 10000 * r := ⟨_, rfl⟩
        rw [← ht] at hmid
        have htM : t < 10000 * M := by omega
        have Ht := Lib.hid ht
        have HMID := Lib.hid hmid
        have hml : (dig 10000 M).length ≤ 1000000 := by rw [← Enb.out]; exact hlb
        have htl : (dig 10000 t).length ≤ 2000000 := by
          have h1 := dig_length_le (B := 10000) (by omega) (nb + 1) t (by
            have := lt_pow_dig (by omega : 2 ≤ 10000) M
            rw [← Enb.out] at this
            rw [Nat.pow_succ]; omega)
          omega
        have Hml := Lib.hid hml
        have Htl := Lib.hid htl
        clear ht b0 b2 b3 b6 b9 hsby hsr harr hbel hA0 hA1 h60 h61 h90 h91 h92 h93 hlp hlb0 hpw hrl hdA hvalA hci hml htl
        obtain ⟨ar, nr, cr, haw, harr, hbel, b0, b2, b3, b6, hsby, b9, hsr⟩ := hmid
        obtain ⟨h60, h61, _, _⟩ := b6.cells
        obtain ⟨h90, h91, _, _⟩ := b9.cells
        go_wp2_with fail
        refine far_any _ _ (t : Int) (M : Int) _ (IsZ.mkNat hsr) (IsZ.mkNat hsby) (by have := Htl.out; simp; omega) (by have := Hml.out; simp; omega) _ ?_
        intro w4 hb4
        have HMID4 := Lib.hid (HMID.out.later hb4)
        rw [Int.natAbs_natCast, Int.natAbs_natCast]
        clear haw harr hbel b0 b2 b3 b6 hsby b9 hsr h60 h61 h90 h91 HMID hb4
        by_cases htm : t < M
        · rw [cmpN_lt htm]
          dsimp only
          go_wp2
          go_roundw
          case rel =>
            obtain ⟨ar, nr, cr, haw, harr, hbel, b0, b2, b3, b6, hsby, b9, hsr⟩ := HMID4.out
            exact ⟨i, D, t, ar, nr, cr, by go_num, by omega, Hdl.out, Hd.out, fun q hq => Hd0.out q (by omega), by rw [Ht.out]; exact div_cont _ _ _ _ _ _ hxi.out hdi.out Hxe.out (Hd0.out i (by omega)) Hval.out, htm, harr, hbel, b0, b2, b3, b6, hsby, b9, hsr⟩
          case measure => simp [intOf] <;> omega
        · have hcm : ¬ cmpN t M < 0 := by unfold cmpN; rw [if_neg htm]; split <;> omega
          obtain ⟨cm, hcme⟩ : ∃ cm, cm = cmpN t M := ⟨_, rfl⟩
          rw [← hcme] at hcm ⊢
          clear hcme
          dsimp only
          go_wp2
          go_loopw [11, 12] (fun low high wq => DivIn w M na pa oa ca pb ob n1 cb w1.heap.size (w1.heap.size + 1) w3.heap.size nega D t low high wq) (fun low high _ => (intOf high).toNat - (intOf low).toNat)
          case atStart => exact ⟨1, 9999, rfl, rfl, by omega, by omega, by omega, by omega, by omega, HMID4.out⟩
          case round =>
            obtain ⟨lo, hi, rfl, rfl, hlo1, hlohi, hhi, hlot, hhit, hmid⟩ := hrel
            have HMID := Lib.hid hmid
            have Hlot := Lib.hid hlot
            have Hhit := Lib.hid hhit
            clear hlot hhit hmid
            by_cases hlh : lo < hi
            · obtain ⟨m, hm⟩ : ∃ m, m = (lo + hi + 1) / 2 := ⟨_, rfl⟩
              have hme : ((lo : Int) + (hi : Int) + 1) / 2 = (m : Int) := by omega
              have hm1 : 1 ≤ m := by omega
              have hm2 : m ≤ 9999 := by omega
              have hm3 : lo < m := by omega
              have hm4 : m ≤ hi := by omega
              have Hm := Lib.hid hm
              clear hm
              obtain ⟨ar, nr, cr, haw, harr, hbel, b0, b2, b3, b6, hsby, b9, hsr⟩ := HMID.out
              obtain ⟨h60, h61, _, _⟩ := b6.cells
              obtain ⟨h90, h91, _, _⟩ := b9.cells
              have hMm : (dig 10000 (M * m)).length ≤ 1000001 := by
                have h1 := dig_length_le (B := 10000) (by omega) (nb + 1) (M * m) (by
                  have h2 := lt_pow_dig (by omega : 2 ≤ 10000) M
                  rw [← Enb.out] at h2
                  have h3 : M * m ≤ M * 9999 := Nat.mul_le_mul_left _ hm2
                  rw [Nat.pow_succ]; omega)
                omega
              have HMm := Lib.hid hMm
              have Hmm : Hid (decide (cmpN (M * m) t ≤ 0) = decide (M * m ≤ t)) := Lib.hid (cmpN_le _ _)
              clear haw harr hbel b0 b2 b3 hMm
              go_wp2_with fail
              go_cut [11, 12, 13, 72] (fun s11 s12 s13 s72 wx => s11 = .int .i64 lo ∧ s12 = .int .i64 hi ∧ s13 = .int .i64 m ∧ s72 = .bool (decide (M * m ≤ t)) ∧ DivMid w M na pa oa ca pb ob n1 cb w1.heap.size (w1.heap.size + 1) w3.heap.size nega D t wx)
              case first =>
                go_region_law (first
                  | (go_simp; go_at_call 124; refine zof_any (m : Int) _ (by omega) (by omega) _ ?_; intro vz wz hzz hbz; have hbz' : Below wr.heap.size wr wz := below_ofDrew hbz; obtain ⟨az, nz, cz, rfl, ez, hsz⟩ := (show IsZ wz vz ((m : Nat) : Int) from hzz).nat; obtain ⟨k60, k61, _, _⟩ := (b6.later hbz' (lt_of_block b6)).cells; obtain ⟨k90, k91, _, _⟩ := (b9.later hbz' (lt_of_block b9)).cells; clear ez hzz hbz; dsimp only)
                  | (go_simp; go_at_call 209; refine zmul_any _ _ (M : Int) (m : Int) _ (IsZ.mkNat (hsby.later hbz' (Nat.le_refl _))) (IsZ.mkNat hsz) (by have := Hml.out; simp; omega) (by have := @dig_length_ten 10000 (by omega) m 4 (by omega); simp; omega) _ ?_; intro vm wm hzm hbm; have hbm' := hbz'.trans (hbm.mono hbz'.size); obtain ⟨am, nm, cm2, rfl, em, hsm⟩ := (show IsZ wm vm ((M * m : Nat) : Int) from by rw [Int.natCast_mul]; exact hzm).nat; obtain ⟨l90, l91, _, _⟩ := (b9.later hbm' (lt_of_block b9)).cells; clear em hzm hbm; dsimp only)
                  | (go_simp; go_at_call 208; refine far_any _ _ ((M * m : Nat) : Int) (t : Int) _ (IsZ.mkNat hsm) (IsZ.mkNat (hsr.later hbm' (Nat.le_refl _))) (by have := HMm.out; simp only [Int.natAbs_natCast]; omega) (by have := Htl.out; simp; omega) _ ?_; intro wf hbf; have hbf' := hbm'.trans (hbf.mono hbm'.size); rw [Int.natAbs_natCast, Int.natAbs_natCast]; clear hbf; dsimp only))
                all_goals (go_wp2_with fail; go_meet; exact ⟨rfl, rfl, rfl, congrArg Value.bool Hmm.out, HMID.out.later hbf'⟩)
              case rest =>
                obtain ⟨rfl, rfl, rfl, rfl, hmid⟩ := hcut
                have HMIDc := Lib.hid hmid
                clear hmid b6 hsby b9 hsr h60 h61 h90 h91
                by_cases hle : M * m ≤ t
                · rw [decide_eq_true hle]
                  have Hle := Lib.hid hle
                  clear hle
                  go_wp2
                  go_roundw
                  case rel => exact ⟨m, hi, rfl, rfl, hm1, hm4, hhi, Hle.out, Hhit.out, HMIDc.out⟩
                  case measure => simp [intOf]; omega
                · rw [decide_eq_false hle]
                  have Hle := Lib.hid hle
                  clear hle
                  go_wp2
                  go_roundw
                  case rel => exact ⟨lo, m - 1, rfl, by go_num, hlo1, by omega, by omega, Hlot.out, by have := Hle.out; rw [show m - 1 + 1 = m by omega]; omega, HMIDc.out⟩
                  case measure => simp [intOf]; omega
            · obtain rfl : lo = hi := by omega
              have hq : t / M = lo := by
                have h1 := Hlot.out
                have h2 := Hhit.out
                exact Nat.div_eq_of_lt_le (by rw [Nat.mul_comm]; exact h1) (by rw [Nat.mul_comm]; exact h2)
              have Hq := Lib.hid hq
              clear hq
              obtain ⟨ar, nr, cr, haw, harr, hbel, b0, b2, b3, b6, hsby, b9, hsr⟩ := HMID.out
              obtain ⟨h60, h61, _, _⟩ := b6.cells
              obtain ⟨h90, h91, h92, h93⟩ := b9.cells
              have hcD := harr.cell i hdi.out
              have hfD := harr.frozen i
              have hik : (i : Int) < (k : Int) := by omega
              obtain ⟨wd, hwd⟩ : ∃ wd, wd = wr.setCell ⟨w1.heap.size + 1, i, none⟩ (.int .i64 (lo : Int)) := ⟨_, rfl⟩
              have hmd : DivMid w M na pa oa ca pb ob n1 cb w1.heap.size (w1.heap.size + 1) w3.heap.size nega (D.set i lo) t wd := by rw [hwd]; exact HMID.out.store i lo hpb hl3 (by omega) (by omega)
              have HMD := Lib.hid hmd
              have HWD := Lib.hid hwd
              clear hwd hmd
              go_wp2_with fail
              rw [← HWD.out]
              clear haw harr hbel b0 b2 b3 b6 hsby b9 hsr h60 h61 h90 h91 h92 h93 hcD hfD
              obtain ⟨ar, nr, cr, haw, harr, hbel, b0, b2, b3, b6, hsby, b9, hsr⟩ := HMD.out
              obtain ⟨h60, h61, _, _⟩ := b6.cells
              obtain ⟨h90, h91, h92, h93⟩ := b9.cells
              clear haw harr hbel b0 b2 b3
              have hMl : M * lo ≤ t := Hlot.out
              have hzz : (t : Int) + -((M * lo : Nat) : Int) = ((t % M : Nat) : Int) := by
                have h1 := Nat.div_add_mod t M
                rw [Hq.out] at h1
                have h2 : ((M * lo + t % M : Nat) : Int) = (t : Int) := by rw [h1]
                rw [Int.natCast_add] at h2
                omega
              have Hzz := Lib.hid hzz
              have hMlo : (dig 10000 (M * lo)).length ≤ 2000000 := by
                have h1 := dig_length_le (B := 10000) (by omega) _ (M * lo) (Nat.lt_of_le_of_lt hMl (lt_pow_dig (by omega : 2 ≤ 10000) t))
                exact Nat.le_trans h1 Htl.out
              have HMlo := Lib.hid hMlo
              clear hzz hMlo hMl
              go_region_law (first
                | (go_simp; go_at_call 124; refine zof_any (lo : Int) _ (by omega) (by omega) _ ?_; intro vz wz hzz hbz; have hbz' : Below wd.heap.size wd wz := below_ofDrew hbz; obtain ⟨az, nz, cz, rfl, ez, hsz⟩ := (show IsZ wz vz ((lo : Nat) : Int) from hzz).nat; obtain ⟨k60, k61, _, _⟩ := (b6.later hbz' (lt_of_block b6)).cells; obtain ⟨k90, k91, _, _⟩ := (b9.later hbz' (lt_of_block b9)).cells; clear ez hzz hbz; dsimp only)
                | (go_simp; go_at_call 209; refine zmul_any _ _ (M : Int) (lo : Int) _ (IsZ.mkNat (hsby.later hbz' (Nat.le_refl _))) (IsZ.mkNat hsz) (by have := Hml.out; simp; omega) (by have := @dig_length_ten 10000 (by omega) lo 4 (by omega); simp; omega) _ ?_; intro vm wm hzm hbm; have hbm' := hbz'.trans (hbm.mono hbz'.size); obtain ⟨am, nm, cm2, rfl, em, hsm⟩ := (show IsZ wm vm ((M * lo : Nat) : Int) from by rw [Int.natCast_mul]; exact hzm).nat; have hzm' : IsZ wm (.agg #[.bool false, .slice am nm cm2]) ((M * lo : Nat) : Int) := IsZ.mkNat hsm; obtain ⟨l90, l91, _, _⟩ := (b9.later hbm' (lt_of_block b9)).cells; clear em hzm hbm hsm; dsimp only)
                | (go_simp; go_at_call 211; refine zneg_any _ ((M * lo : Nat) : Int) _ hzm' (by have := HMlo.out; simp only [Int.natAbs_natCast]; omega) _ ?_; intro vn wn hzn hbn; have hbn' := hbm'.trans (hbn.mono hbm'.size); obtain ⟨bn, an, nn, cn2, rfl, hzn'⟩ := hzn.openB; obtain ⟨m90, m91, _, _⟩ := (b9.later hbn' (lt_of_block b9)).cells; clear hzn hbn; dsimp only)
                | (go_simp; go_at_call 210; refine zadd_any _ _ (t : Int) (-((M * lo : Nat) : Int)) _ (IsZ.mkNat (hsr.later hbn' (Nat.le_refl _))) hzn' (by have := Htl.out; simp; omega) (by have := HMlo.out; simp only [Int.natAbs_neg, Int.natAbs_natCast]; omega) _ ?_; intro vf wf hzf hbf; have hbf' := hbn'.trans (hbf.mono hbn'.size); rw [Hzz.out] at hzf; obtain ⟨af, nf, cf, rfl, ef, hsf⟩ := hzf.nat; obtain ⟨n90, n91, n92, n93⟩ := (b9.later hbf' (lt_of_block b9)).cells; clear ef hzf hbf; dsimp only))
              all_goals
                go_wp2
                go_roundw
                case rel => exact end_rel w wd wf A M na k pa oa ca pb ob n1 cb w1.heap.size (w1.heap.size + 1) w3.heap.size i nega (D.set i lo) t (t % M) af nf cf hl3 (by omega) (by omega) HMD.out hbf' hsf (by omega) (by rw [List.length_set]; exact Hdl.out) (set_lt D i lo Hd.out (by omega)) (fun q hq => by have h1 := Hd0.out q (by omega); rw [List.getD, List.getElem?_set_ne (by omega)]; exact h1) (div_store _ _ _ _ _ _ _ _ hxi.out hdi.out Hxe.out (by rw [← Ht.out, ← Hq.out]; exact (Nat.div_add_mod t M).symm) Hval.out) (Nat.mod_lt _ hbp)
                case measure => simp [intOf] <;> omega
end Go.Proofs.YtnfehccicnpbpaaGreatDoor

namespace Go.Proofs.YtnfehccicnpbpaaGreatDoor
open Go Go.RowKit

theorem zdiv_any (va vb : Value) (a b : Int) (w : World) (ha : IsZ w va a) (hb : IsZ w vb b) (hla : (dig 10000 a.natAbs).length ≤ 1000000) (hlb : (dig 10000 b.natAbs).length ≤ 1000000)
    (hb0 : b ≠ 0) (R : Ending → World → Prop)
    (hR : ∀ v1 v2 w', IsZ w' v1 ((a.natAbs / b.natAbs : Nat) : Int) → IsZ w' v2 ((a.natAbs % b.natAbs : Nat) : Int) → Below w.heap.size w w' → R (.returned (.tuple #[v1, v2])) w') :
    Calls Tryz.prog 170 #[va, vb] w R := by
  by_cases h : (dig 10000 a.natAbs).length < (dig 10000 b.natAbs).length
  · exact zdiv_small va vb a b w ha hb hla hlb h R hR
  · exact zdiv_main va vb a b w ha hb hla hlb hb0 (by omega) R hR

theorem zdiv_nat (va vb : Value) (a b : Nat) (w : World) (ha : IsZ w va (a : Int)) (hb : IsZ w vb (b : Int)) (hla : (dig 10000 a).length ≤ 1000000) (hlb : (dig 10000 b).length ≤ 1000000)
    (hb0 : b ≠ 0) (R : Ending → World → Prop)
    (hR : ∀ v1 v2 w', IsZ w' v1 ((a / b : Nat) : Int) → IsZ w' v2 ((a % b : Nat) : Int) → Below w.heap.size w w' → R (.returned (.tuple #[v1, v2])) w') :
    Calls Tryz.prog 170 #[va, vb] w R :=
  zdiv_any va vb a b w ha hb (by rw [Int.natAbs_natCast]; exact hla) (by rw [Int.natAbs_natCast]; exact hlb) (by omega) R (by rw [Int.natAbs_natCast, Int.natAbs_natCast]; exact hR)

/-- the number in a cell -/
def cellNat : Option Value → Nat
  | some (.int _ z) => z.toNat
  | _ => 0
/-- the number in a slice of digits -/
def slNat (w : World) : Value → Nat
  | .slice (some a) n _ => val 10000 ((List.range n).map fun i => cellNat (w.cell? ⟨a.block, a.off + i, none⟩))
  | _ => 0
/-- the number in the second cell of a box -/
def boxNat (w : World) (g : Nat) : Nat :=
  match w.cell? ⟨g, 1, none⟩ with
  | some v => slNat w v
  | none => 0

theorem Sl.slNat {k : IntKind} {w : World} {v : Value} {xs : List Nat} (h : Sl k w v xs) : slNat w v = val 10000 xs := by
  rcases h.cases with ⟨rfl, ao, cap, rfl⟩ | ⟨hl, b, off, cap, rfl, _, _, hc⟩
  · cases ao <;> simp [Go.Proofs.YtnfehccicnpbpaaGreatDoor.slNat, val]
  · unfold Go.Proofs.YtnfehccicnpbpaaGreatDoor.slNat
    dsimp only
    have : (List.range xs.length).map (fun i => cellNat (w.cell? ⟨b, off + i, none⟩)) = xs := by
      apply List.ext_getElem (by simp)
      intro i h1 h2
      rw [List.getElem_map, List.getElem_range, hc i h2]
      simp [cellNat, List.getD, List.getElem?_eq_getElem h2]
    rw [this]
theorem Box2.nat {w : World} {g : Nat} {u v : Value} {t : TypeId} {xs : List Nat} {k : IntKind} (h : Box2 w g u v t) (hs : Sl k w v xs) : boxNat w g = val 10000 xs := by
  obtain ⟨_, h1, _, _⟩ := h.cells
  unfold boxNat
  rw [h1]
  exact hs.slNat

def GcdRel (w : World) (G g : Nat) (wr : World) : Prop :=
  ∃ (x y : Nat) (a1 : Option Addr) (n1 c1 : Nat) (a2 : Option Addr) (n2 c2 : Nat), Nat.gcd x y = G ∧ (dig 10000 x).length ≤ 1000000 ∧ (dig 10000 y).length ≤ 1000000 ∧
    Box2 wr g (.bool false) (.slice a1 n1 c1) 114 ∧ Box2 wr (g + 1) (.bool false) (.slice a2 n2 c2) 114 ∧ Box2 wr (g + 2) (.bool false) (.slice none 0 0) 114 ∧
    Sl .i64 wr (.slice a1 n1 c1) (dig 10000 x) ∧ Sl .i64 wr (.slice a2 n2 c2) (dig 10000 y) ∧ Below g w wr

theorem gcd_step (w w3 : World) (x y g G : Nat) (u0 u1 : Value) (a1 : Option Addr) (n1 c1 : Nat) (a2 : Option Addr) (n2 c2 : Nat) (a4 : Option Addr) (n4 c4 : Nat) (hly : (dig 10000 y).length ≤ 1000000) (hy : y ≠ 0) (hG : Nat.gcd x y = G)
    (b0 : Box2 w3 g u0 (.slice a1 n1 c1) 114) (b1 : Box2 w3 (g + 1) u1 (.slice a2 n2 c2) 114) (b2 : Box2 w3 (g + 2) (.bool false) (.slice none 0 0) 114)
    (hu0 : notInt u0 = true) (hu1 : notInt u1 = true)
    (hs2 : Sl .i64 w3 (.slice a2 n2 c2) (dig 10000 y)) (hs4 : Sl .i64 w3 (.slice a4 n4 c4) (dig 10000 (x % y))) (hb : Below g w w3) (o1 o2 : Obj) (hgz : g ≤ w3.heap.size) :
    ∀ wz, wz = (((((w3.setCell ⟨g, 0, none⟩ (.bool false)).setCell ⟨g, 1, none⟩ (.slice a2 n2 c2)).setCell ⟨g + 1, 0, none⟩ (.bool false)).setCell ⟨g + 1, 1, none⟩ (.slice a4 n4 c4)).alloc o1).alloc o2 →
    GcdRel w G g wz ∧ boxNat wz (g + 1) = x % y := by
  have hn0 := b0.noInt hu0 rfl
  have d0 := b0.set01 (.bool false) (.slice a2 n2 c2)
  have d1 := b1.noSet (b := g) (by omega) (.bool false) (.slice a2 n2 c2)
  have d2 := b2.noSet (b := g) (by omega) (.bool false) (.slice a2 n2 c2)
  have t2 := hs2.noSet hn0 (.bool false) (.slice a2 n2 c2) rfl
  have t4 := hs4.noSet hn0 (.bool false) (.slice a2 n2 c2) rfl
  have hn1 := d1.noInt hu1 rfl
  have e1 := d1.set01 (.bool false) (.slice a4 n4 c4)
  have f4 := t4.noSet hn1 (.bool false) (.slice a4 n4 c4) rfl
  have hyp : 0 < y := by omega
  rintro _ rfl
  refine ⟨⟨y, x % y, a2, n2, c2, a4, n4, c4, ?_, hly, ?_, ((d0.noSet (by omega) _ _).alloc _).alloc _, (e1.alloc _).alloc _, ((d2.noSet (by omega) _ _).alloc _).alloc _, ((t2.noSet hn1 _ _ rfl).alloc _).alloc _, (f4.alloc _).alloc _, (((((hb.setCell (by simp) _).setCell (by simp) _).setCell (by simp) _).setCell (by simp) _).alloc (by simpa using hgz) _).alloc (by simp; omega) _⟩, ?_⟩
  · rw [← hG, Nat.gcd_comm y, ← Nat.gcd_rec, Nat.gcd_comm]
  · exact Nat.le_trans (dig_length_le (by omega) _ _ (Nat.lt_trans (Nat.mod_lt x hyp) (lt_pow_dig (by omega : 2 ≤ 10000) y))) hly
  · rw [((e1.alloc _).alloc _).nat ((f4.alloc _).alloc _), val_dig (by omega)]

set_option maxRecDepth 100000 in
set_option maxHeartbeats 1000000 in
theorem zgcd_any (va vb : Value) (a b : Int) (w : World) (ha : IsZ w va a) (hb : IsZ w vb b) (hla : (dig 10000 a.natAbs).length ≤ 1000000) (hlb : (dig 10000 b.natAbs).length ≤ 1000000)
    (R : Ending → World → Prop) (hR : ∀ v w', IsZ w' v ((Nat.gcd a.natAbs b.natAbs : Nat) : Int) → Below w.heap.size w w' → R (.returned v) w') :
    Calls Tryz.prog 169 #[va, vb] w R := by
  have HR := Lib.hid hR; clear hR
  obtain ⟨aa, na, ca, rfl, ena, hsa⟩ := ha.open
  obtain ⟨ab, nb, cb, rfl, enb, hsb⟩ := hb.open
  obtain ⟨nega, hnega⟩ : ∃ x, x = decide (a < 0) := ⟨_, rfl⟩
  obtain ⟨negb, hnegb⟩ : ∃ x, x = decide (b < 0) := ⟨_, rfl⟩
  rw [← hnega, ← hnegb]
  obtain ⟨A, hA⟩ : ∃ A, A = a.natAbs := ⟨_, rfl⟩
  obtain ⟨M, hM⟩ : ∃ M, M = b.natAbs := ⟨_, rfl⟩
  rw [← hA] at HR ena hsa hla
  rw [← hM] at HR enb hsb hlb
  clear ha hb hnega hnegb hA hM ena enb
  obtain ⟨L, hL⟩ : ∃ L, L = ((w.alloc (.cells #[.bool nega, .slice aa na ca] 114)).alloc (.cells #[.bool negb, .slice ab nb cb] 114)).alloc (.cells #[.bool false, .slice none 0 0] 114) := ⟨_, rfl⟩
  have hLs : L.heap.size = w.heap.size + 3 := by rw [hL]; simp
  have B0 : Box2 L w.heap.size (.bool nega) (.slice aa na ca) 114 := by rw [hL]; exact ((Box2.made w _ _ _).alloc _).alloc _
  have B1 : Box2 L (w.heap.size + 1) (.bool negb) (.slice ab nb cb) 114 := by rw [hL]; have := (Box2.made (w.alloc (.cells #[.bool nega, .slice aa na ca] 114)) (.bool negb) (.slice ab nb cb) 114).alloc (.cells #[.bool false, .slice none 0 0] 114); simpa using this
  have B2 : Box2 L (w.heap.size + 2) (.bool false) (.slice none 0 0) 114 := by rw [hL]; have := Box2.made ((w.alloc (.cells #[.bool nega, .slice aa na ca] 114)).alloc (.cells #[.bool negb, .slice ab nb cb] 114)) (.bool false) (.slice none 0 0) 114; simpa using this
  have HEXT : Below w.heap.size w L := by rw [hL]; exact (((Below.refl w.heap.size w).alloc (Nat.le_refl _) _).alloc (by simp) _).alloc (by simp; omega) _
  obtain ⟨hA0, hA1, _, _⟩ := B0.cells
  obtain ⟨hB0, hB1, _, _⟩ := B1.cells
  have HL := Lib.hid hL
  clear hL
  go_enter Tryz.func169, Tryz.ntmps169
  go_wp2_with fail
  rw [← HL.out]
  refine cut_at false _ _ _ (dig 10000 A) L (hsa.later HEXT (Nat.le_refl _)) (dig_lt (by omega) _) (by omega) _ ?_
  intro n1 w1 hs1 hb1
  rw [val_dig (by omega)] at hs1
  have b0 := B0.later hb1 (by omega)
  have b1 := B1.later hb1 (by omega)
  have b2 := B2.later hb1 (by omega)
  have HB1 := HEXT.trans (hb1.mono (by omega : w.heap.size ≤ L.heap.size))
  have hsz1 := hb1.size
  have hsb1 := (hsb.later HB1 (Nat.le_refl _))
  clear B0 B1 B2 hA0 hA1 hB0 hB1 hb1 HEXT hsa hsb
  obtain ⟨hA0, hA1, hA0', hA1'⟩ := b0.cells
  obtain ⟨hB0, hB1, _, _⟩ := b1.cells
  have hn0 := b0.noInt rfl rfl
  simp only [Bool.false_and]
  obtain ⟨L2, hL2⟩ : ∃ L2, L2 = (w1.setCell ⟨w.heap.size, 0, none⟩ (.bool false)).setCell ⟨w.heap.size, 1, none⟩ (.slice aa n1 ca) := ⟨_, rfl⟩
  have hL2s : L2.heap.size = w1.heap.size := by rw [hL2]; simp
  have c0 : Box2 L2 w.heap.size (.bool false) (.slice aa n1 ca) 114 := by rw [hL2]; exact b0.set01 _ _
  have c1 : Box2 L2 (w.heap.size + 1) (.bool negb) (.slice ab nb cb) 114 := by rw [hL2]; exact b1.noSet (by omega) _ _
  have c2 : Box2 L2 (w.heap.size + 2) (.bool false) (.slice none 0 0) 114 := by rw [hL2]; exact b2.noSet (by omega) _ _
  have hs2 : Sl .i64 L2 (.slice aa n1 ca) (dig 10000 A) := by rw [hL2]; exact hs1.noSet hn0 _ _ rfl
  have hsb2 : Sl .i64 L2 (.slice ab nb cb) (dig 10000 M) := by rw [hL2]; exact hsb1.noSet hn0 _ _ rfl
  have HB2 : Below w.heap.size w L2 := by rw [hL2]; exact (HB1.setCell (by simp) _).setCell (by simp) _
  have HL2 := Lib.hid hL2
  clear hL2
  go_wp2_with fail
  rw [← HL2.out]
  refine cut_at false _ _ _ (dig 10000 M) L2 hsb2 (dig_lt (by omega) _) (by omega) _ ?_
  intro n2 w2 hs3 hb2
  rw [val_dig (by omega)] at hs3
  have e0 := c0.later hb2 (by omega)
  have e1 := c1.later hb2 (by omega)
  have e2 := c2.later hb2 (by omega)
  have hs4 := hs2.later hb2 (Nat.le_refl _)
  have HB3 := HB2.trans (hb2.mono (by omega : w.heap.size ≤ L2.heap.size))
  clear b0 b1 b2 hs1 hsb1 hA0 hA1 hA0' hA1' hB0 hB1 hn0 c0 c1 c2 hs2 hsb2 HB2 HB1 hb2
  obtain ⟨hB0, hB1, hB0', hB1'⟩ := e1.cells
  have hn1 := e1.noInt rfl rfl
  simp only [Bool.false_and]
  go_wp2
  go_loopw [] (fun wr => GcdRel w (Nat.gcd A M) w.heap.size wr) (fun wr => boxNat wr (w.heap.size + 1))
  case atStart =>
    exact ⟨A, M, _, _, _, _, _, _, rfl, hla, hlb, e0.noSet (by omega) _ _, e1.set01 _ _, e2.noSet (by omega) _ _, hs4.noSet hn1 _ _ rfl, hs3.noSet hn1 _ _ rfl, (HB3.setCell (by simp) _).setCell (by simp) _⟩
  case round =>
    clear e0 e1 e2 hs3 hs4 HB3 hB0 hB1 hB0' hB1' hn1 hla hlb
    obtain ⟨x, y, a1, n1, c1, a2, n2, c2, hG, hlx, hly, b0, b1, b2, hs1, hs2, hbel⟩ := hrel
    have HG := Lib.hid hG
    clear hG
    obtain ⟨hA0, hA1, hA0', hA1'⟩ := b0.cells
    obtain ⟨hB0, hB1, hB0', hB1'⟩ := b1.cells
    obtain ⟨hC0, hC1, hC0', hC1'⟩ := b2.cells
    have hmeas := Lib.hid (b1.nat hs2)
    have hn2 := hs2.len
    by_cases hy : y = 0
    · have hn0 : n2 = 0 := by rw [hn2, hy, dig_zero]; rfl
      subst hn0
      rw [hy, Nat.gcd_zero_right] at HG
      have Hs1 := Lib.hid hs1
      have HBEL := Lib.hid hbel
      have hn3 := Lib.hid (b2.noInt rfl rfl)
      have hgx := HG.out
      rw [← hgx] at HR
      clear hs1 hbel hn2 hmeas hy hgx
      go_wp2
      refine bodyPost_ret_at (by simp [results, Tryz.results169, go_sem, hA0, hA1, hC0, hC1, hA0', hA1', hC0', hC1'] <;> rfl) rfl ?_
      exact HR.out _ _ (IsZ.mkNat ((Hs1.out.set hn3.out 0 _).set (hn3.out.set 0 _ rfl) 1 _)) ((HBEL.out.setCell (by simp <;> omega) _).setCell (by simp <;> omega) _)
    · have hmeas2 := Lib.hid (b1.nat hs2)
      have hnp : (0 : Int) < (n2 : Int) := by
        have h1 := dig_pos (B := 10000) (n := y) (by omega) (by omega)
        rw [h1] at hn2
        simp at hn2
        omega
      have Hn2 := Lib.hid hn2
      have HBEL := Lib.hid hbel
      have hlt := lt_of_block b2
      clear hn2 hbel hmeas
      go_wp2_with fail
      refine zdiv_nat _ _ x y wr (IsZ.mkNat hs1) (IsZ.mkNat hs2) hlx hly hy _ ?_
      intro v1 v2 w3 hz1 hz2 hb3
      obtain ⟨a3, n3, c3, rfl, rfl, _⟩ := hz1.nat
      obtain ⟨a4, n4, c4, rfl, rfl, hs4⟩ := hz2.nat
      have d0 := b0.later hb3 (by omega)
      have d1 := b1.later hb3 (by omega)
      have d2 := b2.later hb3 (by omega)
      have ht2 := hs2.later hb3 (Nat.le_refl _)
      have hbz := HBEL.out.trans (hb3.mono (by omega))
      have hl3 := lt_of_block d2
      have hl0 : w.heap.size < w3.heap.size := by omega
      have hl1 : w.heap.size + 1 < w3.heap.size := by omega
      clear hA0 hA1 hA0' hA1' hB0 hB1 hB0' hB1' hC0 hC1 hC0' hC1' b0 b1 b2 hs1 hs2 hb3 hz1 hz2 hnp
      obtain ⟨hA0, hA1, hA0', hA1'⟩ := d0.cells
      obtain ⟨hB0, hB1, hB0', hB1'⟩ := d1.cells
      have S := Lib.hid (gcd_step w w3 x y w.heap.size (Nat.gcd A M) _ _ a1 n1 c1 a2 n2 c2 a4 _ c4 hly hy HG.out d0 d1 d2 rfl rfl ht2 hs4 hbz (.cells #[.bool false, .slice a3 (dig 10000 (x / y)).length c3] 114) (.cells #[.bool false, .slice a4 (dig 10000 (x % y)).length c4] 114) (by omega) _ rfl)
      have hlt2 := Nat.mod_lt x (Nat.pos_of_ne_zero hy)
      clear d0 d1 d2 ht2 hs4 hbz
      go_wp2
      go_roundw
      case rel => exact S.out.1
      case measure => rw [S.out.2, hmeas2.out, val_dig (by omega)]; exact hlt2
end Go.Proofs.YtnfehccicnpbpaaGreatDoor

namespace Go.Proofs.YtnfehccicnpbpaaGreatDoor
open Go Go.RowKit

/-- the value of the model's type of a fraction of any size in lowest terms -/
def IsQ (w : World) (v : Value) (q : Rat) : Prop := ∃ s1 s2, v = .agg #[.bool (decide (q.num < 0)), s1, .bool false, s2] ∧ Sl .i64 w s1 (dig 10000 q.num.natAbs) ∧ Sl .i64 w s2 (dig 10000 q.den)

theorem IsQ.later {w w' : World} {v : Value} {q : Rat} {B : Nat} (h : IsQ w v q) (hb : Below B w w') (hB : w.heap.size ≤ B) : IsQ w' v q := by
  obtain ⟨s1, s2, h1, h2, h3⟩ := h; exact ⟨s1, s2, h1, h2.later hb hB, h3.later hb hB⟩

theorem IsQ.open {w : World} {v : Value} {q : Rat} (h : IsQ w v q) : ∃ a1 n1 c1 a2 n2 c2, v = .agg #[.bool (decide (q.num < 0)), .slice a1 n1 c1, .bool false, .slice a2 n2 c2] ∧
    n1 = (dig 10000 q.num.natAbs).length ∧ n2 = (dig 10000 q.den).length ∧ Sl .i64 w (.slice a1 n1 c1) (dig 10000 q.num.natAbs) ∧ Sl .i64 w (.slice a2 n2 c2) (dig 10000 q.den) := by
  obtain ⟨s1, s2, h1, h2, h3⟩ := h
  obtain ⟨a1, c1, e1, r1⟩ := h2
  obtain ⟨a2, c2, e2, r2⟩ := h3
  exact ⟨a1, _, c1, a2, _, c2, by rw [h1, e1, e2], rfl, rfl, ⟨a1, c1, rfl, r1⟩, ⟨a2, c2, rfl, r2⟩⟩

/-- a block of four cells -/
def Box4 (w : World) (b : Nat) (x0 x1 x2 x3 : Value) (t : TypeId) : Prop := w.heap[b]? = some (.cells #[x0, x1, x2, x3] t (0, 0))
theorem Box4.cells {w : World} {b : Nat} {x0 x1 x2 x3 : Value} {t : TypeId} (h : Box4 w b x0 x1 x2 x3 t) :
    (w.cell? ⟨b, 0, none⟩ = some x0 ∧ w.cell? ⟨b, 1, none⟩ = some x1 ∧ w.cell? ⟨b, 2, none⟩ = some x2 ∧ w.cell? ⟨b, 3, none⟩ = some x3) ∧
    (w.frozen? ⟨b, 0, none⟩ = false ∧ w.frozen? ⟨b, 1, none⟩ = false ∧ w.frozen? ⟨b, 2, none⟩ = false ∧ w.frozen? ⟨b, 3, none⟩ = false) := by
  unfold Box4 at h
  simp [World.cell?, World.frozen?, h]
theorem Box4.later {w w' : World} {b : Nat} {x0 x1 x2 x3 : Value} {t : TypeId} {B : Nat} (h : Box4 w b x0 x1 x2 x3 t) (hb : Below B w w') (hB : b < B) : Box4 w' b x0 x1 x2 x3 t := by
  unfold Box4 at *; rw [hb.block b hB]; exact h
theorem Box4.made (w : World) (x0 x1 x2 x3 : Value) (t : TypeId) : Box4 (w.alloc (.cells #[x0, x1, x2, x3] t)) w.heap.size x0 x1 x2 x3 t := by
  show (w.heap.push _)[_]? = _
  simp
theorem Box4.noInt {w : World} {b : Nat} {x0 x1 x2 x3 : Value} {t : TypeId} (h : Box4 w b x0 x1 x2 x3 t) (h0 : notInt x0 = true) (h1 : notInt x1 = true) (h2 : notInt x2 = true) (h3 : notInt x3 = true) : NoInt w b := by
  intro o x hx
  unfold Box4 at h
  simp only [World.cell?, h, Option.isSome_none, Bool.false_eq_true, if_false] at hx
  match o, hx with
  | 0, hx => simp at hx; subst hx; exact h0
  | 1, hx => simp at hx; subst hx; exact h1
  | 2, hx => simp at hx; subst hx; exact h2
  | 3, hx => simp at hx; subst hx; exact h3
  | (n + 4), hx => simp at hx

set_option maxRecDepth 100000 in
theorem int_any (n : Int) (w : World) (h1 : -9223372036854775807 - 1 ≤ n) (h2 : n ≤ 9223372036854775807) (R : Ending → World → Prop)
    (hR : ∀ v w', IsQ w' v (n : Rat) → Below w.heap.size w w' → R (.returned v) w') :
    Calls Tryz.prog 145 #[.int .i64 n] w R := by
  have HR := Lib.hid hR; clear hR
  obtain ⟨B, hB⟩ : ∃ B, B = w.heap.size := ⟨_, rfl⟩
  have hbox := Box4.made w (.bool false) (.slice none 0 0) (.bool false) (.slice none 0 0) 116
  go_enter Tryz.func145, Tryz.ntmps145
  go_wp2_with fail
  refine zof_any n _ h1 h2 _ ?_
  intro v1 w1 hz1 hb1
  have hbox1 := hbox.later hb1 (by simp)
  clear hbox
  dsimp only
  go_wp2_with fail
  refine zof_any 1 _ (by omega) (by omega) _ ?_
  intro v2 w2 hz2 hb2
  have hbox2 := hbox1.later hb2 (lt_of_block hbox1)
  have hz1' := hz1.later hb2 (Nat.le_refl _)
  obtain ⟨a1, n1, c1, rfl, e1, hs1⟩ := hz1'.open
  obtain ⟨a2, n2, c2, rfl, e2, hs2⟩ := hz2.open
  have E1 := Lib.hid e1
  have E2 := Lib.hid e2
  obtain ⟨⟨hA, hB, hC, hD⟩, hA', hB', hC', hD'⟩ := hbox2.cells
  have hni := hbox2.noInt rfl rfl rfl rfl
  clear e1 e2 hbox1 hz1 hz1' hz2
  dsimp only
  go_wp2
  refine bodyPost_ret_at (by simp [results, Tryz.results145, go_sem, hA, hB, hC, hD, hA', hB', hC', hD'] <;> rfl) rfl ?_
  have hbz : Below w.heap.size w w2 := ((Below.refl _ _).alloc (Nat.le_refl _) _).trans ((hb1.mono (by simp)).trans (hb2.mono (by have := hb1.size; simp at this; omega)))
  refine HR.out _ _ ⟨_, _, ?_, ((((hs1.set hni 0 _).set (hni.set 0 _ rfl) 1 _).set ((hni.set 0 _ rfl).set 1 _ rfl) 2 _).set (((hni.set 0 _ rfl).set 1 _ rfl).set 2 _ rfl) 3 _), ((((hs2.set hni 0 _).set (hni.set 0 _ rfl) 1 _).set ((hni.set 0 _ rfl).set 1 _ rfl) 2 _).set (((hni.set 0 _ rfl).set 1 _ rfl).set 2 _ rfl) 3 _)⟩ ((((hbz.setCell (by simp) _).setCell (by simp) _).setCell (by simp) _).setCell (by simp) _)
  simp <;> exact decide_eq_decide.2 Iff.rfl

set_option maxRecDepth 100000 in
theorem integerQ_any (v : Value) (q : Rat) (w : World) (hq : IsQ w v q) (hlen : (dig 10000 q.den).length ≤ 1000000000) (R : Ending → World → Prop)
    (hR : ∀ w', Below w.heap.size w w' → R (.returned (.bool (decide (q.den = 1)))) w') :
    Calls Tryz.prog 121 #[v] w R := by
  have HR := Lib.hid hR; clear hR
  obtain ⟨a1, n1, c1, a2, n2, c2, rfl, e1, e2, hs1, hs2⟩ := hq.open
  rw [← e2] at hlen
  by_cases hone : n2 = 1
  · subst hone
    rcases hs2.cases with ⟨h0, _⟩ | ⟨h0, b, off, cap, he, hcap, hb, hc⟩
    · rw [h0] at e2; cases e2
    · simp only [Value.slice.injEq] at he
      obtain ⟨rfl, he3, rfl⟩ := he; clear he3
      have hcell := hc 0 (by omega)
      rw [Nat.add_zero] at hcell
      obtain ⟨x, hx⟩ : ∃ x, x = (dig 10000 q.den).getD 0 0 := ⟨_, rfl⟩
      rw [← hx] at hcell
      have hxd : decide (q.den = 1) = decide (x = 1) := by
        have h1 : dig 10000 q.den = [x] := by
          obtain ⟨y, hd⟩ := List.length_eq_one_iff.1 e2.symm
          rw [hd] at hx; simp at hx; rw [hd, hx]
        have h2 := val_dig (B := 10000) (by omega) q.den
        rw [h1] at h2; simp [val] at h2
        rw [← h2]
      rw [hxd] at HR
      have E2 := Lib.hid e2
      have HX := Lib.hid hx
      clear hc hcap h0 hs1 hs2 e1 e2 hx hxd hq
      by_cases hx1 : x = 1
      · subst hx1
        go_enter Tryz.func121, Tryz.ntmps121
        go_wp2
        first | go_ret | skip
        exact HR.out _ ((Below.refl _ _).alloc (Nat.le_refl _) _)
      · have e : (((x : Nat) : Int) == 1) = false := by simp; omega
        rw [decide_eq_false hx1] at HR
        go_enter Tryz.func121, Tryz.ntmps121
        go_wp2
        first | go_ret | skip
        exact HR.out _ ((Below.refl _ _).alloc (Nat.le_refl _) _)
  · have hxd : q.den ≠ 1 := by
      intro h; rw [h, dig_small (by omega) (by omega)] at e2; exact hone e2
    rw [decide_eq_false hxd] at HR
    have e : (((n2 : Nat) : Int) == 1) = false := by simp; omega
    clear hs1 hs2 e1 e2 hq hxd
    go_enter Tryz.func121, Tryz.ntmps121
    go_wp2
    first | go_ret | skip
    exact HR.out _ ((Below.refl _ _).alloc (Nat.le_refl _) _)
end Go.Proofs.YtnfehccicnpbpaaGreatDoor

namespace Go.Proofs.YtnfehccicnpbpaaGreatDoor
open Go Go.RowKit

theorem divint_parts (n m : Int) (hm : m ≠ 0) : (Rat.divInt n m).num.natAbs = n.natAbs / Nat.gcd n.natAbs m.natAbs ∧ (Rat.divInt n m).den = m.natAbs / Nat.gcd n.natAbs m.natAbs ∧
    decide ((Rat.divInt n m).num < 0) = ((decide (n < 0) != decide (m < 0)) && decide (0 < n.natAbs / Nat.gcd n.natAbs m.natAbs)) := by
  have hg : m.gcd n = Nat.gcd n.natAbs m.natAbs := by rw [Nat.gcd_comm]; rfl
  have hgp : 0 < Nat.gcd n.natAbs m.natAbs := Nat.gcd_pos_of_pos_right _ (by omega)
  rw [Rat.num_divInt, Rat.den_divInt, if_neg hm, hg]
  have hd : Nat.gcd n.natAbs m.natAbs ∣ n.natAbs := Nat.gcd_dvd_left _ _
  generalize Nat.gcd n.natAbs m.natAbs = g at hd hgp
  clear hg
  obtain ⟨k, hk⟩ := (Int.ofNat_dvd_left.2 hd : (g : Int) ∣ n)
  subst hk
  have e1 : m.sign * ((g : Int) * k) / (g : Int) = m.sign * k := by
    rw [Int.mul_left_comm, Int.mul_ediv_cancel_left _ (by omega)]
  have e2 : ((g : Int) * k).natAbs / g = k.natAbs := by
    rw [Int.natAbs_mul, Int.natAbs_natCast, Nat.mul_div_cancel_left _ hgp]
  have hgi : (0 : Int) < (g : Int) := by omega
  have e3 : decide ((g : Int) * k < 0) = decide (k < 0) := by
    apply decide_eq_decide.2
    constructor
    · intro h; rcases Int.lt_or_le k 0 with h1 | h1
      · exact h1
      · have := Int.mul_nonneg (Int.le_of_lt hgi) h1; omega
    · intro h; exact Int.mul_neg_of_pos_of_neg hgi h
  rw [e1, e2, e3]
  rcases Int.lt_or_gt_of_ne hm with h | h
  · rw [Int.sign_eq_neg_one_of_neg h, decide_eq_true h]
    refine ⟨by simp, rfl, ?_⟩
    rcases Int.lt_trichotomy k 0 with h1 | h1 | h1
    · rw [decide_eq_false (by omega), decide_eq_true h1]; rfl
    · subst h1; rfl
    · rw [decide_eq_true (by omega), decide_eq_false (by omega), decide_eq_true (by omega)]; rfl
  · rw [Int.sign_eq_one_of_pos h, decide_eq_false (by omega : ¬ m < 0)]
    refine ⟨by simp, rfl, ?_⟩
    rcases Int.lt_trichotomy k 0 with h1 | h1 | h1
    · rw [decide_eq_true (by omega), decide_eq_true h1, decide_eq_true (by omega)]; rfl
    · subst h1; rfl
    · rw [decide_eq_false (by omega), decide_eq_false (by omega)]; rfl

theorem gcd_len (a b : Nat) (hb : b ≠ 0) (N : Nat) (h : (dig 10000 b).length ≤ N) : (dig 10000 (Nat.gcd a b)).length ≤ N :=
  Nat.le_trans (dig_length_le (by omega) _ _ (Nat.lt_of_le_of_lt (Nat.gcd_le_right _ (by omega)) (lt_pow_dig (by omega : 2 ≤ 10000) b))) h
theorem div_len (a b : Nat) (N : Nat) (h : (dig 10000 a).length ≤ N) : (dig 10000 (a / b)).length ≤ N :=
  Nat.le_trans (dig_length_le (by omega) _ _ (Nat.lt_of_le_of_lt (Nat.div_le_self _ _) (lt_pow_dig (by omega : 2 ≤ 10000) a))) h

/-- a box with a fraction -/
def QBox (g : Nat) (w : World) (b : Nat) (q : Rat) (wx : World) : Prop :=
  ∃ (n : Bool) (x1 x2 : Value), Box4 wx b (.bool n) x1 (.bool false) x2 116 ∧ n = decide (q.num < 0) ∧ Sl .i64 wx x1 (dig 10000 q.num.natAbs) ∧ Sl .i64 wx x2 (dig 10000 q.den) ∧ Below g w wx

theorem Box4.set4 {w : World} {b : Nat} {x0 x1 x2 x3 : Value} {t : TypeId} (h : Box4 w b x0 x1 x2 x3 t) (y0 y1 y2 y3 : Value) :
    Box4 ((((w.setCell ⟨b, 0, none⟩ y0).setCell ⟨b, 1, none⟩ y1).setCell ⟨b, 2, none⟩ y2).setCell ⟨b, 3, none⟩ y3) b y0 y1 y2 y3 t := by
  unfold Box4 at *
  simp [World.setCell, Array.getElem?_modify, h]

theorem Sl.set4 {k : IntKind} {w : World} {v : Value} {xs : List Nat} (h : Sl k w v xs) {b : Nat} (hn : NoInt w b) (y0 y1 y2 y3 : Value) (h0 : notInt y0 = true) (h1 : notInt y1 = true) (h2 : notInt y2 = true) :
    Sl k ((((w.setCell ⟨b, 0, none⟩ y0).setCell ⟨b, 1, none⟩ y1).setCell ⟨b, 2, none⟩ y2).setCell ⟨b, 3, none⟩ y3) v xs :=
  (((h.set hn 0 _).set (hn.set 0 _ h0) 1 _).set ((hn.set 0 _ h0).set 1 _ h1) 2 _).set (((hn.set 0 _ h0).set 1 _ h1).set 2 _ h2) 3 _

theorem make_val (a b : Int) (hb : b ≠ 0) (G : Nat) (hG : G = Nat.gcd a.natAbs b.natAbs) (Q1 Q2 : Nat) (h1 : Q1 = a.natAbs / G) (h2 : Q2 = b.natAbs / G) (nega negb : Bool) (hna : nega = decide (a < 0)) (hnb : negb = decide (b < 0)) :
    (!(nega == negb) && decide (0 < Q1)) = decide ((Rat.divInt a b).num < 0) ∧ Q1 = (Rat.divInt a b).num.natAbs ∧ Q2 = (Rat.divInt a b).den := by
  obtain ⟨e1, e2, e3⟩ := divint_parts a b hb
  refine ⟨?_, by rw [e1, h1, hG], by rw [e2, h2, hG]⟩
  rw [e3, hna, hnb, h1, hG]; rfl

theorem make_end (w W wC : World) (g : Nat) (q : Rat) (nega negb : Bool) (a2 : Option Addr) (nC c2 : Nat) (a4 : Option Addr) (n4 c4 : Nat) (Q1 Q2 : Nat)
    (hv : (!(nega == negb) && decide (0 < Q1)) = decide (q.num < 0) ∧ Q1 = q.num.natAbs ∧ Q2 = q.den) (d2 : Box4 wC (g + 2) (.bool false) (.slice none 0 0) (.bool false) (.slice none 0 0) 116)
    (hs : Sl .i64 wC (.slice a2 nC c2) (dig 10000 (val 10000 (dig 10000 Q1)))) (hs4 : Sl .i64 W (.slice a4 n4 c4) (dig 10000 Q2)) (hb : Below g w W) (hbC : Below W.drew.heap.size W.drew wC) (hgW : g ≤ W.heap.size) :
    QBox g w (g + 1 + 1) q ((((wC.setCell ⟨g + 1 + 1, 0, none⟩ (.bool (!(nega == negb) && decide (0 < val 10000 (dig 10000 Q1))))).setCell ⟨g + 1 + 1, 1, none⟩ (.slice a2 nC c2)).setCell ⟨g + 1 + 1, 2, none⟩ (.bool false)).setCell ⟨g + 1 + 1, 3, none⟩ (.slice a4 n4 c4)) := by
  obtain ⟨h1, h2, h3⟩ := hv
  rw [val_dig (by omega)] at hs ⊢
  have hn := d2.noInt rfl rfl rfl rfl
  have t4 := (Sl.drew hs4).later hbC (Nat.le_refl _)
  refine ⟨_, _, _, d2.set4 _ _ _ _, h1, ?_, ?_, ((((hb.trans ((below_ofDrew hbC).mono hgW)).setCell (by simp <;> omega) _).setCell (by simp <;> omega) _).setCell (by simp <;> omega) _).setCell (by simp <;> omega) _⟩
  · rw [← h2]; exact hs.set4 hn _ _ _ _ rfl rfl rfl
  · rw [← h3]; exact t4.set4 hn _ _ _ _ rfl rfl rfl

set_option maxRecDepth 100000 in
set_option maxHeartbeats 1000000 in
theorem make_any (va vb : Value) (a b : Int) (w : World) (ha : IsZ w va a) (hb : IsZ w vb b) (hla : (dig 10000 a.natAbs).length ≤ 1000000) (hlb : (dig 10000 b.natAbs).length ≤ 1000000) (hb0 : b ≠ 0)
    (R : Ending → World → Prop) (hR : ∀ v w', IsQ w' v (Rat.divInt a b) → Below w.heap.size w w' → R (.returned v) w') :
    Calls Tryz.prog 125 #[va, vb] w R := by
  have HR := Lib.hid hR; clear hR
  obtain ⟨nega, aa, na, ca, rfl, hza⟩ := ha.openB
  obtain ⟨negb, ab, nb, cb, rfl, hzb⟩ := hb.openB
  have hna : nega = decide (a < 0) := by obtain ⟨s, h, _⟩ := hza; simp at h; exact h.1
  have hnb : negb = decide (b < 0) := by obtain ⟨s, h, _⟩ := hzb; simp at h; exact h.1
  have HNA := Lib.hid hna
  have HNB := Lib.hid hnb
  have HB0 := Lib.hid hb0
  clear ha hb hna hnb hb0
  obtain ⟨L, hL⟩ : ∃ L, L = ((w.alloc (.cells #[.bool nega, .slice aa na ca] 114)).alloc (.cells #[.bool negb, .slice ab nb cb] 114)).alloc (.cells #[.bool false, .slice none 0 0, .bool false, .slice none 0 0] 116) := ⟨_, rfl⟩
  have hLs : L.heap.size = w.heap.size + 3 := by rw [hL]; simp
  have B0 : Box2 L w.heap.size (.bool nega) (.slice aa na ca) 114 := by rw [hL]; exact ((Box2.made w _ _ _).alloc _).alloc _
  have B1 : Box2 L (w.heap.size + 1) (.bool negb) (.slice ab nb cb) 114 := by rw [hL]; have := (Box2.made (w.alloc (.cells #[.bool nega, .slice aa na ca] 114)) (.bool negb) (.slice ab nb cb) 114).alloc (.cells #[.bool false, .slice none 0 0, .bool false, .slice none 0 0] 116); simpa using this
  have B2 : Box4 L (w.heap.size + 2) (.bool false) (.slice none 0 0) (.bool false) (.slice none 0 0) 116 := by rw [hL]; have := Box4.made ((w.alloc (.cells #[.bool nega, .slice aa na ca] 114)).alloc (.cells #[.bool negb, .slice ab nb cb] 114)) (.bool false) (.slice none 0 0) (.bool false) (.slice none 0 0) 116; simpa using this
  have HEXT : Below w.heap.size w L := by rw [hL]; exact (((Below.refl w.heap.size w).alloc (Nat.le_refl _) _).alloc (by simp) _).alloc (by simp; omega) _
  obtain ⟨hA0, hA1, _, _⟩ := B0.cells
  obtain ⟨hB0, hB1, _, _⟩ := B1.cells
  have HL := Lib.hid hL
  have za := hza.later HEXT (Nat.le_refl _)
  have zb := hzb.later HEXT (Nat.le_refl _)
  clear hL hza hzb
  obtain ⟨G, hG⟩ : ∃ G, G = Nat.gcd a.natAbs b.natAbs := ⟨_, rfl⟩
  have HG := Lib.hid hG
  have hG0 : (G : Int) ≠ 0 := by have : 0 < Nat.gcd a.natAbs b.natAbs := Nat.gcd_pos_of_pos_right _ (by have := HB0.out; omega); omega
  have hGl : (dig 10000 ((G : Int)).natAbs).length ≤ 1000000 := by rw [Int.natAbs_natCast, hG]; exact gcd_len _ _ (by have := HB0.out; omega) _ hlb
  have HGl := Lib.hid hGl
  have HG0 := Lib.hid hG0
  clear hG hG0 hGl
  go_enter Tryz.func125, Tryz.ntmps125
  go_wp2_with fail
  rw [← HL.out]
  refine zgcd_any _ _ a b L za zb hla hlb _ ?_
  intro v1 w1 hz1 hb1
  rw [← HG.out] at hz1
  obtain ⟨a1, n1, c1, rfl, rfl, _⟩ := hz1.nat
  have b0 := B0.later hb1 (by omega)
  have b1 := B1.later hb1 (by omega)
  have b2 := B2.later hb1 (by omega)
  have ya := za.later hb1 (Nat.le_refl _)
  have yb := zb.later hb1 (Nat.le_refl _)
  have hbz1 := HEXT.trans (hb1.mono (by omega))
  have hsz1 := hb1.size
  clear B0 B1 B2 za zb hA0 hA1 hB0 hB1 hb1 HEXT
  obtain ⟨hA0, hA1, _, _⟩ := b0.cells
  obtain ⟨hB0, hB1, _, _⟩ := b1.cells
  have hl2 := lt_of_block b2
  have hl0 : w.heap.size < w1.heap.size := by omega
  have hl1 : w.heap.size + 1 < w1.heap.size := by omega
  go_wp2_with fail
  refine zdiv_any _ _ a (G : Int) _ (ya.later ((Below.refl w1.heap.size w1).alloc (Nat.le_refl _) _) (Nat.le_refl _)) (hz1.later ((Below.refl w1.heap.size w1).alloc (Nat.le_refl _) _) (Nat.le_refl _)) hla HGl.out HG0.out _ ?_
  intro v2 v3 w2 hz2 hz3 hb2
  rw [Int.natAbs_natCast] at hz2 hz3
  obtain ⟨Q1, hQ1⟩ : ∃ q, q = a.natAbs / G := ⟨_, rfl⟩
  rw [← hQ1] at hz2
  have HQ1 := Lib.hid hQ1
  have HY := Lib.hid ya
  clear hQ1 ya
  obtain ⟨a2, n2, c2, rfl, rfl, hs2⟩ := hz2.nat
  obtain ⟨a3, n3, c3, rfl, rfl, _⟩ := hz3.nat
  clear hz2 hz3
  have hb2s := hb2.size
  simp only [World.size_alloc] at hb2s
  have hY2 := (yb.later ((Below.refl w1.heap.size w1).alloc (Nat.le_refl _) (.cells #[.bool false, .slice a1 (dig 10000 G).length c1] 114)) (Nat.le_refl _)).later hb2 (Nat.le_refl _)
  have d0 := (b0.alloc (.cells #[.bool false, .slice a1 (dig 10000 G).length c1] 114)).later hb2 (by simp; omega)
  have d1 := (b1.alloc (.cells #[.bool false, .slice a1 (dig 10000 G).length c1] 114)).later hb2 (by simp; omega)
  have d2 : Box4 w2 (w.heap.size + 2) (.bool false) (.slice none 0 0) (.bool false) (.slice none 0 0) 116 := (b2.later ((Below.refl w1.heap.size w1).alloc (Nat.le_refl _) (.cells #[.bool false, .slice a1 (dig 10000 G).length c1] 114)) hl2).later hb2 (by simp; omega)
  have d5 := (Box2.made w1 (.bool false) (.slice a1 (dig 10000 G).length c1) 114).later hb2 (by simp)
  have hzG := (hz1.later ((Below.refl w1.heap.size w1).alloc (Nat.le_refl _) (.cells #[.bool false, .slice a1 (dig 10000 G).length c1] 114)) (Nat.le_refl _)).later hb2 (Nat.le_refl _)
  have hbz2 := (hbz1.alloc (by omega) (.cells #[.bool false, .slice a1 (dig 10000 G).length c1] 114)).trans (hb2.mono (by simp; omega))
  clear b0 b1 b2 hA0 hA1 hB0 hB1 hz1 hb2 yb hbz1
  obtain ⟨hA0, hA1, _, _⟩ := d0.cells
  obtain ⟨hB0, hB1, _, _⟩ := d1.cells
  obtain ⟨hC0, hC1, _, _⟩ := d5.cells
  have hl3 : w.heap.size < w2.heap.size := by omega
  have hl4 : w.heap.size + 1 < w2.heap.size := by omega
  have hl5 : w1.heap.size < w2.heap.size := by omega
  go_wp2_with fail
  refine zdiv_any _ _ b (G : Int) _ ((hY2.later ((Below.refl w2.heap.size w2).alloc (Nat.le_refl _) _) (Nat.le_refl _)).later (B := w2.heap.size + 1) ((Below.refl _ _).alloc (by simp) _) (by simp)) ((hzG.later ((Below.refl w2.heap.size w2).alloc (Nat.le_refl _) _) (Nat.le_refl _)).later (B := w2.heap.size + 1) ((Below.refl _ _).alloc (by simp) _) (by simp)) hlb HGl.out HG0.out _ ?_
  intro v4 v5 w3 hz4 hz5 hb3
  rw [Int.natAbs_natCast] at hz4 hz5
  obtain ⟨Q2, hQ2⟩ : ∃ q, q = b.natAbs / G := ⟨_, rfl⟩
  rw [← hQ2] at hz4
  have HQ2 := Lib.hid hQ2
  clear hQ2
  obtain ⟨a4, n4, c4, rfl, rfl, hs4⟩ := hz4.nat
  obtain ⟨a5, n5, c5, rfl, rfl, _⟩ := hz5.nat
  clear hz4 hz5
  have hb3s := hb3.size
  simp only [World.size_alloc] at hb3s
  have hbb : Below w2.heap.size w2 w3 := (((Below.refl w2.heap.size w2).alloc (Nat.le_refl _) (.cells #[.bool false, .slice a2 (dig 10000 Q1).length c2] 114)).alloc (by simp) (.cells #[.bool false, .slice a3 (dig 10000 (a.natAbs % G)).length c3] 114)).trans (hb3.mono (by simp; omega))
  have e0 := d0.later hbb (by omega)
  have e1 := d1.later hbb (by omega)
  have e2 := d2.later hbb (by omega)
  have e6 := ((Box2.made w2 (.bool false) (.slice a2 (dig 10000 Q1).length c2) 114).alloc (.cells #[.bool false, .slice a3 (dig 10000 (a.natAbs % G)).length c3] 114)).later hb3 (by simp; omega)
  have hs6 := hs2.later hbb (Nat.le_refl _)
  have hbz3 := hbz2.trans (hbb.mono (by omega))
  clear d0 d1 d2 d5 hA0 hA1 hB0 hB1 hC0 hC1 hzG hY2 hs2 hb3 hbz2 hbb
  have f0 := (e0.alloc (.cells #[.bool false, .slice a4 (dig 10000 Q2).length c4] 114)).alloc (.cells #[.bool false, .slice a5 (dig 10000 (b.natAbs % G)).length c5] 114)
  have f1 := (e1.alloc (.cells #[.bool false, .slice a4 (dig 10000 Q2).length c4] 114)).alloc (.cells #[.bool false, .slice a5 (dig 10000 (b.natAbs % G)).length c5] 114)
  have f6 := (e6.alloc (.cells #[.bool false, .slice a4 (dig 10000 Q2).length c4] 114)).alloc (.cells #[.bool false, .slice a5 (dig 10000 (b.natAbs % G)).length c5] 114)
  have f8 := (Box2.made w3 (.bool false) (.slice a4 (dig 10000 Q2).length c4) 114).alloc (.cells #[.bool false, .slice a5 (dig 10000 (b.natAbs % G)).length c5] 114)
  have f2 : Box4 ((w3.alloc (.cells #[.bool false, .slice a4 (dig 10000 Q2).length c4] 114)).alloc (.cells #[.bool false, .slice a5 (dig 10000 (b.natAbs % G)).length c5] 114)) (w.heap.size + 2) (.bool false) (.slice none 0 0) (.bool false) (.slice none 0 0) 116 := (e2.later ((Below.refl w3.heap.size w3).alloc (Nat.le_refl _) _) (by omega)).later (B := w3.heap.size + 1) ((Below.refl _ _).alloc (by simp) _) (by omega)
  have f4 := (hs4.alloc (.cells #[.bool false, .slice a4 (dig 10000 Q2).length c4] 114)).alloc (.cells #[.bool false, .slice a5 (dig 10000 (b.natAbs % G)).length c5] 114)
  have f5 := (hs6.alloc (.cells #[.bool false, .slice a4 (dig 10000 Q2).length c4] 114)).alloc (.cells #[.bool false, .slice a5 (dig 10000 (b.natAbs % G)).length c5] 114)
  have hbz4 := (hbz3.alloc (by omega) (.cells #[.bool false, .slice a4 (dig 10000 Q2).length c4] 114)).alloc (by simp; omega) (.cells #[.bool false, .slice a5 (dig 10000 (b.natAbs % G)).length c5] 114)
  clear e0 e1 e2 e6 hs4 hs6 hbz3
  obtain ⟨W, hW⟩ : ∃ W, W = (w3.alloc (.cells #[.bool false, .slice a4 (dig 10000 Q2).length c4] 114)).alloc (.cells #[.bool false, .slice a5 (dig 10000 (b.natAbs % G)).length c5] 114) := ⟨_, rfl⟩
  rw [← hW] at f0 f1 f2 f4 f5 f6 f8 hbz4
  have hWs : W.heap.size = w3.heap.size + 2 := by rw [hW]; simp
  have HW := Lib.hid hW
  clear hW
  go_wp2_with fail
  rw [← HW.out]
  obtain ⟨hA0, hA1, _, _⟩ := f0.cells
  obtain ⟨hB0, hB1, _, _⟩ := f1.cells
  obtain ⟨hC0, hC1, _, _⟩ := f6.cells
  obtain ⟨hD0, hD1, _, _⟩ := f8.cells
  have hQl : (dig 10000 Q1).length ≤ 1000000000 := by have := div_len a.natAbs G 1000000 hla; rw [← HQ1.out] at this; omega
  have hlt2 : w.heap.size + 2 < W.heap.size := by omega
  have hlt8 : w3.heap.size < W.heap.size := by omega
  have hval := make_val a b HB0.out G HG.out Q1 Q2 HQ1.out HQ2.out nega negb HNA.out HNB.out
  have HVAL := Lib.hid hval
  clear hval
  go_cut [] (fun wx => QBox w.heap.size w (w.heap.size + 1 + 1) (Rat.divInt a b) wx)
  case first =>
    go_region_law (first
      | (go_simp; go_at_call 126; refine cut_at _ _ _ _ (dig 10000 Q1) _ (Sl.drew f5) (dig_lt (by omega) _) hQl _ ?_; intro nC wC hsC hbC; have d2 := f2.later (below_ofDrew hbC) hlt2; obtain ⟨⟨hR0, hR1, hR2, hR3⟩, hR4, hR5, hR6, hR7⟩ := d2.cells; obtain ⟨hD0, hD1, _, _⟩ := (f8.later (below_ofDrew hbC) hlt8).cells; dsimp only))
    all_goals (go_wp2_with fail; go_meet; exact make_end w W wC w.heap.size (Rat.divInt a b) nega negb a2 nC c2 a4 _ c4 Q1 Q2 HVAL.out d2 hsC f4 hbz4 hbC (by omega))
  case rest =>
    clear f0 f1 f2 f4 f5 f6 f8 hA0 hA1 hB0 hB1 hC0 hC1 hD0 hD1
    obtain ⟨b1, x1, x2, hbx, he, ht1, ht2, hbl⟩ := hcut
    obtain ⟨⟨hR0, hR1, hR2, hR3⟩, _, _, _, _⟩ := hbx.cells
    go_wp2
    refine bodyPost_ret_at (by simp [results, Tryz.results125, go_sem, hR0, hR1, hR2, hR3] <;> rfl) rfl ?_
    exact HR.out _ _ ⟨x1, x2, by rw [he], ht1, ht2⟩ hbl
end Go.Proofs.YtnfehccicnpbpaaGreatDoor

namespace Go.Proofs.YtnfehccicnpbpaaGreatDoor
open Go Go.RowKit

theorem mul_len (a b N M : Nat) (ha : (dig 10000 a).length ≤ N) (hb : (dig 10000 b).length ≤ M) : (dig 10000 (a * b)).length ≤ N + M := by
  apply dig_length_le (by omega)
  rw [Nat.pow_add]
  exact Nat.mul_lt_mul'' (Nat.lt_of_lt_of_le (lt_pow_dig (by omega) a) (Nat.pow_le_pow_right (by omega) ha)) (Nat.lt_of_lt_of_le (lt_pow_dig (by omega) b) (Nat.pow_le_pow_right (by omega) hb))

theorem IsQ.parts {w : World} {v : Value} {q : Rat} (h : IsQ w v q) : ∃ (n : Bool) (a1 : Option Addr) (n1 c1 : Nat) (a2 : Option Addr) (n2 c2 : Nat), v = .agg #[.bool n, .slice a1 n1 c1, .bool false, .slice a2 n2 c2] ∧
    IsZ w (.agg #[.bool n, .slice a1 n1 c1]) q.num ∧ IsZ w (.agg #[.bool false, .slice a2 n2 c2]) (q.den : Int) := by
  obtain ⟨a1, n1, c1, a2, n2, c2, rfl, _, _, h1, h2⟩ := h.open
  exact ⟨_, a1, n1, c1, a2, n2, c2, rfl, ⟨_, rfl, h1⟩, IsZ.mkNat h2⟩
theorem IsZ.drew {w : World} {v : Value} {z : Int} (h : IsZ w v z) : IsZ w.drew v z := h

theorem mul_divint (a b : Rat) : Rat.divInt (a.num * b.num) ((a.den : Int) * (b.den : Int)) = a * b := by
  rw [← Rat.divInt_mul_divInt, Rat.num_divInt_den, Rat.num_divInt_den]

theorem q_end (w L wC : World) (g : Nat) (q : Rat) (n : Bool) (a1 : Option Addr) (n1 c1 : Nat) (m : Bool) (a2 : Option Addr) (n2 c2 : Nat)
    (d2 : Box4 wC (g + 2) (.bool false) (.slice none 0 0) (.bool false) (.slice none 0 0) 116)
    (hq : IsQ wC (.agg #[.bool n, .slice a1 n1 c1, .bool m, .slice a2 n2 c2]) q) (hb : Below g w L) (hbC : Below L.heap.size L wC) (hgW : g ≤ L.heap.size) :
    QBox g w (g + 1 + 1) q ((((wC.setCell ⟨g + 1 + 1, 0, none⟩ (.bool n)).setCell ⟨g + 1 + 1, 1, none⟩ (.slice a1 n1 c1)).setCell ⟨g + 1 + 1, 2, none⟩ (.bool m)).setCell ⟨g + 1 + 1, 3, none⟩ (.slice a2 n2 c2)) := by
  have hn := d2.noInt rfl rfl rfl rfl
  obtain ⟨s1, s2, e, h1, h2⟩ := hq
  simp at e
  obtain ⟨e1, rfl, rfl, rfl⟩ := e
  refine ⟨_, _, _, d2.set4 _ _ _ _, e1, ?_, ?_, ((((hb.trans (hbC.mono hgW)).setCell (by simp <;> omega) _).setCell (by simp <;> omega) _).setCell (by simp <;> omega) _).setCell (by simp <;> omega) _⟩
  · exact h1.set4 hn _ _ _ _ rfl rfl rfl
  · exact h2.set4 hn _ _ _ _ rfl rfl rfl

theorem Box4.noSet2 {w : World} {g : Nat} {x0 x1 x2 x3 : Value} {t : TypeId} (h : Box4 w g x0 x1 x2 x3 t) {b : Nat} (hb : g ≠ b) (x y : Value) : Box4 ((w.setCell ⟨b, 0, none⟩ x).setCell ⟨b, 1, none⟩ y) g x0 x1 x2 x3 t := by
  unfold Box4 at *
  simp [World.setCell, Array.getElem?_modify, h, Ne.symm hb]
theorem IsZ.noSet {w : World} {v : Value} {z : Int} (h : IsZ w v z) {b : Nat} (hb : NoInt w b) (x y : Value) (hx : notInt x = true) : IsZ ((w.setCell ⟨b, 0, none⟩ x).setCell ⟨b, 1, none⟩ y) v z := by
  obtain ⟨s, e, h⟩ := h
  exact ⟨s, e, h.noSet hb x y hx⟩

end Go.Proofs.YtnfehccicnpbpaaGreatDoor

namespace Go.Proofs.YtnfehccicnpbpaaGreatDoor
open Go Go.RowKit

theorem ext_list (s : ByteArray) (i j : Nat) : (s.extract i j).data.toList = (s.data.toList.take j).drop i := by
  rw [ByteArray.data_extract, Array.toList_extract, List.extract_eq_take_drop, List.drop_take]

theorem ext_size (s : ByteArray) (i j : Nat) (hj : j ≤ s.size) : (s.extract i j).size = j - i := by
  rw [← size_list, ext_list, List.length_drop, List.length_take, size_list, Nat.min_eq_left hj]

/-- behind the sign -/
theorem sign_rest {s : ByteArray} {D r : List UInt8} (h : s.data.toList = 45 :: (D ++ r)) : (s.extract 1 s.size).data.toList = D ++ r := by
  rw [ext_list, h, ← size_list, h, List.take_of_length_le (Nat.le_refl _)]; rfl

theorem part_D {t : ByteArray} {D r : List UInt8} (h : t.data.toList = D ++ r) : (t.extract 0 D.length).data.toList = D := by
  rw [ext_list, h, List.drop_zero, List.take_left']; rfl

theorem part_E {t : ByteArray} {D E : List UInt8} (h : t.data.toList = D ++ 47 :: E) : (t.extract (D.length + 1) t.size).data.toList = E := by
  rw [ext_list, ← size_list, h, List.take_of_length_le (Nat.le_refl _), List.drop_append, List.drop_eq_nil_of_le (by omega)]
  simp

theorem at_D {t : ByteArray} {D r : List UInt8} (h : t.data.toList = D ++ r) (k : Nat) (hk : k < D.length) (hkt : k < t.size) : t[k] = D[k] := by
  rw [byte_at t k hkt (by rw [h, List.length_append]; omega)]
  simp only [h, List.getElem_append_left hk]

theorem at_slash {t : ByteArray} {D E : List UInt8} (h : t.data.toList = D ++ 47 :: E) (hkt : D.length < t.size) : t[D.length] = 47 := by
  rw [byte_at t _ hkt (by rw [h, List.length_append]; simp)]
  simp only [h, List.getElem_append_right (Nat.le_refl _)]
  simp

theorem rdec_len (L : List UInt8) (h : L.all isDig = true) (N : Nat) (hN : L.length ≤ N) : (dig 10000 (rdec L)).length ≤ N :=
  dig_length_ten (by omega) (Nat.lt_of_lt_of_le (rdec_lt L h) (Nat.pow_le_pow_right (by omega) hN))

theorem sgn_cut (neg : Bool) (n : Nat) : sgn neg n = if neg then -(val 10000 (dig 10000 n) : Int) else val 10000 (dig 10000 n) := by rw [val_dig (by omega)]; rfl

theorem sgn_abs (neg : Bool) (n : Nat) : (sgn neg n).natAbs = n := by cases neg <;> simp [sgn]
end Go.Proofs.YtnfehccicnpbpaaGreatDoor

namespace Go.Proofs.YtnfehccicnpbpaaGreatDoor
open Go Go.RowKit

def strLen : Value → Nat
  | .string s => s.size
  | _ => 0

theorem all_take {L : List UInt8} (h : L.all isDig = true) (k : Nat) : (L.take k).all isDig = true :=
  List.all_eq_true.2 fun c hc => List.all_eq_true.1 h c (List.mem_of_mem_take hc)
theorem all_drop {L : List UInt8} (h : L.all isDig = true) (k : Nat) : (L.drop k).all isDig = true :=
  List.all_eq_true.2 fun c hc => List.all_eq_true.1 h c (List.mem_of_mem_drop hc)

set_option maxRecDepth 100000 in
set_option maxHeartbeats 2000000 in
theorem ofdig_any (s : ByteArray) (w : World) (hd : s.data.toList.all isDig = true) (hs : s.size ≤ 60) (R : Ending → World → Prop)
    (hR : ∀ v w', IsN w' v (rdec s.data.toList) → Below w.heap.size w w' → R (.returned v) w') :
    Calls Tryz.prog 199 #[.string s] w R := by
  have HR := Lib.hid hR; clear hR
  have HD := Lib.hid hd
  have HSZ := Lib.hid (size_list s)
  clear hd
  go_enter Tryz.func199, Tryz.ntmps199
  go_wp2
  go_loopw [0, 3] (fun sv nv wr => ∃ (t : ByteArray) (k : Nat), sv = .string t ∧ k ≤ s.size ∧ t.data.toList = s.data.toList.drop k ∧ IsN wr nv (rdec (s.data.toList.take k)) ∧ Below w.heap.size w wr) (fun sv _ _ => strLen sv)
  case atStart => exact ⟨s, 0, rfl, Nat.zero_le _, rfl, IsN.nil w, Below.refl _ _⟩
  case round =>
    obtain ⟨t, k, rfl, hk, ht, hv, hbel⟩ := hrel
    obtain ⟨av, nv, cv, rfl, hv'⟩ := hv.op
    have HT := Lib.hid ht
    have HV := Lib.hid hv'
    have HB := Lib.hid hbel
    have hts : t.size = s.size - k := by rw [← size_list t, ht, List.length_drop, HSZ.out]
    have HTS := Lib.hid hts
    clear ht hv hv' hbel
    by_cases h0 : t.size = 0
    · have hnil : t.toList = [] := by rw [Lib.toList_data]; exact List.eq_nil_of_length_eq_zero (by rw [size_list]; exact h0)
      have hfin : rdec (s.data.toList.take k) = rdec s.data.toList := by rw [List.take_of_length_le (by rw [HSZ.out]; omega)]
      have HF := Lib.hid hfin
      clear hts hfin h0
      go_wp2
      first | go_ret | skip
      exact HR.out _ _ (HV.out.cast HF.out) HB.out
    · have hne : t.toList ≠ [] := by
        rw [Lib.toList_data]; intro e; have := congrArg List.length e; rw [size_list] at this; exact h0 this
      have hne2 : t.toList.isEmpty = false := by cases h : t.toList with
        | nil => exact absurd h hne
        | cons c l => rfl
      obtain ⟨m, hm⟩ : ∃ m, m = min t.size 19 := ⟨_, rfl⟩
      have hmin : min ((t.size : Nat) : Int) 19 = ((m : Nat) : Int) := by omega
      have hm1 : 1 ≤ m := by omega
      have hm19 : m ≤ 19 := by omega
      have hmt : m ≤ t.size := by omega
      obtain ⟨u, hu⟩ : ∃ u, u = t.extract 0 m := ⟨_, rfl⟩
      have hul : u.data.toList = (s.data.toList.drop k).take m := by rw [hu, ext_list, HT.out, List.drop_zero]
      have hus : u.size = m := by rw [hu, ext_size _ _ _ hmt]; omega
      have HU := Lib.hid hu
      have HUL := Lib.hid hul
      have HUS := Lib.hid hus
      have hua : u.data.toList.all isDig = true := by rw [hul]; exact all_take (all_drop HD.out k) m
      have HUA := Lib.hid hua
      have hkm : k + m ≤ s.size := by omega
      have htxs : (t.extract m t.size).data.toList = s.data.toList.drop (k + m) := by
        rw [ext_list, ← size_list, List.take_of_length_le (Nat.le_refl _), HT.out, List.drop_drop]
      have htxz : (t.extract m t.size).size = t.size - m := by rw [ext_size _ _ _ (Nat.le_refl _)]
      have HTX := Lib.hid htxs
      have HTZ := Lib.hid htxz
      obtain ⟨wo, hwo⟩ : ∃ wo, wo = wr := ⟨_, rfl⟩
      subst hwo
      clear hts hm hu hul hus hua htxs htxz h0
      go_wp2
      rw [← HU.out]
      go_loopw [5, 6, 8] (fun cv pv _ wx => ∃ pos C P : Nat, wx = wo.iter u pos ∧ pos ≤ m ∧ cv = .int .u64 ((C : Nat) : Int) ∧ pv = .int .u64 ((P : Nat) : Int) ∧ C = rdec (u.data.toList.take pos) ∧ P = 10 ^ pos) (fun _ _ _ wx => m - wx.iterPos wo.heap.size)
      case atStart => exact ⟨0, 0, 1, rfl, Nat.zero_le _, rfl, rfl, rfl, rfl⟩
      case round =>
        obtain ⟨pos, C, P, rfl, hpm, rfl, rfl, hC, hP⟩ := hrel
        have HC := Lib.hid hC
        have HP := Lib.hid hP
        clear hC hP
        by_cases hpl : pos < m
        · have hpu : pos < u.size := by rw [HUS.out]; exact hpl
          have hpu2 : pos < u.data.toList.length := by rw [size_list]; exact hpu
          have hb := dig_at _ HUA.out pos hpu2
          rw [← byte_at u pos hpu hpu2] at hb
          obtain ⟨hb1, hb2⟩ := hb
          have hnx := fun ty => run_next_ascii (P := Tryz.prog) wo u pos ty hpu (by omega)
          have hCb : C < 10 ^ 18 := by
            have h1 := rdec_lt (u.data.toList.take pos) (all_take HUA.out pos)
            rw [HC.out]
            exact Nat.lt_of_lt_of_le h1 (Nat.pow_le_pow_right (by omega) (by rw [List.length_take]; omega))
          have hPb : P ≤ 10 ^ 18 := by rw [HP.out]; exact Nat.pow_le_pow_right (by omega) (by omega)
          have hCi : (C : Int) ≤ 1000000000000000000 := by omega
          have hPi : (P : Int) ≤ 1000000000000000000 := by omega
          have hb3 : (48 : Int) ≤ (u[pos].toNat : Int) := by omega
          have hb4 : (u[pos].toNat : Int) ≤ 57 := by omega
          have hC2 : rdec (u.data.toList.take (pos + 1)) = 10 * C + (u[pos].toNat - 48) := by
            have := read_digit u.data.toList 0 pos (Nat.zero_le _) hpu2
            rw [List.drop_zero, List.drop_zero, ← byte_at u pos hpu hpu2, ← HC.out] at this
            exact this
          have HC2 := Lib.hid hC2
          have HPU := Lib.hid hpu
          clear hCb hPb hC2 hb1 hb2
          go_wp2
          go_roundw
          case rel => exact ⟨pos + 1, 10 * C + (u[pos].toNat - 48), P * 10, rfl, by omega, congrArg (Value.int .u64) (by omega), congrArg (Value.int .u64) (by omega), HC2.out.symm, by rw [HP.out, Nat.pow_succ]⟩
          case measure => rw [World.iterPos_iter, World.iterPos_iter]; omega
        · obtain rfl : pos = m := by omega
          have hnx := fun ty => run_next_end (P := Tryz.prog) wo u pos ty (by rw [HUS.out]; omega)
          have hCw : C < W64 := by
            have h1 := rdec_lt (u.data.toList.take pos) (all_take HUA.out pos)
            rw [HC.out, W64_eq]
            have h2 : 10 ^ (u.data.toList.take pos).length ≤ 10 ^ 19 := Nat.pow_le_pow_right (by omega) (by rw [List.length_take]; omega)
            omega
          have hPw : P < W64 := by
            rw [HP.out, W64_eq]
            have h2 : 10 ^ pos ≤ 10 ^ 19 := Nat.pow_le_pow_right (by omega) hm19
            omega
          have hfin : rdec (s.data.toList.take k) * P + C = rdec (s.data.toList.take (k + pos)) := by
            have e : s.data.toList.take (k + pos) = s.data.toList.take k ++ (s.data.toList.drop k).take pos := by rw [List.take_add]
            rw [e, rdec_append, HC.out, HP.out, HUL.out, List.take_take, Nat.min_self]
            congr 2
            rw [List.length_take, List.length_drop, HSZ.out, Nat.min_eq_left (by omega)]
          have HF := Lib.hid hfin
          have HCW := Lib.hid hCw
          have HPW := Lib.hid hPw
          have hext : Below wo.heap.size wo (wo.iter u pos) := (Below.refl _ _).alloc (Nat.le_refl _) _
          have HEX := Lib.hid hext
          have hll : (dig W64 (rdec (s.data.toList.take k))).length ≤ 60 := by
            refine dig_length_ten (e := 60) (by rw [W64_eq]; omega) ?_
            exact Nat.lt_of_lt_of_le (rdec_lt _ (all_take HD.out k)) (Nat.pow_le_pow_right (by omega) (by rw [List.length_take]; omega))
          have HLL := Lib.hid hll
          clear hfin hCw hPw hext hll
          go_wp2_with fail
          refine timesp_any _ (rdec (s.data.toList.take k)) P C _ (HV.out.later HEX.out (Nat.le_refl _)) HPW.out HCW.out (by have := HLL.out; omega) _ ?_
          rw [HF.out]
          intro v1 w1 hv1 hb1 _
          obtain ⟨a1, n1, c1, rfl, hv1'⟩ := hv1.op
          have HV1 := Lib.hid hv1'
          have HB1 := Lib.hid ((HB.out.trans (HEX.out.mono HB.out.size)).trans (hb1.mono (Nat.le_trans HB.out.size HEX.out.size)))
          have hpt : (pos : Int) ≤ (t.size : Int) := by omega
          clear hv1 hv1' hb1 hnx
          dsimp only
          go_wp2
          go_roundw
          case rel => exact ⟨t.extract pos t.size, k + pos, rfl, hkm, HTX.out, HV1.out, HB1.out⟩
          case measure => simp only [strLen]; rw [HTZ.out]; omega
end Go.Proofs.YtnfehccicnpbpaaGreatDoor

namespace Go.Proofs.YtnfehccicnpbpaaGreatDoor
open Go Go.RowKit

theorem IsZ.sl' {w : World} {ao : Option Addr} {n c : Nat} {m : Nat} {b : Bool} (h : IsZ w (.agg #[.bool b, .slice ao n c]) (m : Int)) : Sl .i64 w (.slice ao n c) (dig 10000 m) := by
  obtain ⟨s, e, hs⟩ := h
  simp at e
  obtain ⟨_, rfl⟩ := e
  exact hs

theorem q_endG (w wC : World) (g b : Nat) (hgb : g ≤ b) (q : Rat) (n : Bool) (a1 : Option Addr) (n1 c1 : Nat) (m : Bool) (a2 : Option Addr) (n2 c2 : Nat)
    (d2 : Box4 wC b (.bool false) (.slice none 0 0) (.bool false) (.slice none 0 0) 116)
    (hq : IsQ wC (.agg #[.bool n, .slice a1 n1 c1, .bool m, .slice a2 n2 c2]) q) (hb : Below g w wC) :
    QBox g w b q ((((wC.setCell ⟨b, 0, none⟩ (.bool n)).setCell ⟨b, 1, none⟩ (.slice a1 n1 c1)).setCell ⟨b, 2, none⟩ (.bool m)).setCell ⟨b, 3, none⟩ (.slice a2 n2 c2)) := by
  have hn := d2.noInt rfl rfl rfl rfl
  obtain ⟨s1, s2, e, h1, h2⟩ := hq
  simp at e
  obtain ⟨e1, rfl, rfl, rfl⟩ := e
  refine ⟨_, _, _, d2.set4 _ _ _ _, e1, ?_, ?_, ((((hb.setCell (by simp <;> omega) _).setCell (by simp <;> omega) _).setCell (by simp <;> omega) _).setCell (by simp <;> omega) _)⟩
  · exact h1.set4 hn _ _ _ _ rfl rfl rfl
  · exact h2.set4 hn _ _ _ _ rfl rfl rfl

set_option maxRecDepth 100000 in
set_option maxHeartbeats 4000000 in
theorem of_any (s : ByteArray) (neg : Bool) (D r : List UInt8) (m : Nat) (w : World) (hp : Parts s.data.toList neg D r) (hD : D.all isDig = true) (hD1 : 1 ≤ D.length)
    (hr : (r = [] ∧ m = 1) ∨ ∃ E, r = 47 :: E ∧ E.all isDig = true ∧ m = rdec E ∧ m ≠ 0) (hs : s.size ≤ 100000)
    (R : Ending → World → Prop) (hR : ∀ v w', IsQ w' v (Rat.divInt (sgn neg (rdec D)) (m : Int)) → Below w.heap.size w w' → R (.returned v) w') :
    Calls Tryz.prog 87 #[.string s] w R := by
  have HR := Lib.hid hR; clear hR
  obtain ⟨h1, h2, h3, h4⟩ := hp
  clear h4
  have HD := Lib.hid hD
  have H3 := Lib.hid h3
  have hpos : 0 < s.size := by rw [← size_list, h1, List.length_append, List.length_append]; omega
  obtain ⟨t, Ht, Hn, Hts⟩ : ∃ t : ByteArray, Hid (t.data.toList = D ++ r) ∧ Hid (t = if neg then s.extract 1 s.size else s) ∧ t.size ≤ 100000 := by
    cases neg
    · refine ⟨s, Lib.hid (by simpa using h1), Lib.hid rfl, hs⟩
    · refine ⟨s.extract 1 s.size, Lib.hid (sign_rest (by simpa using h1)), Lib.hid rfl, by rw [ext_size _ _ _ (Nat.le_refl _)]; omega⟩
  have hst : t.size ≤ s.size ∧ t.size = D.length + r.length := by
    refine ⟨?_, by rw [← size_list, Ht.out, List.length_append]⟩
    rw [Hn.out]; cases neg
    · exact Nat.le_refl _
    · simp only [if_true]; rw [ext_size _ _ _ (Nat.le_refl _)]; omega
  obtain ⟨hst1, hst2⟩ := hst
  obtain ⟨dl, hdl⟩ : ∃ dl, dl = D.length := ⟨_, rfl⟩
  rw [← hdl] at hD1 hst2
  have HDL := Lib.hid hdl
  obtain ⟨rl, hrl⟩ : ∃ rl, rl = r.length := ⟨_, rfl⟩
  rw [← hrl] at hst2
  have hdlt : dl ≤ t.size := by omega
  have HST := Lib.hid hst2
  have hlast : dl < t.size → ∃ E, r = 47 :: E ∧ E.all isDig = true ∧ m = rdec E ∧ m ≠ 0 := by
    intro h
    rcases hr with ⟨rfl, _⟩ | h'
    · simp at hrl; omega
    · exact h'
  have hend : ¬ dl < t.size → m = 1 := by
    intro h
    rcases hr with ⟨_, h'⟩ | ⟨E, rfl, _⟩
    · exact h'
    · simp at hrl; omega
  have HLAST := Lib.hid hlast
  have HEND := Lib.hid hend
  clear hr hst2 hdl hrl h3 hlast hend hD
  have hm45 : (neg = true → s[0] = 45) ∧ (neg = false → s[0] ≠ 45) := by
    have hb := byte_at s 0 hpos (by rw [size_list]; exact hpos)
    constructor
    · rintro rfl
      rw [hb]; simp [h1]
    · intro hn e
      have := h2 hn
      rw [head_at _ (by rw [size_list]; exact hpos), ← hb, e] at this
      exact this rfl
  clear h1 h2
  obtain ⟨N, hN⟩ : ∃ N, N = neg := ⟨_, rfl⟩
  have HN := Lib.hid hN
  have hB0 := Lib.hid (Box4.made w (.bool false) (.slice none 0 0) (.bool false) (.slice none 0 0) 116)
  cases neg
  · have ht : t = s := Hn.out
    subst ht
    have e45 : ((t[0].toNat : Int) == 45) = false := by
      have := hm45.2 rfl
      have : t[0].toNat ≠ 45 := fun h => this (UInt8.toNat_inj.1 h)
      simp; omega
    clear hm45 hN
    go_enter Tryz.func87, Tryz.ntmps87
    go_wp2
    clear e45 hs hst1
    go_loop [4] (fun i => ∃ k : Nat, i = .int .i64 k ∧ k ≤ dl) (fun i => dl - (intOf i).toNat)
    case atStart => exact ⟨0, rfl, Nat.zero_le _⟩
    case round =>
      obtain ⟨k, rfl, hk⟩ := hrel
      by_cases hkd : k < dl
      · have hkt : k < t.size := by omega
        have hkD : k < D.length := by rw [← HDL.out]; exact hkd
        have hne : t[k].toNat ≠ 47 := by
          rw [at_D Ht.out k hkD hkt]
          intro h
          exact H3.out D[k] (List.getElem_mem hkD) (UInt8.toNat_inj.1 h)
        have e47 : ((t[k].toNat : Int) != 47) = true := by rw [bne_iff_ne]; omega
        clear hne
        go_wp2
        go_round
        case rel => exact ⟨k + 1, by go_num, by omega⟩
        case measure => simp [intOf]; omega
      · obtain rfl : k = dl := by omega
        clear hkd hk
        have HX : Hid ((t.extract 0 k).data.toList = D) := Lib.hid (by rw [HDL.out, part_D Ht.out])
        by_cases hkt : k < t.size
        · obtain ⟨E, hE⟩ := HLAST.out hkt
          have HE := Lib.hid hE
          clear hE
          have e47 : ((t[k].toNat : Int) != 47) = false := by
            have := at_slash (t := t) (D := D) (E := E) (by rw [Ht.out, HE.out.1]) (by rw [← HDL.out]; exact hkt)
            have h2 : t[k] = 47 := by rw [← this]; congr 1
            rw [h2]; rfl
          go_wp2_with fail
          refine zread_any _ _ (by rw [HX.out]; exact HD.out) (by rw [ext_size _ _ _ (by omega)]; omega) _ ?_
          intro v1 w1 hz1 hb1
          rw [HX.out] at hz1
          obtain ⟨n1, a1, m1, c1, rfl, hy1⟩ := hz1.openB
          have b0 := hB0.out.later hb1 (by simp)
          have hbe1 : Below w.heap.size w w1 := ((Below.refl _ _).alloc (Nat.le_refl _) _).trans (hb1.mono (by simp))
          clear hz1 hb1
          dsimp only
          go_wp2_with fail
          refine zof_any 1 _ (by omega) (by omega) _ ?_
          intro v2 w2 hz2 hb2
          obtain ⟨n2, a2, m2, c2, rfl, hy2⟩ := hz2.openB
          have b5 := (Box2.made w1 (.bool n1) (.slice a1 m1 c1) 114).later hb2 (by simp)
          have b0' := (b0.later (B := w1.heap.size) ((Below.refl _ _).alloc (Nat.le_refl _) (.cells #[.bool n1, .slice a1 m1 c1] 114)) (lt_of_block b0)).later hb2 (by have := lt_of_block b0; simp; omega)
          have hbe2 : Below w.heap.size w w2 := (hbe1.alloc hbe1.size (.cells #[.bool n1, .slice a1 m1 c1] 114)).trans (hb2.mono (by have := hbe1.size; simp; omega))
          have hs1 : Sl .i64 w2 (.slice a1 m1 c1) (dig 10000 (rdec D)) := (hy1.sl'.alloc _).later hb2 (Nat.le_refl _)
          clear hz2 hb2 hbe1 b0 hy1
          dsimp only
          go_wp2_with fail
          have hx6 := Box2.made w2 (.bool n2) (.slice a2 m2 c2) 114
          have HX2 : Hid ((t.extract (k + 1) t.size).data.toList = E) := Lib.hid (by rw [HDL.out, part_E (t := t) (D := D) (E := E) (by rw [Ht.out, HE.out.1])])
          refine zread_any _ _ (by rw [HX2.out]; exact HE.out.2.1) (by rw [ext_size _ _ _ (by omega)]; omega) _ ?_
          intro vE w4 hzE hbE
          rw [HX2.out] at hzE
          obtain ⟨nE, aE, mE, cE, rfl, hyE⟩ := hzE.openB
          have e6 := hx6.later hbE (by simp)
          have e5 := (b5.alloc _).later hbE (lt_of_block (b5.alloc _))
          have e0 := (b0'.later ((Below.refl _ _).alloc (Nat.le_refl _) (.cells #[.bool n2, .slice a2 m2 c2] 114)) (lt_of_block b0')).later hbE (by have := lt_of_block b0'; simp; omega)
          have hbe4 : Below w.heap.size w w4 := (hbe2.alloc hbe2.size (.cells #[.bool n2, .slice a2 m2 c2] 114)).trans (hbE.mono (by have := hbe2.size; simp; omega))
          have hs1' : Sl .i64 w4 (.slice a1 m1 c1) (dig 10000 (rdec D)) := (hs1.alloc _).later hbE (Nat.le_refl _)
          have hn6 := e6.noInt rfl rfl
          have hmE : (m : Int) = ((rdec E : Nat) : Int) := by rw [HE.out.2.2.1]
          have hne5 : w1.heap.size ≠ w2.heap.size := by have := lt_of_block b5; omega
          have hne0 : w.heap.size ≠ w2.heap.size := by have := lt_of_block b0'; omega
          have hge6 : w.heap.size ≤ w2.heap.size := hbe2.size
          have hmm : (dig 10000 m).length ≤ 1000000 ∧ m ≠ 0 := ⟨by rw [HE.out.2.2.1]; exact rdec_len E HE.out.2.1 1000000 (by have := HE.out.1; have h2 := Ht.out; have h3 := congrArg List.length h2; rw [size_list, this, List.length_append] at h3; simp at h3; omega), HE.out.2.2.2⟩
          obtain ⟨hP0, hP1, hP2, hP3⟩ := e6.cells
          have HmE := Lib.hid hmE
          clear hzE hbE hx6 b5 b0' hbe2 hs1 hmE hy2
          dsimp only
          go_wp2_with fail
          have hmE := HmE.out
          clear hP0 hP1 hP2 hP3
          obtain ⟨L, hL⟩ : ∃ L, L = (w4.setCell ⟨w2.heap.size, 0, none⟩ (.bool nE)).setCell ⟨w2.heap.size, 1, none⟩ (.slice aE mE cE) := ⟨_, rfl⟩
          have HL := Lib.hid hL
          have c5 : Box2 L w1.heap.size (.bool n1) (.slice a1 m1 c1) 114 := by rw [hL]; exact e5.noSet hne5 _ _
          have c6 : Box2 L w2.heap.size (.bool nE) (.slice aE mE cE) 114 := by rw [hL]; exact e6.set01 _ _
          have c0 : Box4 L w.heap.size (.bool false) (.slice none 0 0) (.bool false) (.slice none 0 0) 116 := by rw [hL]; exact e0.noSet2 hne0 _ _
          have y1 : Sl .i64 L (.slice a1 m1 c1) (dig 10000 (rdec D)) := by rw [hL]; exact hs1'.noSet hn6 _ _ rfl
          have y2 : IsZ L (.agg #[.bool nE, .slice aE mE cE]) (m : Int) := by rw [hL]; rw [hmE]; exact hyE.noSet hn6 _ _ rfl
          have hbL : Below w.heap.size w L := by rw [hL]; exact (hbe4.setCell hge6 _).setCell hge6 _
          rw [← hL]
          clear hL
          obtain ⟨hP0, hP1, _, _⟩ := c5.cells
          obtain ⟨hQ0, hQ1, _, _⟩ := c6.cells
          have hk5 := lt_of_block c5
          have hk6 := lt_of_block c6
          have hk0 := lt_of_block c0
          have HLN := Lib.hid (And.intro (rdec_len D HD.out 100000 (by rw [← HDL.out]; omega)) hmm)
          go_cut [] (fun wx => QBox w.heap.size w w.heap.size (Rat.divInt (sgn N (rdec D)) (m : Int)) wx)
          case first =>
            go_region_law (first
              | (have hguard := hbc; go_simp; go_at_call 125; refine make_any _ _ (sgn N (rdec D)) (m : Int) _ hv3 (y2.drew.later hbc (Nat.le_refl _)) (by rw [sgn_abs]; exact Nat.le_trans HLN.out.1 (by omega)) (by rw [Int.natAbs_natCast]; exact HLN.out.2.1) (by have := HLN.out.2.2; omega) _ ?_; intro v7 w7 hv7 hb7; obtain ⟨n5, a5, m5, c5', a6, m6, c6', rfl, _, _⟩ := hv7.parts; have bb : Below L.heap.size L w7 := (below_ofDrew hbc).trans (hb7.mono hbc.size); have d2 := c0.later bb hk0; obtain ⟨⟨hR0, hR1, hR2, hR3⟩, hR4, hR5, hR6, hR7⟩ := d2.cells; clear hguard; dsimp only)
              | (go_simp; go_at_call 126; refine cut_z _ _ (dig 10000 (rdec D)) _ (Sl.drew y1) (dig_lt (by omega) _) (Nat.le_trans HLN.out.1 (by omega)) (sgn N (rdec D)) (by rw [HN.out]; exact sgn_cut _ _) _ ?_; intro v3 w3 hv3 hbc; obtain ⟨hS0, hS1, _, _⟩ := (c6.later (below_ofDrew hbc) hk6).cells; obtain ⟨n3, a3, m3, c3, rfl, _⟩ := hv3.openB; dsimp only))
            all_goals (go_wp2_with fail; go_meet; exact q_endG w w7 w.heap.size w.heap.size (Nat.le_refl _) _ _ _ _ _ _ _ _ _ d2 hv7 (hbL.trans (bb.mono (by omega))))
          case rest =>
            clear hP0 hP1 hQ0 hQ1
            obtain ⟨bx, x1, x2, hbx, he, ht1, ht2, hbl⟩ := hcut
            obtain ⟨⟨hR0, hR1, hR2, hR3⟩, _, _, _, _⟩ := hbx.cells
            go_wp2
            refine bodyPost_ret_at (by simp [results, Tryz.results87, go_sem, hR0, hR1, hR2, hR3] <;> rfl) rfl ?_
            rw [HN.out] at ht1 ht2 he
            exact HR.out _ _ ⟨x1, x2, by rw [he], ht1, ht2⟩ hbl
        · go_wp2_with fail
          refine zread_any _ _ (by rw [HX.out]; exact HD.out) (by rw [ext_size _ _ _ (by omega)]; omega) _ ?_
          intro v1 w1 hz1 hb1
          rw [HX.out] at hz1
          obtain ⟨n1, a1, m1, c1, rfl, hy1⟩ := hz1.openB
          have b0 := hB0.out.later hb1 (by simp)
          have hbe1 : Below w.heap.size w w1 := ((Below.refl _ _).alloc (Nat.le_refl _) _).trans (hb1.mono (by simp))
          clear hz1 hb1
          dsimp only
          go_wp2_with fail
          refine zof_any 1 _ (by omega) (by omega) _ ?_
          intro v2 w2 hz2 hb2
          obtain ⟨n2, a2, m2, c2, rfl, hy2⟩ := hz2.openB
          have b5 := (Box2.made w1 (.bool n1) (.slice a1 m1 c1) 114).later hb2 (by simp)
          have b0' := (b0.later (B := w1.heap.size) ((Below.refl _ _).alloc (Nat.le_refl _) (.cells #[.bool n1, .slice a1 m1 c1] 114)) (lt_of_block b0)).later hb2 (by have := lt_of_block b0; simp; omega)
          have hbe2 : Below w.heap.size w w2 := (hbe1.alloc hbe1.size (.cells #[.bool n1, .slice a1 m1 c1] 114)).trans (hb2.mono (by have := hbe1.size; simp; omega))
          have hs1 : Sl .i64 w2 (.slice a1 m1 c1) (dig 10000 (rdec D)) := (hy1.sl'.alloc _).later hb2 (Nat.le_refl _)
          clear hz2 hb2 hbe1 b0 hy1
          dsimp only
          go_wp2_with fail
          obtain ⟨L, hL⟩ : ∃ L, L = w2.alloc (.cells #[.bool n2, .slice a2 m2 c2] 114) := ⟨_, rfl⟩
          have HL := Lib.hid hL
          have c5 : Box2 L w1.heap.size (.bool n1) (.slice a1 m1 c1) 114 := by rw [hL]; exact b5.alloc _
          have c6 : Box2 L w2.heap.size (.bool n2) (.slice a2 m2 c2) 114 := by rw [hL]; exact Box2.made w2 _ _ _
          have c0 : Box4 L w.heap.size (.bool false) (.slice none 0 0) (.bool false) (.slice none 0 0) 116 := by rw [hL]; exact b0'.later ((Below.refl _ _).alloc (Nat.le_refl _) _) (lt_of_block b0')
          have y1 : Sl .i64 L (.slice a1 m1 c1) (dig 10000 (rdec D)) := by rw [hL]; exact hs1.alloc _
          have y2 : IsZ L (.agg #[.bool n2, .slice a2 m2 c2]) (m : Int) := by rw [hL]; exact by rw [HEND.out hkt]; exact hy2.later ((Below.refl _ _).alloc (Nat.le_refl _) _) (Nat.le_refl _)
          have hbL : Below w.heap.size w L := by rw [hL]; exact hbe2.alloc hbe2.size _
          rw [← hL]
          clear hL
          obtain ⟨hP0, hP1, _, _⟩ := c5.cells
          obtain ⟨hQ0, hQ1, _, _⟩ := c6.cells
          have hk5 := lt_of_block c5
          have hk6 := lt_of_block c6
          have hk0 := lt_of_block c0
          have HLN := Lib.hid (And.intro (rdec_len D HD.out 100000 (by rw [← HDL.out]; omega)) (show (dig 10000 m).length ≤ 1000000 ∧ m ≠ 0 by rw [HEND.out hkt, dig_small (by omega) (by omega)]; simp))
          go_cut [] (fun wx => QBox w.heap.size w w.heap.size (Rat.divInt (sgn N (rdec D)) (m : Int)) wx)
          case first =>
            go_region_law (first
              | (have hguard := hbc; go_simp; go_at_call 125; refine make_any _ _ (sgn N (rdec D)) (m : Int) _ hv3 (y2.drew.later hbc (Nat.le_refl _)) (by rw [sgn_abs]; exact Nat.le_trans HLN.out.1 (by omega)) (by rw [Int.natAbs_natCast]; exact HLN.out.2.1) (by have := HLN.out.2.2; omega) _ ?_; intro v4 w4 hv4 hb4; obtain ⟨n5, a5, m5, c5', a6, m6, c6', rfl, _, _⟩ := hv4.parts; have bb : Below L.heap.size L w4 := (below_ofDrew hbc).trans (hb4.mono hbc.size); have d2 := c0.later bb hk0; obtain ⟨⟨hR0, hR1, hR2, hR3⟩, hR4, hR5, hR6, hR7⟩ := d2.cells; clear hguard; dsimp only)
              | (go_simp; go_at_call 126; refine cut_z _ _ (dig 10000 (rdec D)) _ (Sl.drew y1) (dig_lt (by omega) _) (Nat.le_trans HLN.out.1 (by omega)) (sgn N (rdec D)) (by rw [HN.out]; exact sgn_cut _ _) _ ?_; intro v3 w3 hv3 hbc; obtain ⟨hS0, hS1, _, _⟩ := (c6.later (below_ofDrew hbc) hk6).cells; obtain ⟨n3, a3, m3, c3, rfl, _⟩ := hv3.openB; dsimp only))
            all_goals (go_wp2_with fail; go_meet; exact q_endG w w4 w.heap.size w.heap.size (Nat.le_refl _) _ _ _ _ _ _ _ _ _ d2 hv4 (hbL.trans (bb.mono (by omega))))
          case rest =>
            clear hP0 hP1 hQ0 hQ1
            obtain ⟨bx, x1, x2, hbx, he, ht1, ht2, hbl⟩ := hcut
            obtain ⟨⟨hR0, hR1, hR2, hR3⟩, _, _, _, _⟩ := hbx.cells
            go_wp2
            refine bodyPost_ret_at (by simp [results, Tryz.results87, go_sem, hR0, hR1, hR2, hR3] <;> rfl) rfl ?_
            rw [HN.out] at ht1 ht2 he
            exact HR.out _ _ ⟨x1, x2, by rw [he], ht1, ht2⟩ hbl
  · have e45 : ((s[0].toNat : Int) == 45) = true := by
      rw [hm45.1 rfl]; rfl
    clear hm45 hN
    go_enter Tryz.func87, Tryz.ntmps87
    go_wp2
    have ht : t = s.extract 1 s.size := Hn.out
    rw [← ht]
    have hse := Lib.hid ht
    clear ht
    go_loop [4] (fun i => ∃ k : Nat, i = .int .i64 k ∧ k ≤ dl) (fun i => dl - (intOf i).toNat)
    case atStart => exact ⟨0, rfl, Nat.zero_le _⟩
    case round =>
      obtain ⟨k, rfl, hk⟩ := hrel
      by_cases hkd : k < dl
      · have hkt : k < t.size := by omega
        have hkD : k < D.length := by rw [← HDL.out]; exact hkd
        have hne : t[k].toNat ≠ 47 := by
          rw [at_D Ht.out k hkD hkt]
          intro h
          exact H3.out D[k] (List.getElem_mem hkD) (UInt8.toNat_inj.1 h)
        have e47 : ((t[k].toNat : Int) != 47) = true := by rw [bne_iff_ne]; omega
        clear hne
        go_wp2
        go_round
        case rel => exact ⟨k + 1, by go_num, by omega⟩
        case measure => simp [intOf]; omega
      · obtain rfl : k = dl := by omega
        clear hkd hk
        have HX : Hid ((t.extract 0 k).data.toList = D) := Lib.hid (by rw [HDL.out, part_D Ht.out])
        by_cases hkt : k < t.size
        · obtain ⟨E, hE⟩ := HLAST.out hkt
          have HE := Lib.hid hE
          clear hE
          have e47 : ((t[k].toNat : Int) != 47) = false := by
            have := at_slash (t := t) (D := D) (E := E) (by rw [Ht.out, HE.out.1]) (by rw [← HDL.out]; exact hkt)
            have h2 : t[k] = 47 := by rw [← this]; congr 1
            rw [h2]; rfl
          go_wp2_with fail
          refine zread_any _ _ (by rw [HX.out]; exact HD.out) (by rw [ext_size _ _ _ (by omega)]; omega) _ ?_
          intro v1 w1 hz1 hb1
          rw [HX.out] at hz1
          obtain ⟨n1, a1, m1, c1, rfl, hy1⟩ := hz1.openB
          have b0 := hB0.out.later hb1 (by simp)
          have hbe1 : Below w.heap.size w w1 := ((Below.refl _ _).alloc (Nat.le_refl _) _).trans (hb1.mono (by simp))
          clear hz1 hb1
          dsimp only
          go_wp2_with fail
          refine zof_any 1 _ (by omega) (by omega) _ ?_
          intro v2 w2 hz2 hb2
          obtain ⟨n2, a2, m2, c2, rfl, hy2⟩ := hz2.openB
          have b5 := (Box2.made w1 (.bool n1) (.slice a1 m1 c1) 114).later hb2 (by simp)
          have b0' := (b0.later (B := w1.heap.size) ((Below.refl _ _).alloc (Nat.le_refl _) (.cells #[.bool n1, .slice a1 m1 c1] 114)) (lt_of_block b0)).later hb2 (by have := lt_of_block b0; simp; omega)
          have hbe2 : Below w.heap.size w w2 := (hbe1.alloc hbe1.size (.cells #[.bool n1, .slice a1 m1 c1] 114)).trans (hb2.mono (by have := hbe1.size; simp; omega))
          have hs1 : Sl .i64 w2 (.slice a1 m1 c1) (dig 10000 (rdec D)) := (hy1.sl'.alloc _).later hb2 (Nat.le_refl _)
          clear hz2 hb2 hbe1 b0 hy1
          dsimp only
          go_wp2_with fail
          have hx6 := Box2.made w2 (.bool n2) (.slice a2 m2 c2) 114
          have HX2 : Hid ((t.extract (k + 1) t.size).data.toList = E) := Lib.hid (by rw [HDL.out, part_E (t := t) (D := D) (E := E) (by rw [Ht.out, HE.out.1])])
          refine zread_any _ _ (by rw [HX2.out]; exact HE.out.2.1) (by rw [ext_size _ _ _ (by omega)]; omega) _ ?_
          intro vE w4 hzE hbE
          rw [HX2.out] at hzE
          obtain ⟨nE, aE, mE, cE, rfl, hyE⟩ := hzE.openB
          have e6 := hx6.later hbE (by simp)
          have e5 := (b5.alloc _).later hbE (lt_of_block (b5.alloc _))
          have e0 := (b0'.later ((Below.refl _ _).alloc (Nat.le_refl _) (.cells #[.bool n2, .slice a2 m2 c2] 114)) (lt_of_block b0')).later hbE (by have := lt_of_block b0'; simp; omega)
          have hbe4 : Below w.heap.size w w4 := (hbe2.alloc hbe2.size (.cells #[.bool n2, .slice a2 m2 c2] 114)).trans (hbE.mono (by have := hbe2.size; simp; omega))
          have hs1' : Sl .i64 w4 (.slice a1 m1 c1) (dig 10000 (rdec D)) := (hs1.alloc _).later hbE (Nat.le_refl _)
          have hn6 := e6.noInt rfl rfl
          have hmE : (m : Int) = ((rdec E : Nat) : Int) := by rw [HE.out.2.2.1]
          have hne5 : w1.heap.size ≠ w2.heap.size := by have := lt_of_block b5; omega
          have hne0 : w.heap.size ≠ w2.heap.size := by have := lt_of_block b0'; omega
          have hge6 : w.heap.size ≤ w2.heap.size := hbe2.size
          have hmm : (dig 10000 m).length ≤ 1000000 ∧ m ≠ 0 := ⟨by rw [HE.out.2.2.1]; exact rdec_len E HE.out.2.1 1000000 (by have := HE.out.1; have h2 := Ht.out; have h3 := congrArg List.length h2; rw [size_list, this, List.length_append] at h3; simp at h3; omega), HE.out.2.2.2⟩
          obtain ⟨hP0, hP1, hP2, hP3⟩ := e6.cells
          have HmE := Lib.hid hmE
          clear hzE hbE hx6 b5 b0' hbe2 hs1 hmE hy2
          dsimp only
          go_wp2_with fail
          have hmE := HmE.out
          clear hP0 hP1 hP2 hP3
          obtain ⟨L, hL⟩ : ∃ L, L = (w4.setCell ⟨w2.heap.size, 0, none⟩ (.bool nE)).setCell ⟨w2.heap.size, 1, none⟩ (.slice aE mE cE) := ⟨_, rfl⟩
          have HL := Lib.hid hL
          have c5 : Box2 L w1.heap.size (.bool n1) (.slice a1 m1 c1) 114 := by rw [hL]; exact e5.noSet hne5 _ _
          have c6 : Box2 L w2.heap.size (.bool nE) (.slice aE mE cE) 114 := by rw [hL]; exact e6.set01 _ _
          have c0 : Box4 L w.heap.size (.bool false) (.slice none 0 0) (.bool false) (.slice none 0 0) 116 := by rw [hL]; exact e0.noSet2 hne0 _ _
          have y1 : Sl .i64 L (.slice a1 m1 c1) (dig 10000 (rdec D)) := by rw [hL]; exact hs1'.noSet hn6 _ _ rfl
          have y2 : IsZ L (.agg #[.bool nE, .slice aE mE cE]) (m : Int) := by rw [hL]; rw [hmE]; exact hyE.noSet hn6 _ _ rfl
          have hbL : Below w.heap.size w L := by rw [hL]; exact (hbe4.setCell hge6 _).setCell hge6 _
          rw [← hL]
          clear hL
          obtain ⟨hP0, hP1, _, _⟩ := c5.cells
          obtain ⟨hQ0, hQ1, _, _⟩ := c6.cells
          have hk5 := lt_of_block c5
          have hk6 := lt_of_block c6
          have hk0 := lt_of_block c0
          have HLN := Lib.hid (And.intro (rdec_len D HD.out 100000 (by rw [← HDL.out]; omega)) hmm)
          go_cut [] (fun wx => QBox w.heap.size w w.heap.size (Rat.divInt (sgn N (rdec D)) (m : Int)) wx)
          case first =>
            go_region_law (first
              | (have hguard := hbc; go_simp; go_at_call 125; refine make_any _ _ (sgn N (rdec D)) (m : Int) _ hv3 (y2.drew.later hbc (Nat.le_refl _)) (by rw [sgn_abs]; exact Nat.le_trans HLN.out.1 (by omega)) (by rw [Int.natAbs_natCast]; exact HLN.out.2.1) (by have := HLN.out.2.2; omega) _ ?_; intro v7 w7 hv7 hb7; obtain ⟨n5, a5, m5, c5', a6, m6, c6', rfl, _, _⟩ := hv7.parts; have bb : Below L.heap.size L w7 := (below_ofDrew hbc).trans (hb7.mono hbc.size); have d2 := c0.later bb hk0; obtain ⟨⟨hR0, hR1, hR2, hR3⟩, hR4, hR5, hR6, hR7⟩ := d2.cells; clear hguard; dsimp only)
              | (go_simp; go_at_call 126; refine cut_z _ _ (dig 10000 (rdec D)) _ (Sl.drew y1) (dig_lt (by omega) _) (Nat.le_trans HLN.out.1 (by omega)) (sgn N (rdec D)) (by rw [HN.out]; exact sgn_cut _ _) _ ?_; intro v3 w3 hv3 hbc; obtain ⟨hS0, hS1, _, _⟩ := (c6.later (below_ofDrew hbc) hk6).cells; obtain ⟨n3, a3, m3, c3, rfl, _⟩ := hv3.openB; dsimp only))
            all_goals (go_wp2_with fail; go_meet; exact q_endG w w7 w.heap.size w.heap.size (Nat.le_refl _) _ _ _ _ _ _ _ _ _ d2 hv7 (hbL.trans (bb.mono (by omega))))
          case rest =>
            clear hP0 hP1 hQ0 hQ1
            obtain ⟨bx, x1, x2, hbx, he, ht1, ht2, hbl⟩ := hcut
            obtain ⟨⟨hR0, hR1, hR2, hR3⟩, _, _, _, _⟩ := hbx.cells
            go_wp2
            refine bodyPost_ret_at (by simp [results, Tryz.results87, go_sem, hR0, hR1, hR2, hR3] <;> rfl) rfl ?_
            rw [HN.out] at ht1 ht2 he
            exact HR.out _ _ ⟨x1, x2, by rw [he], ht1, ht2⟩ hbl
        · go_wp2_with fail
          refine zread_any _ _ (by rw [HX.out]; exact HD.out) (by rw [ext_size _ _ _ (by omega)]; omega) _ ?_
          intro v1 w1 hz1 hb1
          rw [HX.out] at hz1
          obtain ⟨n1, a1, m1, c1, rfl, hy1⟩ := hz1.openB
          have b0 := hB0.out.later hb1 (by simp)
          have hbe1 : Below w.heap.size w w1 := ((Below.refl _ _).alloc (Nat.le_refl _) _).trans (hb1.mono (by simp))
          clear hz1 hb1
          dsimp only
          go_wp2_with fail
          refine zof_any 1 _ (by omega) (by omega) _ ?_
          intro v2 w2 hz2 hb2
          obtain ⟨n2, a2, m2, c2, rfl, hy2⟩ := hz2.openB
          have b5 := (Box2.made w1 (.bool n1) (.slice a1 m1 c1) 114).later hb2 (by simp)
          have b0' := (b0.later (B := w1.heap.size) ((Below.refl _ _).alloc (Nat.le_refl _) (.cells #[.bool n1, .slice a1 m1 c1] 114)) (lt_of_block b0)).later hb2 (by have := lt_of_block b0; simp; omega)
          have hbe2 : Below w.heap.size w w2 := (hbe1.alloc hbe1.size (.cells #[.bool n1, .slice a1 m1 c1] 114)).trans (hb2.mono (by have := hbe1.size; simp; omega))
          have hs1 : Sl .i64 w2 (.slice a1 m1 c1) (dig 10000 (rdec D)) := (hy1.sl'.alloc _).later hb2 (Nat.le_refl _)
          clear hz2 hb2 hbe1 b0 hy1
          dsimp only
          go_wp2_with fail
          obtain ⟨L, hL⟩ : ∃ L, L = w2.alloc (.cells #[.bool n2, .slice a2 m2 c2] 114) := ⟨_, rfl⟩
          have HL := Lib.hid hL
          have c5 : Box2 L w1.heap.size (.bool n1) (.slice a1 m1 c1) 114 := by rw [hL]; exact b5.alloc _
          have c6 : Box2 L w2.heap.size (.bool n2) (.slice a2 m2 c2) 114 := by rw [hL]; exact Box2.made w2 _ _ _
          have c0 : Box4 L w.heap.size (.bool false) (.slice none 0 0) (.bool false) (.slice none 0 0) 116 := by rw [hL]; exact b0'.later ((Below.refl _ _).alloc (Nat.le_refl _) _) (lt_of_block b0')
          have y1 : Sl .i64 L (.slice a1 m1 c1) (dig 10000 (rdec D)) := by rw [hL]; exact hs1.alloc _
          have y2 : IsZ L (.agg #[.bool n2, .slice a2 m2 c2]) (m : Int) := by rw [hL]; exact by rw [HEND.out hkt]; exact hy2.later ((Below.refl _ _).alloc (Nat.le_refl _) _) (Nat.le_refl _)
          have hbL : Below w.heap.size w L := by rw [hL]; exact hbe2.alloc hbe2.size _
          rw [← hL]
          clear hL
          obtain ⟨hP0, hP1, _, _⟩ := c5.cells
          obtain ⟨hQ0, hQ1, _, _⟩ := c6.cells
          have hk5 := lt_of_block c5
          have hk6 := lt_of_block c6
          have hk0 := lt_of_block c0
          have HLN := Lib.hid (And.intro (rdec_len D HD.out 100000 (by rw [← HDL.out]; omega)) (show (dig 10000 m).length ≤ 1000000 ∧ m ≠ 0 by rw [HEND.out hkt, dig_small (by omega) (by omega)]; simp))
          go_cut [] (fun wx => QBox w.heap.size w w.heap.size (Rat.divInt (sgn N (rdec D)) (m : Int)) wx)
          case first =>
            go_region_law (first
              | (have hguard := hbc; go_simp; go_at_call 125; refine make_any _ _ (sgn N (rdec D)) (m : Int) _ hv3 (y2.drew.later hbc (Nat.le_refl _)) (by rw [sgn_abs]; exact Nat.le_trans HLN.out.1 (by omega)) (by rw [Int.natAbs_natCast]; exact HLN.out.2.1) (by have := HLN.out.2.2; omega) _ ?_; intro v4 w4 hv4 hb4; obtain ⟨n5, a5, m5, c5', a6, m6, c6', rfl, _, _⟩ := hv4.parts; have bb : Below L.heap.size L w4 := (below_ofDrew hbc).trans (hb4.mono hbc.size); have d2 := c0.later bb hk0; obtain ⟨⟨hR0, hR1, hR2, hR3⟩, hR4, hR5, hR6, hR7⟩ := d2.cells; clear hguard; dsimp only)
              | (go_simp; go_at_call 126; refine cut_z _ _ (dig 10000 (rdec D)) _ (Sl.drew y1) (dig_lt (by omega) _) (Nat.le_trans HLN.out.1 (by omega)) (sgn N (rdec D)) (by rw [HN.out]; exact sgn_cut _ _) _ ?_; intro v3 w3 hv3 hbc; obtain ⟨hS0, hS1, _, _⟩ := (c6.later (below_ofDrew hbc) hk6).cells; obtain ⟨n3, a3, m3, c3, rfl, _⟩ := hv3.openB; dsimp only))
            all_goals (go_wp2_with fail; go_meet; exact q_endG w w4 w.heap.size w.heap.size (Nat.le_refl _) _ _ _ _ _ _ _ _ _ d2 hv4 (hbL.trans (bb.mono (by omega))))
          case rest =>
            clear hP0 hP1 hQ0 hQ1
            obtain ⟨bx, x1, x2, hbx, he, ht1, ht2, hbl⟩ := hcut
            obtain ⟨⟨hR0, hR1, hR2, hR3⟩, _, _, _, _⟩ := hbx.cells
            go_wp2
            refine bodyPost_ret_at (by simp [results, Tryz.results87, go_sem, hR0, hR1, hR2, hR3] <;> rfl) rfl ?_
            rw [HN.out] at ht1 ht2 he
            exact HR.out _ _ ⟨x1, x2, by rw [he], ht1, ht2⟩ hbl
end Go.Proofs.YtnfehccicnpbpaaGreatDoor

namespace Go.Proofs.YtnfehccicnpbpaaGreatDoor
open Go Go.RowKit

def lenOf : Value → Nat
  | .string s => s.size
  | _ => 0

theorem chr_int (d : Nat) : UInt8.ofNat (48 + (d : Int)).toNat = chr d := by
  have : (48 + (d : Int)).toNat = 48 + d := by omega
  rw [this]; rfl

set_option maxRecDepth 100000 in
/-- four bytes as a text -/
theorem conv4 (W : World) (x : Nat) :
    (convert 44 9 (.slice (some ⟨W.heap.size, 0, none⟩) 4 4)).run Tryz.prog (W.alloc (.cells #[.int .u8 (48 + (x : Int) / 1000), .int .u8 (48 + (x : Int) / 100 % 10), .int .u8 (48 + (x : Int) / 10 % 10), .int .u8 (48 + (x : Int) % 10)] 5)) =
      .ok (.string ⟨(four x).toArray⟩) (W.alloc (.cells #[.int .u8 (48 + (x : Int) / 1000), .int .u8 (48 + (x : Int) / 100 % 10), .int .u8 (48 + (x : Int) / 10 % 10), .int .u8 (48 + (x : Int) % 10)] 5)) := by
  rw [run_convert_bytes_string _ _ _ 5 _ _ _ Tryz.underlying44 Tryz.underlying5 Tryz.underlying9]
  rw [run_bytesToString _ _ _ _ [48 + (x : Int) / 1000, 48 + (x : Int) / 100 % 10, 48 + (x : Int) / 10 % 10, 48 + (x : Int) % 10] (by simp [go_sem])]
  have e : [48 + (x : Int) / 1000, 48 + (x : Int) / 100 % 10, 48 + (x : Int) / 10 % 10, 48 + (x : Int) % 10].foldl (fun r n => r.push (UInt8.ofNat n.toNat)) ByteArray.empty = ⟨(four x).toArray⟩ := by
    have h1 := chr_int (x / 1000)
    have h2 := chr_int (x / 100 % 10)
    have h3 := chr_int (x / 10 % 10)
    have h4 := chr_int (x % 10)
    push_cast at h1 h2 h3 h4
    simp only [List.foldl_cons, List.foldl_nil, h1, h2, h3, h4]
    rfl
  rw [e]

set_option maxRecDepth 100000 in
theorem zdigits_any (v : Value) (z : Int) (w : World) (hz : IsZ w v z) (hlen : (dig 10000 z.natAbs).length ≤ 1000000000) (R : Ending → World → Prop)
    (hR : ∀ w', Below w.heap.size w w' → R (.returned (.string ⟨(decs z.natAbs).toArray⟩)) w') :
    Calls Tryz.prog 178 #[v] w R := by
  have HR := Lib.hid hR; clear hR
  obtain ⟨a, n, c, rfl, en, hs⟩ := hz.open
  rw [← en] at hlen
  obtain ⟨ds, hds⟩ : ∃ ds, ds = dig 10000 z.natAbs := ⟨_, rfl⟩
  have hdlt : ∀ d ∈ ds, d < 10000 := by rw [hds]; exact dig_lt (by omega) _
  have hval : val 10000 ds = z.natAbs := by rw [hds]; exact val_dig (by omega) _
  rw [← hds] at hs en
  rw [← hval] at HR
  have En := Lib.hid en
  have Hlt := Lib.hid hdlt
  clear en hdlt hds hval hz
  go_enter Tryz.func178, Tryz.ntmps178
  go_wp2
  go_loopw [3, 4] (fun o i wr => ∃ k : Nat, k ≤ n ∧ i = .int .i64 k ∧ o = .string ⟨(cat4 (ds.take k)).toArray⟩ ∧ Below (w.heap.size + 1) (w.alloc (.cells #[.bool (decide (z < 0)), .slice a n c] 114)) wr) (fun _ i _ => n - (intOf i).toNat)
  case atStart => exact ⟨0, Nat.zero_le _, rfl, rfl, Below.refl _ _⟩
  case round =>
    obtain ⟨k, hk, rfl, rfl, hbel⟩ := hrel
    have hbox := (Box2.made w (.bool (decide (z < 0))) (.slice a n c) 114).later hbel (by omega)
    obtain ⟨hA, hB, hA', hB'⟩ := hbox.cells
    by_cases hkn : k < n
    · rcases hs.cases with ⟨h0, _⟩ | ⟨h0, b, off, cap, he, hcap, hb, hc⟩
      · subst h0; have := En.out; simp at this; omega
      · simp only [Value.slice.injEq] at he
        obtain ⟨rfl, he3, rfl⟩ := he; clear he3
        have hcell := hc k (by rw [← En.out]; exact hkn)
        rw [← World.cell?_alloc_past (.cells #[.bool (decide (z < 0)), .slice (some ⟨b, off, none⟩) n c] 114) b (off + k) hb, ← hbel.cell (p := ⟨b, off + k, none⟩) (by simp; omega)] at hcell
        obtain ⟨x, hx⟩ : ∃ x, x = ds.getD k 0 := ⟨_, rfl⟩
        rw [← hx] at hcell
        have hxl : x < 10000 := by rw [hx]; have := Hlt.out; rw [List.getD, List.getElem?_eq_getElem (by rw [← En.out]; exact hkn)]; exact this _ (List.getElem_mem _)
        have Hx := Lib.hid hx; clear hx hc
        have hcv := conv4 wr x
        have hs1 : (cat4 (ds.take k)).length ≤ 4000000000 := by rw [cat4_length]; have := List.length_take_le k ds; omega
        have hs2 : (four x).length ≤ 4 := by simp [four]
        go_wp2
        go_roundw
        case rel =>
          refine ⟨k + 1, by omega, by go_num, ?_, hbel.alloc (by have := hbel.size; simp at this; omega) _⟩
          have hk1 : k < ds.length := by rw [← En.out]; exact hkn
          have hxx : ds[k] = x := by rw [Hx.out, List.getD, List.getElem?_eq_getElem hk1]; rfl
          rw [List.take_succ_eq_append_getElem hk1, cat4_snoc, hxx, ByteArray.mk_append_mk]
        case measure => simp [intOf]; omega
    · obtain rfl : k = n := by omega
      have hbz : Below w.heap.size w wr := ((Below.refl _ _).alloc (Nat.le_refl _) _).trans (hbel.mono (by omega))
      have htake : ds.take k = ds := by rw [En.out, List.take_length]
      have Hbz := Lib.hid hbz
      have hdecs := decs_of ds Hlt.out
      have hsl := cat4_length ds
      rw [htake]
      rw [hdecs] at HR
      obtain ⟨L, hL⟩ : ∃ L, L = cat4 ds := ⟨_, rfl⟩
      rw [← hL] at HR hsl ⊢
      have hsl' : L.length ≤ 4000000000 := by have := En.out; omega
      clear hbz htake hdecs hsl hL hbox hbel
      go_wp2
      go_loop [3] (fun o => ∃ l : List UInt8, o = .string ⟨l.toArray⟩ ∧ l.length ≤ 4000000000 ∧ strip0 l = strip0 L) (fun o => lenOf o)
      case atStart => exact ⟨L, rfl, hsl', rfl⟩
      case round =>
        obtain ⟨l, rfl, hll, hst⟩ := hrel
        have Hst := Lib.hid hst; clear hst
        match l with
        | [] =>
          have hn : strip0 L = [] := by rw [← Hst.out]; rfl
          rw [if_pos hn] at HR
          clear hn
          go_wp2
          first | go_ret | skip
          exact HR.out _ Hbz.out
        | ch :: l =>
          by_cases hch : ch = 48
          · subst hch
            go_wp2
            go_round
            case rel => exact ⟨l, by rw [ByteArray.extract_mk]; simp, by simp at hll; omega, by rw [← Hst.out]; simp [strip0]⟩
            case measure => simp [lenOf, ByteArray.size]
          · have e : ((((ByteArray.mk (ch :: l).toArray)[0]'(by simp [ByteArray.size])).toNat : Int) == 48) = false := by
              show ((ch.toNat : Int) == 48) = false
              have : ch.toNat ≠ 48 := fun h => hch (UInt8.toNat_inj.1 (by rw [h]; rfl))
              simp; omega
            have hn : strip0 L = ch :: l := by rw [← Hst.out, strip0, if_neg hch]
            rw [hn, if_neg (by simp)] at HR
            clear hn
            go_wp2
            first | go_ret | skip
            exact HR.out _ Hbz.out
end Go.Proofs.YtnfehccicnpbpaaGreatDoor
