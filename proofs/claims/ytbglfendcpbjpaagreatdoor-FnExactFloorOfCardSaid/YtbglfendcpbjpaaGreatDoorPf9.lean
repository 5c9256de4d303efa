/- Contracts of functions of the program and of the model: PlusN, FloorR, NegQ, FloorQ, LawFloor. -/
import Derived.Test.YtbglfendcpbjpaaGreatDoorPm8
set_option linter.all false
set_option linter.unusedVariables false
set_option linter.unusedSimpArgs false
set_option linter.unnecessarySimpa false
set_option linter.deprecated false
namespace Go.Proofs.YtbglfendcpbjpaaGreatDoor
open Go Go.RowKit

theorem app_lt {xs : List Nat} (h : ∀ d ∈ xs, d < W64) : ∀ d ∈ xs ++ [0], d < W64 := by
  intro d hd
  rcases List.mem_append.1 hd with h1 | h1
  · exact h d h1
  · simp at h1; subst h1; rw [W64_eq]; omega

theorem addc_parts (x y c s m : Nat) (hx : x < W64) (hy : y < W64) (hc : c ≤ 1) (hs : s = (x + y + c) % W64) (hm : m = (x + y + c) / W64) : x + y + c = s + W64 * m ∧ m ≤ 1 ∧ s < W64 := by
  rw [W64_eq] at *
  omega

def PlusRel (w : World) (g n : Nat) (xs ys : List Nat) (cv iv : Value) (wr : World) : Prop :=
  ∃ (k c : Nat) (cur : List Nat), iv = .int .i64 ((k : Nat) : Int) ∧ cv = .int .u64 ((c : Nat) : Int) ∧ k ≤ n ∧ c ≤ 1 ∧ Arr .u64 110 wr g cur ∧ cur.length = n + 1 ∧ (∀ d ∈ cur, d < W64) ∧
    cur.drop k = xs.drop k ++ [0] ∧ val W64 (cur.take k) + W64 ^ k * c = val W64 (xs.take k) + val W64 (ys.take k) ∧ Below w.heap.size w wr ∧ wr.heap.size = w.heap.size + 1

theorem take_set_same (xs : List Nat) (k s : Nat) : (xs.set k s).take k = xs.take k := by
  rw [List.take_set_of_le (Nat.le_refl _)]

theorem val_take_y (ys : List Nat) (k y : Nat) (hy : y = ys.getD k 0) : val W64 (ys.take (k + 1)) = val W64 (ys.take k) + W64 ^ k * y := by
  by_cases h : k < ys.length
  · rw [val_take_succ W64 ys k h, hy]
  · rw [List.take_of_length_le (by omega), List.take_of_length_le (by omega), hy]
    simp [List.getD, List.getElem?_eq_none (by omega : ys.length ≤ k)]

theorem plus_fin (cur : List Nat) (k c : Nat) (hl : cur.length = k + 1) : val W64 (cur.set k c) = val W64 (cur.take k) + W64 ^ k * c := by
  have h := val_take_succ W64 (cur.set k c) k (by simp [hl])
  rw [List.take_of_length_le (by simp [hl]), take_set_same] at h
  rw [h]
  simp [List.getD, hl]

theorem plus_rel (w wr : World) (g n k c x y s m : Nat) (xs ys cur : List Nat) (hk : k < n) (hxl : xs.length = n) (hA : Arr .u64 110 wr g cur) (hl : cur.length = n + 1) (hlt : ∀ d ∈ cur, d < W64)
    (hd : cur.drop k = xs.drop k ++ [0]) (hv : val W64 (cur.take k) + W64 ^ k * c = val W64 (xs.take k) + val W64 (ys.take k)) (hb : Below w.heap.size w wr) (hs : wr.heap.size = w.heap.size + 1) (hg : w.heap.size ≤ g)
    (hx : cur.getD k 0 = x) (hy : y = ys.getD k 0) (hsm : x + y + c = s + W64 * m) (hm : m ≤ 1) (hsl : s < W64) :
    PlusRel w g n xs ys (.int .u64 ((m : Nat) : Int)) (.int .i64 ((k + 1 : Nat) : Int)) (wr.setCell ⟨g, k, none⟩ (.int .u64 ((s : Nat) : Int))) := by
  refine ⟨k + 1, m, cur.set k s, rfl, rfl, by omega, hm, hA.set _ _, by simp [hl], set_ltN _ _ _ hlt hsl, ?_, ?_, hb.setCell hg _, by simp [hs]⟩
  · rw [drop_set_out _ _ _ _ (by omega)]
    have h2 := congrArg (List.drop 1) hd
    rw [List.drop_drop, List.drop_append_of_le_length (by rw [List.length_drop, hxl]; omega), List.drop_drop] at h2
    exact h2
  · have hxx : xs.getD k 0 = x := by
      have h2 := congrArg (fun l => l.getD 0 0) hd
      simp only [List.getD, List.getElem?_drop, Nat.add_zero, List.getElem?_append, List.length_drop] at h2
      rw [if_pos (by omega)] at h2
      rw [← hx]
      simp only [List.getD]
      exact h2.symm
    rw [val_take_succ W64 (cur.set k s) k (by simp [hl]; omega), take_set_same, val_take_succ W64 xs k (by omega), hxx, val_take_y ys k y hy, Nat.pow_succ]
    have e : (cur.set k s).getD k 0 = s := by simp [List.getD, hl, show k < n + 1 by omega]
    rw [e]
    generalize W64 ^ k = P at *
    generalize val W64 (cur.take k) = A at *
    generalize val W64 (xs.take k) = X at *
    generalize val W64 (ys.take k) = Y at *
    generalize W64 = W at *
    grind

set_option maxRecDepth 100000 in
set_option maxHeartbeats 2000000 in
theorem nplus_any (va vb : Value) (a b : Nat) (w : World) (ha : IsN w va a) (hb : IsN w vb b) (hlen : (dig W64 a).length ≤ 10000000) (hlenb : (dig W64 b).length ≤ 10000000) (R : Ending → World → Prop)
    (hR : ∀ v' w', IsN w' v' (a + b) → Below w.heap.size w w' → R (.returned v') w') :
    Calls Tryz.prog 104 #[va, vb] w R := by
  have HR := Lib.hid hR; clear hR
  obtain ⟨ao, n, cap, rfl, hn, hsa⟩ := ha.open
  obtain ⟨bo, nb, capb, rfl, hnb, hsb⟩ := hb.open
  obtain ⟨xs, hxs⟩ : ∃ xs, xs = dig W64 a := ⟨_, rfl⟩
  obtain ⟨ys, hys⟩ : ∃ ys, ys = dig W64 b := ⟨_, rfl⟩
  have hvx : val W64 xs = a := by rw [hxs]; exact val_dig W64_two _
  have hvy : val W64 ys = b := by rw [hys]; exact val_dig W64_two _
  have hx : ∀ d ∈ xs, d < W64 := by rw [hxs]; exact limb_lt _
  have hy : ∀ d ∈ ys, d < W64 := by rw [hys]; exact limb_lt _
  unfold IsN at hsa hsb
  rw [← hn] at hlen
  rw [← hnb] at hlenb
  rw [← hxs] at hsa hn
  rw [← hys] at hsb hnb
  have HN := Lib.hid hn
  have HNB := Lib.hid hnb
  have HVX := Lib.hid hvx
  have HVY := Lib.hid hvy
  have HX := Lib.hid hx
  have HY := Lib.hid hy
  have HSA := Lib.hid hsa
  have HSB := Lib.hid hsb
  clear ha hb hn hnb hxs hys hvx hvy hx hy hsa hsb
  by_cases hab : n < nb
  · have hlt : (n : Int) < (nb : Int) := by omega
    go_enter Tryz.func104, Tryz.ntmps104
    go_wp2_with (at_make; go_must (refine wpList_makez _ rfl (.tmp 18) 47 rfl 110 .u64 8 Tryz.underlying47 info_u64 (by omega) .i64 _ (nb + 1) (by rfl) (by omega) (by omega) ?_))
    intro W hA hbW hsW
    go_wp2_with (with_reducible refine wpList_copy_nums rfl (.tmp 20) (.tmp 21) 47 48 rfl 110 Tryz.underlying47 (by kernel_rfl) .u64 110 w.heap.size (nb + 1) (nb + 1) (List.replicate (nb + 1) 0) ys hA rfl (.slice bo nb capb) rfl (HSB.out.later hbW (Nat.le_refl _)) (by rw [← HNB.out]; omega) (by simp) ?_)
    intro W2 hA2 hbut2 hsz2
    have hst : PlusRel w w.heap.size nb ys xs (.int .u64 0) (.int .i64 0) W2 := by
      refine ⟨0, 0, ys ++ [0], rfl, rfl, Nat.zero_le _, Nat.zero_le _, ?_, by simp [← HNB.out], app_lt HY.out, by simp, by simp [val], hbW.trans (hbut2.below (Nat.le_refl _) (by omega)), by omega⟩
      have := hA2
      rwa [← HNB.out, Nat.add_sub_cancel_left, List.replicate_one] at this
    have HST := Lib.hid hst
    clear hst hA hbW hsW hA2 hbut2 hsz2
    go_wp2
    go_loopw [6, 25] (fun c i wr => PlusRel w w.heap.size nb ys xs c i wr) (fun _ i _ => nb - (intOf i).toNat)
    case atStart => exact HST.out
    case round =>
      clear HST
      obtain ⟨k, c, cur, rfl, rfl, hk, hc, hA, hl, hlt, hd, hv, hbel, hsz⟩ := hrel
      have HL := Lib.hid hl
      have HLT := Lib.hid hlt
      have HD := Lib.hid hd
      have HV := Lib.hid hv
      have HB := Lib.hid hbel
      have HSZ := Lib.hid hsz
      clear hl hlt hd hv hsz
      by_cases hkn : k < nb
      · obtain ⟨x, hx⟩ : ∃ x, x = cur.getD k 0 := ⟨_, rfl⟩
        obtain ⟨y, hy⟩ : ∃ y, y = xs.getD k 0 := ⟨_, rfl⟩
        have hck := hA.cell k (by rw [HL.out]; omega)
        have hfk := hA.frozen k
        rw [← hx] at hck
        have hxl : x < W64 := by rw [hx]; exact getD_lt (by rw [W64_eq]; omega) _ HLT.out _
        have hyl : y < W64 := by rw [hy]; exact getD_lt (by rw [W64_eq]; omega) _ HX.out _
        obtain ⟨s, hs⟩ : ∃ s, s = (x + y + c) % W64 := ⟨_, rfl⟩
        obtain ⟨m, hm⟩ : ∃ m, m = (x + y + c) / W64 := ⟨_, rfl⟩
        obtain ⟨h1, h2, h3⟩ := addc_parts x y c s m hxl hyl hc hs hm
        have HREL := Lib.hid (plus_rel w wr w.heap.size nb k c x y s m ys xs cur hkn HNB.out.symm hA HL.out HLT.out HD.out HV.out HB.out HSZ.out (Nat.le_refl _) hx.symm hy h1 h2 h3)
        have ea := add64_at x y c hc s m hs hm
        have Hy := Lib.hid hy
        have hkn2 : (k : Int) < (nb : Int) := by omega
        have hkn3 : (k : Int) < (nb : Int) + 1 := by omega
        clear hx hy hxl hyl hs hm h1 h2 h3 hA
        by_cases hkb : k < n
        · obtain ⟨b, o, rfl, hb1, hc1⟩ := Sl.at HSA.out k hkb
          rw [← hbel.cell (p := ⟨b, o + k, none⟩) hb1, ← Hy.out] at hc1
          have hkb2 : (k : Int) < (n : Int) := by omega
          clear hbel
          go_wp2_with (simp only [ea])
          go_roundw
          case rel => exact HREL.out
          case measure => simp [intOf]; omega
        · have hkb2 : ¬ (k : Int) < (n : Int) := by omega
          have hy0 : y = 0 := by rw [Hy.out]; simp [List.getD, List.getElem?_eq_none (by rw [← HN.out]; omega : xs.length ≤ k)]
          clear hbel
          subst hy0
          have ea0 := ea
          rw [show ((0 : Nat) : Int) = 0 from rfl] at ea0
          clear ea
          go_wp2_with (simp only [ea0])
          go_roundw
          case rel => exact HREL.out
          case measure => simp [intOf]; omega
      · obtain rfl : k = nb := by omega
        have hfin : val W64 (cur.set k c) = a + b := by
          rw [plus_fin cur k c HL.out, HV.out, List.take_of_length_le (by rw [← HNB.out]; exact Nat.le_refl _), List.take_of_length_le (by rw [← HN.out]; omega), HVX.out, HVY.out, Nat.add_comm]
        have HF := Lib.hid hfin
        have hfk := hA.frozen k
        have hck := hA.cell k (by rw [HL.out]; omega)
        have hA3 := hA.set k c
        have HLT3 : Hid (∀ d ∈ cur.set k c, d < W64) := Lib.hid (set_ltN _ _ _ HLT.out (by rw [W64_eq]; omega))
        have HA3 := Lib.hid hA3
        have HB3 := Lib.hid (hbel.setCell (Nat.le_refl _) (p := ⟨w.heap.size, k, none⟩) (.int .u64 ((c : Nat) : Int)))
        clear hfin hbel hA hA3
        go_wp2_with fail
        refine trimmed_any _ (cur.set k c) _ (HA3.out.sl _ _ (by rw [List.length_set, HL.out]) (Nat.le_refl _)) HLT3.out (by rw [List.length_set, HL.out]; omega) _ ?_
        intro v' hv' _
        rw [HF.out] at hv'
        dsimp only
        go_wp2
        first | go_ret | skip
        exact HR.out _ _ hv' HB3.out
  · have hlt : ¬ (n : Int) < (nb : Int) := by omega
    go_enter Tryz.func104, Tryz.ntmps104
    go_wp2_with (at_make; go_must (refine wpList_makez _ rfl (.tmp 18) 47 rfl 110 .u64 8 Tryz.underlying47 info_u64 (by omega) .i64 _ (n + 1) (by rfl) (by omega) (by omega) ?_))
    intro W hA hbW hsW
    go_wp2_with (with_reducible refine wpList_copy_nums rfl (.tmp 20) (.tmp 21) 47 48 rfl 110 Tryz.underlying47 (by kernel_rfl) .u64 110 w.heap.size (n + 1) (n + 1) (List.replicate (n + 1) 0) xs hA rfl (.slice ao n cap) rfl (HSA.out.later hbW (Nat.le_refl _)) (by rw [← HN.out]; omega) (by simp) ?_)
    intro W2 hA2 hbut2 hsz2
    have hst : PlusRel w w.heap.size n xs ys (.int .u64 0) (.int .i64 0) W2 := by
      refine ⟨0, 0, xs ++ [0], rfl, rfl, Nat.zero_le _, Nat.zero_le _, ?_, by simp [← HN.out], app_lt HX.out, by simp, by simp [val], hbW.trans (hbut2.below (Nat.le_refl _) (by omega)), by omega⟩
      have := hA2
      rwa [← HN.out, Nat.add_sub_cancel_left, List.replicate_one] at this
    have HST := Lib.hid hst
    clear hst hA hbW hsW hA2 hbut2 hsz2
    go_wp2
    go_loopw [6, 25] (fun c i wr => PlusRel w w.heap.size n xs ys c i wr) (fun _ i _ => n - (intOf i).toNat)
    case atStart => exact HST.out
    case round =>
      clear HST
      obtain ⟨k, c, cur, rfl, rfl, hk, hc, hA, hl, hlt, hd, hv, hbel, hsz⟩ := hrel
      have HL := Lib.hid hl
      have HLT := Lib.hid hlt
      have HD := Lib.hid hd
      have HV := Lib.hid hv
      have HB := Lib.hid hbel
      have HSZ := Lib.hid hsz
      clear hl hlt hd hv hsz
      by_cases hkn : k < n
      · obtain ⟨x, hx⟩ : ∃ x, x = cur.getD k 0 := ⟨_, rfl⟩
        obtain ⟨y, hy⟩ : ∃ y, y = ys.getD k 0 := ⟨_, rfl⟩
        have hck := hA.cell k (by rw [HL.out]; omega)
        have hfk := hA.frozen k
        rw [← hx] at hck
        have hxl : x < W64 := by rw [hx]; exact getD_lt (by rw [W64_eq]; omega) _ HLT.out _
        have hyl : y < W64 := by rw [hy]; exact getD_lt (by rw [W64_eq]; omega) _ HY.out _
        obtain ⟨s, hs⟩ : ∃ s, s = (x + y + c) % W64 := ⟨_, rfl⟩
        obtain ⟨m, hm⟩ : ∃ m, m = (x + y + c) / W64 := ⟨_, rfl⟩
        obtain ⟨h1, h2, h3⟩ := addc_parts x y c s m hxl hyl hc hs hm
        have HREL := Lib.hid (plus_rel w wr w.heap.size n k c x y s m xs ys cur hkn HN.out.symm hA HL.out HLT.out HD.out HV.out HB.out HSZ.out (Nat.le_refl _) hx.symm hy h1 h2 h3)
        have ea := add64_at x y c hc s m hs hm
        have Hy := Lib.hid hy
        have hkn2 : (k : Int) < (n : Int) := by omega
        have hkn3 : (k : Int) < (n : Int) + 1 := by omega
        clear hx hy hxl hyl hs hm h1 h2 h3 hA
        by_cases hkb : k < nb
        · obtain ⟨b, o, rfl, hb1, hc1⟩ := Sl.at HSB.out k hkb
          rw [← hbel.cell (p := ⟨b, o + k, none⟩) hb1, ← Hy.out] at hc1
          have hkb2 : (k : Int) < (nb : Int) := by omega
          clear hbel
          go_wp2_with (simp only [ea])
          go_roundw
          case rel => exact HREL.out
          case measure => simp [intOf]; omega
        · have hkb2 : ¬ (k : Int) < (nb : Int) := by omega
          have hy0 : y = 0 := by rw [Hy.out]; simp [List.getD, List.getElem?_eq_none (by rw [← HNB.out]; omega : ys.length ≤ k)]
          clear hbel
          subst hy0
          have ea0 := ea
          rw [show ((0 : Nat) : Int) = 0 from rfl] at ea0
          clear ea
          go_wp2_with (simp only [ea0])
          go_roundw
          case rel => exact HREL.out
          case measure => simp [intOf]; omega
      · obtain rfl : k = n := by omega
        have hfin : val W64 (cur.set k c) = a + b := by
          rw [plus_fin cur k c HL.out, HV.out, List.take_of_length_le (by rw [← HN.out]; exact Nat.le_refl _), List.take_of_length_le (by rw [← HNB.out]; omega), HVX.out, HVY.out]
        have HF := Lib.hid hfin
        have hfk := hA.frozen k
        have hck := hA.cell k (by rw [HL.out]; omega)
        have hA3 := hA.set k c
        have HLT3 : Hid (∀ d ∈ cur.set k c, d < W64) := Lib.hid (set_ltN _ _ _ HLT.out (by rw [W64_eq]; omega))
        have HA3 := Lib.hid hA3
        have HB3 := Lib.hid (hbel.setCell (Nat.le_refl _) (p := ⟨w.heap.size, k, none⟩) (.int .u64 ((c : Nat) : Int)))
        clear hfin hbel hA hA3
        go_wp2_with fail
        refine trimmed_any _ (cur.set k c) _ (HA3.out.sl _ _ (by rw [List.length_set, HL.out]) (Nat.le_refl _)) HLT3.out (by rw [List.length_set, HL.out]; omega) _ ?_
        intro v' hv' _
        rw [HF.out] at hv'
        dsimp only
        go_wp2
        first | go_ret | skip
        exact HR.out _ _ hv' HB3.out
end Go.Proofs.YtbglfendcpbjpaaGreatDoor

namespace Go.Proofs.YtbglfendcpbjpaaGreatDoor
open Go Go.RowKit

theorem floor_sgn (z : Int) (d : Nat) (hd : 0 < d) : (¬ z < 0 → sgn false (z.natAbs / d) = z / (d : Int)) ∧ (z < 0 → z.natAbs % d = 0 → sgn true (z.natAbs / d) = z / (d : Int)) ∧ (z < 0 → z.natAbs % d ≠ 0 → sgn true (z.natAbs / d + 1) = z / (d : Int)) := by
  refine ⟨fun h => ?_, fun h hr => ?_, fun h hr => ?_⟩
  · obtain ⟨n, rfl⟩ : ∃ n : Nat, z = (n : Int) := ⟨z.natAbs, by omega⟩
    rw [Int.natAbs_natCast]; rfl
  · obtain ⟨n, rfl⟩ : ∃ n : Nat, z = -(n : Int) := ⟨z.natAbs, by omega⟩
    rw [Int.natAbs_neg, Int.natAbs_natCast] at *
    rw [floor_neg n d hd, if_pos hr, Nat.add_zero]; rfl
  · obtain ⟨n, rfl⟩ : ∃ n : Nat, z = -(n : Int) := ⟨z.natAbs, by omega⟩
    rw [Int.natAbs_neg, Int.natAbs_natCast] at *
    rw [floor_neg n d hd, if_neg hr]; rfl

set_option maxRecDepth 100000 in
set_option maxHeartbeats 2000000 in
theorem rfloor_any (v : Value) (q : Rat) (w : World) (h : IsR w v q) (hla : (dig W64 q.num.natAbs).length ≤ 1000000) (hla2 : (dig W64 q.den).length ≤ 1000000) (R : Ending → World → Prop)
    (hR : ∀ v' w', IsI w' v' (q.num / (q.den : Int)) → Below w.heap.size w w' → R (.returned v') w') :
    Calls Tryz.prog 55 #[v] w R := by
  have HR := Lib.hid hR; clear hR
  obtain ⟨na, a1, n1, c1, a2, n2, c2, hna, rfl, hn1, hn2⟩ := h.parts
  obtain ⟨L, hL⟩ : ∃ L, L = (w.alloc (.cells #[.bool na, .slice a1 n1 c1, .slice a2 n2 c2] 52)).alloc (.cells #[.bool false, .slice none 0 0] 50) := ⟨_, rfl⟩
  have HEXT : Hid (Below w.heap.size w L) := Lib.hid (by rw [hL]; exact ((Below.refl w.heap.size w).alloc (Nat.le_refl _) _).alloc (by simp) _)
  have hLs : L.heap.size = w.heap.size + 2 := by rw [hL]; simp
  have hb1 : Below (w.heap.size + 1) (w.alloc (.cells #[.bool na, .slice a1 n1 c1, .slice a2 n2 c2] 52)) L := by rw [hL]; exact (Below.refl _ _).alloc (by simp) _
  have B0 : Box3 L w.heap.size (.bool na) (.slice a1 n1 c1) (.slice a2 n2 c2) 52 := (Box3.made w _ _ _ _).later hb1 (by omega)
  have B1 : Box2 L (w.heap.size + 1) (.bool false) (.slice none 0 0) 50 := by
    have := Box2.made (w.alloc (.cells #[.bool na, .slice a1 n1 c1, .slice a2 n2 c2] 52)) (.bool false) (.slice none 0 0) 50
    rw [World.size_alloc, ← hL] at this; exact this
  have HK : Hid (w.heap.size + 1 < L.heap.size) := Lib.hid (by omega)
  have HL := Lib.hid hL
  have HB0 := Lib.hid B0
  have HB1 := Lib.hid B1
  have X1 := Lib.hid (hn1.later HEXT.out (Nat.le_refl _))
  have X2 := Lib.hid (hn2.later HEXT.out (Nat.le_refl _))
  have HLN := Lib.hid (And.intro hla hla2)
  have HFL := Lib.hid (floor_sgn q.num q.den q.den_pos)
  have HNA := Lib.hid hna
  obtain ⟨⟨hA, hB, hC⟩, _, _, _⟩ := B0.cells
  rw [hL] at hA hB hC
  clear hna h hn1 hn2 hla hla2 hb1 B0 B1 hL hLs
  go_enter Tryz.func55, Tryz.ntmps55
  go_wp2_with fail
  rw [← HL.out]
  refine divide_any _ _ q.num.natAbs q.den _ X1.out X2.out (Nat.le_trans HLN.out.1 (by omega)) (Nat.le_trans HLN.out.2 (by omega)) q.den_nz _ ?_
  intro v1 v2 w1 hv1 hv2 hb1
  obtain ⟨a3, n3, c3, rfl, hv1'⟩ := hv1.op
  obtain ⟨a4, n4, c4, rfl, hv2'⟩ := hv2.op
  have HV1 := Lib.hid hv1'
  have HV2 := Lib.hid hv2'
  have HT1 := Lib.hid hb1
  have k1 := HB0.out.later hb1 (by have := HK.out; omega)
  clear hv1 hv2 hv1' hv2' hb1 hA hB hC
  obtain ⟨⟨hA, hB, hC⟩, _, _, _⟩ := k1.cells
  clear k1
  cases na with
  | false =>
    have HSG : Hid (sgn false (q.num.natAbs / q.den) = q.num / (q.den : Int)) := Lib.hid (HFL.out.1 (by have := of_decide_eq_false HNA.out.symm; omega))
    dsimp only
    go_wp2_with fail
    refine integerOf_z false _ (q.num.natAbs / q.den) _ HV1.out _ ?_
    intro v5 w5 hv5 hb5
    rw [HSG.out] at hv5
    obtain ⟨m5, a5, n5, c5, hm5, rfl, hn5⟩ := hv5.parts
    have HM5 := Lib.hid hm5
    have HN5 := Lib.hid hn5
    have HT5 := Lib.hid (HT1.out.trans (hb5.mono HT1.out.size))
    have d5 := HB1.out.later HT5.out HK.out
    clear hv5 hb5 hm5 hn5 hA hB hC
    obtain ⟨hR0, hR1, hF0, hF1⟩ := d5.cells
    have HD5 := Lib.hid d5
    clear d5
    dsimp only
    go_wp2
    refine bodyPost_ret_at (by simp [results, Tryz.results55, go_sem, hR0, hR1, hF0, hF1] <;> rfl) rfl ?_
    exact HR.out _ _ (IsI.mk HM5.out (HN5.out.set2 (HD5.out.noInt rfl rfl) _ _ rfl)) (((HEXT.out.trans (HT5.out.mono HEXT.out.size)).setCell (show w.heap.size ≤ w.heap.size + 1 by omega) _).setCell (show w.heap.size ≤ w.heap.size + 1 by omega) _)
  | true =>
    have HNEG : Hid (q.num < 0) := Lib.hid (of_decide_eq_true HNA.out.symm)
    dsimp only
    go_wp2_with fail
    refine nzero_any _ (q.num.natAbs % q.den) _ HV2.out _ ?_
    by_cases h0 : q.num.natAbs % q.den = 0
    · have hd : decide (q.num.natAbs % q.den = 0) = true := decide_eq_true h0
      have HSG : Hid (sgn true (q.num.natAbs / q.den) = q.num / (q.den : Int)) := Lib.hid (HFL.out.2.1 HNEG.out h0)
      rw [hd]
      clear hd h0
      dsimp only
      go_wp2_with fail
      refine integerOf_z true _ (q.num.natAbs / q.den) _ HV1.out _ ?_
      intro v5 w5 hv5 hb5
      rw [HSG.out] at hv5
      obtain ⟨m5, a5, n5, c5, hm5, rfl, hn5⟩ := hv5.parts
      have HM5 := Lib.hid hm5
      have HN5 := Lib.hid hn5
      have HT5 := Lib.hid (HT1.out.trans (hb5.mono HT1.out.size))
      have d5 := HB1.out.later HT5.out HK.out
      clear hv5 hb5 hm5 hn5 hA hB hC
      obtain ⟨hR0, hR1, hF0, hF1⟩ := d5.cells
      have HD5 := Lib.hid d5
      clear d5
      dsimp only
      go_wp2
      refine bodyPost_ret_at (by simp [results, Tryz.results55, go_sem, hR0, hR1, hF0, hF1] <;> rfl) rfl ?_
      exact HR.out _ _ (IsI.mk HM5.out (HN5.out.set2 (HD5.out.noInt rfl rfl) _ _ rfl)) (((HEXT.out.trans (HT5.out.mono HEXT.out.size)).setCell (show w.heap.size ≤ w.heap.size + 1 by omega) _).setCell (show w.heap.size ≤ w.heap.size + 1 by omega) _)
    · have hd : decide (q.num.natAbs % q.den = 0) = false := decide_eq_false h0
      have HSG : Hid (sgn true (q.num.natAbs / q.den + 1) = q.num / (q.den : Int)) := Lib.hid (HFL.out.2.2 HNEG.out h0)
      rw [hd]
      clear hd h0
      obtain ⟨L2, hL2⟩ : ∃ L2, L2 = w1.alloc (.cells #[.int .u64 1] 110) := ⟨_, rfl⟩
      have HL2 := Lib.hid hL2
      have HONE : Hid (IsN L2 (.slice (some ⟨w1.heap.size, 0, none⟩) 1 1) 1) := Lib.hid (by rw [hL2]; exact IsN.one w1 w1.heap.size (Nat.le_refl _))
      have hw2 : Below w1.heap.size w1 L2 := by rw [hL2]; exact (Below.refl _ _).alloc (Nat.le_refl _) _
      have HV1' := Lib.hid (HV1.out.later hw2 (Nat.le_refl _))
      have HT2 := Lib.hid (HT1.out.trans (hw2.mono HT1.out.size))
      have HLQ : Hid ((dig W64 (q.num.natAbs / q.den)).length ≤ 1000000) := Lib.hid (Nat.le_trans (dig_mono W64_two (Nat.div_le_self _ _)) HLN.out.1)
      clear hL2 hw2
      dsimp only
      go_wp2_with fail
      rw [← HL2.out]
      refine nplus_any _ _ (q.num.natAbs / q.den) 1 _ HV1'.out HONE.out (Nat.le_trans HLQ.out (by omega)) (Nat.le_trans (dig_length_le W64_two 1 1 (by rw [W64_eq]; omega)) (by omega)) _ ?_
      intro v3 w3 hv3 hb3
      obtain ⟨a6, n6, c6, rfl, hv3'⟩ := hv3.op
      have HV3 := Lib.hid hv3'
      have HT3 := Lib.hid (HT2.out.trans (hb3.mono HT2.out.size))
      have k3 := HB0.out.later HT3.out (by have := HK.out; omega)
      clear hv3 hv3' hb3 hA hB hC
      obtain ⟨⟨hA, hB, hC⟩, _, _, _⟩ := k3.cells
      clear k3
      dsimp only
      go_wp2_with fail
      refine integerOf_z true _ (q.num.natAbs / q.den + 1) _ HV3.out _ ?_
      intro v5 w5 hv5 hb5
      rw [HSG.out] at hv5
      obtain ⟨m5, a5, n5, c5, hm5, rfl, hn5⟩ := hv5.parts
      have HM5 := Lib.hid hm5
      have HN5 := Lib.hid hn5
      have HT5 := Lib.hid (HT3.out.trans (hb5.mono HT3.out.size))
      have d5 := HB1.out.later HT5.out HK.out
      clear hv5 hb5 hm5 hn5 hA hB hC
      obtain ⟨hR0, hR1, hF0, hF1⟩ := d5.cells
      have HD5 := Lib.hid d5
      clear d5
      dsimp only
      go_wp2
      refine bodyPost_ret_at (by simp [results, Tryz.results55, go_sem, hR0, hR1, hF0, hF1] <;> rfl) rfl ?_
      exact HR.out _ _ (IsI.mk HM5.out (HN5.out.set2 (HD5.out.noInt rfl rfl) _ _ rfl)) (((HEXT.out.trans (HT5.out.mono HEXT.out.size)).setCell (show w.heap.size ≤ w.heap.size + 1 by omega) _).setCell (show w.heap.size ≤ w.heap.size + 1 by omega) _)
end Go.Proofs.YtbglfendcpbjpaaGreatDoor

namespace Go.Proofs.YtbglfendcpbjpaaGreatDoor
open Go Go.RowKit

theorem num_neg_q (q : Rat) : (-q).num = -q.num := rfl
theorem den_neg_q (q : Rat) : (-q).den = q.den := rfl

theorem neg_end (w L wC : World) (g : Nat) (q : Rat) (n : Bool) (a1 : Option Addr) (n1 c1 : Nat) (a2 : Option Addr) (n2 c2 : Nat)
    (d2 : Box4 wC (g + 1) (.bool false) (.slice none 0 0) (.bool false) (.slice none 0 0) 41)
    (hz : IsZ wC (.agg #[.bool n, .slice a1 n1 c1]) (-q.num)) (hd : IsZ L (.agg #[.bool false, .slice a2 n2 c2]) (q.den : Int)) (hb : Below g w L) (hbC : Below L.drew.heap.size L.drew wC) (hgW : g ≤ L.heap.size) :
    QBox g w (g + 1) (-q) ((((wC.setCell ⟨g + 1, 0, none⟩ (.bool n)).setCell ⟨g + 1, 1, none⟩ (.slice a1 n1 c1)).setCell ⟨g + 1, 2, none⟩ (.bool false)).setCell ⟨g + 1, 3, none⟩ (.slice a2 n2 c2)) := by
  have hn := d2.noInt rfl rfl rfl rfl
  obtain ⟨s1, e1, h1⟩ := hz
  simp at e1
  obtain ⟨e1, rfl⟩ := e1
  have t4 := (Sl.drew hd.ofNat).later hbC (Nat.le_refl _)
  refine ⟨_, _, _, d2.set4 _ _ _ _, ?_, ?_, ?_, ((((hb.trans ((below_ofDrew hbC).mono hgW)).setCell (by simp <;> omega) _).setCell (by simp <;> omega) _).setCell (by simp <;> omega) _).setCell (by simp <;> omega) _⟩
  · rw [e1]; simp [num_neg_q]
  · exact h1.set4 hn _ _ _ _ rfl rfl rfl
  · exact t4.set4 hn _ _ _ _ rfl rfl rfl

set_option maxRecDepth 100000 in
set_option maxHeartbeats 1000000 in
theorem negQ_any (va : Value) (a : Rat) (w : World) (ha : IsQ w va a) (hla : (dig 10000 a.num.natAbs).length ≤ 1000000)
    (R : Ending → World → Prop) (hR : ∀ v w', IsQ w' v (-a) → Below w.heap.size w w' → R (.returned v) w') :
    Calls Tryz.prog 86 #[va] w R := by
  have HR := Lib.hid hR; clear hR
  obtain ⟨na, a1, n1, c1, a2, n2, c2, rfl, hz1, hz2⟩ := ha.parts
  clear ha
  obtain ⟨L, hL⟩ : ∃ L, L = (w.alloc (.cells #[.bool na, .slice a1 n1 c1, .bool false, .slice a2 n2 c2] 41)).alloc (.cells #[.bool false, .slice none 0 0, .bool false, .slice none 0 0] 41) := ⟨_, rfl⟩
  have hLs : L.heap.size = w.heap.size + 2 := by rw [hL]; simp
  have B0 : Box4 L w.heap.size (.bool na) (.slice a1 n1 c1) (.bool false) (.slice a2 n2 c2) 41 := by
    rw [hL]; exact (Box4.made w _ _ _ _ _).later (B := w.heap.size + 1) ((Below.refl _ _).alloc (by simp) _) (by omega)
  have B2 : Box4 L (w.heap.size + 1) (.bool false) (.slice none 0 0) (.bool false) (.slice none 0 0) 41 := by
    rw [hL]; have := Box4.made (w.alloc (.cells #[.bool na, .slice a1 n1 c1, .bool false, .slice a2 n2 c2] 41)) (.bool false) (.slice none 0 0) (.bool false) (.slice none 0 0) 41; simpa using this
  have HEXT : Below w.heap.size w L := by rw [hL]; exact ((Below.refl w.heap.size w).alloc (Nat.le_refl _) _).alloc (by simp) _
  have HL := Lib.hid hL
  have y1 := (hz1.later HEXT (Nat.le_refl _))
  have y2 := (hz2.later HEXT (Nat.le_refl _))
  clear hL hz1 hz2
  go_enter Tryz.func86, Tryz.ntmps86
  go_wp2_with fail
  rw [← HL.out]
  obtain ⟨⟨hA0, hA1, hA2, hA3⟩, _, _, _, _⟩ := B0.cells
  have hk0 : w.heap.size < L.heap.size := by omega
  have hk2 : w.heap.size + 1 < L.heap.size := by omega
  have HLN := Lib.hid hla
  clear hla
  go_cut [] (fun wx => QBox w.heap.size w (w.heap.size + 1) (-a) wx)
  case first =>
    go_region_law (first
      | (go_simp; go_at_call 97; refine zneg_any _ a.num _ y1.drew ?_ _ ?_; exact Nat.le_trans HLN.out (by omega); intro v1 w1 hv1 hb1; obtain ⟨bn, b1, m1, d1, rfl, hv2⟩ := hv1.openB; have e0 := B0.later (below_ofDrew hb1) hk0; have e2 := B2.later (below_ofDrew hb1) hk2; obtain ⟨⟨hC0, hC1, hC2, hC3⟩, _, _, _, _⟩ := e0.cells; obtain ⟨⟨hR0, hR1, hR2, hR3⟩, hR4, hR5, hR6, hR7⟩ := e2.cells; dsimp only))
    all_goals (go_wp2_with fail; go_meet; exact neg_end w L w1 w.heap.size a bn b1 m1 d1 a2 n2 c2 e2 hv2 y2 HEXT hb1 (by omega))
  case rest =>
    clear hA0 hA1 hA2 hA3
    obtain ⟨b1, x1, x2, hbx, he, ht1, ht2, hbl⟩ := hcut
    obtain ⟨⟨hR0, hR1, hR2, hR3⟩, _, _, _, _⟩ := hbx.cells
    go_wp2
    refine bodyPost_ret_at (by simp [results, Tryz.results86, go_sem, hR0, hR1, hR2, hR3] <;> rfl) rfl ?_
    exact HR.out _ _ ⟨x1, x2, by rw [he], ht1, ht2⟩ hbl
end Go.Proofs.YtbglfendcpbjpaaGreatDoor

namespace Go.Proofs.YtbglfendcpbjpaaGreatDoor
open Go Go.RowKit

theorem int_q (z : Int) : ((z : Rat)).num = z ∧ ((z : Rat)).den = 1 := ⟨rfl, rfl⟩

theorem floor_end (w L wC : World) (g : Nat) (z : Int) (bn : Bool) (a1 : Option Addr) (n1 c1 : Nat) (a2 : Option Addr) (n2 c2 : Nat)
    (d2 : Box4 wC (g + 1) (.bool false) (.slice none 0 0) (.bool false) (.slice none 0 0) 41)
    (hz : IsZ L (.agg #[.bool bn, .slice a1 n1 c1]) z) (hd : Sl .i64 wC (.slice a2 n2 c2) (dig 10000 1)) (hb : Below g w L) (hbC : Below L.drew.heap.size L.drew wC) (hgW : g ≤ L.heap.size) :
    QBox g w (g + 1) (z : Rat) ((((wC.setCell ⟨g + 1, 0, none⟩ (.bool bn)).setCell ⟨g + 1, 1, none⟩ (.slice a1 n1 c1)).setCell ⟨g + 1, 2, none⟩ (.bool false)).setCell ⟨g + 1, 3, none⟩ (.slice a2 n2 c2)) := by
  have hn := d2.noInt rfl rfl rfl rfl
  obtain ⟨s1, e1, h1⟩ := hz.drew.later hbC (Nat.le_refl _)
  simp at e1
  obtain ⟨e1, rfl⟩ := e1
  refine ⟨_, _, _, d2.set4 _ _ _ _, ?_, ?_, ?_, ((((hb.trans ((below_ofDrew hbC).mono hgW)).setCell (by simp <;> omega) _).setCell (by simp <;> omega) _).setCell (by simp <;> omega) _).setCell (by simp <;> omega) _⟩
  · rw [e1]; exact decide_eq_decide.2 Iff.rfl
  · exact h1.set4 hn _ _ _ _ rfl rfl rfl
  · exact hd.set4 hn _ _ _ _ rfl rfl rfl


theorem floor_pos (n : Int) (d : Nat) (h : ¬ n < 0) : ((n.natAbs / d : Nat) : Int) = n / (d : Int) := by
  obtain ⟨k, rfl⟩ := Int.eq_ofNat_of_zero_le (by omega : 0 ≤ n)
  simp
theorem floor_neg0 (n : Int) (d : Nat) (h : n < 0) (hd : 0 < d) (hm : n.natAbs % d = 0) : -((n.natAbs / d : Nat) : Int) = n / (d : Int) := by
  obtain ⟨k, rfl⟩ : ∃ k : Nat, n = -(k : Int) := ⟨n.natAbs, by omega⟩
  rw [Int.natAbs_neg, Int.natAbs_natCast] at *
  obtain ⟨j, rfl⟩ := Nat.dvd_of_mod_eq_zero hm
  rw [Nat.mul_div_cancel_left _ hd, Int.natCast_mul, ← Int.mul_neg, Int.mul_ediv_cancel_left _ (by omega)]
theorem floor_neg1 (n : Int) (d : Nat) (h : n < 0) (hd : 0 < d) (hm : n.natAbs % d ≠ 0) : -((n.natAbs / d : Nat) : Int) + -1 = n / (d : Int) := by
  obtain ⟨k, rfl⟩ : ∃ k : Nat, n = -(k : Int) := ⟨n.natAbs, by omega⟩
  rw [Int.natAbs_neg, Int.natAbs_natCast] at *
  have h1 := Nat.div_add_mod k d
  have h2 := Nat.mod_lt k hd
  symm
  apply (Int.ediv_eq_iff_of_pos (by omega)).2
  have h3 : (k : Int) = (d : Int) * ((k / d : Nat) : Int) + ((k % d : Nat) : Int) := by rw [← Int.natCast_mul, ← Int.natCast_add, h1]
  constructor
  · rw [Int.mul_comm, Int.mul_add, Int.mul_neg]; omega
  · rw [Int.add_mul, Int.neg_mul, Int.mul_comm _ (d : Int)]; omega

set_option maxRecDepth 100000 in
set_option maxHeartbeats 1000000 in
theorem floorQ_any (va : Value) (a : Rat) (w : World) (ha : IsQ w va a) (hla : (dig 10000 a.num.natAbs).length ≤ 1000000) (hld : (dig 10000 a.den).length ≤ 1000000)
    (R : Ending → World → Prop) (hR : ∀ v w', IsQ w' v ((a.num / (a.den : Int) : Int) : Rat) → Below w.heap.size w w' → R (.returned v) w') :
    Calls Tryz.prog 52 #[va] w R := by
  have HR := Lib.hid hR; clear hR
  obtain ⟨na, a1, n1, c1, a2, n2, c2, rfl, hz1, hz2⟩ := ha.parts
  have hna : na = decide (a.num < 0) := by obtain ⟨s, h, _⟩ := hz1; simp at h; exact h.1
  have HNA := Lib.hid hna
  clear ha hna
  obtain ⟨L, hL⟩ : ∃ L, L = (w.alloc (.cells #[.bool na, .slice a1 n1 c1, .bool false, .slice a2 n2 c2] 41)).alloc (.cells #[.bool false, .slice none 0 0, .bool false, .slice none 0 0] 41) := ⟨_, rfl⟩
  have hLs : L.heap.size = w.heap.size + 2 := by rw [hL]; simp
  have B0 : Box4 L w.heap.size (.bool na) (.slice a1 n1 c1) (.bool false) (.slice a2 n2 c2) 41 := by
    rw [hL]; exact (Box4.made w _ _ _ _ _).later (B := w.heap.size + 1) ((Below.refl _ _).alloc (by simp) _) (by omega)
  have B2 : Box4 L (w.heap.size + 1) (.bool false) (.slice none 0 0) (.bool false) (.slice none 0 0) 41 := by
    rw [hL]; have := Box4.made (w.alloc (.cells #[.bool na, .slice a1 n1 c1, .bool false, .slice a2 n2 c2] 41)) (.bool false) (.slice none 0 0) (.bool false) (.slice none 0 0) 41; simpa using this
  have HEXT : Below w.heap.size w L := by rw [hL]; exact ((Below.refl w.heap.size w).alloc (Nat.le_refl _) _).alloc (by simp) _
  have HL := Lib.hid hL
  have y1 := (hz1.later HEXT (Nat.le_refl _))
  have y2 := (hz2.later HEXT (Nat.le_refl _))
  clear hL hz1 hz2
  have HD0 := Lib.hid a.den_pos
  obtain ⟨⟨hA0, hA1, hA2, hA3⟩, _, _, _, _⟩ := B0.cells
  go_enter Tryz.func52, Tryz.ntmps52
  go_wp2_with fail
  rw [← HL.out]
  refine zdiv_any _ _ a.num (a.den : Int) L y1 y2 hla (by rw [Int.natAbs_natCast]; exact hld) (by have := HD0.out; omega) _ ?_
  intro v1 v2 w1 hz1 hz2 hb1
  rw [Int.natAbs_natCast] at hz1 hz2
  obtain ⟨q, hq⟩ : ∃ q, q = a.num.natAbs / a.den := ⟨_, rfl⟩
  obtain ⟨r, hr⟩ : ∃ r, r = a.num.natAbs % a.den := ⟨_, rfl⟩
  rw [← hq] at hz1
  rw [← hr] at hz2
  have HQ := Lib.hid hq
  have HRR := Lib.hid hr
  have hql := div_len a.num.natAbs a.den 1000000 hla
  rw [← hq] at hql
  have HQL := Lib.hid hql
  obtain ⟨a3, n3, c3, rfl, hn3, _⟩ := hz1.nat
  obtain ⟨a4, n4, c4, rfl, hn4, _⟩ := hz2.nat
  have Hn3 := Lib.hid hn3
  have Hn4 := Lib.hid hn4
  have b0 := B0.later hb1 (by omega)
  have b2 := B2.later hb1 (by omega)
  have hbz1 := HEXT.trans (hb1.mono (by omega))
  have hsz1 := hb1.size
  clear hq hr hql B0 B2 HEXT hb1 y1 y2 hA0 hA1 hA2 hA3 hz2 hn3 hn4
  obtain ⟨⟨hA0, hA1, hA2, hA3⟩, _, _, _, _⟩ := b0.cells
  have hl0 : w.heap.size < w1.heap.size := by omega
  obtain ⟨W, hW⟩ : ∃ W, W = (w1.alloc (.cells #[.bool false, .slice a3 n3 c3] 39)).alloc (.cells #[.bool false, .slice a4 n4 c4] 39) := ⟨_, rfl⟩
  have hWs : W.heap.size = w1.heap.size + 2 := by rw [hW]; simp
  have d2 : Box4 W (w.heap.size + 1) (.bool false) (.slice none 0 0) (.bool false) (.slice none 0 0) 41 := by
    rw [hW]; exact (b2.later ((Below.refl w1.heap.size w1).alloc (Nat.le_refl _) _) (by omega)).later (B := w1.heap.size + 1) ((Below.refl _ _).alloc (by simp) _) (by omega)
  have d3 : Box2 W w1.heap.size (.bool false) (.slice a3 n3 c3) 39 := by rw [hW]; exact (Box2.made _ _ _ _).alloc _
  have d4 : Box2 W (w1.heap.size + 1) (.bool false) (.slice a4 n4 c4) 39 := by rw [hW]; have := Box2.made (w1.alloc (.cells #[.bool false, .slice a3 n3 c3] 39)) (.bool false) (.slice a4 n4 c4) 39; simpa using this
  have hzW : IsZ W (.agg #[.bool false, .slice a3 n3 c3]) (q : Int) := by rw [hW]; exact (hz1.later ((Below.refl w1.heap.size w1).alloc (Nat.le_refl _) _) (Nat.le_refl _)).later (B := w1.heap.size + 1) ((Below.refl _ _).alloc (by simp) _) (by simp)
  have hbW : Below w.heap.size w W := by rw [hW]; exact (hbz1.alloc (by omega) _).alloc (by simp; omega) _
  have HW := Lib.hid hW
  clear hW b2 hz1 hbz1
  by_cases hneg : a.num < 0
  · have hnf : na = true := by rw [HNA.out]; exact decide_eq_true hneg
    subst hnf
    have HNEG := Lib.hid hneg
    clear hneg
    obtain ⟨hT0, hT1, _, _⟩ := d3.cells
    have e0 : Box4 W w.heap.size (.bool true) (.slice a1 n1 c1) (.bool false) (.slice a2 n2 c2) 41 := by
      rw [HW.out]; exact (b0.later ((Below.refl w1.heap.size w1).alloc (Nat.le_refl _) _) hl0).later (B := w1.heap.size + 1) ((Below.refl _ _).alloc (by simp) _) (by omega)
    go_wp2_with fail
    rw [← HW.out]
    refine zneg_any _ (q : Int) W hzW (by rw [Int.natAbs_natCast]; exact Nat.le_trans HQL.out (by omega)) _ ?_
    intro v5 w2 hz5 hb2
    obtain ⟨bn, a5, n5, c5, rfl, hz6⟩ := hz5.openB
    have f2 := d2.later hb2 (by omega)
    have f3 := d3.later hb2 (by omega)
    have f4 := d4.later hb2 (by omega)
    have hbz2 := hbW.trans (hb2.mono (by omega))
    have hsz2 := hb2.size
    clear hz5 hb2 d2 d3 d4 hbW hzW hT0 hT1 hA0 hA1 hA2 hA3 b0 e0
    obtain ⟨hT0, hT1, hT2, hT3⟩ := f3.cells
    obtain ⟨hP0, hP1, _, _⟩ := f4.cells
    have hn3 := f3.noInt rfl rfl
    obtain ⟨V, hV⟩ : ∃ V, V = (w2.setCell ⟨w1.heap.size, 0, none⟩ (.bool bn)).setCell ⟨w1.heap.size, 1, none⟩ (.slice a5 n5 c5) := ⟨_, rfl⟩
    have hVs : V.heap.size = w2.heap.size := by rw [hV]; simp
    have g3 : Box2 V w1.heap.size (.bool bn) (.slice a5 n5 c5) 39 := by rw [hV]; exact f3.set01 _ _
    have g4 : Box2 V (w1.heap.size + 1) (.bool false) (.slice a4 n4 c4) 39 := by rw [hV]; exact f4.noSet (by omega) _ _
    have g2 : Box4 V (w.heap.size + 1) (.bool false) (.slice none 0 0) (.bool false) (.slice none 0 0) 41 := by rw [hV]; exact f2.noSet2 (by omega) _ _
    have hzV : IsZ V (.agg #[.bool bn, .slice a5 n5 c5]) (-(q : Int)) := by rw [hV]; exact hz6.noSet hn3 _ _ rfl
    have hbV : Below w.heap.size w V := by rw [hV]; exact (hbz2.setCell (by simp <;> omega) _).setCell (by simp <;> omega) _
    have HV := Lib.hid hV
    clear hV f2 f3 f4 hz6 hn3 hbz2
    by_cases hr0 : r = 0
    · have hz : -(q : Int) = a.num / (a.den : Int) := by rw [HQ.out]; exact floor_neg0 _ _ HNEG.out HD0.out (by rw [← HRR.out]; exact hr0)
      rw [hz] at hzV
      have hn40 : n4 = 0 := by rw [Hn4.out, hr0, dig_zero]; rfl
      subst hn40
      clear hz hr0
      go_wp2_with fail
      rw [← HV.out]
      clear hT0 hT1 hT2 hT3 hP0 hP1
      obtain ⟨hT0, hT1, _, _⟩ := g3.cells
      have hkt : w1.heap.size < V.heap.size := lt_of_block g3
      have hk2 : w.heap.size + 1 < V.heap.size := by omega
      go_cut [] (fun wx => QBox w.heap.size w (w.heap.size + 1) ((a.num / (a.den : Int) : Int) : Rat) wx)
      case first =>
        go_region_law (first
          | (go_simp; go_at_call 61; refine zof_any 1 _ (by omega) (by omega) _ ?_; intro v9 w9 hv9 hb9; obtain ⟨a9, n9, c9, rfl, rfl, hs9⟩ := IsZ.nat (m := 1) hv9; have e3 := g3.later (below_ofDrew hb9) hkt; have e2 := g2.later (below_ofDrew hb9) hk2; obtain ⟨hU0, hU1, _, _⟩ := e3.cells; obtain ⟨⟨hR0, hR1, hR2, hR3⟩, hR4, hR5, hR6, hR7⟩ := e2.cells; dsimp only))
        all_goals (go_wp2_with fail; go_meet; exact floor_end w V w9 w.heap.size _ _ a5 n5 c5 a9 _ c9 e2 hzV hs9 hbV hb9 (by omega))
      case rest =>
        clear hT0 hT1
        obtain ⟨b1, x1, x2, hbx, he, ht1, ht2, hbl⟩ := hcut
        obtain ⟨⟨hR0, hR1, hR2, hR3⟩, _, _, _, _⟩ := hbx.cells
        go_wp2
        refine bodyPost_ret_at (by simp [results, Tryz.results52, go_sem, hR0, hR1, hR2, hR3] <;> rfl) rfl ?_
        exact HR.out _ _ ⟨x1, x2, by rw [he], ht1, ht2⟩ hbl
    · have hnp : (0 : Int) < (n4 : Int) := by
        have h1 := Hn4.out
        rw [dig_pos (B := 10000) (n := r) (by omega) (by omega)] at h1
        simp at h1; omega
      have hfl : -(q : Int) + -1 = a.num / (a.den : Int) := by rw [HQ.out]; exact floor_neg1 _ _ HNEG.out HD0.out (by rw [← HRR.out]; exact hr0)
      have HFL := Lib.hid hfl
      have hlV : w1.heap.size < V.heap.size := lt_of_block g3
      clear hfl hr0
      go_wp2_with fail
      rw [← HV.out]
      clear hT0 hT1 hT2 hT3 hP0 hP1 hnp
      obtain ⟨hT0, hT1, _, _⟩ := g3.cells
      go_region_law (first
        | (have hguard := hbz; go_simp; go_at_call 77; refine zadd_any _ _ (-(q : Int)) (-1) _ (hzV.drew.later hbz (Nat.le_refl _)) hvz (by rw [Int.natAbs_neg, Int.natAbs_natCast]; exact Nat.le_trans HQL.out (by omega)) (Nat.le_trans (@dig_length_ten 10000 (by omega) 1 4 (by omega)) (by omega)) _ ?_; intro vf wf hzf hbf; rw [HFL.out] at hzf; obtain ⟨bf, af, nf, cf, rfl, hzf'⟩ := hzf.openB; have hq2 : Below V.heap.size V wf := (below_ofDrew hbz).trans (hbf.mono hbz.size); have k3 := g3.later hq2 hlV; obtain ⟨hX0, hX1, hX2, hX3⟩ := k3.cells; clear hguard hzf; dsimp only)
        | (go_simp; go_at_call 61; refine zof_any (-1) _ (by omega) (by omega) _ ?_; intro vz wz hvz hbz; have m3 := g3.later (below_ofDrew hbz) hlV; obtain ⟨hY0, hY1, _, _⟩ := m3.cells; dsimp only))
      all_goals
        have hn5 := k3.noInt rfl rfl
        have p2 := (g2.later hq2 (by omega)).noSet2 (b := w1.heap.size) (by omega) (.bool bf) (.slice af nf cf)
        have p3 := k3.set01 (.bool bf) (.slice af nf cf)
        have pz := hzf'.noSet hn5 (.bool bf) (.slice af nf cf) rfl
        have pb : Below w.heap.size w ((wf.setCell ⟨w1.heap.size, 0, none⟩ (.bool bf)).setCell ⟨w1.heap.size, 1, none⟩ (.slice af nf cf)) := ((hbV.trans (hq2.mono (by omega))).setCell (by simp <;> omega) _).setCell (by simp <;> omega) _
        have hfs : w.heap.size + 2 < wf.heap.size := by have := hq2.size; omega
        clear g2 g3 g4 hzV hbV hT0 hT1 hY0 hY1 hX0 hX1 hX2 hX3
        obtain ⟨V2, hV2⟩ : ∃ V2, V2 = (wf.setCell ⟨w1.heap.size, 0, none⟩ (.bool bf)).setCell ⟨w1.heap.size, 1, none⟩ (.slice af nf cf) := ⟨_, rfl⟩
        rw [← hV2] at p2 p3 pz pb
        have hV2s : V2.heap.size = wf.heap.size := by rw [hV2]; simp
        have HV2 := Lib.hid hV2
        clear hV2
        go_wp2_with fail
        rw [← HV2.out]
        obtain ⟨hT0, hT1, _, _⟩ := p3.cells
        have hkt : w1.heap.size < V2.heap.size := lt_of_block p3
        have hk2 : w.heap.size + 1 < V2.heap.size := by omega
        go_cut [] (fun wx => QBox w.heap.size w (w.heap.size + 1) ((a.num / (a.den : Int) : Int) : Rat) wx)
        case first =>
          go_region_law (first
            | (go_simp; go_at_call 61; refine zof_any 1 _ (by omega) (by omega) _ ?_; intro v9 w9 hv9 hb9; obtain ⟨a9, n9, c9, rfl, rfl, hs9⟩ := IsZ.nat (m := 1) hv9; have e3 := p3.later (below_ofDrew hb9) hkt; have e2 := p2.later (below_ofDrew hb9) hk2; obtain ⟨hU0, hU1, _, _⟩ := e3.cells; obtain ⟨⟨hR0, hR1, hR2, hR3⟩, hR4, hR5, hR6, hR7⟩ := e2.cells; dsimp only))
          all_goals (go_wp2_with fail; go_meet; exact floor_end w V2 w9 w.heap.size _ _ af nf cf a9 _ c9 e2 pz hs9 pb hb9 (by omega))
        case rest =>
          clear hT0 hT1
          obtain ⟨b1, x1, x2, hbx, he, ht1, ht2, hbl⟩ := hcut
          obtain ⟨⟨hR0, hR1, hR2, hR3⟩, _, _, _, _⟩ := hbx.cells
          go_wp2
          refine bodyPost_ret_at (by simp [results, Tryz.results52, go_sem, hR0, hR1, hR2, hR3] <;> rfl) rfl ?_
          exact HR.out _ _ ⟨x1, x2, by rw [he], ht1, ht2⟩ hbl
  · have hnf : na = false := by rw [HNA.out]; exact decide_eq_false hneg
    subst hnf
    have hz : (q : Int) = a.num / (a.den : Int) := by rw [HQ.out]; exact floor_pos _ _ hneg
    rw [hz] at hzW
    clear hz hneg
    go_wp2_with fail
    rw [← HW.out]
    clear hA0 hA1 hA2 hA3 b0
    obtain ⟨hT0, hT1, _, _⟩ := d3.cells
    have hkt : w1.heap.size < W.heap.size := lt_of_block d3
    have hk2 : w.heap.size + 1 < W.heap.size := by omega
    go_cut [] (fun wx => QBox w.heap.size w (w.heap.size + 1) ((a.num / (a.den : Int) : Int) : Rat) wx)
    case first =>
      go_region_law (first
        | (go_simp; go_at_call 61; refine zof_any 1 _ (by omega) (by omega) _ ?_; intro v9 w9 hv9 hb9; obtain ⟨a9, n9, c9, rfl, rfl, hs9⟩ := IsZ.nat (m := 1) hv9; have e3 := d3.later (below_ofDrew hb9) hkt; have e2 := d2.later (below_ofDrew hb9) hk2; obtain ⟨hU0, hU1, _, _⟩ := e3.cells; obtain ⟨⟨hR0, hR1, hR2, hR3⟩, hR4, hR5, hR6, hR7⟩ := e2.cells; dsimp only))
      all_goals (go_wp2_with fail; go_meet; exact floor_end w W w9 w.heap.size _ _ a3 n3 c3 a9 _ c9 e2 hzW hs9 hbW hb9 (by omega))
    case rest =>
      clear hT0 hT1
      obtain ⟨b1, x1, x2, hbx, he, ht1, ht2, hbl⟩ := hcut
      obtain ⟨⟨hR0, hR1, hR2, hR3⟩, _, _, _, _⟩ := hbx.cells
      go_wp2
      refine bodyPost_ret_at (by simp [results, Tryz.results52, go_sem, hR0, hR1, hR2, hR3] <;> rfl) rfl ?_
      exact HR.out _ _ ⟨x1, x2, by rw [he], ht1, ht2⟩ hbl
end Go.Proofs.YtbglfendcpbjpaaGreatDoor

namespace Go.Proofs.YtbglfendcpbjpaaGreatDoor
open Go Go.RowKit

/-- the floor of the number that a text is -/
noncomputable def floO (s : List UInt8) : Option Rat := match numO s with
  | some a => some ((a.num / (a.den : Int) : Int) : Rat)
  | none => none
theorem floO_some {s : List UInt8} {a : Rat} (ha : numO s = some a) : floO s = some ((a.num / (a.den : Int) : Int) : Rat) := by unfold floO; rw [ha]
theorem floO_none {s : List UInt8} (h : numO s = none) : floO s = none := by unfold floO; rw [h]

set_option maxRecDepth 100000 in
set_option maxHeartbeats 2000000 in
theorem impl_floorOf (s : ByteArray) (w : World) (hE : Env w) (htab : Lib.TabIs Tryz.prog w "internal/strconv.uint64pow10" .u64 Lib.pow10Tab) (R : Ending → World → Prop)
    (hR : ∀ w', Below w.heap.size w w' → R (.returned (.tuple #[.string (outS (floO s.data.toList)), .bool (outB (floO s.data.toList))])) w') :
    Calls Tryz.prog 22 #[.string s] w R := by
  have HR := Lib.hid hR; clear hR
  have HE := Lib.hid hE; clear hE
  have HTAB := Lib.hid htab; clear htab
  go_enter Tryz.func22, Tryz.ntmps22
  go_wp2_with fail
  refine readq_any s _ HE.out _ ?_ ?_
  · intro va a w1 ha hva hb1
    rw [floO_some ha] at HR
    obtain ⟨na, a1, n1, c1, a2, n2, c2, hna, rfl, hn1, hn2⟩ := hva.parts
    obtain ⟨L, hL⟩ : ∃ L, L = w1.alloc (.cells #[.bool na, .slice a1 n1 c1, .slice a2 n2 c2] 52) := ⟨_, rfl⟩
    have B0 : Box3 L w1.heap.size (.bool na) (.slice a1 n1 c1) (.slice a2 n2 c2) 52 := by rw [hL]; exact Box3.made w1 _ _ _ _
    have hw1 : Below w1.heap.size w1 L := by rw [hL]; exact (Below.refl w1.heap.size w1).alloc (Nat.le_refl _) _
    have HL := Lib.hid hL
    have HA := Lib.hid (hva.later hw1 (Nat.le_refl _))
    have HEX := Lib.hid (hb1.trans (hw1.mono hb1.size))
    have HLA := Lib.hid (few_len (numO_few ha) (B := W64) (by rw [W64_eq]; omega))
    obtain ⟨⟨hA, hB, hC⟩, _, _, _⟩ := B0.cells
    rw [hL] at hA hB hC
    clear ha hva hb1 hna hn1 hn2 hL B0 hw1
    dsimp only
    go_wp2_with fail
    rw [← HL.out]
    refine rfloor_any _ a _ HA.out (Nat.le_trans HLA.out.1 (by omega)) (Nat.le_trans HLA.out.2 (by omega)) _ ?_
    intro vi w2 hi hb2
    obtain ⟨z, hz⟩ : ∃ z : Int, z = a.num / (a.den : Int) := ⟨_, rfl⟩
    rw [← hz] at HR hi
    obtain ⟨m2, a3, n3, c3, hm2, rfl, hn3⟩ := hi.parts
    have HI := Lib.hid (IsI.mk hm2 hn3)
    have HB2 := Lib.hid (HEX.out.trans (hb2.mono HEX.out.size))
    clear hi hb2 hm2 hn3 hz hA hB hC
    dsimp only
    go_wp2_with fail
    refine ratioOf_any _ z _ HI.out _ ?_
    intro vr w3 hr hb3
    obtain ⟨q, hq⟩ : ∃ q : Rat, q = (z : Rat) := ⟨_, rfl⟩
    rw [← hq] at HR hr
    obtain ⟨nr, a5, n5, c5, a6, n6, c6, hnr, rfl, _, _⟩ := hr.parts
    have HR3 := Lib.hid hr
    have HB3 := Lib.hid (HB2.out.trans (hb3.mono HB2.out.size))
    clear hr hb3 hnr hq
    dsimp only
    go_wp2_with fail
    refine rtext_o _ q _ HR3.out (tab_later HTAB.out HB3.out (Nat.le_refl _)) _ ?_
    intro w9 hb9
    have HB9 := Lib.hid (HB3.out.trans (hb9.mono HB3.out.size))
    obtain ⟨S, hS⟩ : ∃ S, S = outS (some q) := ⟨_, rfl⟩
    obtain ⟨B, hB⟩ : ∃ B, B = outB (some q) := ⟨_, rfl⟩
    rw [← hS, ← hB] at HR ⊢
    clear hS hB hb9
    dsimp only
    go_wp2
    first | go_ret | skip
    exact HR.out _ HB9.out
  · intro e w1 hn he hb1
    rw [floO_none hn] at HR
    obtain ⟨t', p, rfl⟩ := he
    have HB := Lib.hid hb1
    clear hb1 hn
    unfold zeroR
    dsimp only
    go_wp2
    first | go_ret | skip
    exact HR.out _ (HB.out.alloc HB.out.size _)

set_option maxRecDepth 100000 in
set_option maxHeartbeats 2000000 in
theorem spec_floorOf (s : ByteArray) (w : World) (hs : s.size ≤ 1100000) (R : Ending → World → Prop)
    (hR : ∀ w', Below w.heap.size w w' → R (.returned (.tuple #[.string (outS (floO s.data.toList)), .bool (outB (floO s.data.toList))])) w') :
    Calls Tryz.prog 21 #[.string s] w R := by
  have HR := Lib.hid hR; clear hR
  have HS := Lib.hid hs
  clear hs
  go_enter Tryz.func21, Tryz.ntmps21
  go_wp2_with fail
  refine isq_any s _ HS.out _ ?_
  intro w1 hb1
  have HB1 := Lib.hid hb1
  clear hb1
  cases ha : numO s.data.toList with
  | none =>
    rw [floO_none ha] at HR
    rw [Option.isSome_none]
    clear ha
    dsimp only
    go_wp2
    first | go_ret | skip
    exact HR.out _ HB1.out
  | some a =>
    have HA := Lib.hid ha
    rw [floO_some ha] at HR
    rw [Option.isSome_some]
    have HLA := Lib.hid (few_len (numO_few ha) (B := 10000) (by omega))
    clear ha
    dsimp only
    go_wp2_with fail
    refine ofq_any s a _ HA.out _ ?_
    intro va w3 hqa hb3
    obtain ⟨na, a1, n1, c1, a2, n2, c2, rfl, _, _⟩ := hqa.parts
    have HQA := Lib.hid hqa
    have HB3 := Lib.hid (HB1.out.trans (hb3.mono HB1.out.size))
    clear hqa hb3
    dsimp only
    go_wp2_with fail
    refine floorQ_any _ a _ HQA.out (Nat.le_trans HLA.out.1 (by omega)) (Nat.le_trans HLA.out.2 (by omega)) _ ?_
    intro vr w5 hr hb5
    have HLZ : Hid ((dig 10000 (a.num / (a.den : Int)).natAbs).length ≤ 60) := Lib.hid (Nat.le_trans (dig_mono (by omega) (Int.natAbs_ediv_le_natAbs _ _)) HLA.out.1)
    obtain ⟨z, hz⟩ : ∃ z : Int, z = a.num / (a.den : Int) := ⟨_, rfl⟩
    rw [← hz] at HR hr HLZ
    have HLQ : Hid ((dig 10000 (z : Rat).num.natAbs).length ≤ 1000000000 ∧ (dig 10000 (z : Rat).den).length ≤ 1000000000) := Lib.hid (by
      rw [Rat.num_intCast, Rat.den_intCast]
      refine ⟨by have := HLZ.out; omega, ?_⟩
      have : (dig 10000 1).length ≤ 1 := dig_length_le (by omega) 1 1 (by omega)
      omega)
    obtain ⟨q, hq⟩ : ∃ q : Rat, q = (z : Rat) := ⟨_, rfl⟩
    rw [← hq] at HR hr HLQ
    obtain ⟨nr, a5, n5, c5, a6, n6, c6, rfl, _, _⟩ := hr.parts
    have HQR := Lib.hid hr
    have HB5 := Lib.hid (HB3.out.trans (hb5.mono HB3.out.size))
    clear hr hb5 hq hz
    dsimp only
    go_wp2_with fail
    refine give_o _ q _ HQR.out HLQ.out.1 HLQ.out.2 _ ?_
    intro w9 hb9
    have HB9 := Lib.hid (HB5.out.trans (hb9.mono HB5.out.size))
    obtain ⟨S, hS⟩ : ∃ S, S = outS (some q) := ⟨_, rfl⟩
    obtain ⟨B, hB⟩ : ∃ B, B = outB (some q) := ⟨_, rfl⟩
    rw [← hS, ← hB] at HR ⊢
    clear hS hB hb9
    dsimp only
    go_wp2
    first | go_ret | skip
    exact HR.out _ HB9.out

set_option maxRecDepth 100000 in
set_option maxHeartbeats 1000000 in
theorem law_floorOf (s : ByteArray) (w : World) (hE : Env w) (htab : Lib.TabIs Tryz.prog w "internal/strconv.uint64pow10" .u64 Lib.pow10Tab) (R : Ending → World → Prop)
    (hR : ∀ w', Below w.heap.size w w' → R (.returned (.bool true)) w') :
    Calls Tryz.prog 7 #[.string s] w R := by
  have HR := Lib.hid hR; clear hR
  have HE := Lib.hid hE; clear hE
  have HTAB := Lib.hid htab; clear htab
  by_cases hs : s.size ≤ 1048576
  · have hsi : ¬ (1048576 : Int) < (s.size : Int) := by omega
    have HS := Lib.hid hs
    clear hs
    go_enter Tryz.func7, Tryz.ntmps7
    go_wp2_with fail
    refine spec_floorOf s _ (by have := HS.out; omega) _ ?_
    intro w1 hb1
    have HB1 := Lib.hid hb1
    obtain ⟨S, hS⟩ : ∃ S, S = outS (floO s.data.toList) := ⟨_, rfl⟩
    obtain ⟨B, hB⟩ : ∃ B, B = outB (floO s.data.toList) := ⟨_, rfl⟩
    rw [← hS, ← hB]
    have HSS := Lib.hid hS
    have HBB := Lib.hid hB
    clear hb1 hS hB
    dsimp only
    go_wp2_with fail
    refine impl_floorOf s _ (HE.out.later HB1.out (Nat.le_refl _)) (tab_later HTAB.out HB1.out (Nat.le_refl _)) _ ?_
    intro w2 hb2
    rw [← HSS.out, ← HBB.out]
    have HB2 := Lib.hid (HB1.out.trans (hb2.mono HB1.out.size))
    clear hb2
    dsimp only
    cases B <;>
    · go_wp2
      first | go_ret | skip
      exact HR.out _ HB2.out
  · have hsi : (1048576 : Int) < (s.size : Int) := by omega
    clear hs
    go_enter Tryz.func7, Tryz.ntmps7
    go_wp2
    first | go_ret | skip
    exact HR.out _ (Below.refl _ _)
end Go.Proofs.YtbglfendcpbjpaaGreatDoor
