/- Contracts of functions of the program and of the model: InvQ, NumLen, ZeroQ, DivQ, LawDiv. -/
import Derived.Test.YtbglfendcpbjpaaGreatDoorPm8
set_option linter.all false
set_option linter.unusedVariables false
set_option linter.unusedSimpArgs false
set_option linter.unnecessarySimpa false
set_option linter.deprecated false
namespace Go.Proofs.YtbglfendcpbjpaaGreatDoor
open Go Go.RowKit

theorem inv_parts (a : Rat) (h : a ≠ 0) : (a⁻¹).num = sgn (decide (a.num < 0)) a.den ∧ (a⁻¹).den = a.num.natAbs := by
  have h0 : a.num ≠ 0 := fun e => h (Rat.num_eq_zero.1 e)
  show (Rat.inv a).num = _ ∧ (Rat.inv a).den = _
  unfold Rat.inv
  by_cases h1 : a.num < 0
  · rw [dif_pos h1, decide_eq_true h1]
    exact ⟨rfl, rfl⟩
  · have h2 : a.num > 0 := by omega
    rw [dif_neg h1, dif_pos h2, decide_eq_false h1]
    exact ⟨rfl, rfl⟩

set_option maxRecDepth 100000 in
set_option maxHeartbeats 4000000 in
theorem rinv_any (v : Value) (a : Rat) (w : World) (h : IsR w v a) (h0 : a ≠ 0) (R : Ending → World → Prop)
    (hR : ∀ v' w', IsR w' v' a⁻¹ → Below w.heap.size w w' → R (.returned v') w') :
    Calls Tryz.prog 90 #[v] w R := by
  have HR := Lib.hid hR; clear hR
  obtain ⟨na, a1, n1, c1, a2, n2, c2, hna, rfl, hn1, hn2⟩ := h.parts
  obtain ⟨L, hL⟩ : ∃ L, L = (w.alloc (.cells #[.bool na, .slice a1 n1 c1, .slice a2 n2 c2] 52)).alloc (.cells #[.bool false, .slice none 0 0, .slice none 0 0] 52) := ⟨_, rfl⟩
  have HEXT : Hid (Below w.heap.size w L) := Lib.hid (by rw [hL]; exact ((Below.refl w.heap.size w).alloc (Nat.le_refl _) _).alloc (by simp) _)
  have hLs : L.heap.size = w.heap.size + 2 := by rw [hL]; simp
  have hb1 : Below (w.heap.size + 1) (w.alloc (.cells #[.bool na, .slice a1 n1 c1, .slice a2 n2 c2] 52)) L := by rw [hL]; exact (Below.refl _ _).alloc (by simp) _
  have B0 : Box3 L w.heap.size (.bool na) (.slice a1 n1 c1) (.slice a2 n2 c2) 52 := (Box3.made w _ _ _ _).later hb1 (by omega)
  have B2 : Box3 L (w.heap.size + 1) (.bool false) (.slice none 0 0) (.slice none 0 0) 52 := by
    have := Box3.made (w.alloc (.cells #[.bool na, .slice a1 n1 c1, .slice a2 n2 c2] 52)) (.bool false) (.slice none 0 0) (.slice none 0 0) 52
    rw [World.size_alloc, ← hL] at this; exact this
  have HL := Lib.hid hL
  have HLS := Lib.hid hLs
  have HB2 := Lib.hid B2
  have HNA := Lib.hid hna
  have X1 := Lib.hid (hn1.later HEXT.out (Nat.le_refl _))
  have X2 := Lib.hid (hn2.later HEXT.out (Nat.le_refl _))
  have HIV := Lib.hid (inv_parts a h0)
  have HSOF : Hid (∀ w', Below (w.heap.size + 1) L w' → (Below (w.heap.size + 1) L w' ∧ (w'.cell? ⟨w.heap.size, 0, none⟩ = some (.bool na) ∧ w'.cell? ⟨w.heap.size, 1, none⟩ = some (.slice a1 n1 c1) ∧ w'.cell? ⟨w.heap.size, 2, none⟩ = some (.slice a2 n2 c2)))) :=
    Lib.hid fun w' hb => ⟨hb, (B0.later hb (by omega)).cells.1⟩
  clear hna h h0 hn1 hn2 hb1 B0 B2 hL hLs
  go_enter Tryz.func90, Tryz.ntmps90
  go_wp2_with fail
  rw [← HL.out]
  go_region_held3 (fun w' => Below (w.heap.size + 1) L w' ∧ (w'.cell? ⟨w.heap.size, 0, none⟩ = some (.bool na) ∧ w'.cell? ⟨w.heap.size, 1, none⟩ = some (.slice a1 n1 c1) ∧ w'.cell? ⟨w.heap.size, 2, none⟩ = some (.slice a2 n2 c2)))
    (first
      | exact HSOF.out _ HQ1.out
      | exact HSOF.out _ (Below.refl _ _).drew
      | exact HSOF.out _ (((HQ1.out.setCell (by simp) _).setCell (by simp) _).setCell (by simp) _))
    (first
      | (go_at_call 63; refine integerOf_z na _ a.den _ (X2.out.later (Below.refl _ _).drew (Nat.le_refl _)) _ ?_; intro v1 w1 hv1 hb1; rw [HNA.out, ← HIV.out.1] at hv1; obtain ⟨m1, a5, m5, c5, hm1, rfl, hn5⟩ := hv1.parts; have HM1 := Lib.hid hm1; have HV1 := Lib.hid hn5; have HT1 : Hid (Below L.heap.size L w1) := Lib.hid (below_unDrew hb1); have HQ1 : Hid (Below (w.heap.size + 1) L w1) := Lib.hid (HT1.out.mono (by have := HLS.out; omega)); have d1 := HB2.out.later HT1.out (by have := HLS.out; omega); obtain ⟨⟨hR0, hR1, hR2⟩, hF0, hF1, hF2⟩ := d1.cells; have HD1 := Lib.hid d1; clear hv1 hb1 hm1 hn5 d1; dsimp only))
  all_goals
    go_wp2
    refine bodyPost_ret_at (by simp [results, Tryz.results90, go_sem, hR0, hR1, hR2, hF0, hF1, hF2] <;> rfl) rfl ?_
    have hq : IsR w1 (.agg #[.bool m1, .slice a5 m5 c5, .slice a1 n1 c1]) a⁻¹ := ⟨_, _, by rw [HM1.out], HV1.out, by rw [HIV.out.2]; exact X1.out.later HT1.out (Nat.le_refl _)⟩
    refine HR.out _ _ (IsR.set3 hq (HD1.out.noInt rfl rfl rfl) _ _ _ rfl rfl) ?_
    exact (((HEXT.out.trans (HT1.out.mono HEXT.out.size)).setCell (show w.heap.size ≤ w.heap.size + 1 by omega) _).setCell (show w.heap.size ≤ w.heap.size + 1 by omega) _).setCell (show w.heap.size ≤ w.heap.size + 1 by omega) _

theorem inv_len {a : Rat} (h : a ≠ 0) {N : Nat} (h1 : (dig W64 a.num.natAbs).length ≤ N) (h2 : (dig W64 a.den).length ≤ N) : (dig W64 (a⁻¹).num.natAbs).length ≤ N ∧ (dig W64 (a⁻¹).den).length ≤ N := by
  obtain ⟨e1, e2⟩ := inv_parts a h
  rw [e1, e2, sgn_abs]
  exact ⟨h2, h1⟩

set_option maxRecDepth 100000 in
set_option maxHeartbeats 4000000 in
theorem rdivby_any (va vb : Value) (a b : Rat) (w : World) (ha : IsR w va a) (hb : IsR w vb b) (h0 : b ≠ 0) (hla : (dig W64 a.num.natAbs).length ≤ 1000000) (hla2 : (dig W64 a.den).length ≤ 1000000)
    (hlb : (dig W64 b.num.natAbs).length ≤ 1000000) (hlb2 : (dig W64 b.den).length ≤ 1000000) (R : Ending → World → Prop)
    (hR : ∀ v' w', IsR w' v' (a / b) → Below w.heap.size w w' → R (.returned v') w') :
    Calls Tryz.prog 50 #[va, vb] w R := by
  have HR := Lib.hid hR; clear hR
  obtain ⟨na, a1, n1, c1, a2, n2, c2, hna, rfl, hn1, hn2⟩ := ha.parts
  obtain ⟨nb, a3, n3, c3, a4, n4, c4, hnb, rfl, hn3, hn4⟩ := hb.parts
  obtain ⟨L, hL⟩ : ∃ L, L = ((w.alloc (.cells #[.bool na, .slice a1 n1 c1, .slice a2 n2 c2] 52)).alloc (.cells #[.bool nb, .slice a3 n3 c3, .slice a4 n4 c4] 52)).alloc (.cells #[.bool false, .slice none 0 0, .slice none 0 0] 52) := ⟨_, rfl⟩
  have HEXT : Hid (Below w.heap.size w L) := Lib.hid (by rw [hL]; exact (((Below.refl w.heap.size w).alloc (Nat.le_refl _) _).alloc (by simp) _).alloc (by simp; omega) _)
  have hLs : L.heap.size = w.heap.size + 3 := by rw [hL]; simp
  have hb1 : Below (w.heap.size + 1) (w.alloc (.cells #[.bool na, .slice a1 n1 c1, .slice a2 n2 c2] 52)) L := by rw [hL]; exact ((Below.refl _ _).alloc (by simp) _).alloc (by simp) _
  have hb2 : Below (w.heap.size + 2) ((w.alloc (.cells #[.bool na, .slice a1 n1 c1, .slice a2 n2 c2] 52)).alloc (.cells #[.bool nb, .slice a3 n3 c3, .slice a4 n4 c4] 52)) L := by rw [hL]; exact (Below.refl _ _).alloc (by simp) _
  have B0 : Box3 L w.heap.size (.bool na) (.slice a1 n1 c1) (.slice a2 n2 c2) 52 := (Box3.made w _ _ _ _).later hb1 (by omega)
  have B1 : Box3 L (w.heap.size + 1) (.bool nb) (.slice a3 n3 c3) (.slice a4 n4 c4) 52 := by
    have := (Box3.made (w.alloc (.cells #[.bool na, .slice a1 n1 c1, .slice a2 n2 c2] 52)) (.bool nb) (.slice a3 n3 c3) (.slice a4 n4 c4) 52).later hb2 (by simp)
    rw [World.size_alloc] at this; exact this
  have B2 : Box3 L (w.heap.size + 1 + 1) (.bool false) (.slice none 0 0) (.slice none 0 0) 52 := by
    have := Box3.made ((w.alloc (.cells #[.bool na, .slice a1 n1 c1, .slice a2 n2 c2] 52)).alloc (.cells #[.bool nb, .slice a3 n3 c3, .slice a4 n4 c4] 52)) (.bool false) (.slice none 0 0) (.slice none 0 0) 52
    rw [World.size_alloc, World.size_alloc, ← hL] at this; exact this
  have HL := Lib.hid hL
  have HLS := Lib.hid hLs
  have HB2 := Lib.hid B2
  have X1 := Lib.hid (ha.later HEXT.out (Nat.le_refl _))
  have X2 := Lib.hid (hb.later HEXT.out (Nat.le_refl _))
  have HLN := Lib.hid (And.intro hla (And.intro hla2 (inv_len h0 hlb hlb2)))
  have H0 := Lib.hid h0
  have HDIV : Hid (a * b⁻¹ = a / b) := Lib.hid (Rat.div_def a b).symm
  have HSOF : Hid (∀ w', Below (w.heap.size + 2) L w' → (Below (w.heap.size + 2) L w' ∧ (w'.cell? ⟨w.heap.size, 0, none⟩ = some (.bool na) ∧ w'.cell? ⟨w.heap.size, 1, none⟩ = some (.slice a1 n1 c1) ∧ w'.cell? ⟨w.heap.size, 2, none⟩ = some (.slice a2 n2 c2)) ∧
      (w'.cell? ⟨w.heap.size + 1, 0, none⟩ = some (.bool nb) ∧ w'.cell? ⟨w.heap.size + 1, 1, none⟩ = some (.slice a3 n3 c3) ∧ w'.cell? ⟨w.heap.size + 1, 2, none⟩ = some (.slice a4 n4 c4)))) :=
    Lib.hid fun w' hb => ⟨hb, (B0.later hb (by omega)).cells.1, (B1.later hb (by omega)).cells.1⟩
  clear hna hnb ha hb h0 hn1 hn2 hn3 hn4 hla hlb hla2 hlb2 hb1 hb2 B0 B1 B2 hL hLs
  go_enter Tryz.func50, Tryz.ntmps50
  go_wp2_with fail
  rw [← HL.out]
  go_region_held3 (fun w' => Below (w.heap.size + 2) L w' ∧ (w'.cell? ⟨w.heap.size, 0, none⟩ = some (.bool na) ∧ w'.cell? ⟨w.heap.size, 1, none⟩ = some (.slice a1 n1 c1) ∧ w'.cell? ⟨w.heap.size, 2, none⟩ = some (.slice a2 n2 c2)) ∧
      (w'.cell? ⟨w.heap.size + 1, 0, none⟩ = some (.bool nb) ∧ w'.cell? ⟨w.heap.size + 1, 1, none⟩ = some (.slice a3 n3 c3) ∧ w'.cell? ⟨w.heap.size + 1, 2, none⟩ = some (.slice a4 n4 c4)))
    (first
      | exact HSOF.out _ HQ2.out
      | exact HSOF.out _ HQ1.out
      | exact HSOF.out _ (Below.refl _ _).drew
      | exact HSOF.out _ (((HQ2.out.setCell (by simp) _).setCell (by simp) _).setCell (by simp) _))
    (first
      | (go_at_call 45; refine rtimes_any _ _ a b⁻¹ _ (X1.out.later HT1.out (Nat.le_refl _)) HV1.out HLN.out.1 HLN.out.2.1 HLN.out.2.2.1 HLN.out.2.2.2 _ ?_; rw [HDIV.out]; intro v2 w2 hv2 hb2; obtain ⟨m2, a5, m5, c5, a6, m6, c6, hm2, rfl, hn5, hn6⟩ := hv2.parts; have HM2 := Lib.hid hm2; have HV2 := Lib.hid (And.intro hn5 hn6); have HT2 := Lib.hid (HT1.out.trans (hb2.mono HT1.out.size)); have HQ2 : Hid (Below (w.heap.size + 2) L w2) := Lib.hid (HT2.out.mono (by have := HLS.out; omega)); have d2 := HB2.out.later HT2.out (by have := HLS.out; omega); obtain ⟨⟨hR0, hR1, hR2⟩, hF0, hF1, hF2⟩ := d2.cells; have HD2 := Lib.hid d2; clear hv2 hb2 hm2 hn5 hn6 d2; dsimp only)
      | (go_at_call 90; refine rinv_any _ b _ (X2.out.later (Below.refl _ _).drew (Nat.le_refl _)) H0.out _ ?_; intro v1 w1 hv1 hb1; obtain ⟨p1, a7, m7, c7, a8, m8, c8, hp1, rfl, hn7, hn8⟩ := hv1.parts; have HV1 := Lib.hid hv1; have HT1 : Hid (Below L.heap.size L w1) := Lib.hid (below_unDrew hb1); have HQ1 : Hid (Below (w.heap.size + 2) L w1) := Lib.hid (HT1.out.mono (by have := HLS.out; omega)); clear hv1 hb1 hp1 hn7 hn8; dsimp only))
  all_goals
    go_wp2
    refine bodyPost_ret_at (by simp [results, Tryz.results50, go_sem, hR0, hR1, hR2, hF0, hF1, hF2] <;> rfl) rfl ?_
    have hq : IsR w2 (.agg #[.bool m2, .slice a5 m5 c5, .slice a6 m6 c6]) (a / b) := ⟨_, _, by rw [HM2.out], HV2.out.1, HV2.out.2⟩
    refine HR.out _ _ (IsR.set3 hq (HD2.out.noInt rfl rfl rfl) _ _ _ rfl rfl) ?_
    exact (((HEXT.out.trans (HT2.out.mono HEXT.out.size)).setCell (show w.heap.size ≤ w.heap.size + 1 + 1 by omega) _).setCell (show w.heap.size ≤ w.heap.size + 1 + 1 by omega) _).setCell (show w.heap.size ≤ w.heap.size + 1 + 1 by omega) _

set_option maxRecDepth 100000 in
set_option maxHeartbeats 1000000 in
theorem izero_any (v : Value) (z : Int) (w : World) (h : IsI w v z) (R : Ending → World → Prop)
    (hR : ∀ w', Below w.heap.size w w' → R (.returned (.bool (decide (z = 0)))) w') :
    Calls Tryz.prog 89 #[v] w R := by
  have HR := Lib.hid hR; clear hR
  obtain ⟨na, a1, n1, c1, hna, rfl, hn1⟩ := h.parts
  obtain ⟨L, hL⟩ : ∃ L, L = w.alloc (.cells #[.bool na, .slice a1 n1 c1] 50) := ⟨_, rfl⟩
  have HEXT : Hid (Below w.heap.size w L) := Lib.hid (by rw [hL]; exact (Below.refl w.heap.size w).alloc (Nat.le_refl _) _)
  have B0 : Box2 L w.heap.size (.bool na) (.slice a1 n1 c1) 50 := by rw [hL]; exact Box2.made w _ _ _
  have HL := Lib.hid hL
  have X1 := Lib.hid (hn1.later HEXT.out (Nat.le_refl _))
  obtain ⟨hA, hB, _, _⟩ := B0.cells
  rw [hL] at hA hB
  obtain ⟨x, hx⟩ : ∃ x, x = decide (z.natAbs = 0) := ⟨_, rfl⟩
  have hxz : decide (z = 0) = x := by rw [hx]; exact decide_eq_decide.2 (by omega)
  rw [hxz] at HR
  have HX := Lib.hid hx
  clear hna h hn1 hL B0 hx hxz
  go_enter Tryz.func89, Tryz.ntmps89
  go_wp2_with fail
  rw [← HL.out]
  refine nzero_any _ z.natAbs _ X1.out _ ?_
  rw [← HX.out]
  dsimp only
  go_wp2
  first | go_ret | skip
  exact HR.out _ HEXT.out

set_option maxRecDepth 100000 in
set_option maxHeartbeats 1000000 in
theorem rzero_any (v : Value) (q : Rat) (w : World) (h : IsR w v q) (R : Ending → World → Prop)
    (hR : ∀ w', Below w.heap.size w w' → R (.returned (.bool (decide (q = 0)))) w') :
    Calls Tryz.prog 49 #[v] w R := by
  have HR := Lib.hid hR; clear hR
  obtain ⟨na, a1, n1, c1, a2, n2, c2, hna, rfl, hn1, hn2⟩ := h.parts
  obtain ⟨L, hL⟩ : ∃ L, L = w.alloc (.cells #[.bool na, .slice a1 n1 c1, .slice a2 n2 c2] 52) := ⟨_, rfl⟩
  have HEXT : Hid (Below w.heap.size w L) := Lib.hid (by rw [hL]; exact (Below.refl w.heap.size w).alloc (Nat.le_refl _) _)
  have B0 : Box3 L w.heap.size (.bool na) (.slice a1 n1 c1) (.slice a2 n2 c2) 52 := by rw [hL]; exact Box3.made w _ _ _ _
  have HL := Lib.hid hL
  have X1 : Hid (IsI L (.agg #[.bool na, .slice a1 n1 c1]) q.num) := Lib.hid (IsI.mk hna (hn1.later HEXT.out (Nat.le_refl _)))
  obtain ⟨⟨hA, hB, hC⟩, _, _, _⟩ := B0.cells
  rw [hL] at hA hB hC
  obtain ⟨x, hx⟩ : ∃ x, x = decide (q.num = 0) := ⟨_, rfl⟩
  have hxz : decide (q = 0) = x := by rw [hx]; exact decide_eq_decide.2 Rat.num_eq_zero.symm
  rw [hxz] at HR
  have HX := Lib.hid hx
  clear hna h hn1 hn2 hL B0 hx hxz
  go_enter Tryz.func49, Tryz.ntmps49
  go_wp2_with fail
  rw [← HL.out]
  refine izero_any _ q.num _ X1.out _ ?_
  intro w1 hb1
  rw [← HX.out]
  have HB := Lib.hid (HEXT.out.trans (hb1.mono HEXT.out.size))
  clear hb1 hA hB hC
  dsimp only
  go_wp2
  first | go_ret | skip
  exact HR.out _ HB.out
end Go.Proofs.YtbglfendcpbjpaaGreatDoor

namespace Go.Proofs.YtbglfendcpbjpaaGreatDoor
open Go Go.RowKit

theorem num_len_zero (q : Rat) (n : Nat) (h : n = (dig 10000 q.num.natAbs).length) : n = 0 ↔ q = 0 := by
  rw [h, List.length_eq_zero_iff, dig_eq_nil (by omega), Int.natAbs_eq_zero]
  exact Rat.num_eq_zero

end Go.Proofs.YtbglfendcpbjpaaGreatDoor

namespace Go.Proofs.YtbglfendcpbjpaaGreatDoor
open Go Go.RowKit

set_option maxRecDepth 100000 in
theorem zeroQ_any (v : Value) (q : Rat) (w : World) (hq : IsQ w v q) (R : Ending → World → Prop)
    (hR : ∀ w', Below w.heap.size w w' → R (.returned (.bool (decide (q = 0)))) w') :
    Calls Tryz.prog 46 #[v] w R := by
  have HR := Lib.hid hR; clear hR
  obtain ⟨a1, n1, c1, a2, n2, c2, rfl, e1, _, _, _⟩ := hq.open
  have hz := num_len_zero q n1 e1
  obtain ⟨n, hn⟩ : ∃ n, n = decide (q.num < 0) := ⟨_, rfl⟩
  rw [← hn]
  clear hq hn e1
  by_cases h0 : n1 = 0
  · rw [decide_eq_true (hz.1 h0)] at HR
    subst h0
    clear hz
    go_enter Tryz.func46, Tryz.ntmps46
    go_wp2
    first | go_ret | skip
    exact HR.out _ ((Below.refl _ _).alloc (Nat.le_refl _) _)
  · rw [decide_eq_false (fun h => h0 (hz.2 h))] at HR
    have e : (((n1 : Nat) : Int) == 0) = false := by simp; omega
    clear hz
    go_enter Tryz.func46, Tryz.ntmps46
    go_wp2
    first | go_ret | skip
    exact HR.out _ ((Below.refl _ _).alloc (Nat.le_refl _) _)
end Go.Proofs.YtbglfendcpbjpaaGreatDoor

namespace Go.Proofs.YtbglfendcpbjpaaGreatDoor
open Go Go.RowKit

theorem div_divint (a b : Rat) : Rat.divInt (a.num * (b.den : Int)) ((a.den : Int) * b.num) = a / b := by
  rw [← Rat.divInt_mul_divInt, Rat.num_divInt_den, ← Rat.inv_def, ← Rat.div_def]

set_option maxRecDepth 100000 in
set_option maxHeartbeats 4000000 in
theorem divQ_any (va vb : Value) (a b : Rat) (w : World) (ha : IsQ w va a) (hb : IsQ w vb b) (hla : (dig 10000 a.num.natAbs).length ≤ 400000) (hla2 : (dig 10000 a.den).length ≤ 400000)
    (hlb : (dig 10000 b.num.natAbs).length ≤ 400000) (hlb2 : (dig 10000 b.den).length ≤ 400000) (hbz : b ≠ 0)
    (R : Ending → World → Prop) (hR : ∀ v w', IsQ w' v (a / b) → Below w.heap.size w w' → R (.returned v) w') :
    Calls Tryz.prog 47 #[va, vb] w R := by
  have HR := Lib.hid hR; clear hR
  obtain ⟨na, a1, n1, c1, a2, n2, c2, rfl, hz1, hz2⟩ := ha.parts
  obtain ⟨nb, a3, n3, c3, a4, n4, c4, rfl, hz3, hz4⟩ := hb.parts
  clear ha hb
  obtain ⟨L, hL⟩ : ∃ L, L = ((w.alloc (.cells #[.bool na, .slice a1 n1 c1, .bool false, .slice a2 n2 c2] 41)).alloc (.cells #[.bool nb, .slice a3 n3 c3, .bool false, .slice a4 n4 c4] 41)).alloc (.cells #[.bool false, .slice none 0 0, .bool false, .slice none 0 0] 41) := ⟨_, rfl⟩
  have hLs : L.heap.size = w.heap.size + 3 := by rw [hL]; simp
  have B0 : Box4 L w.heap.size (.bool na) (.slice a1 n1 c1) (.bool false) (.slice a2 n2 c2) 41 := by
    rw [hL]; exact ((Box4.made w _ _ _ _ _).later (B := w.heap.size + 1) ((Below.refl _ _).alloc (by simp) _) (by omega)).later (B := w.heap.size + 2) ((Below.refl _ _).alloc (by simp) _) (by omega)
  have B1 : Box4 L (w.heap.size + 1) (.bool nb) (.slice a3 n3 c3) (.bool false) (.slice a4 n4 c4) 41 := by
    rw [hL]; have := (Box4.made (w.alloc (.cells #[.bool na, .slice a1 n1 c1, .bool false, .slice a2 n2 c2] 41)) (.bool nb) (.slice a3 n3 c3) (.bool false) (.slice a4 n4 c4) 41).later (B := w.heap.size + 2) ((Below.refl _ _).alloc (by simp) (.cells #[.bool false, .slice none 0 0, .bool false, .slice none 0 0] 41)) (by simp); simpa using this
  have B2 : Box4 L (w.heap.size + 2) (.bool false) (.slice none 0 0) (.bool false) (.slice none 0 0) 41 := by
    rw [hL]; have := Box4.made ((w.alloc (.cells #[.bool na, .slice a1 n1 c1, .bool false, .slice a2 n2 c2] 41)).alloc (.cells #[.bool nb, .slice a3 n3 c3, .bool false, .slice a4 n4 c4] 41)) (.bool false) (.slice none 0 0) (.bool false) (.slice none 0 0) 41; simpa using this
  have HEXT : Below w.heap.size w L := by rw [hL]; exact (((Below.refl w.heap.size w).alloc (Nat.le_refl _) _).alloc (by simp) _).alloc (by simp; omega) _
  have HL := Lib.hid hL
  have y1 := (hz1.later HEXT (Nat.le_refl _))
  have y2 := (hz2.later HEXT (Nat.le_refl _))
  have y3 := (hz3.later HEXT (Nat.le_refl _))
  have y4 := (hz4.later HEXT (Nat.le_refl _))
  clear hL hz1 hz2 hz3 hz4
  go_enter Tryz.func47, Tryz.ntmps47
  go_wp2_with fail
  rw [← HL.out]
  obtain ⟨⟨hA0, hA1, hA2, hA3⟩, _, _, _, _⟩ := B0.cells
  obtain ⟨⟨hB0, hB1, hB2, hB3⟩, _, _, _, _⟩ := B1.cells
  have hk0 : w.heap.size < L.heap.size := by omega
  have hk1 : w.heap.size + 1 < L.heap.size := by omega
  have hk2 : w.heap.size + 2 < L.heap.size := by omega
  have hla' : (dig 10000 (a.num.natAbs)).length ≤ 10000000 := by omega
  have hlb' : (dig 10000 (b.num.natAbs)).length ≤ 10000000 := by omega
  have hla2' : (dig 10000 ((a.den : Int).natAbs)).length ≤ 10000000 := by rw [Int.natAbs_natCast]; omega
  have hlb2' : (dig 10000 ((b.den : Int).natAbs)).length ≤ 10000000 := by rw [Int.natAbs_natCast]; omega
  have hm1 : (dig 10000 ((a.num * (b.den : Int)).natAbs)).length ≤ 1000000 := by rw [Int.natAbs_mul, Int.natAbs_natCast]; have := mul_len _ _ _ _ hla hlb2; omega
  have hm2 : (dig 10000 (((a.den : Int) * b.num).natAbs)).length ≤ 1000000 := by rw [Int.natAbs_mul, Int.natAbs_natCast]; have := mul_len _ _ _ _ hla2 hlb; omega
  have hd0 : (a.den : Int) * b.num ≠ 0 := Int.mul_ne_zero (by have := a.den_pos; omega) (fun h => hbz (Rat.num_eq_zero.1 h))
  have HLN := Lib.hid (And.intro hla' (And.intro hlb' (And.intro hla2' (And.intro hlb2' (And.intro hm1 (And.intro hm2 hd0))))))
  clear hla hlb hla2 hlb2 hla' hlb' hla2' hlb2' hm1 hm2 hd0
  go_cut [] (fun wx => QBox w.heap.size w (w.heap.size + 1 + 1) (a / b) wx)
  case first =>
    go_region_law (first
      | (have hguard := hb2; go_simp; go_at_call 76; refine make_any v1 v2 (a.num * (b.den : Int)) ((a.den : Int) * b.num) _ (hv1.later hb2 (Nat.le_refl _)) hv2 HLN.out.2.2.2.2.1 HLN.out.2.2.2.2.2.1 HLN.out.2.2.2.2.2.2 _ ?_; intro v3 w3 hv3 hb3; obtain ⟨n5, a5, m5, c5, a6, m6, c6, rfl, hz5, hz6⟩ := hv3.parts; have bb : Below L.heap.size L w3 := (below_ofDrew hb1).trans ((hb2.mono hb1.size).trans (hb3.mono (Nat.le_trans hb1.size hb2.size))); have d2 := B2.later bb hk2; obtain ⟨⟨hR0, hR1, hR2, hR3⟩, hR4, hR5, hR6, hR7⟩ := d2.cells; clear hguard; dsimp only)
      | (have hguard := hb1; go_simp; go_at_call 78; refine zmul_any (.agg #[.bool false, .slice a2 n2 c2]) (.agg #[.bool nb, .slice a3 n3 c3]) (a.den : Int) b.num _ (y2.drew.later hb1 (Nat.le_refl _)) (y3.drew.later hb1 (Nat.le_refl _)) HLN.out.2.2.1 HLN.out.2.1 _ ?_; intro v2 w2 hv2 hb2; clear hguard; dsimp only)
      | (go_simp; go_at_call 78; refine zmul_any (.agg #[.bool na, .slice a1 n1 c1]) (.agg #[.bool false, .slice a4 n4 c4]) a.num (b.den : Int) _ y1.drew y4.drew HLN.out.1 HLN.out.2.2.2.1 _ ?_; intro v1 w1 hv1 hb1; have e0 := B0.later (below_ofDrew hb1) hk0; have e1 := B1.later (below_ofDrew hb1) hk1; obtain ⟨⟨hC0, hC1, hC2, hC3⟩, _, _, _, _⟩ := e0.cells; obtain ⟨⟨hD0, hD1, hD2, hD3⟩, _, _, _, _⟩ := e1.cells; dsimp only))
    all_goals (go_wp2_with fail; go_meet; exact q_end w L w3 w.heap.size _ _ _ _ _ _ _ _ _ d2 (by rw [← div_divint]; exact hv3) HEXT bb (by omega))
  case rest =>
    clear hA0 hA1 hA2 hA3 hB0 hB1 hB2 hB3
    obtain ⟨b1, x1, x2, hbx, he, ht1, ht2, hbl⟩ := hcut
    obtain ⟨⟨hR0, hR1, hR2, hR3⟩, _, _, _, _⟩ := hbx.cells
    go_wp2
    refine bodyPost_ret_at (by simp [results, Tryz.results47, go_sem, hR0, hR1, hR2, hR3] <;> rfl) rfl ?_
    exact HR.out _ _ ⟨x1, x2, by rw [he], ht1, ht2⟩ hbl
end Go.Proofs.YtbglfendcpbjpaaGreatDoor

namespace Go.Proofs.YtbglfendcpbjpaaGreatDoor
open Go Go.RowKit

/-- the quotient of two texts that are numbers -/
noncomputable def divO (s t : List UInt8) : Option Rat := match numO s, numO t with
  | some a, some b => if b = 0 then none else some (a / b)
  | _, _ => none
theorem divO_some {s t : List UInt8} {a b : Rat} (ha : numO s = some a) (hb : numO t = some b) (h0 : b ≠ 0) : divO s t = some (a / b) := by unfold divO; rw [ha, hb]; simp [h0]
theorem divO_zero {s t : List UInt8} {b : Rat} (hb : numO t = some b) (h0 : b = 0) : divO s t = none := by
  unfold divO; rw [hb]; cases numO s with
  | none => rfl
  | some a => simp [h0]
theorem divO_none {s t : List UInt8} (h : numO s = none ∨ numO t = none) : divO s t = none := by
  unfold divO
  rcases h with h | h
  · rw [h]
  · rw [h]; cases numO s <;> rfl

theorem divq_len {a b : Rat} (h0 : b ≠ 0) {B : Nat} (hB : 2 ≤ B) (h1 : (dig B a.num.natAbs).length ≤ 60) (h2 : (dig B a.den).length ≤ 60) (h3 : (dig B b.num.natAbs).length ≤ 60) (h4 : (dig B b.den).length ≤ 60) :
    (dig B (a / b).num.natAbs).length ≤ 120 ∧ (dig B (a / b).den).length ≤ 120 := by
  obtain ⟨e1, e2⟩ := inv_parts b h0
  rw [Rat.div_def, rmul_num, rmul_den, Int.natAbs_mul, tdiv_abs, tdiv_abs, e1, e2, sgn_abs]
  exact ⟨dig_mul_len hB (Nat.le_trans (dig_mono hB (Nat.div_le_self _ _)) h1) (Nat.le_trans (dig_mono hB (Nat.div_le_self _ _)) h4),
    dig_mul_len hB (Nat.le_trans (dig_mono hB (Nat.div_le_self _ _)) h2) (Nat.le_trans (dig_mono hB (Nat.div_le_self _ _)) h3)⟩

set_option maxRecDepth 100000 in
set_option maxHeartbeats 2000000 in
theorem impl_divNumbers (s t : ByteArray) (w : World) (hE : Env w) (htab : Lib.TabIs Tryz.prog w "internal/strconv.uint64pow10" .u64 Lib.pow10Tab) (R : Ending → World → Prop)
    (hR : ∀ w', Below w.heap.size w w' → R (.returned (.tuple #[.string (outS (divO s.data.toList t.data.toList)), .bool (outB (divO s.data.toList t.data.toList))])) w') :
    Calls Tryz.prog 20 #[.string s, .string t] w R := by
  have HR := Lib.hid hR; clear hR
  have HE := Lib.hid hE; clear hE
  have HTAB := Lib.hid htab; clear htab
  go_enter Tryz.func20, Tryz.ntmps20
  go_wp2_with fail
  refine read2_any s t _ HE.out _ ?_ ?_
  · intro va vb a b w1 ha hb hva hvb hb1
    obtain ⟨na, a1, n1, c1, a2, n2, c2, hna, rfl, hn1, hn2⟩ := hva.parts
    obtain ⟨nb, a3, n3, c3, a4, n4, c4, hnb, rfl, hn3, hn4⟩ := hvb.parts
    obtain ⟨L, hL⟩ : ∃ L, L = (w1.alloc (.cells #[.bool na, .slice a1 n1 c1, .slice a2 n2 c2] 52)).alloc (.cells #[.bool nb, .slice a3 n3 c3, .slice a4 n4 c4] 52) := ⟨_, rfl⟩
    have hb2 : Below (w1.heap.size + 1) (w1.alloc (.cells #[.bool na, .slice a1 n1 c1, .slice a2 n2 c2] 52)) L := by rw [hL]; exact (Below.refl _ _).alloc (by simp) _
    have B0 : Box3 L w1.heap.size (.bool na) (.slice a1 n1 c1) (.slice a2 n2 c2) 52 := (Box3.made w1 _ _ _ _).later hb2 (by omega)
    have B1 : Box3 L (w1.heap.size + 1) (.bool nb) (.slice a3 n3 c3) (.slice a4 n4 c4) 52 := by
      have := Box3.made (w1.alloc (.cells #[.bool na, .slice a1 n1 c1, .slice a2 n2 c2] 52)) (.bool nb) (.slice a3 n3 c3) (.slice a4 n4 c4) 52
      rw [World.size_alloc, ← hL] at this; exact this
    have hw1 : Below w1.heap.size w1 L := by rw [hL]; exact ((Below.refl w1.heap.size w1).alloc (Nat.le_refl _) _).alloc (by simp) _
    have HL := Lib.hid hL
    have HA := Lib.hid (hva.later hw1 (Nat.le_refl _))
    have HB := Lib.hid (hvb.later hw1 (Nat.le_refl _))
    have HEX := Lib.hid (hb1.trans (hw1.mono hb1.size))
    have HNA := Lib.hid ha
    have HNB := Lib.hid hb
    have HLA := Lib.hid (few_len (numO_few ha) (B := W64) (by rw [W64_eq]; omega))
    have HLB := Lib.hid (few_len (numO_few hb) (B := W64) (by rw [W64_eq]; omega))
    obtain ⟨⟨hA, hB, hC⟩, _, _, _⟩ := B0.cells
    obtain ⟨⟨hD, hF, hG⟩, _, _, _⟩ := B1.cells
    rw [hL] at hA hB hC hD hF hG
    have B0' := Lib.hid B0
    have B1' := Lib.hid B1
    have HLW : Hid (w1.heap.size + 1 < L.heap.size) := Lib.hid (by rw [hL]; simp)
    clear ha hb hva hvb hb1 hna hnb hn1 hn2 hn3 hn4 hL hb2 B0 B1 hw1
    dsimp only
    go_wp2_with fail
    rw [← HL.out]
    refine rzero_any _ b _ HB.out _ ?_
    intro wz hbz
    have HBZ := Lib.hid hbz
    have HEZ := Lib.hid (HEX.out.trans (hbz.mono HEX.out.size))
    have k0 := B0'.out.later hbz (by have := HLW.out; omega)
    have k1 := B1'.out.later hbz HLW.out
    clear hA hB hC hD hF hG hbz
    obtain ⟨⟨hA, hB, hC⟩, _, _, _⟩ := k0.cells
    obtain ⟨⟨hD, hF, hG⟩, _, _, _⟩ := k1.cells
    clear k0 k1
    by_cases h0 : b = 0
    · have hd : decide (b = 0) = true := decide_eq_true h0
      rw [divO_zero HNB.out h0] at HR
      rw [hd]
      clear hd h0
      dsimp only
      go_wp2
      first | go_ret | skip
      exact HR.out _ HEZ.out
    · have hd : decide (b = 0) = false := decide_eq_false h0
      have H0 := Lib.hid h0
      rw [divO_some HNA.out HNB.out h0] at HR
      rw [hd]
      clear hd h0
      dsimp only
      go_wp2_with fail
      refine rdivby_any _ _ a b _ (HA.out.later HBZ.out (Nat.le_refl _)) (HB.out.later HBZ.out (Nat.le_refl _)) H0.out (Nat.le_trans HLA.out.1 (by omega)) (Nat.le_trans HLA.out.2 (by omega)) (Nat.le_trans HLB.out.1 (by omega)) (Nat.le_trans HLB.out.2 (by omega)) _ ?_
      intro vr w2 hr hb2
      obtain ⟨q, hq⟩ : ∃ q : Rat, q = a / b := ⟨_, rfl⟩
      rw [← hq] at HR
      rw [← hq] at hr
      obtain ⟨nr, a5, n5, c5, a6, n6, c6, hnr, rfl, _, _⟩ := hr.parts
      have HR2 := Lib.hid hr
      have HB2 := Lib.hid (HEZ.out.trans (hb2.mono HEZ.out.size))
      clear hr hb2 hnr hq hA hB hC hD hF hG
      dsimp only
      go_wp2_with fail
      refine rtext_o _ q _ HR2.out (tab_later HTAB.out HB2.out (Nat.le_refl _)) _ ?_
      intro w3 hb3
      have HB3 := Lib.hid (HB2.out.trans (hb3.mono HB2.out.size))
      obtain ⟨S, hS⟩ : ∃ S, S = outS (some q) := ⟨_, rfl⟩
      obtain ⟨B, hB⟩ : ∃ B, B = outB (some q) := ⟨_, rfl⟩
      rw [← hS, ← hB] at HR ⊢
      clear hS hB hb3
      dsimp only
      go_wp2
      first | go_ret | skip
      exact HR.out _ HB3.out
  · intro e w1 hn he hb1
    rw [divO_none hn] at HR
    obtain ⟨t', p, rfl⟩ := he
    have HB := Lib.hid hb1
    clear hb1 hn
    unfold zeroR
    dsimp only
    go_wp2
    first | go_ret | skip
    exact HR.out _ ((HB.out.alloc HB.out.size _).alloc (by simp; have := HB.out.size; omega) _)

set_option maxRecDepth 100000 in
set_option maxHeartbeats 2000000 in
theorem spec_divNumbers (s t : ByteArray) (w : World) (hs : s.size ≤ 1100000) (ht : t.size ≤ 1100000) (R : Ending → World → Prop)
    (hR : ∀ w', Below w.heap.size w w' → R (.returned (.tuple #[.string (outS (divO s.data.toList t.data.toList)), .bool (outB (divO s.data.toList t.data.toList))])) w') :
    Calls Tryz.prog 19 #[.string s, .string t] w R := by
  have HR := Lib.hid hR; clear hR
  have HS := Lib.hid (And.intro hs ht)
  clear hs ht
  go_enter Tryz.func19, Tryz.ntmps19
  go_wp2_with fail
  refine isq_any s _ HS.out.1 _ ?_
  intro w1 hb1
  have HB1 := Lib.hid hb1
  clear hb1
  cases ha : numO s.data.toList with
  | none =>
    rw [divO_none (.inl ha)] at HR
    rw [Option.isSome_none]
    clear ha
    dsimp only
    go_wp2
    first | go_ret | skip
    exact HR.out _ HB1.out
  | some a =>
    have HA := Lib.hid ha
    rw [Option.isSome_some]
    clear ha
    dsimp only
    go_wp2_with fail
    refine isq_any t _ HS.out.2 _ ?_
    intro w2 hb2
    have HB2 := Lib.hid (HB1.out.trans (hb2.mono HB1.out.size))
    clear hb2
    cases hb : numO t.data.toList with
    | none =>
      rw [divO_none (.inr hb)] at HR
      rw [Option.isSome_none]
      clear hb
      dsimp only
      go_wp2
      first | go_ret | skip
      exact HR.out _ HB2.out
    | some b =>
      have HBB := Lib.hid hb
      rw [Option.isSome_some]
      have HLA := Lib.hid (few_len (numO_few HA.out) (B := 10000) (by omega))
      have HLB := Lib.hid (few_len (numO_few hb) (B := 10000) (by omega))
      clear hb
      dsimp only
      go_wp2_with fail
      refine ofq_any t b _ HBB.out _ ?_
      intro vb0 w6 hqb0 hb6
      obtain ⟨nb0, b3, k3, d3, b4, k4, d4, rfl, _, _⟩ := hqb0.parts
      have HQ0 := Lib.hid hqb0
      have HB6 := Lib.hid (HB2.out.trans (hb6.mono HB2.out.size))
      clear hqb0 hb6
      dsimp only
      go_wp2_with fail
      refine zeroQ_any _ b _ HQ0.out _ ?_
      intro w7 hb7
      have HB7 := Lib.hid (HB6.out.trans (hb7.mono HB6.out.size))
      clear hb7
      by_cases h0 : b = 0
      · have hd : decide (b = 0) = true := decide_eq_true h0
        rw [divO_zero HBB.out h0] at HR
        rw [hd]
        clear hd h0
        dsimp only
        go_wp2
        first | go_ret | skip
        exact HR.out _ HB7.out
      · have hd : decide (b = 0) = false := decide_eq_false h0
        have H0 := Lib.hid h0
        rw [divO_some HA.out HBB.out h0] at HR
        rw [hd]
        clear hd h0
        dsimp only
        go_wp2_with fail
        refine ofq_any s a _ HA.out _ ?_
        intro va w3 hqa hb3
        obtain ⟨na, a1, n1, c1, a2, n2, c2, rfl, _, _⟩ := hqa.parts
        have HQA := Lib.hid hqa
        have HB3 := Lib.hid (HB7.out.trans (hb3.mono HB7.out.size))
        clear hqa hb3
        dsimp only
        go_wp2_with fail
        refine ofq_any t b _ HBB.out _ ?_
        intro vb w4 hqb hb4
        obtain ⟨nb, a3, n3, c3, a4, n4, c4, rfl, _, _⟩ := hqb.parts
        have HQB := Lib.hid hqb
        have HQA' := Lib.hid (HQA.out.later hb4 (Nat.le_refl _))
        have HB4 := Lib.hid (HB3.out.trans (hb4.mono HB3.out.size))
        clear hqb hb4
        dsimp only
        go_wp2_with fail
        refine divQ_any _ _ a b _ HQA'.out HQB.out (Nat.le_trans HLA.out.1 (by omega)) (Nat.le_trans HLA.out.2 (by omega)) (Nat.le_trans HLB.out.1 (by omega)) (Nat.le_trans HLB.out.2 (by omega)) H0.out _ ?_
        intro vr w5 hr hb5
        have HLQ : Hid ((dig 10000 (a / b).num.natAbs).length ≤ 1000000000 ∧ (dig 10000 (a / b).den).length ≤ 1000000000) := Lib.hid (by
          have := divq_len H0.out (by omega : 2 ≤ 10000) HLA.out.1 HLA.out.2 HLB.out.1 HLB.out.2
          omega)
        obtain ⟨q, hq⟩ : ∃ q : Rat, q = a / b := ⟨_, rfl⟩
        rw [← hq] at HR
        rw [← hq] at hr HLQ
        obtain ⟨nr, a5, n5, c5, a6, n6, c6, rfl, _, _⟩ := hr.parts
        have HQR := Lib.hid hr
        have HB5 := Lib.hid (HB4.out.trans (hb5.mono HB4.out.size))
        clear hr hb5 hq
        dsimp only
        go_wp2_with fail
        refine give_o _ q _ HQR.out HLQ.out.1 HLQ.out.2 _ ?_
        intro w6 hb6
        have HB6 := Lib.hid (HB5.out.trans (hb6.mono HB5.out.size))
        obtain ⟨S, hS⟩ : ∃ S, S = outS (some q) := ⟨_, rfl⟩
        obtain ⟨B, hB⟩ : ∃ B, B = outB (some q) := ⟨_, rfl⟩
        rw [← hS, ← hB] at HR ⊢
        clear hS hB hb6
        dsimp only
        go_wp2
        first | go_ret | skip
        exact HR.out _ HB6.out

set_option maxRecDepth 100000 in
set_option maxHeartbeats 1000000 in
theorem law_divNumbers (s t : ByteArray) (w : World) (hE : Env w) (htab : Lib.TabIs Tryz.prog w "internal/strconv.uint64pow10" .u64 Lib.pow10Tab) (R : Ending → World → Prop)
    (hR : ∀ w', Below w.heap.size w w' → R (.returned (.bool true)) w') :
    Calls Tryz.prog 6 #[.string s, .string t] w R := by
  have HR := Lib.hid hR; clear hR
  have HE := Lib.hid hE; clear hE
  have HTAB := Lib.hid htab; clear htab
  by_cases hs : s.size ≤ 1048576
  · have hsi : ¬ (1048576 : Int) < (s.size : Int) := by omega
    by_cases ht : t.size ≤ 1048576
    · have hti : ¬ (1048576 : Int) < (t.size : Int) := by omega
      have HS := Lib.hid (And.intro hs ht)
      clear hs ht
      go_enter Tryz.func6, Tryz.ntmps6
      go_wp2_with fail
      refine spec_divNumbers s t _ (by have := HS.out; omega) (by have := HS.out; omega) _ ?_
      intro w1 hb1
      have HB1 := Lib.hid hb1
      obtain ⟨S, hS⟩ : ∃ S, S = outS (divO s.data.toList t.data.toList) := ⟨_, rfl⟩
      obtain ⟨B, hB⟩ : ∃ B, B = outB (divO s.data.toList t.data.toList) := ⟨_, rfl⟩
      rw [← hS, ← hB]
      have HSS := Lib.hid hS
      have HBB := Lib.hid hB
      clear hb1 hS hB
      dsimp only
      go_wp2_with fail
      refine impl_divNumbers s t _ (HE.out.later HB1.out (Nat.le_refl _)) (tab_later HTAB.out HB1.out (Nat.le_refl _)) _ ?_
      intro w2 hb2
      rw [← HSS.out, ← HBB.out]
      have HB2 := Lib.hid (HB1.out.trans (hb2.mono HB1.out.size))
      clear hb2
      dsimp only
      cases B <;>
      · go_wp2
        first | go_ret | skip
        exact HR.out _ HB2.out
    · have hti : (1048576 : Int) < (t.size : Int) := by omega
      clear ht hs
      go_enter Tryz.func6, Tryz.ntmps6
      go_wp2
      first | go_ret | skip
      exact HR.out _ (Below.refl _ _)
  · have hsi : (1048576 : Int) < (s.size : Int) := by omega
    clear hs
    go_enter Tryz.func6, Tryz.ntmps6
    go_wp2
    first | go_ret | skip
    exact HR.out _ (Below.refl _ _)
end Go.Proofs.YtbglfendcpbjpaaGreatDoor
