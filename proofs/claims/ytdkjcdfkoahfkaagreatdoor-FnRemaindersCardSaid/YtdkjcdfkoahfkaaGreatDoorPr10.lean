/- Contracts of functions of the program and of the model: FloorR, FloorQ, LawFloor, ReadI, IsIntS, LawGcd, In, Small, SmallOf, RemOf, NumberOf, LawIsInteger, LawFnRemainders. -/
import Derived.Test.YtdkjcdfkoahfkaaGreatDoorPk9
import Derived.Test.YtdkjcdfkoahfkaaGreatDoorProg
import Derived.Lib.AppendIntMem
import Derived.Lib.LaidTab
import Derived.WalkSmall
set_option linter.all false
set_option linter.unusedVariables false
set_option linter.unusedSimpArgs false
set_option linter.unnecessarySimpa false
set_option linter.deprecated false
namespace Go.Proofs.YtdkjcdfkoahfkaaGreatDoor
open Go Go.RowKit

theorem floor_sgn (z : Int) (d : Nat) (hd : 0 < d) : (¬ z < 0 → sgn false (z.natAbs / d) = z / (d : Int)) ∧ (z < 0 → z.natAbs % d = 0 → sgn true (z.natAbs / d) = z / (d : Int)) ∧ (z < 0 → z.natAbs % d ≠ 0 → sgn true (z.natAbs / d + 1) = z / (d : Int)) := by
  refine ⟨fun h => ?_, fun h hr => ?_, fun h hr => ?_⟩
  · obtain ⟨n, rfl⟩ : ∃ n : Nat, z = (n : Int) := ⟨z.natAbs, by omega⟩
    rw [Int.natAbs_natCast]; rfl
  · obtain ⟨n, rfl⟩ : ∃ n : Nat, z = -(n : Int) := ⟨z.natAbs, by omega⟩
    rw [Int.natAbs_neg, Int.natAbs_natCast] at *
    rw [floor_neg n d hd, if_pos hr, Nat.add_zero]; rfl
  · obtain ⟨n, rfl⟩ : ∃ n : Nat, z = -(n : Int) := ⟨z.natAbs, by omega⟩
    rw [Int.natAbs_neg, Int.natAbs_natCast] at *
    rw [floor_neg n d hd, if_neg hr]; rfl

set_option maxRecDepth 100000 in
set_option maxHeartbeats 2000000 in
theorem rfloor_any (v : Value) (q : Rat) (w : World) (h : IsR w v q) (hla : (dig W64 q.num.natAbs).length ≤ 1000000) (hla2 : (dig W64 q.den).length ≤ 1000000) (R : Ending → World → Prop)
    (hR : ∀ v' w', IsI w' v' (q.num / (q.den : Int)) → Below w.heap.size w w' → R (.returned v') w') :
    Calls Tryz.prog 74 #[v] w R := by
  have HR := Lib.hid hR; clear hR
  obtain ⟨na, a1, n1, c1, a2, n2, c2, hna, rfl, hn1, hn2⟩ := h.parts
  obtain ⟨L, hL⟩ : ∃ L, L = (w.alloc (.cells #[.bool na, .slice a1 n1 c1, .slice a2 n2 c2] 85)).alloc (.cells #[.bool false, .slice none 0 0] 83) := ⟨_, rfl⟩
  have HEXT : Hid (Below w.heap.size w L) := Lib.hid (by rw [hL]; exact ((Below.refl w.heap.size w).alloc (Nat.le_refl _) _).alloc (by simp) _)
  have hLs : L.heap.size = w.heap.size + 2 := by rw [hL]; simp
  have hb1 : Below (w.heap.size + 1) (w.alloc (.cells #[.bool na, .slice a1 n1 c1, .slice a2 n2 c2] 85)) L := by rw [hL]; exact (Below.refl _ _).alloc (by simp) _
  have B0 : Box3 L w.heap.size (.bool na) (.slice a1 n1 c1) (.slice a2 n2 c2) 85 := (Box3.made w _ _ _ _).later hb1 (by omega)
  have B1 : Box2 L (w.heap.size + 1) (.bool false) (.slice none 0 0) 83 := by
    have := Box2.made (w.alloc (.cells #[.bool na, .slice a1 n1 c1, .slice a2 n2 c2] 85)) (.bool false) (.slice none 0 0) 83
    rw [World.size_alloc, ← hL] at this; exact this
  have HK : Hid (w.heap.size + 1 < L.heap.size) := Lib.hid (by omega)
  have HL := Lib.hid hL
  have HB0 := Lib.hid B0
  have HB1 := Lib.hid B1
  have X1 := Lib.hid (hn1.later HEXT.out (Nat.le_refl _))
  have X2 := Lib.hid (hn2.later HEXT.out (Nat.le_refl _))
  have HLN := Lib.hid (And.intro hla hla2)
  have HFL := Lib.hid (floor_sgn q.num q.den q.den_pos)
  have HNA := Lib.hid hna
  obtain ⟨⟨hA, hB, hC⟩, _, _, _⟩ := B0.cells
  rw [hL] at hA hB hC
  clear hna h hn1 hn2 hla hla2 hb1 B0 B1 hL hLs
  go_enter Tryz.func74, Tryz.ntmps74
  go_wp2_with fail
  rw [← HL.out]
  refine divide_any _ _ q.num.natAbs q.den _ X1.out X2.out (Nat.le_trans HLN.out.1 (by omega)) (Nat.le_trans HLN.out.2 (by omega)) q.den_nz _ ?_
  intro v1 v2 w1 hv1 hv2 hb1
  obtain ⟨a3, n3, c3, rfl, hv1'⟩ := hv1.op
  obtain ⟨a4, n4, c4, rfl, hv2'⟩ := hv2.op
  have HV1 := Lib.hid hv1'
  have HV2 := Lib.hid hv2'
  have HT1 := Lib.hid hb1
  have k1 := HB0.out.later hb1 (by have := HK.out; omega)
  clear hv1 hv2 hv1' hv2' hb1 hA hB hC
  obtain ⟨⟨hA, hB, hC⟩, _, _, _⟩ := k1.cells
  clear k1
  cases na with
  | false =>
    have HSG : Hid (sgn false (q.num.natAbs / q.den) = q.num / (q.den : Int)) := Lib.hid (HFL.out.1 (by have := of_decide_eq_false HNA.out.symm; omega))
    dsimp only
    go_wp2_with fail
    refine integerOf_z false _ (q.num.natAbs / q.den) _ HV1.out _ ?_
    intro v5 w5 hv5 hb5
    rw [HSG.out] at hv5
    obtain ⟨m5, a5, n5, c5, hm5, rfl, hn5⟩ := hv5.parts
    have HM5 := Lib.hid hm5
    have HN5 := Lib.hid hn5
    have HT5 := Lib.hid (HT1.out.trans (hb5.mono HT1.out.size))
    have d5 := HB1.out.later HT5.out HK.out
    clear hv5 hb5 hm5 hn5 hA hB hC
    obtain ⟨hR0, hR1, hF0, hF1⟩ := d5.cells
    have HD5 := Lib.hid d5
    clear d5
    dsimp only
    go_wp2
    refine bodyPost_ret_at (by simp [results, Tryz.results74, go_sem, hR0, hR1, hF0, hF1] <;> rfl) rfl ?_
    exact HR.out _ _ (IsI.mk HM5.out (HN5.out.set2 (HD5.out.noInt rfl rfl) _ _ rfl)) (((HEXT.out.trans (HT5.out.mono HEXT.out.size)).setCell (show w.heap.size ≤ w.heap.size + 1 by omega) _).setCell (show w.heap.size ≤ w.heap.size + 1 by omega) _)
  | true =>
    have HNEG : Hid (q.num < 0) := Lib.hid (of_decide_eq_true HNA.out.symm)
    dsimp only
    go_wp2_with fail
    refine nzero_any _ (q.num.natAbs % q.den) _ HV2.out _ ?_
    by_cases h0 : q.num.natAbs % q.den = 0
    · have hd : decide (q.num.natAbs % q.den = 0) = true := decide_eq_true h0
      have HSG : Hid (sgn true (q.num.natAbs / q.den) = q.num / (q.den : Int)) := Lib.hid (HFL.out.2.1 HNEG.out h0)
      rw [hd]
      clear hd h0
      dsimp only
      go_wp2_with fail
      refine integerOf_z true _ (q.num.natAbs / q.den) _ HV1.out _ ?_
      intro v5 w5 hv5 hb5
      rw [HSG.out] at hv5
      obtain ⟨m5, a5, n5, c5, hm5, rfl, hn5⟩ := hv5.parts
      have HM5 := Lib.hid hm5
      have HN5 := Lib.hid hn5
      have HT5 := Lib.hid (HT1.out.trans (hb5.mono HT1.out.size))
      have d5 := HB1.out.later HT5.out HK.out
      clear hv5 hb5 hm5 hn5 hA hB hC
      obtain ⟨hR0, hR1, hF0, hF1⟩ := d5.cells
      have HD5 := Lib.hid d5
      clear d5
      dsimp only
      go_wp2
      refine bodyPost_ret_at (by simp [results, Tryz.results74, go_sem, hR0, hR1, hF0, hF1] <;> rfl) rfl ?_
      exact HR.out _ _ (IsI.mk HM5.out (HN5.out.set2 (HD5.out.noInt rfl rfl) _ _ rfl)) (((HEXT.out.trans (HT5.out.mono HEXT.out.size)).setCell (show w.heap.size ≤ w.heap.size + 1 by omega) _).setCell (show w.heap.size ≤ w.heap.size + 1 by omega) _)
    · have hd : decide (q.num.natAbs % q.den = 0) = false := decide_eq_false h0
      have HSG : Hid (sgn true (q.num.natAbs / q.den + 1) = q.num / (q.den : Int)) := Lib.hid (HFL.out.2.2 HNEG.out h0)
      rw [hd]
      clear hd h0
      obtain ⟨L2, hL2⟩ : ∃ L2, L2 = w1.alloc (.cells #[.int .u64 1] 99) := ⟨_, rfl⟩
      have HL2 := Lib.hid hL2
      have HONE : Hid (IsN L2 (.slice (some ⟨w1.heap.size, 0, none⟩) 1 1) 1) := Lib.hid (by rw [hL2]; exact IsN.one w1 w1.heap.size (Nat.le_refl _))
      have hw2 : Below w1.heap.size w1 L2 := by rw [hL2]; exact (Below.refl _ _).alloc (Nat.le_refl _) _
      have HV1' := Lib.hid (HV1.out.later hw2 (Nat.le_refl _))
      have HT2 := Lib.hid (HT1.out.trans (hw2.mono HT1.out.size))
      have HLQ : Hid ((dig W64 (q.num.natAbs / q.den)).length ≤ 1000000) := Lib.hid (Nat.le_trans (dig_mono W64_two (Nat.div_le_self _ _)) HLN.out.1)
      clear hL2 hw2
      dsimp only
      go_wp2_with fail
      rw [← HL2.out]
      refine nplus_any _ _ (q.num.natAbs / q.den) 1 _ HV1'.out HONE.out (Nat.le_trans HLQ.out (by omega)) (Nat.le_trans (dig_length_le W64_two 1 1 (by rw [W64_eq]; omega)) (by omega)) _ ?_
      intro v3 w3 hv3 hb3
      obtain ⟨a6, n6, c6, rfl, hv3'⟩ := hv3.op
      have HV3 := Lib.hid hv3'
      have HT3 := Lib.hid (HT2.out.trans (hb3.mono HT2.out.size))
      have k3 := HB0.out.later HT3.out (by have := HK.out; omega)
      clear hv3 hv3' hb3 hA hB hC
      obtain ⟨⟨hA, hB, hC⟩, _, _, _⟩ := k3.cells
      clear k3
      dsimp only
      go_wp2_with fail
      refine integerOf_z true _ (q.num.natAbs / q.den + 1) _ HV3.out _ ?_
      intro v5 w5 hv5 hb5
      rw [HSG.out] at hv5
      obtain ⟨m5, a5, n5, c5, hm5, rfl, hn5⟩ := hv5.parts
      have HM5 := Lib.hid hm5
      have HN5 := Lib.hid hn5
      have HT5 := Lib.hid (HT3.out.trans (hb5.mono HT3.out.size))
      have d5 := HB1.out.later HT5.out HK.out
      clear hv5 hb5 hm5 hn5 hA hB hC
      obtain ⟨hR0, hR1, hF0, hF1⟩ := d5.cells
      have HD5 := Lib.hid d5
      clear d5
      dsimp only
      go_wp2
      refine bodyPost_ret_at (by simp [results, Tryz.results74, go_sem, hR0, hR1, hF0, hF1] <;> rfl) rfl ?_
      exact HR.out _ _ (IsI.mk HM5.out (HN5.out.set2 (HD5.out.noInt rfl rfl) _ _ rfl)) (((HEXT.out.trans (HT5.out.mono HEXT.out.size)).setCell (show w.heap.size ≤ w.heap.size + 1 by omega) _).setCell (show w.heap.size ≤ w.heap.size + 1 by omega) _)
end Go.Proofs.YtdkjcdfkoahfkaaGreatDoor

namespace Go.Proofs.YtdkjcdfkoahfkaaGreatDoor
open Go Go.RowKit

theorem int_q (z : Int) : ((z : Rat)).num = z ∧ ((z : Rat)).den = 1 := ⟨rfl, rfl⟩

theorem floor_end (w L wC : World) (g : Nat) (z : Int) (bn : Bool) (a1 : Option Addr) (n1 c1 : Nat) (a2 : Option Addr) (n2 c2 : Nat)
    (d2 : Box4 wC (g + 1) (.bool false) (.slice none 0 0) (.bool false) (.slice none 0 0) 75)
    (hz : IsZ L (.agg #[.bool bn, .slice a1 n1 c1]) z) (hd : Sl .i64 wC (.slice a2 n2 c2) (dig 10000 1)) (hb : Below g w L) (hbC : Below L.drew.heap.size L.drew wC) (hgW : g ≤ L.heap.size) :
    QBox g w (g + 1) (z : Rat) ((((wC.setCell ⟨g + 1, 0, none⟩ (.bool bn)).setCell ⟨g + 1, 1, none⟩ (.slice a1 n1 c1)).setCell ⟨g + 1, 2, none⟩ (.bool false)).setCell ⟨g + 1, 3, none⟩ (.slice a2 n2 c2)) := by
  have hn := d2.noInt rfl rfl rfl rfl
  obtain ⟨s1, e1, h1⟩ := hz.drew.later hbC (Nat.le_refl _)
  simp at e1
  obtain ⟨e1, rfl⟩ := e1
  refine ⟨_, _, _, d2.set4 _ _ _ _, ?_, ?_, ?_, ((((hb.trans ((below_ofDrew hbC).mono hgW)).setCell (by simp <;> omega) _).setCell (by simp <;> omega) _).setCell (by simp <;> omega) _).setCell (by simp <;> omega) _⟩
  · rw [e1]; exact decide_eq_decide.2 Iff.rfl
  · exact h1.set4 hn _ _ _ _ rfl rfl rfl
  · exact hd.set4 hn _ _ _ _ rfl rfl rfl


theorem floor_pos (n : Int) (d : Nat) (h : ¬ n < 0) : ((n.natAbs / d : Nat) : Int) = n / (d : Int) := by
  obtain ⟨k, rfl⟩ := Int.eq_ofNat_of_zero_le (by omega : 0 ≤ n)
  simp
theorem floor_neg0 (n : Int) (d : Nat) (h : n < 0) (hd : 0 < d) (hm : n.natAbs % d = 0) : -((n.natAbs / d : Nat) : Int) = n / (d : Int) := by
  obtain ⟨k, rfl⟩ : ∃ k : Nat, n = -(k : Int) := ⟨n.natAbs, by omega⟩
  rw [Int.natAbs_neg, Int.natAbs_natCast] at *
  obtain ⟨j, rfl⟩ := Nat.dvd_of_mod_eq_zero hm
  rw [Nat.mul_div_cancel_left _ hd, Int.natCast_mul, ← Int.mul_neg, Int.mul_ediv_cancel_left _ (by omega)]
theorem floor_neg1 (n : Int) (d : Nat) (h : n < 0) (hd : 0 < d) (hm : n.natAbs % d ≠ 0) : -((n.natAbs / d : Nat) : Int) + -1 = n / (d : Int) := by
  obtain ⟨k, rfl⟩ : ∃ k : Nat, n = -(k : Int) := ⟨n.natAbs, by omega⟩
  rw [Int.natAbs_neg, Int.natAbs_natCast] at *
  have h1 := Nat.div_add_mod k d
  have h2 := Nat.mod_lt k hd
  symm
  apply (Int.ediv_eq_iff_of_pos (by omega)).2
  have h3 : (k : Int) = (d : Int) * ((k / d : Nat) : Int) + ((k % d : Nat) : Int) := by rw [← Int.natCast_mul, ← Int.natCast_add, h1]
  constructor
  · rw [Int.mul_comm, Int.mul_add, Int.mul_neg]; omega
  · rw [Int.add_mul, Int.neg_mul, Int.mul_comm _ (d : Int)]; omega

end Go.Proofs.YtdkjcdfkoahfkaaGreatDoor

namespace Go.Proofs.YtdkjcdfkoahfkaaGreatDoor
open Go Go.RowKit

/-- the floor of the number that a text is -/
noncomputable def floO (s : List UInt8) : Option Rat := match numO s with
  | some a => some ((a.num / (a.den : Int) : Int) : Rat)
  | none => none
theorem floO_some {s : List UInt8} {a : Rat} (ha : numO s = some a) : floO s = some ((a.num / (a.den : Int) : Int) : Rat) := by unfold floO; rw [ha]
theorem floO_none {s : List UInt8} (h : numO s = none) : floO s = none := by unfold floO; rw [h]

set_option maxRecDepth 100000 in
set_option maxHeartbeats 2000000 in
theorem impl_floorOf (s : ByteArray) (w : World) (hE : Env w) (htab : Lib.TabIs Tryz.prog w "internal/strconv.uint64pow10" .u64 Lib.pow10Tab) (R : Ending → World → Prop)
    (hR : ∀ w', Below w.heap.size w w' → R (.returned (.tuple #[.string (outS (floO s.data.toList)), .bool (outB (floO s.data.toList))])) w') :
    Calls Tryz.prog 20 #[.string s] w R := by
  have HR := Lib.hid hR; clear hR
  have HE := Lib.hid hE; clear hE
  have HTAB := Lib.hid htab; clear htab
  go_enter Tryz.func20, Tryz.ntmps20
  go_wp2_with fail
  refine readq_any s _ HE.out _ ?_ ?_
  · intro va a w1 ha hva hb1
    rw [floO_some ha] at HR
    obtain ⟨na, a1, n1, c1, a2, n2, c2, hna, rfl, hn1, hn2⟩ := hva.parts
    obtain ⟨L, hL⟩ : ∃ L, L = w1.alloc (.cells #[.bool na, .slice a1 n1 c1, .slice a2 n2 c2] 85) := ⟨_, rfl⟩
    have B0 : Box3 L w1.heap.size (.bool na) (.slice a1 n1 c1) (.slice a2 n2 c2) 85 := by rw [hL]; exact Box3.made w1 _ _ _ _
    have hw1 : Below w1.heap.size w1 L := by rw [hL]; exact (Below.refl w1.heap.size w1).alloc (Nat.le_refl _) _
    have HL := Lib.hid hL
    have HA := Lib.hid (hva.later hw1 (Nat.le_refl _))
    have HEX := Lib.hid (hb1.trans (hw1.mono hb1.size))
    have HLA := Lib.hid (few_len (numO_few ha) (B := W64) (by rw [W64_eq]; omega))
    obtain ⟨⟨hA, hB, hC⟩, _, _, _⟩ := B0.cells
    rw [hL] at hA hB hC
    clear ha hva hb1 hna hn1 hn2 hL B0 hw1
    dsimp only
    go_wp2_with fail
    rw [← HL.out]
    refine rfloor_any _ a _ HA.out (Nat.le_trans HLA.out.1 (by omega)) (Nat.le_trans HLA.out.2 (by omega)) _ ?_
    intro vi w2 hi hb2
    obtain ⟨z, hz⟩ : ∃ z : Int, z = a.num / (a.den : Int) := ⟨_, rfl⟩
    rw [← hz] at HR hi
    obtain ⟨m2, a3, n3, c3, hm2, rfl, hn3⟩ := hi.parts
    have HI := Lib.hid (IsI.mk hm2 hn3)
    have HB2 := Lib.hid (HEX.out.trans (hb2.mono HEX.out.size))
    clear hi hb2 hm2 hn3 hz hA hB hC
    dsimp only
    go_wp2_with fail
    refine ratioOf_any _ z _ HI.out _ ?_
    intro vr w3 hr hb3
    obtain ⟨q, hq⟩ : ∃ q : Rat, q = (z : Rat) := ⟨_, rfl⟩
    rw [← hq] at HR hr
    obtain ⟨nr, a5, n5, c5, a6, n6, c6, hnr, rfl, _, _⟩ := hr.parts
    have HR3 := Lib.hid hr
    have HB3 := Lib.hid (HB2.out.trans (hb3.mono HB2.out.size))
    clear hr hb3 hnr hq
    dsimp only
    go_wp2_with fail
    refine rtext_o _ q _ HR3.out (tab_later HTAB.out HB3.out (Nat.le_refl _)) _ ?_
    intro w9 hb9
    have HB9 := Lib.hid (HB3.out.trans (hb9.mono HB3.out.size))
    obtain ⟨S, hS⟩ : ∃ S, S = outS (some q) := ⟨_, rfl⟩
    obtain ⟨B, hB⟩ : ∃ B, B = outB (some q) := ⟨_, rfl⟩
    rw [← hS, ← hB] at HR ⊢
    clear hS hB hb9
    dsimp only
    go_wp2
    first | go_ret | skip
    exact HR.out _ HB9.out
  · intro e w1 hn he hb1
    rw [floO_none hn] at HR
    obtain ⟨t', p, rfl⟩ := he
    have HB := Lib.hid hb1
    clear hb1 hn
    unfold zeroR
    dsimp only
    go_wp2
    first | go_ret | skip
    exact HR.out _ (HB.out.alloc HB.out.size _)

end Go.Proofs.YtdkjcdfkoahfkaaGreatDoor

namespace Go.Proofs.YtdkjcdfkoahfkaaGreatDoor
open Go Go.RowKit

set_option maxRecDepth 100000 in
set_option maxHeartbeats 2000000 in
theorem readi_any (s : ByteArray) (w : World) (hE : Env w) (R : Ending → World → Prop)
    (hR : ∀ v q w', numO s.data.toList = some q → q.den = 1 → IsI w' v q.num → Below w.heap.size w w' → R (.returned (.tuple #[v, .nilIface])) w')
    (hR2 : ∀ e w', (∀ q, numO s.data.toList = some q → q.den ≠ 1) → ErrV e → Below w.heap.size w w' → R (.returned (.tuple #[zeroI, e])) w') :
    Calls Tryz.prog 77 #[.string s] w R := by
  have HR := Lib.hid hR; clear hR
  have HR2 := Lib.hid hR2; clear hR2
  have hne1 : ¬ 1 = w.heap.size := by
    obtain ⟨⟨pf, hpf⟩, _, _⟩ := hE
    exact Nat.ne_of_lt (lt_of_cell hpf)
  have hne2 : ¬ w.heap.size = 1 := fun h => hne1 h.symm
  have HE := Lib.hid hE; clear hE
  obtain ⟨L, hL⟩ : ∃ L, L = w.alloc (.cells #[.bool false, .slice none 0 0] 83) := ⟨_, rfl⟩
  have hbL : Below w.heap.size w L := by rw [hL]; exact (Below.refl _ _).alloc (Nat.le_refl _) _
  have hLs : L.heap.size = w.heap.size + 1 := by rw [hL]; simp
  have HL := Lib.hid hL
  have HBL := Lib.hid hbL
  have HLS := Lib.hid hLs
  have HBX : Hid (Box2 L w.heap.size (.bool false) (.slice none 0 0) 83) := Lib.hid (by rw [hL]; exact Box2.made _ _ _ _)
  clear hL hbL hLs
  go_enter Tryz.func77, Tryz.ntmps77
  go_wp2_with fail
  rw [← HL.out]
  refine readq_any s L (HE.out.later HBL.out (Nat.le_refl _)) _ ?_ ?_
  · intro v q w1 hq hv hb1
    obtain ⟨s1, s2, rfl, hn1, hn2⟩ := hv
    obtain ⟨a1, n1, c1, rfl, hn1'⟩ := hn1.op
    obtain ⟨a2, n2, c2, rfl, hn2'⟩ := hn2.op
    obtain ⟨ng, hng⟩ : ∃ ng, ng = decide (q.num < 0) := ⟨_, rfl⟩
    rw [← hng]
    obtain ⟨W, hW⟩ : ∃ W, W = w1.alloc (.cells #[.bool ng, .slice a1 n1 c1, .slice a2 n2 c2] 85) := ⟨_, rfl⟩
    have hbW : Below w1.heap.size w1 W := by rw [hW]; exact (Below.refl _ _).alloc (Nat.le_refl _) _
    have HX3 : Hid (Box3 W w1.heap.size (.bool ng) (.slice a1 n1 c1) (.slice a2 n2 c2) 85) := Lib.hid (by rw [hW]; exact Box3.made _ _ _ _ _)
    have HN1 := Lib.hid (hn1'.later hbW (Nat.le_refl _))
    have HN2 := Lib.hid (hn2'.later hbW (Nat.le_refl _))
    have hB1 := HBL.out.trans (hb1.mono (by have := HLS.out; omega))
    have HB := Lib.hid (hB1.trans (hbW.mono hB1.size))
    have hX1 := HBX.out.later hb1 (by have := HLS.out; omega)
    have HX2 := Lib.hid (hX1.later hbW (lt_of_block hX1))
    have HQ := Lib.hid hq
    have HNG := Lib.hid hng
    have HW := Lib.hid hW
    obtain ⟨hR0, hR1, hF0, hF1⟩ := Box2.cells HX2.out
    obtain ⟨⟨hP0, hP1, hP2⟩, _, _, _⟩ := Box3.cells HX3.out
    obtain ⟨⟨pf, hpf⟩, _, _⟩ := HE.out.later HB.out (Nat.le_refl _)
    clear hb1 hB1 hX1 hbW hq hng hn1 hn2 hn1' hn2' hW
    dsimp only
    go_wp2_with fail
    rw [← HW.out]
    refine none_any _ _ _ HN2.out _ ?_
    by_cases h1 : q.den = 1
    · rw [decide_eq_true h1]
      have H1 := Lib.hid h1
      clear h1
      dsimp only
      go_wp2
      refine bodyPost_ret_at (by simp [results, Tryz.results77, go_sem, hR0, hR1, hF0, hF1] <;> rfl) rfl ?_
      refine HR.out _ q _ HQ.out H1.out ⟨_, ?_, HN1.out.set2 (HX2.out.noInt rfl rfl) _ _ rfl⟩ (below_set2 HB.out (Nat.le_refl _) _ _)
      rw [HNG.out]
    · rw [decide_eq_false h1]
      have HW2 := Lib.hid (show ∀ q, numO s.data.toList = some q → q.den ≠ 1 from fun q' hq' => by
        rw [HQ.out] at hq'; obtain rfl := Option.some.inj hq'; exact h1)
      clear h1
      dsimp only
      go_wp2
      go_region
      all_goals
        go_wp2
        refine bodyPost_ret_at (by simp [results, Tryz.results77, go_sem, hR0, hR1, hF0, hF1] <;> rfl) rfl ?_
        first | exact HR2.out _ _ HW2.out ⟨_, _, rfl⟩ (below_set2 HB.out (Nat.le_refl _) _ _).drew | exact HR2.out _ _ HW2.out ⟨_, _, rfl⟩ (below_set2 HB.out (Nat.le_refl _) _ _)
  · intro e w1 hn he hb1
    obtain ⟨t, p, rfl⟩ := he
    obtain ⟨W, hW⟩ : ∃ W, W = w1.alloc (.cells #[.bool false, .slice none 0 0, .slice none 0 0] 85) := ⟨_, rfl⟩
    have hbW : Below w1.heap.size w1 W := by rw [hW]; exact (Below.refl _ _).alloc (Nat.le_refl _) _
    have hB1 := HBL.out.trans (hb1.mono (by have := HLS.out; omega))
    have HB := Lib.hid (hB1.trans (hbW.mono hB1.size))
    have hX1 := HBX.out.later hb1 (by have := HLS.out; omega)
    have HX2 := Lib.hid (hX1.later hbW (lt_of_block hX1))
    have HW := Lib.hid hW
    obtain ⟨hR0, hR1, hF0, hF1⟩ := Box2.cells HX2.out
    have HW2 := Lib.hid (show ∀ q, numO s.data.toList = some q → q.den ≠ 1 from fun q' hq' => by rw [hn] at hq'; cases hq')
    clear hb1 hB1 hX1 hbW hn hW
    unfold zeroR
    dsimp only
    rw [HW.out] at hR0 hR1 hF0 hF1
    go_wp2
    try rw [← HW.out] at hR0 hR1 hF0 hF1 ⊢
    refine bodyPost_ret_at (by simp [results, Tryz.results77, go_sem, hR0, hR1, hF0, hF1] <;> rfl) rfl ?_
    exact HR2.out _ _ HW2.out ⟨_, _, rfl⟩ (below_set2 HB.out (Nat.le_refl _) _ _)
end Go.Proofs.YtdkjcdfkoahfkaaGreatDoor

namespace Go.Proofs.YtdkjcdfkoahfkaaGreatDoor
open Go Go.RowKit

end Go.Proofs.YtdkjcdfkoahfkaaGreatDoor

namespace Go.Proofs.YtdkjcdfkoahfkaaGreatDoor
open Go Go.RowKit

/-- the integer that a text is -/
noncomputable def intO (L : List UInt8) : Option Int := match numO L with
  | some q => if q.den = 1 then some q.num else none
  | none => none
theorem intO_some {L : List UInt8} {q : Rat} (h : numO L = some q) (h1 : q.den = 1) : intO L = some q.num := by
  unfold intO; rw [h]; simp [h1]
theorem intO_none {L : List UInt8} (h : ∀ q, numO L = some q → q.den ≠ 1) : intO L = none := by
  unfold intO
  cases hn : numO L with
  | none => rfl
  | some q => simp [h q hn]
/-- the common divisor of the integers that two texts are -/
noncomputable def gcdO (s t : List UInt8) : Option Rat := match intO s, intO t with
  | some a, some b => some (((Nat.gcd a.natAbs b.natAbs : Nat) : Int) : Rat)
  | _, _ => none

set_option maxRecDepth 100000 in
set_option maxHeartbeats 2000000 in
theorem impl_gcdOf (s t : ByteArray) (w : World) (hE : Env w) (htab : Lib.TabIs Tryz.prog w "internal/strconv.uint64pow10" .u64 Lib.pow10Tab) (R : Ending → World → Prop)
    (hR : ∀ w', Below w.heap.size w w' → R (.returned (.tuple #[.string (outS (gcdO s.data.toList t.data.toList)), .bool (outB (gcdO s.data.toList t.data.toList))])) w') :
    Calls Tryz.prog 26 #[.string s, .string t] w R := by
  have HR := Lib.hid hR; clear hR
  have HE := Lib.hid hE; clear hE
  have HTAB := Lib.hid htab; clear htab
  go_enter Tryz.func26, Tryz.ntmps26
  go_wp2_with fail
  refine readi_any s _ HE.out _ ?_ ?_
  · intro v a w1 ha hda hv hb1
    obtain ⟨sa, rfl, hna⟩ := hv
    obtain ⟨a1, n1, c1, rfl, hna'⟩ := hna.op
    obtain ⟨ng, hng⟩ : ∃ ng, ng = decide (a.num < 0) := ⟨_, rfl⟩
    rw [← hng]
    obtain ⟨L1, hL1⟩ : ∃ L, L = w1.alloc (.cells #[.bool ng, .slice a1 n1 c1] 83) := ⟨_, rfl⟩
    have HL1 := Lib.hid hL1
    have HB1 : Hid (Below w.heap.size w L1) := Lib.hid (by rw [hL1]; exact hb1.alloc hb1.size _)
    have HW1 : Hid (Below w1.heap.size w1 L1) := Lib.hid (by rw [hL1]; exact (Below.refl _ _).alloc (Nat.le_refl _) _)
    have B1 : Hid (Box2 L1 w1.heap.size (.bool ng) (.slice a1 n1 c1) 83) := Lib.hid (by rw [hL1]; exact Box2.made w1 _ _ _)
    have HLT1 : Hid (w1.heap.size < L1.heap.size) := Lib.hid (by rw [hL1]; simp)
    have HN1 := Lib.hid (hna'.later HW1.out (Nat.le_refl _))
    have HA := Lib.hid (intO_some ha hda)
    have HFA := Lib.hid (numO_few ha)
    clear hng hL1 hb1 hna hna' ha hda
    dsimp only
    go_wp2_with fail
    rw [← HL1.out]
    refine readi_any t _ (HE.out.later HB1.out (Nat.le_refl _)) _ ?_ ?_
    · intro v2 b w2 hb hdb hv2 hb2
      obtain ⟨sb, rfl, hnb⟩ := hv2
      obtain ⟨a2, n2, c2, rfl, hnb'⟩ := hnb.op
      obtain ⟨mg, hmg⟩ : ∃ mg, mg = decide (b.num < 0) := ⟨_, rfl⟩
      rw [← hmg]
      obtain ⟨L2, hL2⟩ : ∃ L, L = w2.alloc (.cells #[.bool mg, .slice a2 n2 c2] 83) := ⟨_, rfl⟩
      have HL2 := Lib.hid hL2
      have HW2 : Hid (Below L1.heap.size L1 L2) := Lib.hid (by rw [hL2]; exact hb2.alloc hb2.size _)
      have HB2 := Lib.hid (HB1.out.trans (HW2.out.mono HB1.out.size))
      have hw2 : Below w2.heap.size w2 L2 := by rw [hL2]; exact (Below.refl _ _).alloc (Nat.le_refl _) _
      have HN1' := Lib.hid (HN1.out.later HW2.out (Nat.le_refl _))
      have HN2 := Lib.hid (hnb'.later hw2 (Nat.le_refl _))
      have k1 := B1.out.later HW2.out HLT1.out
      have k2 : Box2 L2 w2.heap.size (.bool mg) (.slice a2 n2 c2) 83 := by rw [hL2]; exact Box2.made w2 _ _ _
      obtain ⟨hA, hB, _, _⟩ := k1.cells
      obtain ⟨hC, hD, _, _⟩ := k2.cells
      rw [hL2] at hA hB hC hD
      have HG : Hid (gcdO s.data.toList t.data.toList = some (((Nat.gcd a.num.natAbs b.num.natAbs : Nat) : Int) : Rat)) := Lib.hid (by unfold gcdO; rw [HA.out, intO_some hb hdb])
      have HFB := Lib.hid (numO_few hb)
      rw [HG.out] at HR
      have hl1 : (dig W64 a.num.natAbs).length ≤ 60 := (few_len HFA.out (by rw [W64_eq]; omega)).1
      have hl2 : (dig W64 b.num.natAbs).length ≤ 60 := (few_len HFB.out (by rw [W64_eq]; omega)).1
      have HLL := Lib.hid (And.intro hl1 hl2)
      clear hmg hL2 hb2 hnb hnb' hb hdb hw2 k1 k2 hl1 hl2
      dsimp only
      go_wp2_with fail
      rw [← HL2.out]
      refine gcdn_any _ _ a.num.natAbs b.num.natAbs _ HN1'.out HN2.out (by have := HLL.out.1; omega) (by have := HLL.out.2; omega) _ ?_
      obtain ⟨g, hg0⟩ : ∃ g, g = Nat.gcd a.num.natAbs b.num.natAbs := ⟨_, rfl⟩
      rw [← hg0] at HR ⊢
      intro vg w3 hg hb3
      obtain ⟨a3, n3, c3, rfl, hg'⟩ := hg.op
      have HG3 := Lib.hid hg'
      have HB3 := Lib.hid (HB2.out.trans (hb3.mono HB2.out.size))
      clear hg hg' hb3 hA hB hC hD hg0
      dsimp only
      go_wp2_with fail
      refine integerOf_z false _ g _ HG3.out _ ?_
      intro vi w4 hi hb4
      rw [show sgn false g = (g : Int) from rfl] at hi
      obtain ⟨si, rfl, hsi⟩ := hi
      obtain ⟨a4, n4, c4, rfl, hsi'⟩ := hsi.op
      obtain ⟨kg, hkg⟩ : ∃ kg, kg = decide (((g : Nat) : Int) < 0) := ⟨_, rfl⟩
      rw [← hkg]
      have HI4 : Hid (IsI w4 (.agg #[.bool kg, .slice a4 n4 c4]) ((g : Nat) : Int)) := Lib.hid ⟨_, by rw [hkg], hsi'⟩
      have HB4 := Lib.hid (HB3.out.trans (hb4.mono HB3.out.size))
      clear hsi hsi' hb4 hkg
      dsimp only
      go_wp2_with fail
      refine ratioOf_any _ ((g : Nat) : Int) _ HI4.out _ ?_
      intro vr w5 hr hb5
      obtain ⟨q, hq⟩ : ∃ q : Rat, q = (((g : Nat) : Int) : Rat) := ⟨_, rfl⟩
      rw [← hq] at HR hr
      obtain ⟨nr, a5, n5, c5, a6, n6, c6, hnr, rfl, _, _⟩ := hr.parts
      have HR5 := Lib.hid hr
      have HB5 := Lib.hid (HB4.out.trans (hb5.mono HB4.out.size))
      clear hr hb5 hnr hq
      dsimp only
      go_wp2_with fail
      refine rtext_o _ q _ HR5.out (tab_later HTAB.out HB5.out (Nat.le_refl _)) _ ?_
      intro w6 hb6
      have HB6 := Lib.hid (HB5.out.trans (hb6.mono HB5.out.size))
      obtain ⟨S, hS⟩ : ∃ S, S = outS (some q) := ⟨_, rfl⟩
      obtain ⟨B, hB⟩ : ∃ B, B = outB (some q) := ⟨_, rfl⟩
      rw [← hS, ← hB] at HR ⊢
      clear hS hB hb6
      dsimp only
      go_wp2
      first | go_ret | skip
      exact HR.out _ HB6.out
    · intro e w2 hn he hb2
      rw [show gcdO s.data.toList t.data.toList = none by unfold gcdO; rw [intO_none (L := t.data.toList) hn]; cases intO s.data.toList <;> rfl] at HR
      obtain ⟨t', p, rfl⟩ := he
      have HB2 := Lib.hid (HB1.out.trans (hb2.mono HB1.out.size))
      clear hb2 hn
      unfold zeroI
      dsimp only
      go_wp2
      first | go_ret | skip
      exact HR.out _ (HB2.out.alloc HB2.out.size _)
  · intro e w1 hn he hb
    rw [show gcdO s.data.toList t.data.toList = none by unfold gcdO; rw [intO_none hn]] at HR
    obtain ⟨t', p, rfl⟩ := he
    have HB := Lib.hid hb
    clear hb hn
    unfold zeroI
    dsimp only
    go_wp2
    first | go_ret | skip
    exact HR.out _ (HB.out.alloc HB.out.size _)

theorem field_n (x0 x1 x2 x3 : Value) (W : World) : (Instr.field 75 (.agg #[x0, x1, x2, x3]) 0).run Tryz.prog W = .ok (.agg #[x0, x1]) W := by kernel_rfl

theorem IsQ.ofZ {w : World} {b1 b2 : Bool} {a1 a2 : Option Addr} {n1 c1 n2 c2 : Nat} {z : Int} (h1 : IsZ w (.agg #[.bool b1, .slice a1 n1 c1]) z) (h2 : IsZ w (.agg #[.bool b2, .slice a2 n2 c2]) 1) :
    IsQ w (.agg #[.bool b1, .slice a1 n1 c1, .bool b2, .slice a2 n2 c2]) (z : Rat) := by
  obtain ⟨s1, e1, k1⟩ := h1
  obtain ⟨s2, e2, k2⟩ := h2
  have f1 : b1 = decide (z < 0) ∧ Value.slice a1 n1 c1 = s1 := by simpa using e1
  have f2 : b2 = false ∧ Value.slice a2 n2 c2 = s2 := by simpa using e2
  refine ⟨s1, s2, ?_, ?_, ?_⟩
  · rw [f1.1, f1.2, f2.1, f2.2, Rat.num_intCast]
  · rw [Rat.num_intCast]; exact k1
  · rw [Rat.den_intCast]; exact k2

theorem dig_gcd {B a b : Nat} (hB : 2 ≤ B) (h1 : (dig B a).length ≤ 60) (h2 : (dig B b).length ≤ 60) : (dig B (Nat.gcd a b)).length ≤ 60 := by
  by_cases h0 : a = 0
  · subst h0; rw [Nat.gcd_zero_left]; exact h2
  · refine dig_length_le hB 60 _ ?_
    have h3 := Nat.lt_of_lt_of_le (lt_pow_dig hB a) (Nat.pow_le_pow_right (by omega) h1)
    exact Nat.lt_of_le_of_lt (Nat.gcd_le_left b (by omega)) h3

end Go.Proofs.YtdkjcdfkoahfkaaGreatDoor

namespace Go.Proofs.YtdkjcdfkoahfkaaGreatDoor
open Go Go.RowKit

set_option maxRecDepth 100000 in
theorem in_any (n low high : Int) (w : World) (R : Ending → World → Prop) (hR : R (.returned (.bool (decide (low ≤ n ∧ n ≤ high)))) w) :
    Calls Tryz.prog 161 #[.int .i64 n, .int .i64 low, .int .i64 high] w R := by
  have HR := Lib.hid hR; clear hR
  by_cases h1 : low ≤ n
  · by_cases h2 : n ≤ high
    · rw [decide_eq_true ⟨h1, h2⟩] at HR
      go_enter Tryz.func161, Tryz.ntmps161
      go_wp2
      first | go_ret | skip
      exact HR.out
    · rw [decide_eq_false (fun h => h2 h.2)] at HR
      go_enter Tryz.func161, Tryz.ntmps161
      go_wp2
      first | go_ret | skip
      exact HR.out
  · rw [decide_eq_false (fun h => h1 h.1)] at HR
    go_enter Tryz.func161, Tryz.ntmps161
    go_wp2
    first | go_ret | skip
    exact HR.out

end Go.Proofs.YtdkjcdfkoahfkaaGreatDoor

namespace Go.Proofs.YtdkjcdfkoahfkaaGreatDoor
open Go Go.RowKit

/-- whether a fraction is a small integer -/
def smallB (q : Rat) : Bool := decide (q.den = 1 ∧ q.num.natAbs ≤ 1000000000000000)

theorem small_true {q : Rat} (h1 : q.den = 1) (h2 : q.num.natAbs ≤ 1000000000000000) : smallB q = true := decide_eq_true ⟨h1, h2⟩
theorem small_not {q : Rat} (h : ¬ (q.den = 1 ∧ q.num.natAbs ≤ 1000000000000000)) : smallB q = false := decide_eq_false h

theorem len_four {n : Nat} (h : (dig 10000 n).length ≤ 4) : n < 10000000000000000 := by
  have h1 := lt_pow_dig (B := 10000) (by omega) n
  have h2 : 10000 ^ (dig 10000 n).length ≤ 10000 ^ 4 := Nat.pow_le_pow_right (by omega) h
  have h3 : (10000 : Nat) ^ 4 = 10000000000000000 := by decide
  omega
theorem len_five {n : Nat} (h : ¬ (dig 10000 n).length ≤ 4) : ¬ n ≤ 1000000000000000 := by
  intro h1
  refine h (dig_length_le (by omega) 4 n ?_)
  have h3 : (10000 : Nat) ^ 4 = 10000000000000000 := by decide
  omega

theorem val_part_lt (xs : List Nat) (h : ∀ d ∈ xs, d < 10000) (hl : xs.length ≤ 4) (k : Nat) : val 10000 (xs.drop k) < 10000000000000000 := by
  have h1 := val_lt (B := 10000) (xs.drop k) (fun d hd => h d (List.mem_of_mem_drop hd))
  have h2 : 10000 ^ (xs.drop k).length ≤ 10000 ^ 4 := Nat.pow_le_pow_right (by omega) (by rw [List.length_drop]; omega)
  have h3 : (10000 : Nat) ^ 4 = 10000000000000000 := by decide
  omega

theorem num_sign (q : Rat) (ng : Bool) (h : ng = decide (q.num < 0)) : q.num = if ng then -(q.num.natAbs : Int) else (q.num.natAbs : Int) := by
  subst h
  by_cases h : q.num < 0
  · simp [h]; omega
  · simp [h]; omega

end Go.Proofs.YtdkjcdfkoahfkaaGreatDoor

namespace Go.Proofs.YtdkjcdfkoahfkaaGreatDoor
open Go Go.RowKit

/-- the small integer that a text is -/
noncomputable def smallO (L : List UInt8) : Option Int := (numO L).bind fun q => if smallB q = true then some q.num else none

theorem smallO_some {L : List UInt8} {q : Rat} (h : numO L = some q) (hs : smallB q = true) : smallO L = some q.num := by
  unfold smallO; rw [h]; simp [hs]
theorem smallO_none {L : List UInt8} (h : ∀ q, numO L = some q → smallB q = false) : smallO L = none := by
  unfold smallO
  cases hn : numO L with
  | none => rfl
  | some q => simp [h q hn]

theorem IsN.lit (w : World) (x : Nat) (z : Int) (hz : z = (x : Int)) (h0 : x ≠ 0) (hx : x < W64) : IsN (w.alloc (.cells #[.int .u64 z] 99)) (.slice (some ⟨w.heap.size, 0, none⟩) 1 1) x := by
  show Sl _ _ _ (dig W64 x)
  rw [dig_small h0 hx]
  exact (Own.lit1 .u64 99 w 0 x z hz (Nat.zero_le _)).sl

set_option maxRecDepth 100000 in
set_option maxHeartbeats 2000000 in
theorem impl_smallOf (s : ByteArray) (w : World) (hE : Env w) (R : Ending → World → Prop)
    (hR : ∀ z w', smallO s.data.toList = some z → Below w.heap.size w w' → R (.returned (.tuple #[.int .i64 z, .bool true])) w')
    (hR2 : ∀ w', smallO s.data.toList = none → Below w.heap.size w w' → R (.returned (.tuple #[.int .i64 0, .bool false])) w') :
    Calls Tryz.prog 27 #[.string s] w R := by
  have HR := Lib.hid hR; clear hR
  have HR2 := Lib.hid hR2; clear hR2
  have HE := Lib.hid hE; clear hE
  go_enter Tryz.func27, Tryz.ntmps27
  go_wp2_with fail
  refine readi_any s _ HE.out _ ?_ ?_
  · intro v q w1 hq h1 hv hb1
    have hfl := (few_len (numO_few hq) (B := W64) (by rw [W64_eq]; omega)).1
    obtain ⟨s1, rfl, hn1⟩ := hv
    obtain ⟨a1, n1, c1, rfl, hn1'⟩ := hn1.op
    obtain ⟨ng, hng⟩ : ∃ ng, ng = decide (q.num < 0) := ⟨_, rfl⟩
    rw [← hng]
    have HNS := Lib.hid (num_sign q ng hng)
    obtain ⟨x, hx⟩ : ∃ x, x = q.num.natAbs := ⟨_, rfl⟩
    rw [← hx] at hn1' hfl HNS
    have HX := Lib.hid hx
    have HQ := Lib.hid hq
    have H1 := Lib.hid h1
    obtain ⟨W, hW⟩ : ∃ W, W = w1.alloc (.cells #[.bool ng, .slice a1 n1 c1] 83) := ⟨_, rfl⟩
    have hbW : Below w1.heap.size w1 W := by rw [hW]; exact (Below.refl _ _).alloc (Nat.le_refl _) _
    have HBW := Lib.hid (hb1.trans (hbW.mono hb1.size))
    have HX2 : Hid (Box2 W w1.heap.size (.bool ng) (.slice a1 n1 c1) 83) := Lib.hid (by rw [hW]; exact Box2.made _ _ _ _)
    have HN1 := Lib.hid (hn1'.later hbW (Nat.le_refl _))
    obtain ⟨V, hV⟩ : ∃ V, V = W.alloc (.cells #[.int .u64 1000000000000000] 99) := ⟨_, rfl⟩
    have hbV : Below W.heap.size W V := by rw [hV]; exact (Below.refl _ _).alloc (Nat.le_refl _) _
    have HNV := Lib.hid (HN1.out.later hbV (Nat.le_refl _))
    have HNL : Hid (IsN V (.slice (some ⟨W.heap.size, 0, none⟩) 1 1) 1000000000000000) := Lib.hid (by rw [hV]; exact IsN.lit W _ _ rfl (by omega) (by rw [W64_eq]; omega))
    have HBV := Lib.hid (HBW.out.trans (hbV.mono HBW.out.size))
    have HXV := Lib.hid (HX2.out.later hbV (lt_of_block HX2.out))
    have hws : W.heap.size = w1.heap.size + 1 := by rw [hW]; simp
    have HWS := Lib.hid hws
    have HV := Lib.hid (show V = (w1.alloc (.cells #[.bool ng, .slice a1 n1 c1] 83)).alloc (.cells #[.int .u64 1000000000000000] 99) by rw [hV, hW])
    have hll : (dig W64 1000000000000000).length ≤ 60 := by rw [dig_small (by omega) (by rw [W64_eq]; omega)]; simp
    have HLL := Lib.hid hll
    have HFL := Lib.hid hfl
    clear hn1 hn1' hng hb1 hq h1 hx hbW hbV hV hW hws hll hfl
    dsimp only
    go_wp2_with fail
    rw [← HV.out, ← HWS.out]
    refine ncmp_any _ _ x 1000000000000000 _ HNV.out HNL.out (Nat.le_trans HFL.out (by omega)) (Nat.le_trans HLL.out (by omega)) _ ?_
    intro w2 hb2 _
    have HB2 := Lib.hid (HBV.out.trans (hb2.mono HBV.out.size))
    have HN2 := Lib.hid (HNV.out.later hb2 (Nat.le_refl _))
    obtain ⟨hP0, hP1, _, _⟩ := Box2.cells (Box2.later HXV.out hb2 (lt_of_block HXV.out))
    clear hb2
    by_cases hgt : 1000000000000000 < x
    · rw [cmpN_gt hgt]
      have HF := Lib.hid (HR2.out w2 (smallO_none fun q' hq' => by
        rw [HQ.out] at hq'; obtain rfl := Option.some.inj hq'
        exact small_not fun h => by rw [← HX.out] at h; omega) HB2.out)
      clear hgt
      dsimp only
      go_wp2
      first | go_ret | skip
      exact HF.out
    · have hc : cmpN x 1000000000000000 ≤ 0 := by unfold cmpN; split <;> (try split) <;> omega
      obtain ⟨c, hcc⟩ : ∃ c, c = cmpN x 1000000000000000 := ⟨_, rfl⟩
      rw [← hcc] at hc ⊢
      have hc' : ¬ (0 < c) := by omega
      have HSM := Lib.hid (smallO_some HQ.out (small_true H1.out (by rw [← HX.out]; omega)))
      have hxle : x ≤ 1000000000000000 := by omega
      clear hgt hcc hc
      dsimp only
      go_wp2_with fail
      refine nzero_any _ x _ HN2.out _ ?_
      by_cases h0 : x = 0
      · rw [decide_eq_true h0]
        have hz : q.num = 0 := by have := HNS.out; rw [h0] at this; cases ng <;> simpa using this
        have HF := Lib.hid (HR.out 0 w2 (by rw [HSM.out, hz]) HB2.out)
        clear h0 hz hxle
        dsimp only
        go_wp2
        first | go_ret | skip
        exact HF.out
      · rw [decide_eq_false h0]
        have hone : dig W64 x = [x] := dig_small h0 (by rw [W64_eq]; omega)
        have hs := HN2.out
        unfold IsN at hs
        have hl := hs.len
        rw [hone] at hs hl
        have hl1 : n1 = 1 := hl
        subst hl1
        obtain ⟨b, o, rfl, hbl, hcell⟩ := Sl.at hs 0 (by omega)
        rw [Nat.add_zero] at hcell
        have hc9 : w2.cell? ⟨b, o, none⟩ = some (.int .u64 (x : Int)) := hcell
        have hwc : IntKind.i64.wrap (x : Int) = (x : Int) := IntWalk.i64_in _ (by omega)
        have hwneg : IntKind.i64.wrap (-(x : Int)) = -(x : Int) := IntWalk.i64_in _ (by omega)
        clear hcell hs hl hone h0 hxle
        cases ng
        · have HF := Lib.hid (HR.out (x : Int) w2 (by rw [HSM.out, HNS.out]; rfl) HB2.out)
          dsimp only
          go_wp2
          first | go_ret | skip
          exact HF.out
        · have HF := Lib.hid (HR.out (-(x : Int)) w2 (by rw [HSM.out, HNS.out]; rfl) HB2.out)
          dsimp only
          go_wp2
          first | go_ret | skip
          exact HF.out
  · intro e w1 hn he hb
    obtain ⟨t, p, rfl⟩ := he
    have HF := Lib.hid (HR2.out (w1.alloc (.cells #[.bool false, .slice none 0 0] 83)) (smallO_none fun q hq => small_not fun h => hn q hq h.1) (hb.alloc hb.size _))
    clear hb hn
    unfold zeroI
    dsimp only
    go_wp2
    first | go_ret | skip
    exact HF.out

end Go.Proofs.YtdkjcdfkoahfkaaGreatDoor

namespace Go.Proofs.YtdkjcdfkoahfkaaGreatDoor
open Go Go.RowKit

/-- the remainder from 0 to m - 1 -/
def modN (ng : Bool) (x m : Nat) : Nat := if ng = true ∧ 0 < x % m then m - x % m else x % m

theorem tmod_nat (y m : Nat) : Int.tmod (y : Int) (m : Int) = ((y % m : Nat) : Int) := by
  rw [Int.tmod_eq_emod_of_nonneg (by omega)]; omega

set_option maxRecDepth 100000 in
set_option maxHeartbeats 2000000 in
theorem irem_any (ng : Bool) (v : Value) (x m : Nat) (w : World) (h : IsN w v x) (hm : 0 < m) (hmw : m < W64) (hlen : (dig W64 x).length ≤ 1000000) (R : Ending → World → Prop)
    (hR : ∀ w', Below w.heap.size w w' → R (.returned (.int .u64 ((modN ng x m : Nat) : Int))) w') :
    Calls Tryz.prog 78 #[.agg #[.bool ng, v], .int .u64 (m : Int)] w R := by
  have HR := Lib.hid hR; clear hR
  obtain ⟨a1, n1, c1, rfl, h'⟩ := h.op
  obtain ⟨L, hL⟩ : ∃ L, L = w.alloc (.cells #[.bool ng, .slice a1 n1 c1] 83) := ⟨_, rfl⟩
  have HBL : Hid (Below w.heap.size w L) := Lib.hid (by rw [hL]; exact (Below.refl _ _).alloc (Nat.le_refl _) _)
  have HBX : Hid (Box2 L w.heap.size (.bool ng) (.slice a1 n1 c1) 83) := Lib.hid (by rw [hL]; exact Box2.made _ _ _ _)
  have HH := Lib.hid (h'.later HBL.out (Nat.le_refl _))
  have HL := Lib.hid hL
  have HMW := Lib.hid hmw
  have HLEN := Lib.hid hlen
  obtain ⟨hP0, hP1, _, _⟩ := Box2.cells HBX.out
  clear h h' hL hmw hlen
  go_enter Tryz.func78, Tryz.ntmps78
  rw [HL.out] at hP0 hP1
  go_wp2_with fail
  rw [← HL.out]
  refine rems_any _ x m _ HH.out hm HMW.out (by have := HLEN.out; omega) _ ?_
  intro w1 hb1 _
  have HB1 := Lib.hid (HBL.out.trans (hb1.mono HBL.out.size))
  have HX1 := Lib.hid (HBX.out.later hb1 (lt_of_block HBX.out))
  clear hP0 hP1
  obtain ⟨hP0, hP1, _, _⟩ := Box2.cells HX1.out
  obtain ⟨z, hz⟩ : ∃ z, z = x % m := ⟨_, rfl⟩
  have hzm : z < m := by rw [hz]; exact Nat.mod_lt _ hm
  rw [← hz]
  clear hb1
  cases ng
  · have HF := Lib.hid (show R (.returned (.int .u64 (z : Int))) w1 by
      have := HR.out _ HB1.out
      unfold modN at this; rw [← hz] at this; simp at this; exact this)
    clear hz
    dsimp only
    go_wp2
    first | go_ret | skip
    exact HF.out
  · by_cases hz0 : 0 < z
    · obtain ⟨y, hy⟩ : ∃ y, m = y + z := ⟨m - z, by omega⟩
      have hws : IntKind.u64.wrap ((m : Int) - (z : Int)) = (y : Int) := by
        rw [wrapu _ (by omega) (by have := HMW.out; rw [W64_eq] at this; omega)]; omega
      have HF := Lib.hid (show R (.returned (.int .u64 (y : Int))) w1 by
        have := HR.out _ HB1.out
        unfold modN at this
        rw [← hz, if_pos ⟨rfl, hz0⟩, show m - z = y by omega] at this
        exact this)
      clear hz hy
      dsimp only
      go_wp2
      first | go_ret | skip
      exact HF.out
    · have HF := Lib.hid (show R (.returned (.int .u64 (z : Int))) w1 by
        have := HR.out _ HB1.out
        unfold modN at this
        rw [← hz, if_neg (fun h => hz0 h.2)] at this
        exact this)
      clear hz
      dsimp only
      go_wp2
      first | go_ret | skip
      exact HF.out

/-- the remainder of the integer that a text is -/
noncomputable def remO (L : List UInt8) (m : Int) : Option Nat := (numO L).bind fun q => if q.den = 1 ∧ 1 ≤ m ∧ m ≤ 1000000000 then some (modN (decide (q.num < 0)) q.num.natAbs m.toNat) else none

theorem remO_some {L : List UInt8} {q : Rat} {m : Nat} (h : numO L = some q) (h1 : q.den = 1) (h2 : 1 ≤ m) (h3 : m ≤ 1000000000) : remO L (m : Int) = some (modN (decide (q.num < 0)) q.num.natAbs m) := by
  unfold remO
  rw [h, Option.bind_some, if_pos ⟨h1, by omega, by omega⟩, Int.toNat_natCast]
theorem remO_none {L : List UInt8} {m : Int} (h : ∀ q, numO L = some q → ¬ (q.den = 1 ∧ 1 ≤ m ∧ m ≤ 1000000000)) : remO L m = none := by
  unfold remO
  cases hn : numO L with
  | none => rfl
  | some q => rw [Option.bind_some, if_neg (h q hn)]

theorem any_den_false {L : List UInt8} (h : (numO L).any (fun q => decide (q.den = 1)) = false) : ∀ q, numO L = some q → q.den ≠ 1 := by
  intro q hq h1
  rw [hq, Option.any_some, decide_eq_true h1] at h; cases h
theorem any_den_true {L : List UInt8} (h : (numO L).any (fun q => decide (q.den = 1)) = true) : ∃ q, numO L = some q ∧ q.den = 1 := by
  cases hn : numO L with
  | none => rw [hn] at h; cases h
  | some q => rw [hn, Option.any_some] at h; exact ⟨q, rfl, of_decide_eq_true h⟩

set_option maxRecDepth 100000 in
set_option maxHeartbeats 2000000 in
theorem impl_remOf (s : ByteArray) (m : Int) (w : World) (hE : Env w) (R : Ending → World → Prop)
    (hR : ∀ z w', remO s.data.toList m = some z → Below w.heap.size w w' → R (.returned (.tuple #[.int .i64 (z : Int), .bool true])) w')
    (hR2 : ∀ w', remO s.data.toList m = none → Below w.heap.size w w' → R (.returned (.tuple #[.int .i64 0, .bool false])) w') :
    Calls Tryz.prog 24 #[.string s, .int .i64 m] w R := by
  have HR := Lib.hid hR; clear hR
  have HR2 := Lib.hid hR2; clear hR2
  have HE := Lib.hid hE; clear hE
  go_enter Tryz.func24, Tryz.ntmps24
  go_wp2_with fail
  refine readi_any s _ HE.out _ ?_ ?_
  · intro v q w1 hq h1 hv hb1
    have hfl := (few_len (numO_few hq) (B := W64) (by rw [W64_eq]; omega)).1
    obtain ⟨s1, rfl, hn1⟩ := hv
    obtain ⟨a1, n1, c1, rfl, hn1'⟩ := hn1.op
    by_cases hm : 1 ≤ m ∧ m ≤ 1000000000
    · obtain ⟨k, rfl⟩ : ∃ k : Nat, m = (k : Int) := ⟨m.toNat, by omega⟩
      have hk1 : 1 ≤ k := by omega
      have hk2 : k ≤ 1000000000 := by omega
      have HREM := Lib.hid (remO_some hq h1 hk1 hk2)
      obtain ⟨ng, hng⟩ : ∃ ng, ng = decide (q.num < 0) := ⟨_, rfl⟩
      obtain ⟨x, hx⟩ : ∃ x, x = q.num.natAbs := ⟨_, rfl⟩
      rw [← hx, ← hng] at HREM
      rw [← hng]
      rw [← hx] at hn1' hfl
      obtain ⟨W, hW⟩ : ∃ W, W = w1.alloc (.cells #[.bool ng, .slice a1 n1 c1] 83) := ⟨_, rfl⟩
      have hbW : Below w1.heap.size w1 W := by rw [hW]; exact (Below.refl _ _).alloc (Nat.le_refl _) _
      have HBW := Lib.hid (hb1.trans (hbW.mono hb1.size))
      have HN1 := Lib.hid (hn1'.later hbW (Nat.le_refl _))
      have HW := Lib.hid hW
      have HFL := Lib.hid hfl
      have hwu : IntKind.u64.wrap (k : Int) = (k : Int) := wrapu _ (by omega) (by omega)
      have hn1a : ¬ ((k : Int) < 1) := by omega
      have hn1b : ¬ ((1000000000 : Int) < (k : Int)) := by omega
      clear hn1 hn1' hng hb1 hq h1 hx hbW hW hfl hm
      dsimp only
      go_wp2_with fail
      rw [← HW.out]
      refine irem_any ng _ x k _ HN1.out (by omega) (by rw [W64_eq]; omega) (Nat.le_trans HFL.out (by omega)) _ ?_
      intro w2 hb2
      have HB2 := Lib.hid (HBW.out.trans (hb2.mono HBW.out.size))
      obtain ⟨z, hz⟩ : ∃ z, z = modN ng x k := ⟨_, rfl⟩
      have hzk : z ≤ k := by
        rw [hz]; unfold modN
        have := Nat.mod_lt x (show 0 < k by omega)
        split <;> omega
      have HF := Lib.hid (HR.out z w2 (by rw [hz]; exact HREM.out) HB2.out)
      rw [← hz]
      have hwz : IntKind.i64.wrap (z : Int) = (z : Int) := IntWalk.i64_in _ (by omega)
      clear hb2 hz hwu hzk
      dsimp only
      go_wp2
      first | go_ret | skip
      exact HF.out
    · obtain ⟨ng, hng⟩ : ∃ ng, ng = decide (q.num < 0) := ⟨_, rfl⟩
      rw [← hng]
      have HF := Lib.hid (HR2.out (w1.alloc (.cells #[.bool ng, .slice a1 n1 c1] 83)) (remO_none fun q hq h => hm h.2) (hb1.alloc hb1.size _))
      clear hn1 hn1' hng hb1 hq h1 hfl
      by_cases hlo : m < 1
      · clear hm
        dsimp only
        go_wp2
        first | go_ret | skip
        exact HF.out
      · have hhi : 1000000000 < m := by omega
        clear hm
        dsimp only
        go_wp2
        first | go_ret | skip
        exact HF.out
  · intro e w1 hn he hb
    obtain ⟨t, p, rfl⟩ := he
    have HF := Lib.hid (HR2.out (w1.alloc (.cells #[.bool false, .slice none 0 0] 83)) (remO_none fun q hq h => hn q hq h.1) (hb.alloc hb.size _))
    clear hb hn
    unfold zeroI
    dsimp only
    go_wp2
    first | go_ret | skip
    exact HF.out

end Go.Proofs.YtdkjcdfkoahfkaaGreatDoor

namespace Go.Proofs.YtdkjcdfkoahfkaaGreatDoor
open Go Go.RowKit

theorem decDigits_decs (n : Nat) : Lib.decDigits n = decs n := by
  induction n using Nat.strongRecOn with
  | _ n ih =>
    rw [Lib.decDigits]
    by_cases h : n < 10
    · rw [dif_pos h]
      by_cases h0 : n = 0
      · subst h0; rfl
      · rw [decs, if_neg h0, dig_small h0 h]; rfl
    · rw [dif_neg h, ih (n / 10) (by omega), decs, decs, if_neg (by omega), if_neg (by omega), dig_pos (by omega) (by omega : n ≠ 0)]
      simp [chr]

theorem itoa_textQ (n : Int) : Lib.itoa n = textQ (n : Rat) := by
  have h1 : ((n : Rat)).num = n := rfl
  have h2 : ((n : Rat)).den = 1 := rfl
  rw [Lib.itoa, textQ, h1, h2, decDigits_decs, decDigits_decs]
  by_cases h : n < 0
  · rw [if_pos h, if_pos h]; simp
  · rw [if_neg h, if_neg h]
    have : n.toNat = n.natAbs := by omega
    rw [this]; simp

theorem var?_later {P : Program} {W W' : World} {n : String} {cs : Array Value} (h : Below W.heap.size W W') (hv : W.var? P n = some cs) : W'.var? P n = some cs := by
  have hv' := hv
  unfold World.var? at hv'
  cases hg : P.globalNamed n with
  | none => rw [hg] at hv'; simp at hv'
  | some g =>
    refine var?_below h hg ?_ hv
    rw [hg] at hv'
    simp only [Option.bind_some] at hv'
    rcases Nat.lt_or_ge g W.heap.size with h | h
    · exact h
    · rw [Array.getElem?_eq_none (by omega)] at hv'; simp at hv'

set_option maxRecDepth 100000 in
theorem impl_numberOf (n : Int) (w : World) (h1 : -9223372036854775808 ≤ n) (h2 : n ≤ 9223372036854775807) (htab : Lib.TabIs Tryz.prog w "internal/strconv.uint64pow10" .u64 Lib.pow10Tab) (R : Ending → World → Prop)
    (hR : ∀ w', Below w.heap.size w w' → R (.returned (.string ⟨(textQ (n : Rat)).toArray⟩)) w') :
    Calls Tryz.prog 25 #[.int .i64 n] w R := by
  have HR := Lib.hid hR; clear hR
  have HT := Lib.hid htab; clear htab
  have H1 := Lib.hid h1
  have H2 := Lib.hid h2
  clear h1 h2
  go_enter Tryz.func25, Tryz.ntmps25
  go_wp2_with fail
  refine (Tryz.strconv_FormatInt_10 n H1.out H2.out _ HT.out).mono ?_
  rintro e w1 ⟨rfl, k, os, rfl⟩
  rw [itoa_textQ]
  have HB := Lib.hid (Lib.below_grow w.heap.size w (Nat.le_refl _) k os)
  dsimp only
  go_wp2
  first | go_ret | skip
  exact HR.out _ HB.out

end Go.Proofs.YtdkjcdfkoahfkaaGreatDoor

namespace Go.Proofs.YtdkjcdfkoahfkaaGreatDoor
open Go Go.RowKit

set_option maxRecDepth 100000 in
set_option maxHeartbeats 1000000 in
theorem isinteger_any (s : ByteArray) (w : World) (hE : Env w) (R : Ending → World → Prop)
    (hR : ∀ w', Below w.heap.size w w' → R (.returned (.bool ((numO s.data.toList).any fun q => decide (q.den = 1)))) w') :
    Calls Tryz.prog 23 #[.string s] w R := by
  have HR := Lib.hid hR; clear hR
  have HE := Lib.hid hE; clear hE
  go_enter Tryz.func23, Tryz.ntmps23
  go_wp2_with fail
  refine readi_any s _ HE.out _ ?_ ?_
  · intro v q w1 hq h1 hv hb
    rw [hq, Option.any_some, decide_eq_true h1] at HR
    obtain ⟨s1, rfl, hn1⟩ := hv
    obtain ⟨a1, n1, c1, rfl, hn1'⟩ := hn1.op
    obtain ⟨ng, hng⟩ : ∃ ng, ng = decide (q.num < 0) := ⟨_, rfl⟩
    rw [← hng]
    have HB := Lib.hid hb
    clear hn1 hn1' hng hb hq h1
    dsimp only
    go_wp2
    first | go_ret | skip
    exact HR.out _ (HB.out.alloc HB.out.size _)
  · intro e w1 hn he hb
    have hf : (numO s.data.toList).any (fun q => decide (q.den = 1)) = false := by
      cases h : numO s.data.toList with
      | none => rfl
      | some q => rw [Option.any_some, decide_eq_false (hn q h)]
    rw [hf] at HR
    obtain ⟨t, p, rfl⟩ := he
    have HB := Lib.hid hb
    clear hb hn hf
    unfold zeroI
    dsimp only
    go_wp2
    first | go_ret | skip
    exact HR.out _ (HB.out.alloc HB.out.size _)

end Go.Proofs.YtdkjcdfkoahfkaaGreatDoor

namespace Go.Proofs.YtdkjcdfkoahfkaaGreatDoor
open Go Go.RowKit

theorem rcancel_add (p q : Rat) : p - q + q = p := by rw [Rat.sub_eq_add_neg, Rat.add_assoc, Rat.neg_add_cancel, Rat.add_zero]
theorem rlt_add {a b : Rat} (c : Rat) (h : a < b) : a + c < b + c := (Rat.add_lt_add_right (c := c)).2 h
theorem rsub_lt2 {p q r : Rat} : p - q < r ↔ p < r + q := by
  constructor
  · intro h
    have := rlt_add q h
    rwa [rcancel_add] at this
  · intro h
    have := rlt_add (-q) h
    rwa [← Rat.sub_eq_add_neg, Rat.add_assoc, Rat.add_neg_cancel, Rat.add_zero] at this
/-- a floor -/
theorem floor_le (p : Rat) : ¬ p < ((p.num / (p.den : Int) : Int) : Rat) := by
  rw [Rat.lt_iff]
  have h := Int.ediv_mul_le p.num (show (p.den : Int) ≠ 0 by have := p.den_pos; omega)
  show ¬ p.num * ((1 : Nat) : Int) < (p.num / (p.den : Int)) * (p.den : Int)
  omega
theorem floor_gt (p : Rat) : p < ((p.num / (p.den : Int) + 1 : Int) : Rat) := by
  rw [Rat.lt_iff]
  have h := Int.lt_ediv_add_one_mul_self p.num (show (0 : Int) < (p.den : Int) by have := p.den_pos; omega)
  show p.num * ((1 : Nat) : Int) < (p.num / (p.den : Int) + 1) * (p.den : Int)
  omega
theorem floor_abs (p : Rat) {N : Nat} (h : p.num.natAbs < N) : (p.num / (p.den : Int)).natAbs < N + 1 := by
  have hd := p.den_pos
  have h1 : ((p.den : Int)) ≠ 0 := by omega
  have h2 := Int.ediv_mul_le p.num h1
  have h3 := Int.lt_ediv_add_one_mul_self p.num (show (0 : Int) < (p.den : Int) by omega)
  generalize hz : p.num / (p.den : Int) = z at *
  rcases (show z < 0 ∨ 0 ≤ z by omega) with hn | hp
  · have : (z + 1) * (p.den : Int) ≤ (z + 1) * 1 := Int.mul_le_mul_of_nonpos_left (by omega) (by omega)
    omega
  · have : z * 1 ≤ z * (p.den : Int) := Int.mul_le_mul_of_nonneg_left (by omega) hp
    omega
theorem intB {z : Int} {N : Nat} (h : z.natAbs < 10 ^ N) (hN : 1 ≤ N) : Bd N (z : Rat) := by
  have h2 : 10 ^ 1 ≤ 10 ^ N := Nat.pow_le_pow_right (by omega) hN
  exact ⟨h, by show 1 < _; omega⟩

theorem ifloor_t (A : ByteArray) (p : Rat) (w : World) (R : Ending → World → Prop) (hA : IsT A p) (hf : Bd 60 ((p.num / (p.den : Int) : Int) : Rat)) (hE : Env w) (htab : Lib.TabIs Tryz.prog w "internal/strconv.uint64pow10" .u64 Lib.pow10Tab)
    (hR : ∀ C w', IsT C ((p.num / (p.den : Int) : Int) : Rat) → Below w.heap.size w w' → R (.returned (.tuple #[.string C, .bool true])) w') :
    Calls Tryz.prog 20 #[.string A] w R := by
  refine impl_floorOf A w hE htab R fun w' hb => ?_
  have k := out_t (few_bd hf)
  rw [floO_some hA.num, k.2]
  exact hR _ w' k.1 hb
theorem igcd_t (A B : ByteArray) (x y : Int) (w : World) (R : Ending → World → Prop) (hA : IsT A (x : Rat)) (hB : IsT B (y : Rat)) (hf : Bd 60 (((Nat.gcd x.natAbs y.natAbs : Nat) : Int) : Rat)) (hE : Env w) (htab : Lib.TabIs Tryz.prog w "internal/strconv.uint64pow10" .u64 Lib.pow10Tab)
    (hR : ∀ C w', IsT C (((Nat.gcd x.natAbs y.natAbs : Nat) : Int) : Rat) → Below w.heap.size w w' → R (.returned (.tuple #[.string C, .bool true])) w') :
    Calls Tryz.prog 26 #[.string A, .string B] w R := by
  refine impl_gcdOf A B w hE htab R fun w' hb => ?_
  have k := out_t (few_bd hf)
  have e : gcdO A.data.toList B.data.toList = some (((Nat.gcd x.natAbs y.natAbs : Nat) : Int) : Rat) := by
    unfold gcdO
    rw [intO_some hA.num rfl, intO_some hB.num rfl]
    rfl
  rw [e, k.2]
  exact hR _ w' k.1 hb
theorem inum_t (x : Int) (w : World) (R : Ending → World → Prop) (h : x.natAbs < 1000000000000) (htab : Lib.TabIs Tryz.prog w "internal/strconv.uint64pow10" .u64 Lib.pow10Tab)
    (hR : ∀ C w', IsT C (x : Rat) → Below w.heap.size w w' → R (.returned (.string C)) w') :
    Calls Tryz.prog 25 #[.int .i64 x] w R :=
  impl_numberOf x w (by omega) (by omega) htab R fun w' hb => hR _ w' ⟨rfl, small_few (by omega)⟩ hb
theorem isint_t (A : ByteArray) (x : Int) (w : World) (R : Ending → World → Prop) (hA : IsT A (x : Rat)) (hE : Env w)
    (hR : ∀ w', Below w.heap.size w w' → R (.returned (.bool true)) w') :
    Calls Tryz.prog 23 #[.string A] w R := by
  refine isinteger_any A w hE R fun w' hb => ?_
  have e : (numO A.data.toList).any (fun q => decide (q.den = 1)) = true := by
    rw [hA.num]
    simp only [Option.any_some]
    exact decide_eq_true rfl
  rw [e]
  exact hR w' hb
theorem modN_emod (z : Int) (m : Nat) (hm : 0 < m) : ((modN (decide (z < 0)) z.natAbs m : Nat) : Int) = z % (m : Int) := by
  unfold modN
  rcases (show z < 0 ∨ 0 ≤ z by omega) with h | h
  · obtain ⟨a, rfl⟩ : ∃ a : Nat, z = -(a : Int) := ⟨z.natAbs, by omega⟩
    have h1 : (-(a : Int)).natAbs = a := by omega
    rw [h1]
    have hlt : a % m < m := Nat.mod_lt _ hm
    have h3 : (a : Int) = (m : Int) * ((a / m : Nat) : Int) + ((a % m : Nat) : Int) := by
      rw [← Int.natCast_mul, ← Int.natCast_add, Nat.div_add_mod]
    by_cases h0 : 0 < a % m
    · rw [if_pos ⟨decide_eq_true h, h0⟩]
      rw [show -(a : Int) = ((m - a % m : Nat) : Int) + (m : Int) * (-((a / m : Nat) : Int) - 1) by rw [Int.mul_sub, Int.mul_neg]; omega, Int.add_mul_emod_self_left]
      exact (Int.emod_eq_of_lt (by omega) (by omega)).symm
    · rw [if_neg (fun h => h0 h.2)]
      rw [show -(a : Int) = (m : Int) * (-((a / m : Nat) : Int)) by rw [Int.mul_neg]; omega, Int.mul_emod_right]
      omega
  · obtain ⟨a, rfl⟩ : ∃ a : Nat, z = (a : Int) := ⟨z.natAbs, by omega⟩
    rw [if_neg (fun h9 => by have := of_decide_eq_true h9.1; omega), Int.natAbs_natCast, Int.natCast_emod]
theorem irem_t (A : ByteArray) (x : Int) (m : Nat) (w : World) (R : Ending → World → Prop) (hA : IsT A (x : Rat)) (hm : 1 ≤ m) (hm2 : m ≤ 1000) (hE : Env w)
    (hR : ∀ (n : Nat) w', (n : Int) = x % (m : Int) → Below w.heap.size w w' → R (.returned (.tuple #[.int .i64 (n : Int), .bool true])) w') :
    Calls Tryz.prog 24 #[.string A, .int .i64 (m : Int)] w R := by
  have e : remO A.data.toList (m : Int) = some (modN (decide (x < 0)) x.natAbs m) := remO_some hA.num rfl hm (by omega)
  refine impl_remOf A (m : Int) w hE R (fun z w' hz hb => ?_) (fun w' hz hb => ?_)
  · rw [e] at hz
    cases hz
    exact hR _ w' (modN_emod x m (by omega)) hb
  · rw [e] at hz; cases hz
theorem ismall_t (A : ByteArray) (x : Int) (w : World) (R : Ending → World → Prop) (hA : IsT A (x : Rat)) (hx : x.natAbs ≤ 1000000) (hE : Env w)
    (hR : ∀ w', Below w.heap.size w w' → R (.returned (.tuple #[.int .i64 x, .bool true])) w') :
    Calls Tryz.prog 27 #[.string A] w R := by
  have e : smallO A.data.toList = some x := smallO_some hA.num (small_true rfl (by show x.natAbs ≤ _; omega))
  refine impl_smallOf A w hE R (fun z w' hz hb => ?_) (fun w' hz hb => ?_)
  · rw [e] at hz; cases hz; exact hR w' hb
  · rw [e] at hz; cases hz

theorem rat_int_sub (x y : Int) : (x : Rat) - (y : Rat) = ((x - y : Int) : Rat) := by rw [Rat.intCast_sub]
theorem rat_int_div {x y : Int} (h0 : y ≠ 0) (k : Int) (h : x = y * k) : (x : Rat) / (y : Rat) = (k : Rat) := by
  rw [h, Rat.intCast_mul, Rat.mul_comm]
  exact rmul_div _ _ (rat_ne0 h0)

set_option maxRecDepth 100000 in
set_option maxHeartbeats 4000000 in
theorem law_fnRemainders (v1 v2 : Value) (w : World) (hE : Env w) (htab : Lib.TabIs Tryz.prog w "internal/strconv.uint64pow10" .u64 Lib.pow10Tab) (h1 : ByB w v1) (h2 : ByB w v2) (R : Ending → World → Prop)
    (hR : ∀ w', Below w.heap.size w w' → R (.returned (.bool true)) w') :
    Calls Tryz.prog 4 #[v1, v2] w R := by
  have HR := Lib.hid hR; clear hR
  have HE := Lib.hid hE; clear hE
  have HTAB := Lib.hid htab; clear htab
  have H1 := Lib.hid h1
  have H2 := Lib.hid h2
  obtain ⟨a1, n1, c1, rfl, _⟩ := h1
  obtain ⟨a2, n2, c2, rfl, _⟩ := h2
  go_enter Tryz.func4, Tryz.ntmps4
  go_wp2_with fail
  refine b10long_any _ _ _ H1.out H2.out _ ?_
  intro b0
  cases b0
  rotate_left
  · dsimp only
    go_wp2
    first | go_ret | skip
    exact HR.out _ (Below.refl _ _)
  dsimp only
  go_wp2_with fail
  refine b10number_any _ _ H1.out _ ?_
  intro A p w1 hA hp hb1
  have HA := Lib.hid hA
  have HP := Lib.hid hp
  have HB1 := Lib.hid hb1
  have H2a := Lib.hid (H2.out.later hb1)
  clear hA hp hb1
  dsimp only
  go_wp2_with fail
  refine b10at_any _ 0 200 _ H2a.out (by omega) (by omega) (by omega) _ ?_
  intro r hr
  obtain ⟨m, hm⟩ : ∃ m : Nat, m = r + 1 := ⟨_, rfl⟩
  have em : IntKind.i64.wrap (1 + (r : Int)) = (m : Int) := by rw [IntWalk.i64_in _ (by omega)]; omega
  have em2 : (1 : Int) + (r : Int) = (m : Int) := by omega
  have hm1 : 1 ≤ m ∧ m ≤ 200 := by omega
  have HM := Lib.hid hm1
  obtain ⟨z, hz⟩ : ∃ z : Int, z = p.num / (p.den : Int) := ⟨_, rfl⟩
  have HZ := Lib.hid (show z.natAbs < 1000000000000000001 by rw [hz]; exact floor_abs p HP.out.1)
  have HF1 : Hid (¬ p < (z : Rat)) := Lib.hid (by rw [hz]; exact floor_le p)
  have HF2 : Hid (p < ((z + 1 : Int) : Rat)) := Lib.hid (by rw [hz]; exact floor_gt p)
  have HBZ : Hid (Bd 19 (z : Rat)) := Lib.hid (intB (by have := HZ.out; omega) (by omega))
  have HEZ := Lib.hid hz
  clear hm hr hz
  dsimp only
  go_wp2_with fail
  refine ifloor_t A p _ _ HA.out (by rw [← HEZ.out]; exact HBZ.out.mono (by omega)) (HE.out.later HB1.out (Nat.le_refl _)) (tab_later HTAB.out HB1.out (Nat.le_refl _)) ?_
  rw [← HEZ.out]
  intro F w2 hF hb2
  have HF := Lib.hid hF
  have HB2 := Lib.hid (HB1.out.trans (hb2.mono HB1.out.size))
  clear hF hb2 em em2
  dsimp only
  go_wp2_with fail
  refine isub_t A F p (z : Rat) _ _ HA.out HF.out ((sub_bd HP.out HBZ.out).mono (by omega)) (HE.out.later HB2.out (Nat.le_refl _)) (tab_later HTAB.out HB2.out (Nat.le_refl _)) ?_
  intro S w3 hS hb3
  have HS := Lib.hid hS
  have HB3 := Lib.hid (HB2.out.trans (hb3.mono HB2.out.size))
  obtain ⟨c1, hc1⟩ : ∃ c1 : Int, c1 = cmpR (p - (z : Rat)) 0 := ⟨_, rfl⟩
  have hc1n : ¬ c1 < 0 := by
    rw [hc1, cmp_diff]
    unfold cmpR
    rw [if_neg HF1.out]
    split <;> omega
  have HC1 := Lib.hid hc1
  clear hS hb3 hc1
  dsimp only
  go_wp2_with fail
  refine bsign_t S _ _ _ HS.out ?_
  intro w4 hb4
  rw [← HC1.out]
  have HB4 := Lib.hid (HB3.out.trans (hb4.mono HB3.out.size))
  clear hb4
  dsimp only
  go_wp2_with fail
  refine bsub_t S _ (p - (z : Rat)) 1 _ _ HS.out isT_one ((sub_bd (sub_bd HP.out HBZ.out) Bd.one).mono (by omega)) ?_
  intro T w5 hT hb5
  have HT := Lib.hid hT
  have HB5 := Lib.hid (HB4.out.trans (hb5.mono HB4.out.size))
  obtain ⟨c2, hc2⟩ : ∃ c2 : Int, c2 = cmpR (p - (z : Rat) - 1) 0 := ⟨_, rfl⟩
  have hc2n : c2 < 0 := by
    rw [hc2, cmp_diff]
    unfold cmpR
    rw [if_pos]
    · omega
    · rw [rsub_lt2]
      have e : ((z + 1 : Int) : Rat) = 1 + (z : Rat) := by rw [Rat.intCast_add, Rat.add_comm]; rfl
      rw [← e]; exact HF2.out
  have HC2 := Lib.hid hc2
  clear hT hb5 hc2
  dsimp only
  go_wp2_with fail
  refine bsign_t T _ _ _ HT.out ?_
  intro w6 hb6
  rw [← HC2.out]
  have HB6 := Lib.hid (HB5.out.trans (hb6.mono HB5.out.size))
  clear hb6
  dsimp only
  go_wp2_with fail
  refine isint_t F z _ _ HF.out (HE.out.later HB6.out (Nat.le_refl _)) ?_
  intro w7 hb7
  have HB7 := Lib.hid (HB6.out.trans (hb7.mono HB6.out.size))
  clear hb7
  dsimp only
  go_wp2_with fail
  refine irem_t F z m _ _ HF.out HM.out.1 (by have := HM.out; omega) (HE.out.later HB7.out (Nat.le_refl _)) ?_
  intro n w8 hn hb8
  have HN := Lib.hid hn
  have hn0 : ¬ (n : Int) < 0 := by omega
  have hn1 : (n : Int) < (m : Int) := by rw [hn]; exact Int.emod_lt_of_pos _ (by have := HM.out; omega)
  have HNM := Lib.hid hn1
  have hn2 : ¬ (m : Int) ≤ (n : Int) := by omega
  have HB8 := Lib.hid (HB7.out.trans (hb8.mono HB7.out.size))
  clear hn hb8
  dsimp only
  go_wp2_with fail
  refine inum_t (n : Int) _ _ (by have := HNM.out; have := HM.out; omega) (tab_later HTAB.out HB8.out (Nat.le_refl _)) ?_
  intro X w9 hX hb9
  have HX := Lib.hid hX
  have HB9 := Lib.hid (HB8.out.trans (hb9.mono HB8.out.size))
  clear hX hb9
  dsimp only
  go_wp2_with fail
  have hsubB : (z - (n : Int)).natAbs < 10 ^ 20 := by have := HZ.out; have := HNM.out; have := HM.out; omega
  refine bsub_t F X (z : Rat) ((n : Int) : Rat) _ _ HF.out HX.out (by rw [rat_int_sub]; exact (intB hsubB (by omega)).mono (by omega)) ?_
  intro Y w10 hY hb10
  rw [rat_int_sub] at hY
  have HY := Lib.hid hY
  have HB10 := Lib.hid (HB9.out.trans (hb10.mono HB9.out.size))
  clear hY hb10 hsubB
  dsimp only
  go_wp2_with fail
  refine inum_t (m : Int) _ _ (by have := HM.out; omega) (tab_later HTAB.out HB10.out (Nat.le_refl _)) ?_
  intro M w11 hM hb11
  have HMM := Lib.hid hM
  have HB11 := Lib.hid (HB10.out.trans (hb11.mono HB10.out.size))
  clear hM hb11
  have hdv : ((z - (n : Int) : Int) : Rat) / ((m : Int) : Rat) = ((z / (m : Int) : Int) : Rat) := rat_int_div (by have := HM.out; omega) _ (by
    have h9 := Int.mul_ediv_add_emod z (m : Int)
    have := HN.out; omega)
  have hqB : (z / (m : Int)).natAbs < 10 ^ 20 := by
    have h9 := Int.natAbs_ediv_le_natAbs z (m : Int)
    have := HZ.out; omega
  have HDV := Lib.hid hdv
  have HQB := Lib.hid hqB
  clear hdv hqB
  dsimp only
  go_wp2_with fail
  refine idiv_t Y M _ ((m : Int) : Rat) _ _ HY.out HMM.out (rat_ne0 (by have := HM.out; omega)) (by rw [HDV.out]; exact (intB HQB.out (by omega)).mono (by omega)) (HE.out.later HB11.out (Nat.le_refl _)) (tab_later HTAB.out HB11.out (Nat.le_refl _)) ?_
  rw [HDV.out]
  intro Q w12 hQ hb12
  have HQ := Lib.hid hQ
  have HB12 := Lib.hid (HB11.out.trans (hb12.mono HB11.out.size))
  clear hQ hb12
  dsimp only
  go_wp2_with fail
  refine inum_t (m : Int) _ _ (by have := HM.out; omega) (tab_later HTAB.out HB12.out (Nat.le_refl _)) ?_
  intro M2 w13 hM hb13
  have HM2 := Lib.hid hM
  have HB13 := Lib.hid (HB12.out.trans (hb13.mono HB12.out.size))
  clear hM hb13
  obtain ⟨g, hg⟩ : ∃ g : Nat, g = Nat.gcd z.natAbs ((m : Int)).natAbs := ⟨_, rfl⟩
  have hgm : g ≤ m := by rw [hg]; exact Nat.gcd_le_right _ (by have := HM.out; omega)
  have hg0 : 0 < g := by rw [hg]; exact Nat.gcd_pos_of_pos_right _ (by have := HM.out; omega)
  have hgdm : g ∣ m := by rw [hg]; exact Nat.gcd_dvd_right z.natAbs m
  have hgdz : (g : Int) ∣ z := by rw [hg]; exact Int.ofNat_dvd_left.2 (Nat.gcd_dvd_left z.natAbs m)
  have hgdn : g ∣ n := by
    have h9 := Int.mul_ediv_add_emod z (m : Int)
    have h10 : (n : Int) = z - (m : Int) * (z / (m : Int)) := by have := HN.out; omega
    have h11 : (g : Int) ∣ (n : Int) := by rw [h10]; exact Int.dvd_sub hgdz (Int.dvd_mul_of_dvd_left (Int.natCast_dvd_natCast.2 hgdm))
    exact Int.natCast_dvd_natCast.1 h11
  have HGG := Lib.hid hg
  have HGB := Lib.hid (show g ≤ 200 ∧ 0 < g by have := HM.out; omega)
  have HGD := Lib.hid (And.intro hgdm hgdn)
  clear hg hgm hg0 hgdm hgdz hgdn
  dsimp only
  go_wp2_with fail
  refine igcd_t F M2 z (m : Int) _ _ HF.out HM2.out (by rw [← HGG.out]; exact (intB (by have := HGB.out; omega : ((g : Int)).natAbs < 10 ^ 20) (by omega)).mono (by omega)) (HE.out.later HB13.out (Nat.le_refl _)) (tab_later HTAB.out HB13.out (Nat.le_refl _)) ?_
  rw [← HGG.out]
  intro G w14 hG hb14
  have HG := Lib.hid hG
  have HB14 := Lib.hid (HB13.out.trans (hb14.mono HB13.out.size))
  clear hG hb14
  dsimp only
  go_wp2_with fail
  refine irem_t F z 1 _ _ HF.out (by omega) (by omega) (HE.out.later HB14.out (Nat.le_refl _)) ?_
  intro k w15 hk hb15
  obtain rfl : k = 0 := by omega
  have HB15 := Lib.hid (HB14.out.trans (hb15.mono HB14.out.size))
  clear hk hb15
  dsimp only
  go_wp2_with fail
  refine isint_t Q (z / (m : Int)) _ _ HQ.out (HE.out.later HB15.out (Nat.le_refl _)) ?_
  intro w16 hb16
  have HB16 := Lib.hid (HB15.out.trans (hb16.mono HB15.out.size))
  obtain ⟨c3, hc3⟩ : ∃ c3 : Int, c3 = cmpR ((g : Int) : Rat) 0 := ⟨_, rfl⟩
  have hc3n : ¬ c3 ≤ 0 := by
    have hlt : (0 : Rat) < ((g : Int) : Rat) := by
      rw [Rat.lt_iff]
      show (0 : Int) * ((1 : Nat) : Int) < (g : Int) * ((1 : Nat) : Int)
      have := HGB.out; omega
    have hnl : ¬ ((g : Int) : Rat) < 0 := fun h => by
      rw [Rat.lt_iff] at h
      have h2 : (g : Int) * ((1 : Nat) : Int) < (0 : Int) * ((1 : Nat) : Int) := h
      omega
    rw [hc3]
    unfold cmpR
    rw [if_neg hnl, if_pos hlt]
    omega
  have HC3 := Lib.hid hc3
  clear hb16 hc3
  dsimp only
  go_wp2_with fail
  refine bsign_t G _ _ _ HG.out ?_
  intro w17 hb17
  rw [← HC3.out]
  have HB17 := Lib.hid (HB16.out.trans (hb17.mono HB16.out.size))
  clear hb17
  dsimp only
  go_wp2_with fail
  refine ismall_t G (g : Int) _ _ HG.out (by have := HGB.out; omega) (HE.out.later HB17.out (Nat.le_refl _)) ?_
  intro w18 hb18
  have HB18 := Lib.hid (HB17.out.trans (hb18.mono HB17.out.size))
  have z1 : ((g : Int) == 0) = false := by rw [beq_eq_false_iff_ne]; have := HGB.out; omega
  have z2 : ¬ ((g : Int) = 0) := by have := HGB.out; omega
  have y1 : Int.tmod (m : Int) (g : Int) = 0 := by rw [tmodD, Nat.mod_eq_zero_of_dvd HGD.out.1]; rfl
  have y2 : Int.tmod (n : Int) (g : Int) = 0 := by rw [tmodD, Nat.mod_eq_zero_of_dvd HGD.out.2]; rfl
  have y3 : (m : Int) % (g : Int) = 0 := Int.emod_eq_zero_of_dvd (Int.natCast_dvd_natCast.2 HGD.out.1)
  have y4 : (n : Int) % (g : Int) = 0 := Int.emod_eq_zero_of_dvd (Int.natCast_dvd_natCast.2 HGD.out.2)
  clear hb18
  dsimp only
  go_wp2
  first | go_ret | skip
  exact HR.out _ HB18.out
end Go.Proofs.YtdkjcdfkoahfkaaGreatDoor
