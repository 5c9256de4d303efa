import Derived.Test.YtjpbmagpieonoaaDoorCut
namespace Go.Proofs.YtjpbmagpieonoaaDoor
open Go Go.RowKit

theorem info_i64 : (Tryd.prog.info? 2).map (fun i => (i.zero, i.size, i.bytes)) = some (some (.int .i64 0), 1, 8) := by kernel_rfl

theorem zof_step (m : Int) (hm : m ≠ 0) : dig 10000 m.natAbs = (m.tmod 10000).natAbs :: dig 10000 (m.tdiv 10000).natAbs := by
  rw [dig_pos (by omega) (by omega), Int.natAbs_tdiv, Int.natAbs_tmod]; rfl

set_option maxRecDepth 100000 in
theorem zof_any (n : Int) (w : World) (h1 : -9223372036854775807 - 1 ≤ n) (h2 : n ≤ 9223372036854775807) (R : Ending → World → Prop)
    (hR : ∀ v w', IsZ w' v n → Below w.heap.size w w' → R (.returned v) w') :
    Calls Tryd.prog 54 #[.int .i64 n] w R := by
  have HR := Lib.hid hR; clear hR
  have hlenn : (dig 10000 n.natAbs).length ≤ 20 := dig_length_ten (by omega) (by omega)
  have Hlenn := Lib.hid hlenn; clear hlenn
  go_enter Tryd.func54, Tryd.ntmps54
  go_wp2
  go_loopw [3, 4, 5] (fun d r x wr => ∃ (ds : List Nat) (m : Int), r = .int .i64 m ∧ -9223372036854775807 - 1 ≤ m ∧ m ≤ 9223372036854775807 ∧ ds ++ dig 10000 m.natAbs = dig 10000 n.natAbs ∧
      Own .i64 2 wr (w.heap.size + 1) d ds ∧ Below w.heap.size w wr ∧ Box2 wr w.heap.size (.bool false) (.slice none 0 0) 49) (fun _ r _ _ => (intOf r).natAbs)
  case atStart =>
    exact ⟨[], n, rfl, h1, h2, rfl, by have := Own.lit .i64 2 (w.alloc (.cells #[.bool false, .slice none 0 0] 49)) (w.heap.size + 1) (by simp); simpa using this,
      ((Below.refl _ _).alloc (Nat.le_refl _) _).alloc (by simp) _, (Box2.made w _ _ _).alloc _⟩
  case round =>
    obtain ⟨ds, m, rfl, hm1, hm2, hds, hown, hbel, hbox⟩ := hrel
    have hsz := hbel.size
    obtain ⟨hA, hB, hA', hB'⟩ := hbox.cells
    have hdl : ds.length ≤ 20 := by have := Hlenn.out; rw [← hds, List.length_append] at this; omega
    have Hds := Lib.hid hds; clear hds
    by_cases hm : m = 0
    · subst hm
      have hds := Hds.out
      rw [show Int.natAbs 0 = 0 from rfl, dig_zero, List.append_nil] at hds
      go_wp2_with fail
      refine cut_z (decide (n < 0)) u3 ds wr hown.sl (by rw [hds]; exact dig_lt (by omega) _) (by omega) n (by rw [hds, val_dig (by omega)]; split <;> simp_all <;> omega) _ ?_
      intro v' w1 hz hb1
      obtain ⟨ao', n', cap', rfl, hn', hs'⟩ := hz.open
      obtain ⟨hA1, hB1, hA1', hB1'⟩ := (hbox.later hb1 (lt_of_block hbox)).cells
      have Hn' := Lib.hid hn'
      clear hA hB hA' hB' hds hn'
      dsimp only
      go_wp2
      refine bodyPost_ret_at (by simp [results, Tryd.results54, go_sem, hA1, hB1, hA1', hB1'] <;> rfl) rfl ?_
      have hbz : Below w.heap.size w w1 := hbel.trans (hb1.mono hsz)
      have hni := (hbox.later hb1 (lt_of_block hbox)).noInt rfl rfl
      exact HR.out _ _ ⟨_, rfl, (hs'.set hni 0 _).set (hni.set 0 _ rfl) 1 _⟩ ((hbz.setCell (by simp) _).setCell (by simp) _)
    · have e0 : (m != 0) = true := by simp [hm]
      have Hst := Lib.hid (zof_step m hm)
      by_cases hneg : m < 0
      · obtain ⟨a, rfl⟩ : ∃ a : Nat, m = -(a : Int) := ⟨m.natAbs, by omega⟩
        have hst := Hst.out
        rw [tmod_neg_nat, tdiv_neg_nat] at hst
        obtain ⟨x, hxx⟩ : ∃ x : Nat, x = a % 10000 := ⟨_, rfl⟩
        obtain ⟨q, hqq⟩ : ∃ q : Nat, q = a / 10000 := ⟨_, rfl⟩
        have ht1 := tmod_neg_nat a
        have ht2 := tdiv_neg_nat a
        rw [← hxx] at ht1 hst
        rw [← hqq] at ht2 hst
        have hx1 : x < 10000 := by omega
        have hq1 : q < a := by omega
        have Hst2 := Lib.hid hst
        clear hst Hst hxx hqq
        by_cases hx0 : x = 0
        · subst hx0
          have ht3 : (-(a : Int)).tmod 10000 = ((0 : Nat) : Int) := by rw [ht1]; rfl
          clear ht1
          go_wp2_with (at_builtin; go_must (refine wpList_push rfl (.tmp 18) (.tmp 20) 47 rfl 2 .i64 8 Tryd.underlying47 info_i64 (by omega) (w.heap.size + 1) _ ds 0 rfl (hown.alloc _) wr.heap.size rfl (World.cell?_alloc_at _ _ _ _ rfl) (by omega) (by simp; omega) ?_))
          intro v' w1 hown1 hb1
          have hbox1 := (hbox.alloc (.cells #[.int .i64 0] 2)).later hb1 (by simp)
          have hb2 : Below w.heap.size w w1 := (hbel.alloc hsz _).trans (hb1.mono (by omega))
          clear hA hB hA' hB' hbox hown hb1
          go_wp2
          go_roundw
          case rel =>
            have := Hst2.out; have h4 := Hds.out
            exact ⟨ds ++ [0], -(q : Int), by go_num, by omega, by omega, by rw [← h4, this]; simp, hown1, hb2, hbox1⟩
          case measure => simp [intOf]; omega
        · have hneg2 : -(x : Int) < 0 := by omega
          go_wp2_with (at_builtin; go_must (refine wpList_push rfl (.tmp 18) (.tmp 20) 47 rfl 2 .i64 8 Tryd.underlying47 info_i64 (by omega) (w.heap.size + 1) _ ds x rfl (hown.alloc _) wr.heap.size rfl (World.cell?_alloc_at _ _ _ _ rfl) (by omega) (by simp; omega) ?_))
          intro v' w1 hown1 hb1
          have hbox1 := (hbox.alloc (.cells #[.int .i64 x] 2)).later hb1 (by simp)
          have hb2 : Below w.heap.size w w1 := (hbel.alloc hsz _).trans (hb1.mono (by omega))
          clear hA hB hA' hB' hbox hown hb1
          go_wp2
          go_roundw
          case rel =>
            have := Hst2.out; have h4 := Hds.out
            exact ⟨ds ++ [x], -(q : Int), by go_num, by omega, by omega, by rw [← h4, this]; simp, hown1, hb2, hbox1⟩
          case measure => simp [intOf]; omega
      · have hx : 0 ≤ m.tmod 10000 := Int.tmod_nonneg _ (by omega)
        have hx2 : m.tmod 10000 < 10000 := Int.tmod_lt_of_pos _ (by omega)
        have hq : m.tdiv 10000 = m / 10000 := Int.tdiv_eq_ediv_of_nonneg (by omega)
        obtain ⟨x, hxx⟩ : ∃ x : Nat, m.tmod 10000 = x := ⟨(m.tmod 10000).toNat, by omega⟩
        rw [hxx] at hx hx2
        have hm' : 0 ≤ m := by omega
        have hmm : m % 10000 = x := by rw [← hxx, Int.tmod_eq_emod_of_nonneg hm']
        go_wp2_with (at_builtin; go_must (refine wpList_push rfl (.tmp 18) (.tmp 20) 47 rfl 2 .i64 8 Tryd.underlying47 info_i64 (by omega) (w.heap.size + 1) _ ds x rfl (hown.alloc _) wr.heap.size rfl (World.cell?_alloc_at _ _ _ _ rfl) (by omega) (by simp; omega) ?_))
        intro v' w1 hown1 hb1
        have hbox1 := (hbox.alloc (.cells #[.int .i64 x] 2)).later hb1 (by omega)
        have hb2 : Below w.heap.size w w1 := (hbel.alloc hsz _).trans (hb1.mono (by omega))
        clear hA hB hA' hB' hbox hown hb1
        go_wp2
        go_roundw
        case rel =>
          have := Hst.out; have h4 := Hds.out
          exact ⟨ds ++ [x], m.tdiv 10000, by go_num, by omega, by omega, by rw [← h4, this, hxx]; simp, hown1, hb2, hbox1⟩
        case measure => simp [intOf]; omega
end Go.Proofs.YtjpbmagpieonoaaDoor
