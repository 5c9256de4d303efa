import Derived.Test.YtjpbmagpieonoaaDoorDigits
namespace Go.Proofs.YtjpbmagpieonoaaDoor
open Go Go.RowKit

set_option maxRecDepth 100000 in
theorem text_any (v : Value) (q : Rat) (w : World) (hq : IsQ w v q) (hl1 : (dig 10000 q.num.natAbs).length ≤ 1000000000) (hl2 : (dig 10000 q.den).length ≤ 1000000000) (R : Ending → World → Prop)
    (hR : ∀ w', Below w.heap.size w w' → R (.returned (.string ⟨(textQ q).toArray⟩)) w') :
    Calls Tryd.prog 34 #[v] w R := by
  have HR := Lib.hid hR; clear hR
  have hd1 := decs_length q.num.natAbs
  have hd2 := decs_length q.den
  obtain ⟨D1, hD1⟩ : ∃ D, D = decs q.num.natAbs := ⟨_, rfl⟩
  obtain ⟨D2, hD2⟩ : ∃ D, D = decs q.den := ⟨_, rfl⟩
  rw [← hD1] at hd1
  rw [← hD2] at hd2
  have hd1' : D1.length ≤ 4000000001 := by omega
  have hd2' : D2.length ≤ 4000000001 := by omega
  have h1 := Lib.hid hD1
  have h2 := Lib.hid hD2
  clear hd1 hd2 hD1 hD2
  obtain ⟨a1, n1, c1, a2, n2, c2, rfl, e1, e2, hs1, hs2⟩ := hq.open
  clear e1 e2
  have HR2 : ∀ w', Below w.heap.size w w' → R (.returned (.string ⟨((if decide (q.num < 0) = true then [45] else []) ++ (D1 ++ if decide (q.den = 1) = true then [] else 47 :: D2)).toArray⟩)) w' := by
    intro w' hw'
    have := HR.out w' hw'
    unfold textQ at this
    rw [← h1.out, ← h2.out] at this
    simpa using this
  obtain ⟨neg, hneg⟩ : ∃ b, b = decide (q.num < 0) := ⟨_, rfl⟩
  rw [← hneg] at hq HR2 ⊢
  have hz1 : IsZ w (.agg #[.bool neg, .slice a1 n1 c1]) q.num := ⟨_, by rw [hneg], hs1⟩
  have hz2 : IsZ w (.agg #[.bool false, .slice a2 n2 c2]) (q.den : Int) := ⟨_, by simp, hs2⟩
  have HZ2 := Lib.hid hz2
  have hbox := Box4.made w (.bool neg) (.slice a1 n1 c1) (.bool false) (.slice a2 n2 c2) 51
  have hext : Below w.heap.size w (w.alloc (.cells #[.bool neg, .slice a1 n1 c1, .bool false, .slice a2 n2 c2] 51)) := (Below.refl _ _).alloc (Nat.le_refl _) _
  have HEXT := Lib.hid hext
  obtain ⟨int, hint⟩ : ∃ b, b = decide (q.den = 1) := ⟨_, rfl⟩
  rw [← hint] at HR2
  have HR := Lib.hid HR2
  have Hint := Lib.hid hint
  clear HR2 hneg hs1 hs2 hz2 hext hint
  go_enter Tryd.func34, Tryd.ntmps34
  go_wp2_with fail
  refine zdigits_any _ q.num _ (hz1.later HEXT.out (Nat.le_refl _)) hl1 _ ?_
  intro w1 hb1
  have hbox1 := hbox.later hb1 (by simp)
  have hb1' : Below w.heap.size w w1 := HEXT.out.trans (hb1.mono (by simp))
  have hq1 := hq.later hb1' (Nat.le_refl _)
  have HB1 := Lib.hid hb1'
  obtain ⟨⟨hA, hB, hC, hD⟩, _, _, _, _⟩ := hbox1.cells
  rw [← h1.out]
  clear hbox hb1 hb1' hz1 hq
  dsimp only
  cases neg
  all_goals
    go_wp2_with fail
    refine integerQ_any _ q _ hq1 hl2 _ ?_
    intro w2 hb2
    have hbox2 := hbox1.later hb2 (lt_of_block hbox1)
    rw [← Hint.out]
    have hz3 := (HZ2.out.later HB1.out (Nat.le_refl _)).later hb2 (Nat.le_refl _)
    have HB2 := Lib.hid (HB1.out.trans (hb2.mono HB1.out.size))
    clear hbox1 hA hB hC hD hb2 hq1
    obtain ⟨⟨hA, hB, hC, hD⟩, _, _, _, _⟩ := hbox2.cells
    dsimp only
    cases int
    · go_wp2_with fail
      refine zdigits_any _ (q.den : Int) _ hz3 (by simpa using hl2) _ ?_
      intro w3 hb3
      have hd2 : decs (q.den : Int).natAbs = D2 := by rw [h2.out]; simp
      rw [hd2]
      have HB3 := Lib.hid (HB2.out.trans (hb3.mono HB2.out.size))
      clear hbox2 hA hB hC hD hb3 hz3 hd2
      dsimp only
      go_wp2
      first | go_ret | skip
      have := HR.out _ HB3.out
      simpa [ByteArray.mk_append_mk] using this
    · go_wp2
      first | go_ret | skip
      have := HR.out _ HB2.out
      simpa [ByteArray.mk_append_mk] using this
end Go.Proofs.YtjpbmagpieonoaaDoor
