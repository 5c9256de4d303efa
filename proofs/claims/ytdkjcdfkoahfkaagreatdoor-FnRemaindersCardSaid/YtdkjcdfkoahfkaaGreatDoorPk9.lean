/- Contracts of functions of the program and of the model: Src, ZofN, Draw, B10, IsNumI, LawFnNumbers, EnvLaid, Lst, Tx, RowKit, EnvLaidT. -/
import Derived.Test.YtdkjcdfkoahfkaaGreatDoorPk8
import Derived.WalkSmall
import Derived.Laws.BytesArg
import Derived.Deep.RegionLaw
import Derived.Test.YtdkjcdfkoahfkaaGreatDoorTie
import Derived.Test.YtdkjcdfkoahfkaaGreatDoorCards
import Derived.ProofKit
import Derived.LaidMore
import Derived.LaidHandle
import Derived.OpenShut
import Derived.ChangeVars
import Derived.ChangeMaps5
import Derived.Stop.Joined
import Derived.Stop.JoinedAt
import Derived.Stop.Texts
import Derived.Stop.ErrReads
import Derived.Stop.LaidErr
import Derived.SevenTiedAt
import Derived.SliceStrings
import Derived.Carry
import Derived.Lib.LaidTab
set_option linter.all false
set_option linter.unusedVariables false
set_option linter.unusedSimpArgs false
set_option linter.unnecessarySimpa false
set_option linter.deprecated false
namespace Go.Proofs.YtdkjcdfkoahfkaaGreatDoor
open Go Go.RowKit

/-- a source of choices -/
def Src (w : World) (g K : Nat) : Prop := ∃ (ao : Option Addr) (n cap k sd : Nat), Box3 w g (.slice ao n cap) (.int .i64 (k : Int)) (.int .u64 (sd : Int)) 140 ∧ k ≤ K ∧ sd < 18446744073709551616 ∧ ∀ i, i < n → ∃ (b off : Nat) (x : Int), ao = some ⟨b, off, none⟩ ∧ b < g ∧ w.cell? ⟨b, off + i, none⟩ = some (.int .u8 x) ∧ 0 ≤ x ∧ x < 256

theorem Src.lt {w : World} {g K : Nat} (h : Src w g K) : g < w.heap.size := by
  obtain ⟨_, _, _, _, _, h1, _⟩ := h
  exact lt_of_block h1
theorem Src.mono {w : World} {g K K' : Nat} (h : Src w g K) (hk : K ≤ K') : Src w g K' := by
  obtain ⟨ao, n, cap, k, sd, h1, h2, h3⟩ := h
  exact ⟨ao, n, cap, k, sd, h1, Nat.le_trans h2 hk, h3⟩
theorem Src.later {w w' : World} {g K B : Nat} (h : Src w g K) (hb : Below B w w') (hB : g < B) : Src w' g K := by
  obtain ⟨ao, n, cap, k, sd, h1, h2, h4, h3⟩ := h
  refine ⟨ao, n, cap, k, sd, h1.later hb hB, h2, h4, fun i hi => ?_⟩
  obtain ⟨b, off, x, e1, e2, e3, e4⟩ := h3 i hi
  exact ⟨b, off, x, e1, e2, by rw [hb.cell (p := ⟨b, off + i, none⟩) (by show b < B; omega)]; exact e3, e4⟩

theorem Box3.set12 {w : World} {b : Nat} {x0 x1 x2 : Value} {t : TypeId} (h : Box3 w b x0 x1 x2 t) (y1 y2 : Value) : Box3 ((w.setCell ⟨b, 1, none⟩ y1).setCell ⟨b, 2, none⟩ y2) b x0 y1 y2 t := by
  unfold Box3 at *
  simp [World.setCell, Array.getElem?_modify, h]

theorem u64_wrap_in (x : Int) : 0 ≤ IntKind.u64.wrap x ∧ IntKind.u64.wrap x < 18446744073709551616 := by
  rw [IntKind.wrap_u64]
  omega

theorem and_255 (x : Int) (h0 : 0 ≤ x) (h1 : x < 18446744073709551616) : ∃ r : Nat, r < 256 ∧ bits BinOp.and IntKind.u64 x 255 = (r : Int) := by
  have h := bits_and_u64_nat x.toNat 255 (by omega) (by omega)
  rw [Int.toNat_of_nonneg h0] at h
  have e : x.toNat &&& 255 = x.toNat % 256 := Nat.and_two_pow_sub_one_eq_mod x.toNat 8
  rw [e] at h
  exact ⟨x.toNat % 256, Nat.mod_lt _ (by omega), h⟩

theorem src_next {w : World} {g K n cap : Nat} {k sd : Int} {ao : Option Addr} (hb : Box3 w g (.slice ao n cap) (.int .i64 k) (.int .u64 sd) 140)
    (hx : ∀ i, i < n → ∃ (b off : Nat) (x : Int), ao = some ⟨b, off, none⟩ ∧ b < g ∧ w.cell? ⟨b, off + i, none⟩ = some (.int .u8 x) ∧ 0 ≤ x ∧ x < 256)
    (a c : Nat) (k' sd' : Int) (h1 : 0 ≤ k') (h2 : k' ≤ (K : Int)) (h3 : 0 ≤ sd') (h4 : sd' < 18446744073709551616) :
    Src ((((w.drewN a).setCell ⟨g, 1, none⟩ (.int .i64 k')).setCell ⟨g, 2, none⟩ (.int .u64 sd')).drewN c) g K ∧ But g w ((((w.drewN a).setCell ⟨g, 1, none⟩ (.int .i64 k')).setCell ⟨g, 2, none⟩ (.int .u64 sd')).drewN c) := by
  obtain ⟨k1, rfl⟩ : ∃ k1 : Nat, k' = (k1 : Int) := ⟨k'.toNat, by omega⟩
  obtain ⟨s1, rfl⟩ : ∃ s1 : Nat, sd' = (s1 : Int) := ⟨sd'.toNat, by omega⟩
  have hb0 : Box3 (w.drewN a) g (.slice ao n cap) (.int .i64 k) (.int .u64 sd) 140 := hb
  have hb1 := hb0.set12 (.int .i64 (k1 : Int)) (.int .u64 (s1 : Int))
  constructor
  · refine ⟨ao, n, cap, k1, s1, hb1, by omega, by omega, fun i hi => ?_⟩
    obtain ⟨b, off, x, e1, e2, e3, e4⟩ := hx i hi
    refine ⟨b, off, x, e1, e2, ?_, e4⟩
    show (((w.drewN a).setCell ⟨g, 1, none⟩ (.int .i64 (k1 : Int))).setCell ⟨g, 2, none⟩ (.int .u64 (s1 : Int))).cell? ⟨b, off + i, none⟩ = _
    rw [cell?_set, if_neg (by omega), cell?_set, if_neg (by omega)]
    exact e3
  · have h9 := ((But.refl g (w.drewN a)).setCell 1 (.int .i64 (k1 : Int))).setCell 2 (.int .u64 (s1 : Int))
    exact ⟨h9.os, h9.tape, h9.output, h9.size, h9.block⟩

set_option maxRecDepth 100000 in
set_option maxHeartbeats 1000000 in
theorem next_any (g K : Nat) (w : World) (h : Src w g K) (hK : K ≤ 1000000) (R : Ending → World → Prop)
    (hR : ∀ (r : Nat) w', r < 256 → Src w' g (K + 1) → But g w w' → R (.returned (.int .i64 (r : Int))) w') :
    Calls Tryz.prog 110 #[.pointer (some ⟨g, 0, none⟩)] w R := by
  have HR := Lib.hid hR; clear hR
  obtain ⟨ao, n, cap, k, sd, hbx, hk, hsd, hx⟩ := h
  have HX := Lib.hid hx
  have HBX := Lib.hid hbx
  have HN : Hid (∀ (r a c : Nat) (sd' : Int), r < 256 → 0 ≤ sd' → sd' < 18446744073709551616 → R (.returned (.int .i64 (r : Int))) ((((w.drewN a).setCell ⟨g, 1, none⟩ (.int .i64 ((k : Int) + 1))).setCell ⟨g, 2, none⟩ (.int .u64 sd')).drewN c)) := Lib.hid (fun r a c sd' h1 h2 h3 => by
    have h9 := src_next (K := K + 1) HBX.out HX.out a c ((k : Int) + 1) sd' (by omega) (by omega) h2 h3
    exact HR.out r _ h1 h9.1 h9.2)
  obtain ⟨⟨hA, hB, hC⟩, hD, hE, hF⟩ := hbx.cells
  have hw1 : IntKind.i64.wrap ((k : Int) + 1) = ((k : Int) + 1) := IntWalk.i64_in _ (by omega)
  have hkb : k ≤ 1000000 := by omega
  clear hx hbx hk HR
  by_cases hlt : k < n
  · obtain ⟨b, off, x, rfl, hb, hc, hx0, hx1⟩ := HX.out k hlt
    have t1 : (k : Int) < (n : Int) := by omega
    have t2 : (k : Int) + 1 ≤ (n : Int) := by omega
    have t0 : (0 : Int) ≤ (k : Int) := by omega
    obtain ⟨y, rfl⟩ : ∃ y : Nat, x = (y : Int) := ⟨x.toNat, by omega⟩
    have hy : y < 256 := by omega
    have e1 : IntKind.i64.wrap (y : Int) = (y : Int) := IntWalk.i64_in _ (by omega)
    have HF := Lib.hid (fun a c sd' => HN.out y a c sd' hy)
    clear hlt
    go_enter Tryz.func110, Tryz.ntmps110
    go_wp2
    go_quiet (fail)
    go_wp2
    go_quiet (fail)
    go_wp2
    go_quiet (fail)
    go_wp2
    first | go_ret | skip
    exact HF.out _ _ _ (u64_wrap_in _).1 (u64_wrap_in _).2
  · have t1 : ¬ (k : Int) < (n : Int) := by omega
    have t2 : ¬ (k : Int) + 1 ≤ (n : Int) := by omega
    clear hlt
    go_enter Tryz.func110, Tryz.ntmps110
    go_wp2
    go_quiet (fail)
    go_wp2
    go_quiet (fail)
    go_wp2
    first | go_ret | skip
    obtain ⟨S, hS⟩ : ∃ S : Int, S = IntKind.u64.wrap (IntKind.u64.wrap (IntKind.u64.wrap ((sd : Int) * 6364136223846793005)) + 1442695040888963407) := ⟨_, rfl⟩
    have hS1 : 0 ≤ S ∧ S < 18446744073709551616 := by rw [hS]; exact u64_wrap_in _
    obtain ⟨r, hr1, hr2⟩ := and_255 (S / 1099511627776) (by omega) (by omega)
    have HF := Lib.hid (fun a c => HN.out r a c S hr1 hS1.1 hS1.2)
    rw [← hS, hr2]
    have e5 : wrap64 (r : Int) = (r : Int) := by
      first
        | exact IntWalk.i64_in _ (by omega)
        | (unfold wrap64; omega)
    rw [e5]
    exact HF.out _ _
end Go.Proofs.YtdkjcdfkoahfkaaGreatDoor

namespace Go.Proofs.YtdkjcdfkoahfkaaGreatDoor
open Go Go.RowKit

/-- the digits lie behind block B -/
def NewZ (B : Nat) (v : Value) : Prop := ∃ x ao m c, v = .agg #[x, .slice ao m c] ∧ ∀ b off sp, ao = some ⟨b, off, sp⟩ → B ≤ b
/-- the digits of a fraction lie behind block B -/
def NewQ (B : Nat) (v : Value) : Prop := ∃ x a1 m1 c1 y a2 m2 c2, v = .agg #[x, .slice a1 m1 c1, y, .slice a2 m2 c2] ∧ (∀ b off sp, a1 = some ⟨b, off, sp⟩ → B ≤ b) ∧ ∀ b off sp, a2 = some ⟨b, off, sp⟩ → B ≤ b
theorem NewZ.two {B B1 B2 : Nat} {x y z1 z2 : Value} {a1 a2 : Option Addr} {m1 m2 c1 c2 : Nat} (h : NewZ B1 (.agg #[x, .slice a1 m1 c1])) (k : NewZ B2 (.agg #[y, .slice a2 m2 c2])) (h1 : B ≤ B1) (h2 : B ≤ B2) : NewQ B (.agg #[z1, .slice a1 m1 c1, z2, .slice a2 m2 c2]) := by
  obtain ⟨_, _, _, _, e1, f1⟩ := h
  obtain ⟨_, _, _, _, e2, f2⟩ := k
  simp at e1 e2
  obtain ⟨_, rfl, rfl, rfl⟩ := e1
  obtain ⟨_, rfl, rfl, rfl⟩ := e2
  exact ⟨_, _, _, _, _, _, _, _, rfl, fun b off sp e => Nat.le_trans h1 (f1 b off sp e), fun b off sp e => Nat.le_trans h2 (f2 b off sp e)⟩

theorem own_base {k : IntKind} {e : TypeId} {w : World} {B : Nat} {v : Value} {xs : List Nat} (h : Own k e w B v xs) : ∃ ao n c, v = .slice ao n c ∧ ∀ b off sp, ao = some ⟨b, off, sp⟩ → B ≤ b := by
  obtain ⟨_, h2⟩ := h
  rcases h2 with ⟨rfl, _⟩ | ⟨g, cap, cur, rfl, hg, _⟩
  · exact ⟨_, _, _, rfl, fun b off sp e => by cases e⟩
  · exact ⟨_, _, _, rfl, fun b off sp e => by cases e; exact hg⟩

theorem sl_but {k : IntKind} {w w' : World} {a : Option Addr} {m c g : Nat} {xs : List Nat} (h : Sl k w (.slice a m c) xs) (hb : But g w w') (hn : ∀ b off sp, a = some ⟨b, off, sp⟩ → b ≠ g) : Sl k w' (.slice a m c) xs := by
  obtain ⟨ao, cap, hv, hc, hx⟩ := h
  simp only [Value.slice.injEq] at hv
  obtain ⟨rfl, rfl, rfl⟩ := hv
  refine ⟨a, c, rfl, hc, fun i hi => ?_⟩
  obtain ⟨b, off, rfl, h2, h3⟩ := hx i hi
  refine ⟨b, off, rfl, Nat.lt_of_lt_of_le h2 hb.size, ?_⟩
  have h9 := hb.block b h2 (hn b off none rfl)
  simp only [World.cell?] at h3 ⊢
  rw [h9]; exact h3
theorem isQ_but {w w' : World} {v : Value} {q : Rat} {B g : Nat} (h : IsQ w v q) (hn : NewQ B v) (hb : But g w w') (hg : g < B) : IsQ w' v q := by
  obtain ⟨s1, s2, rfl, h1, h2⟩ := h
  obtain ⟨x, a1, m1, c1, y, a2, m2, c2, e, f1, f2⟩ := hn
  simp at e
  obtain ⟨_, rfl, _, rfl⟩ := e
  exact ⟨_, _, rfl, sl_but h1 hb (fun b off sp e => by have := f1 b off sp e; omega), sl_but h2 hb (fun b off sp e => by have := f2 b off sp e; omega)⟩

/-- an integer from its sign and digits that may end in zeros; the digits stay where they are -/
theorem cut_zb (neg : Bool) (ao : Option Addr) (n cap : Nat) (xs : List Nat) (w : World) (hs : Sl .i64 w (.slice ao n cap) xs) (hd : ∀ d ∈ xs, d < 10000) (hlen : xs.length ≤ 1000000000) (z : Int) (hz : z = if neg then -(val 10000 xs : Int) else val 10000 xs) (R : Ending → World → Prop)
    (hR : ∀ n' w', Sl .i64 w' (.slice ao n' cap) (dig 10000 z.natAbs) → n' = (dig 10000 z.natAbs).length → Below w.heap.size w w' → R (.returned (.agg #[.bool (decide (z < 0)), .slice ao n' cap])) w') :
    Calls Tryz.prog 59 #[.bool neg, .slice ao n cap] w R := by
  refine cut_at neg ao n cap xs w hs hd hlen R fun n' w' h1 h2 => ?_
  have e1 : (neg && decide (0 < val 10000 xs)) = decide (z < 0) := by
    cases neg
    · rw [hz]; simp
    · rw [hz]; simp
  have e2 : z.natAbs = val 10000 xs := by rw [hz]; split <;> omega
  rw [← e2] at h1
  rw [e1]
  exact hR n' w' h1 h1.len h2

set_option maxRecDepth 100000 in
theorem zof_new (n : Int) (w : World) (h1 : -9223372036854775807 - 1 ≤ n) (h2 : n ≤ 9223372036854775807) (R : Ending → World → Prop)
    (hR : ∀ v w', IsZ w' v n → NewZ w.heap.size v → Below w.heap.size w w' → R (.returned v) w') :
    Calls Tryz.prog 60 #[.int .i64 n] w R := by
  have HR := Lib.hid hR; clear hR
  have hlenn : (dig 10000 n.natAbs).length ≤ 20 := dig_length_ten (by omega) (by omega)
  have Hlenn := Lib.hid hlenn; clear hlenn
  go_enter Tryz.func60, Tryz.ntmps60
  go_wp2
  go_loopw [3, 4, 5] (fun d r x wr => ∃ (ds : List Nat) (m : Int), r = .int .i64 m ∧ -9223372036854775807 - 1 ≤ m ∧ m ≤ 9223372036854775807 ∧ ds ++ dig 10000 m.natAbs = dig 10000 n.natAbs ∧
      Own .i64 2 wr (w.heap.size + 1) d ds ∧ Below w.heap.size w wr ∧ Box2 wr w.heap.size (.bool false) (.slice none 0 0) 67) (fun _ r _ _ => (intOf r).natAbs)
  case atStart =>
    exact ⟨[], n, rfl, h1, h2, rfl, by have := Own.lit .i64 2 (w.alloc (.cells #[.bool false, .slice none 0 0] 67)) (w.heap.size + 1) (by simp); simpa using this,
      ((Below.refl _ _).alloc (Nat.le_refl _) _).alloc (by simp) _, (Box2.made w _ _ _).alloc _⟩
  case round =>
    obtain ⟨ds, m, rfl, hm1, hm2, hds, hown, hbel, hbox⟩ := hrel
    have hsz := hbel.size
    obtain ⟨hA, hB, hA', hB'⟩ := hbox.cells
    have hdl : ds.length ≤ 20 := by have := Hlenn.out; rw [← hds, List.length_append] at this; omega
    have Hds := Lib.hid hds; clear hds
    by_cases hm : m = 0
    · subst hm
      have hds := Hds.out
      rw [show Int.natAbs 0 = 0 from rfl, dig_zero, List.append_nil] at hds
      go_wp2_with fail
      obtain ⟨ao5, n5, c5, rfl, hnb⟩ := own_base hown
      have HNB := Lib.hid hnb
      clear hnb
      refine cut_zb (decide (n < 0)) ao5 n5 c5 ds wr hown.sl (by rw [hds]; exact dig_lt (by omega) _) (by omega) n (by rw [hds, val_dig (by omega)]; split <;> simp_all <;> omega) _ ?_
      intro n' w1 hs' hn' hb1
      obtain ⟨hA1, hB1, hA1', hB1'⟩ := (hbox.later hb1 (lt_of_block hbox)).cells
      have Hn' := Lib.hid hn'
      clear hA hB hA' hB' hds hn'
      dsimp only
      go_wp2
      refine bodyPost_ret_at (by simp [results, Tryz.results60, go_sem, hA1, hB1, hA1', hB1'] <;> rfl) rfl ?_
      have hbz : Below w.heap.size w w1 := hbel.trans (hb1.mono hsz)
      have hni := (hbox.later hb1 (lt_of_block hbox)).noInt rfl rfl
      exact HR.out _ _ ⟨_, rfl, (hs'.set hni 0 _).set (hni.set 0 _ rfl) 1 _⟩ ⟨_, _, _, _, rfl, fun b off sp e => by have := HNB.out b off sp e; omega⟩ ((hbz.setCell (by simp) _).setCell (by simp) _)
    · have e0 : (m != 0) = true := by simp [hm]
      have Hst := Lib.hid (zof_step m hm)
      by_cases hneg : m < 0
      · obtain ⟨a, rfl⟩ : ∃ a : Nat, m = -(a : Int) := ⟨m.natAbs, by omega⟩
        have hst := Hst.out
        rw [tmod_neg_nat, tdiv_neg_nat] at hst
        obtain ⟨x, hxx⟩ : ∃ x : Nat, x = a % 10000 := ⟨_, rfl⟩
        obtain ⟨q, hqq⟩ : ∃ q : Nat, q = a / 10000 := ⟨_, rfl⟩
        have ht1 := tmod_neg_nat a
        have ht2 := tdiv_neg_nat a
        rw [← hxx] at ht1 hst
        rw [← hqq] at ht2 hst
        have hx1 : x < 10000 := by omega
        have hq1 : q < a := by omega
        have Hst2 := Lib.hid hst
        clear hst Hst hxx hqq
        by_cases hx0 : x = 0
        · subst hx0
          have ht3 : (-(a : Int)).tmod 10000 = ((0 : Nat) : Int) := by rw [ht1]; rfl
          clear ht1
          go_wp2_with (at_builtin; go_must (refine wpList_push rfl (.tmp 18) (.tmp 20) 65 rfl 2 .i64 8 Tryz.underlying65 info_i64 (by omega) (w.heap.size + 1) _ ds 0 rfl (hown.alloc _) wr.heap.size rfl (World.cell?_alloc_at _ _ _ _ rfl) (by omega) (by simp; omega) ?_))
          intro v' w1 hown1 hb1
          have hbox1 := (hbox.alloc (.cells #[.int .i64 0] 2)).later hb1 (by simp)
          have hb2 : Below w.heap.size w w1 := (hbel.alloc hsz _).trans (hb1.mono (by omega))
          clear hA hB hA' hB' hbox hown hb1
          go_wp2
          go_roundw
          case rel =>
            have := Hst2.out; have h4 := Hds.out
            exact ⟨ds ++ [0], -(q : Int), by go_num, by omega, by omega, by rw [← h4, this]; simp, hown1, hb2, hbox1⟩
          case measure => simp [intOf]; omega
        · have hneg2 : -(x : Int) < 0 := by omega
          go_wp2_with (at_builtin; go_must (refine wpList_push rfl (.tmp 18) (.tmp 20) 65 rfl 2 .i64 8 Tryz.underlying65 info_i64 (by omega) (w.heap.size + 1) _ ds x rfl (hown.alloc _) wr.heap.size rfl (World.cell?_alloc_at _ _ _ _ rfl) (by omega) (by simp; omega) ?_))
          intro v' w1 hown1 hb1
          have hbox1 := (hbox.alloc (.cells #[.int .i64 x] 2)).later hb1 (by simp)
          have hb2 : Below w.heap.size w w1 := (hbel.alloc hsz _).trans (hb1.mono (by omega))
          clear hA hB hA' hB' hbox hown hb1
          go_wp2
          go_roundw
          case rel =>
            have := Hst2.out; have h4 := Hds.out
            exact ⟨ds ++ [x], -(q : Int), by go_num, by omega, by omega, by rw [← h4, this]; simp, hown1, hb2, hbox1⟩
          case measure => simp [intOf]; omega
      · have hx : 0 ≤ m.tmod 10000 := Int.tmod_nonneg _ (by omega)
        have hx2 : m.tmod 10000 < 10000 := Int.tmod_lt_of_pos _ (by omega)
        have hq : m.tdiv 10000 = m / 10000 := Int.tdiv_eq_ediv_of_nonneg (by omega)
        obtain ⟨x, hxx⟩ : ∃ x : Nat, m.tmod 10000 = x := ⟨(m.tmod 10000).toNat, by omega⟩
        rw [hxx] at hx hx2
        have hm' : 0 ≤ m := by omega
        have hmm : m % 10000 = x := by rw [← hxx, Int.tmod_eq_emod_of_nonneg hm']
        go_wp2_with (at_builtin; go_must (refine wpList_push rfl (.tmp 18) (.tmp 20) 65 rfl 2 .i64 8 Tryz.underlying65 info_i64 (by omega) (w.heap.size + 1) _ ds x rfl (hown.alloc _) wr.heap.size rfl (World.cell?_alloc_at _ _ _ _ rfl) (by omega) (by simp; omega) ?_))
        intro v' w1 hown1 hb1
        have hbox1 := (hbox.alloc (.cells #[.int .i64 x] 2)).later hb1 (by omega)
        have hb2 : Below w.heap.size w w1 := (hbel.alloc hsz _).trans (hb1.mono (by omega))
        clear hA hB hA' hB' hbox hown hb1
        go_wp2
        go_roundw
        case rel =>
          have := Hst.out; have h4 := Hds.out
          exact ⟨ds ++ [x], m.tdiv 10000, by go_num, by omega, by omega, by rw [← h4, this, hxx]; simp, hown1, hb2, hbox1⟩
        case measure => simp [intOf]; omega

set_option maxRecDepth 100000 in
theorem zread_new (s : ByteArray) (w : World) (hd : s.data.toList.all isDig = true) (hs : s.size ≤ 1000000) (R : Ending → World → Prop)
    (hR : ∀ v w', IsZ w' v ((rdec s.data.toList : Nat) : Int) → NewZ w.heap.size v → Below w.heap.size w w' → R (.returned v) w') :
    Calls Tryz.prog 55 #[.string s] w R := by
  have HR := Lib.hid hR; clear hR
  have HD := Lib.hid hd; clear hd
  obtain ⟨n, hn⟩ : ∃ n, n = s.size := ⟨_, rfl⟩
  have HN := Lib.hid hn
  rw [← hn] at hs
  go_enter Tryz.func55, Tryz.ntmps55
  go_wp2
  rw [← HN.out]
  clear hn
  go_loopw [3, 4, 5, 6] (fun d e _ _ wr => ∃ (ds : List Nat) (z : Int), e = .int .i64 z ∧ z = (n : Int) - 4 * (ds.length : Int) ∧ -4 < z ∧ (∀ q ∈ ds, q < 10000) ∧
      val 10000 ds = rdec (s.data.toList.drop z.toNat) ∧ Own .i64 2 wr (w.heap.size + 1) d ds ∧ Below w.heap.size w wr ∧ Box2 wr w.heap.size (.bool false) (.slice none 0 0) 67) (fun _ e _ _ _ => (intOf e).toNat)
  case atStart =>
    refine ⟨[], (n : Int), rfl, by simp, by omega, by simp, ?_, by have := Own.lit .i64 2 (w.alloc (.cells #[.bool false, .slice none 0 0] 67)) (w.heap.size + 1) (by simp); simpa using this,
      ((Below.refl _ _).alloc (Nat.le_refl _) _).alloc (by simp) _, (Box2.made w _ _ _).alloc _⟩
    rw [List.drop_eq_nil_of_le (by rw [size_list, ← HN.out]; omega)]; rfl
  case round =>
    obtain ⟨ds, z, rfl, hz, hz4, hds, hv, hown, hbel, hbox⟩ := hrel
    have hsz := hbel.size
    obtain ⟨hA, hB, hA', hB'⟩ := hbox.cells
    have hdl : ds.length ≤ 1000000 := by omega
    have HZ := Lib.hid hz
    have HV := Lib.hid hv
    have HDS := Lib.hid hds
    clear hz hv hds
    by_cases h0 : 0 < z
    · obtain ⟨k, rfl⟩ : ∃ k : Nat, z = k := ⟨z.toNat, by omega⟩
      have hkn : k ≤ n := by have := HZ.out; omega
      go_wp2
      go_loop [5, 6] (fun x i => ∃ (j : Int) (X : Nat), i = .int .i64 j ∧ (k : Int) - 4 ≤ j ∧ j ≤ k ∧ x = .int .i64 X ∧ X = rdec ((s.data.toList.take j.toNat).drop (k - 4)) ∧ X < 10000) (fun _ i => ((k : Int) - intOf i).toNat)
      case atStart =>
        exact ⟨(k : Int) - 4, 0, rfl, by omega, by omega, rfl, (group_nil _ _ _ (by omega)).symm, by omega⟩
      case round =>
        obtain ⟨j, X, rfl, hj1, hj2, rfl, hX, hX4⟩ := hrel
        have HX := Lib.hid hX
        clear hX
        by_cases hjk : j < k
        · by_cases hj0 : 0 ≤ j
          · obtain ⟨i, rfl⟩ : ∃ i : Nat, j = i := ⟨j.toNat, by omega⟩
            have hin : i < s.size := by rw [← HN.out]; omega
            have hin2 : i < s.data.toList.length := by rw [size_list]; exact hin
            have hb := dig_at _ HD.out i hin2
            rw [← byte_at s i hin hin2] at hb
            obtain ⟨hb1, hb2⟩ := hb
            have hb3 : 48 ≤ (s[i].toNat : Int) := by omega
            have hb4 : (s[i].toNat : Int) ≤ 57 := by omega
            have hX3 : X ≤ 999 := by rw [HX.out]; exact group_le _ HD.out _ _ (by omega)
            have HS : Hid (rdec ((s.data.toList.take (i + 1)).drop (k - 4)) = 10 * X + (s[i].toNat - 48)) := Lib.hid (by
              rw [read_digit _ _ _ (by omega) hin2, ← byte_at s i hin hin2, HX.out]; rfl)
            have hin3 : i < n := by omega
            have HIN := HN.out ▸ hin3
            go_wp2
            go_round
            case rel => exact ⟨(i : Int) + 1, 10 * X + (s[i].toNat - 48), rfl, by omega, by omega, congrArg (Value.int .i64) (by omega), by rw [← HS.out]; rfl, by omega⟩
            case measure => simp [intOf]; omega
          · go_wp2
            go_round
            case rel => exact ⟨j + 1, X, rfl, by omega, by omega, rfl, by rw [HX.out, group_nil _ _ _ (by omega), group_nil _ _ _ (by omega)], hX4⟩
            case measure => simp [intOf]; omega
        · obtain rfl : j = k := by omega
          go_wp2_with (at_builtin; go_must (refine wpList_push rfl (.tmp 31) (.tmp 33) 65 rfl 2 .i64 8 Tryz.underlying65 info_i64 (by omega) (w.heap.size + 1) _ ds X rfl (hown.alloc _) wr.heap.size rfl (World.cell?_alloc_at _ _ _ _ rfl) (by omega) (by simp; omega) ?_))
          intro v' w1 hown1 hb1
          have hbox1 := (hbox.alloc (.cells #[.int .i64 X] 2)).later hb1 (by omega)
          have hb2 : Below w.heap.size w w1 := (hbel.alloc hsz _).trans (hb1.mono (by omega))
          clear hA hB hA' hB' hbox hown hb1
          go_wp2
          go_roundw
          case rel =>
            refine ⟨ds ++ [X], (k : Int) - 4, rfl, by have := HZ.out; simp; omega, by omega, ?_, ?_, hown1, hb2, hbox1⟩
            · intro q hq
              rcases List.mem_append.1 hq with hq | hq
              · exact HDS.out q hq
              · simp at hq; omega
            · have := read_step s.data.toList ds k X (by rw [size_list, ← HN.out]; exact hkn) (by rw [size_list, ← HN.out]; have := HZ.out; omega) HV.out (by rw [HX.out]; rfl)
              rw [this, show ((k : Int) - 4).toNat = k - 4 by omega]
          case measure => simp [intOf]; omega
    · have hall : val 10000 ds = rdec s.data.toList := by rw [HV.out, show z.toNat = 0 by omega, List.drop_zero]
      go_wp2_with fail
      obtain ⟨ao5, n5, c5, rfl, hnb⟩ := own_base hown
      have HNB := Lib.hid hnb
      clear hnb
      refine cut_zb false ao5 n5 c5 ds wr hown.sl HDS.out (by omega) ((rdec s.data.toList : Nat) : Int) (by rw [hall]; rfl) _ ?_
      intro n' w1 hs' hn' hb1
      obtain ⟨hA1, hB1, hA1', hB1'⟩ := (hbox.later hb1 (lt_of_block hbox)).cells
      have Hn' := Lib.hid hn'
      clear hA hB hA' hB' hall hn'
      dsimp only
      go_wp2
      refine bodyPost_ret_at (by simp [results, Tryz.results55, go_sem, hA1, hB1, hA1', hB1'] <;> rfl) rfl ?_
      have hbz : Below w.heap.size w w1 := hbel.trans (hb1.mono hsz)
      have hni := (hbox.later hb1 (lt_of_block hbox)).noInt rfl rfl
      exact HR.out _ _ ⟨_, rfl, (hs'.set hni 0 _).set (hni.set 0 _ rfl) 1 _⟩ ⟨_, _, _, _, rfl, fun b off sp e => by have := HNB.out b off sp e; omega⟩ ((hbz.setCell (by simp) _).setCell (by simp) _)

set_option maxRecDepth 100000 in
theorem int_new (n : Int) (w : World) (h1 : -9223372036854775807 - 1 ≤ n) (h2 : n ≤ 9223372036854775807) (R : Ending → World → Prop)
    (hR : ∀ v w', IsQ w' v (n : Rat) → NewQ w.heap.size v → Below w.heap.size w w' → R (.returned v) w') :
    Calls Tryz.prog 114 #[.int .i64 n] w R := by
  have HR := Lib.hid hR; clear hR
  obtain ⟨B, hB⟩ : ∃ B, B = w.heap.size := ⟨_, rfl⟩
  have hbox := Box4.made w (.bool false) (.slice none 0 0) (.bool false) (.slice none 0 0) 75
  go_enter Tryz.func114, Tryz.ntmps114
  go_wp2_with fail
  refine zof_new n _ h1 h2 _ ?_
  intro v1 w1 hz1 hnw1 hb1
  have hbox1 := hbox.later hb1 (by simp)
  clear hbox
  dsimp only
  go_wp2_with fail
  refine zof_new 1 _ (by omega) (by omega) _ ?_
  intro v2 w2 hz2 hnw2 hb2
  have HW1 := Lib.hid hnw1
  have HW2 := Lib.hid hnw2
  have HSZ : Hid (w.heap.size ≤ w1.heap.size) := Lib.hid (by have := hb1.size; simp at this; omega)
  clear hnw1 hnw2
  have hbox2 := hbox1.later hb2 (lt_of_block hbox1)
  have hz1' := hz1.later hb2 (Nat.le_refl _)
  obtain ⟨a1, n1, c1, rfl, e1, hs1⟩ := hz1'.open
  obtain ⟨a2, n2, c2, rfl, e2, hs2⟩ := hz2.open
  have E1 := Lib.hid e1
  have E2 := Lib.hid e2
  obtain ⟨⟨hA, hB, hC, hD⟩, hA', hB', hC', hD'⟩ := hbox2.cells
  have hni := hbox2.noInt rfl rfl rfl rfl
  clear e1 e2 hbox1 hz1 hz1' hz2
  dsimp only
  go_wp2
  refine bodyPost_ret_at (by simp [results, Tryz.results114, go_sem, hA, hB, hC, hD, hA', hB', hC', hD'] <;> rfl) rfl ?_
  have hbz : Below w.heap.size w w2 := ((Below.refl _ _).alloc (Nat.le_refl _) _).trans ((hb1.mono (by simp)).trans (hb2.mono (by have := hb1.size; simp at this; omega)))
  refine HR.out _ _ ⟨_, _, ?_, ((((hs1.set hni 0 _).set (hni.set 0 _ rfl) 1 _).set ((hni.set 0 _ rfl).set 1 _ rfl) 2 _).set (((hni.set 0 _ rfl).set 1 _ rfl).set 2 _ rfl) 3 _), ((((hs2.set hni 0 _).set (hni.set 0 _ rfl) 1 _).set ((hni.set 0 _ rfl).set 1 _ rfl) 2 _).set (((hni.set 0 _ rfl).set 1 _ rfl).set 2 _ rfl) 3 _)⟩ (HW1.out.two HW2.out (by simp) HSZ.out) ((((hbz.setCell (by simp) _).setCell (by simp) _).setCell (by simp) _).setCell (by simp) _)
  simp <;> exact decide_eq_decide.2 Iff.rfl
end Go.Proofs.YtdkjcdfkoahfkaaGreatDoor

namespace Go.Proofs.YtdkjcdfkoahfkaaGreatDoor
open Go Go.RowKit

theorem rat_ne0 {x : Int} (h : x ≠ 0) : (x : Rat) ≠ 0 := by
  intro e
  have h2 : (x : Rat).num = (0 : Rat).num := by rw [e]
  exact h h2
theorem wrap_byte (x : Nat) (h : x < 256) : wrap64 (x : Int) % 256 = (x : Int) := by unfold wrap64; omega
theorem tmodD (a b : Nat) : Int.tmod (a : Int) (b : Int) = ((a % b : Nat) : Int) := by
  rw [Int.tmod_eq_emod_of_nonneg (by omega)]; omega

theorem butOf {g : Nat} {w w' : World} (h : Below w.heap.size w w') : But g w w' := ⟨h.os, h.tape, h.output, h.size, fun k hk _ => h.block k hk⟩
theorem small_len {z : Int} (h : z.natAbs < 100000) : (dig 10000 (z : Rat).num.natAbs).length ≤ 5 ∧ (dig 10000 (z : Rat).den).length ≤ 5 :=
  ⟨dig_length_ten (e := 5) (by omega) (by show z.natAbs < _; omega), dig_length_ten (e := 5) (by omega) (by show 1 < _; omega)⟩
theorem small_bd {z : Int} (h : z.natAbs < 1000000000000000000) : Bd 18 (z : Rat) := ⟨by show z.natAbs < _; omega, by show 1 < _; omega⟩
theorem small_few {z : Int} (h : z.natAbs < 1000000000000000000) : few (z : Rat) := few_bd ((small_bd h).mono (by omega))
theorem frac_bd {z : Int} {y : Nat} (h : z.natAbs < 1000000000000000000) (hy : 0 < y) (hy2 : y < 1000) : Bd 18 ((z : Rat) / ((y : Int) : Rat)) := by
  rw [← div_divint]
  have e1 : (z : Rat).num = z := rfl
  have e2 : (z : Rat).den = 1 := rfl
  have e3 : ((y : Int) : Rat).num = (y : Int) := rfl
  have e4 : ((y : Int) : Rat).den = 1 := rfl
  rw [e1, e2, e3, e4]
  have e5 : z * ((1 : Nat) : Int) = z := by omega
  have e6 : ((1 : Nat) : Int) * (y : Int) = (y : Int) := by omega
  rw [e5, e6]
  have := divInt_le z y (by omega)
  exact ⟨by omega, by omega⟩

set_option maxRecDepth 100000 in
set_option maxHeartbeats 1000000 in
theorem pick_any (g K n : Nat) (w : World) (h : Src w g K) (hK : K ≤ 900000) (hn : 2 ≤ n) (hn2 : n ≤ 200) (R : Ending → World → Prop)
    (hR : ∀ (r : Nat) w', r < n → Src w' g (K + 1) → But g w w' → R (.returned (.int .i64 (r : Int))) w') :
    Calls Tryz.prog 57 #[.pointer (some ⟨g, 0, none⟩), .int .i64 (n : Int)] w R := by
  have HR := Lib.hid hR; clear hR
  have HS := Lib.hid h; clear h
  have t1 : ¬ ((n : Int) ≤ 1) := by omega
  have t2 : ¬ ((200 : Int) < (n : Int)) := by omega
  go_enter Tryz.func57, Tryz.ntmps57
  go_wp2_with fail
  refine next_any g K _ HS.out (by omega) _ ?_
  intro x w1 hx hs1 hb1
  obtain ⟨r, hr⟩ : ∃ r, r = x % n := ⟨_, rfl⟩
  have e2 : (x : Int) % (n : Int) = (r : Int) := by rw [hr]; omega
  have e3 : Int.tmod (x : Int) (n : Int) = (r : Int) := by rw [tmodD, hr]
  have hrn : r < n := by rw [hr]; exact Nat.mod_lt _ (by omega)
  have e4 : IntKind.i64.wrap (r : Int) = (r : Int) := IntWalk.i64_in _ (by omega)
  have z1 : ((n : Int) == 0) = false := by rw [beq_eq_false_iff_ne]; omega
  have z2 : ¬ ((n : Int) = 0) := by omega
  have HF := Lib.hid (HR.out r w1 hrn hs1 hb1)
  clear hr hs1 hb1
  dsimp only
  go_wp2
  first | go_ret | skip
  exact HF.out

set_option maxRecDepth 100000 in
set_option maxHeartbeats 1000000 in
theorem one_any (g K n : Nat) (w : World) (h : Src w g K) (hK : K ≤ 900000) (hn : 2 ≤ n) (hn2 : n ≤ 200) (R : Ending → World → Prop)
    (hR : ∀ (b : Bool) w', Src w' g (K + 1) → But g w w' → R (.returned (.bool b)) w') :
    Calls Tryz.prog 54 #[.pointer (some ⟨g, 0, none⟩), .int .i64 (n : Int)] w R := by
  have HR := Lib.hid hR; clear hR
  have HS := Lib.hid h; clear h
  go_enter Tryz.func54, Tryz.ntmps54
  go_wp2_with fail
  refine pick_any g K n _ HS.out hK hn hn2 _ ?_
  intro r w1 hr hs1 hb1
  obtain ⟨b, hb⟩ : ∃ b : Bool, b = ((r : Int) == 0) := ⟨_, rfl⟩
  have HF := Lib.hid (HR.out b w1 hs1 hb1)
  have eb : ((r : Int) == 0) = b := hb.symm
  clear hs1 hb1 hb
  dsimp only
  go_wp2
  first | go_ret | skip
  try rw [eb]
  exact HF.out

/-- digits as numbers -/
def digsN (xs : List Nat) : Prop := ∀ x ∈ xs, 48 ≤ x ∧ x < 58
theorem digsN_str {xs : List Nat} (h : digsN xs) : (strOfNums (xs.map fun x : Nat => (x : Int))).data.toList.all isDig = true := by
  rw [strOfNums_data, List.all_eq_true]
  intro c hc
  simp only [List.mem_map] at hc
  obtain ⟨_, ⟨x, hx, rfl⟩, rfl⟩ := hc
  have := h x hx
  unfold isDig
  simp
  omega

def DrawRel (w : World) (g K n : Nat) (u k : Value) (wr : World) : Prop :=
  ∃ (xs : List Nat) (j : Nat), k = .int .i64 (j : Int) ∧ xs.length = j ∧ 1 ≤ j ∧ j ≤ n ∧ digsN xs ∧ Own .u8 5 wr w.heap.size u xs ∧ Src wr g (K + j) ∧ But g w wr

theorem info_u8 : (Tryz.prog.info? 5).map (fun i => (i.zero, i.size, i.bytes)) = some (some (.int .u8 0), 1, 1) := by kernel_rfl
theorem own_but {k : IntKind} {e : TypeId} {w w' : World} {B g : Nat} {v : Value} {xs : List Nat} (h : Own k e w B v xs) (hb : But g w w') (hg : g < B) : Own k e w' B v xs := by
  obtain ⟨h1, h2⟩ := h
  refine ⟨h1, ?_⟩
  rcases h2 with h2 | ⟨g', cap, cur, rfl, hg', hh, hrest⟩
  · exact .inl h2
  · exact .inr ⟨g', cap, cur, rfl, hg', by rw [hb.block g' (lt_of_block hh) (by omega)]; exact hh, hrest⟩
theorem but_below {g : Nat} {a b c : World} (h : But g a b) (k : Below a.heap.size b c) : But g a c :=
  ⟨k.os.trans h.os, k.tape.trans h.tape, k.output.trans h.output, Nat.le_trans h.size k.size, fun i hi hg => (k.block i hi).trans (h.block i hi hg)⟩
theorem digsN_snoc {xs : List Nat} {x : Nat} (h : digsN xs) (hx : 48 ≤ x ∧ x < 58) : digsN (xs ++ [x]) := by
  intro y hy
  rcases List.mem_append.1 hy with hy | hy
  · exact h y hy
  · simp at hy; subst hy; exact hx

set_option maxRecDepth 100000 in
set_option maxHeartbeats 2000000 in
theorem digits_drawn (g K n : Nat) (w : World) (h : Src w g K) (hK : K ≤ 100000) (hn : 1 ≤ n) (hn2 : n ≤ 60) (R : Ending → World → Prop)
    (hR : ∀ (S : ByteArray) w', S.data.toList.all isDig = true → S.size = n → Src w' g (K + n) → But g w w' → R (.returned (.string S)) w') :
    Calls Tryz.prog 56 #[.pointer (some ⟨g, 0, none⟩), .int .i64 (n : Int)] w R := by
  have HR := Lib.hid hR; clear hR
  have HS := Lib.hid h; clear h
  have HG : Hid (g < w.heap.size) := Lib.hid HS.out.lt
  go_enter Tryz.func56, Tryz.ntmps56
  go_wp2_with fail
  refine pick_any g K 9 _ HS.out (by omega) (by omega) (by omega) _ ?_
  intro r w1 hr hs1 hb1
  obtain ⟨x, hx⟩ : ∃ x : Nat, x = r + 49 := ⟨_, rfl⟩
  have ex1 : IntKind.i64.wrap (49 + (r : Int)) = (x : Int) := by rw [IntWalk.i64_in _ (by omega)]; omega
  have ex2 : (49 : Int) + (r : Int) = (x : Int) := by omega
  have ex3 : wrap64 (x : Int) % 256 = (x : Int) := wrap_byte x (by omega)
  have HSZ : Hid (w.heap.size ≤ w1.heap.size) := Lib.hid hb1.size
  have hbw : Below w1.heap.size w1 (w1.alloc (.cells #[.int .u8 (x : Int)] 5)) := (Below.refl _ _).alloc (Nat.le_refl _) _
  have HST : Hid (DrawRel w g K n (.slice (some ⟨w1.heap.size, 0, none⟩) 1 1) (.int .i64 1) (w1.alloc (.cells #[.int .u8 (x : Int)] 5))) := Lib.hid ⟨[x], 1, rfl, rfl, by omega, by omega, by
    intro y hy
    simp at hy; omega, Own.lit1 .u8 5 w1 w.heap.size x (x : Int) rfl hb1.size, hs1.later hbw hs1.lt, hb1.trans (butOf hbw)⟩
  clear hs1 hb1 hbw hx hr
  dsimp only
  go_wp2
  go_loopw [5, 6] (fun u k wr => DrawRel w g K n u k wr) (fun _ k _ => n - (intOf k).toNat)
  case atStart => exact HST.out
  case round =>
    clear HST ex1 ex2 ex3
    obtain ⟨xs, j, rfl, hl, hj1, hjn, hds, hown, hsrc, hbut⟩ := hrel
    have HDS := Lib.hid hds
    have HOWN := Lib.hid hown
    have HSR := Lib.hid hsrc
    have HBT := Lib.hid hbut
    have HL := Lib.hid hl
    by_cases hjl : j = n
    · subst hjl
      have hjj : ¬ ((j : Int) < (j : Int)) := by omega
      rcases hown.sl.cases with ⟨h0, _⟩ | ⟨h0, b, off, cap, rfl, hcap, hb, hcell⟩
      · subst h0; simp at hl; omega
      have hcv := run_convert_bytes_arg (P := Tryz.prog) wr 22 5 Tryz.underlying22 Tryz.underlying5 b off xs.length cap (xs.map fun x : Nat => (x : Int)) (by simp) (fun i hi => by
        rw [hcell i hi]
        simp [List.getD, List.getElem?_map, List.getElem?_eq_getElem hi]) 9 Tryz.underlying9
      have HF := Lib.hid (HR.out (strOfNums (xs.map fun x : Nat => (x : Int))) wr (digsN_str HDS.out) (by rw [strOfNums_size, List.length_map]; exact HL.out) HSR.out HBT.out)
      obtain ⟨S, hS⟩ : ∃ S, S = strOfNums (xs.map fun x : Nat => (x : Int)) := ⟨_, rfl⟩
      rw [← hS] at HF hcv
      clear hS hds hown hsrc hbut hl hcell hcap hb h0
      go_wp2
      first | go_ret | skip
      exact HF.out
    · have hjlt : j < n := by omega
      have hj2 : (j : Int) < (n : Int) := by omega
      have hw1 : IntKind.i64.wrap ((j : Int) + 1) = ((j + 1 : Nat) : Int) := by rw [IntWalk.i64_in _ (by omega)]; omega
      obtain ⟨a5, n5, c5, rfl, _⟩ := own_base hown
      have HJ := Lib.hid (show j < n ∧ j ≤ 60 by omega)
      clear hds hown hsrc hbut hjl hl
      go_wp2_with fail
      refine pick_any g (K + j) 10 _ HSR.out (by omega) (by omega) (by omega) _ ?_
      intro r w3 hr hs3 hb3
      obtain ⟨x, hx⟩ : ∃ x : Nat, x = r + 48 := ⟨_, rfl⟩
      have ex1 : IntKind.i64.wrap (48 + (r : Int)) = (x : Int) := by rw [IntWalk.i64_in _ (by omega)]; omega
      have ex2 : (48 : Int) + (r : Int) = (x : Int) := by omega
      have ex3 : wrap64 (x : Int) % 256 = (x : Int) := wrap_byte x (by omega)
      have HX := Lib.hid (show 48 ≤ x ∧ x < 58 by omega)
      have HS3 := Lib.hid hs3
      have HB3 := Lib.hid (HBT.out.trans hb3)
      have HOW3 := Lib.hid (own_but HOWN.out hb3 HG.out)
      clear hs3 hb3 hx hr
      dsimp only
      go_wp2_with (at_builtin; go_must (refine wpList_pushz rfl (.tmp 17) (.tmp 22) 22 rfl 5 .u8 1 Tryz.underlying22 info_u8 (by omega) w.heap.size _ xs x (x : Int) rfl rfl (HOW3.out.alloc _) w3.heap.size rfl (World.cell?_alloc_at _ _ _ _ rfl) (by have := HL.out; have := HJ.out; omega) (by simp; have := HB3.out.size; omega) ?_))
      intro v4 w4 hown4 hb4
      have hbl : Below w.heap.size w3 w4 := ((Below.refl w.heap.size w3).alloc HB3.out.size _).trans hb4
      have HREL : Hid (DrawRel w g K n v4 (.int .i64 ((j + 1 : Nat) : Int)) w4) := Lib.hid ⟨xs ++ [x], j + 1, rfl, by rw [List.length_append, HL.out]; rfl, by omega, HJ.out.1, digsN_snoc HDS.out HX.out, hown4, HS3.out.later hbl HG.out, but_below HB3.out hbl⟩
      clear hown4 hb4 hbl
      go_wp2
      go_roundw
      case rel => exact HREL.out
      case measure => simp [intOf]; have := HJ.out; omega

set_option maxRecDepth 100000 in
set_option maxHeartbeats 2000000 in
theorem small_drawn (g K : Nat) (w : World) (h : Src w g K) (hK : K ≤ 100000) (R : Ending → World → Prop)
    (hR : ∀ (A : ByteArray) (p : Rat) w', IsT A p → Bd 18 p → Src w' g (K + 3) → But g w w' → R (.returned (.string A)) w') :
    Calls Tryz.prog 61 #[.pointer (some ⟨g, 0, none⟩)] w R := by
  have HR := Lib.hid hR; clear hR
  have HS := Lib.hid h; clear h
  go_enter Tryz.func61, Tryz.ntmps61
  go_wp2_with fail
  refine pick_any g K 19 _ HS.out (by omega) (by omega) (by omega) _ ?_
  intro r w1 hr hs1 hb1
  obtain ⟨z, hz⟩ : ∃ z : Int, z = (r : Int) - 9 := ⟨_, rfl⟩
  have ez : IntKind.i64.wrap ((r : Int) - 9) = z := by rw [IntWalk.i64_in _ (by omega)]; exact hz.symm
  have hz1 : -9 ≤ z ∧ z ≤ 9 := by omega
  have HS1 := Lib.hid hs1
  have HB1 := Lib.hid hb1
  clear hs1 hb1 hz
  dsimp only
  go_wp2_with fail
  refine one_any g (K + 1) 3 _ HS1.out (by omega) (by omega) (by omega) _ ?_
  intro b w2 hs2 hb2
  have HS2 := Lib.hid hs2
  have HB2 := Lib.hid (HB1.out.trans hb2)
  clear hs2 hb2 ez
  dsimp only
  cases b
  · go_wp2_with fail
    refine int_any z _ (by omega) (by omega) _ ?_
    intro v w3 hq hb3
    have hlen := small_len (z := z) (by omega)
    obtain ⟨a1, n1, c1, a2, n2, c2, rfl, e1, e2, hq1, hq2⟩ := hq.open
    have HQ := Lib.hid hq
    have HS3 := Lib.hid (HS2.out.later hb3 HS2.out.lt)
    have HB3 := Lib.hid (HB2.out.trans (butOf (g := g) hb3))
    clear hq hq1 hq2 e1 e2 hb3
    dsimp only
    go_wp2_with fail
    refine text_any _ (z : Rat) _ HQ.out (by have := hlen.1; omega) (by have := hlen.2; omega) _ ?_
    intro w4 hb4
    have hT : IsT ⟨(textQ (z : Rat)).toArray⟩ (z : Rat) := ⟨rfl, small_few (by omega)⟩
    have HF := Lib.hid (HR.out _ (z : Rat) w4 hT (small_bd (by omega)) ((HS3.out.later hb4 HS3.out.lt).mono (by omega)) (HB3.out.trans (butOf (g := g) hb4)))
    obtain ⟨A, hA⟩ : ∃ A : ByteArray, A = ⟨(textQ (z : Rat)).toArray⟩ := ⟨_, rfl⟩
    rw [← hA] at HF ⊢
    clear hT hA hb4
    dsimp only
    go_wp2
    first | go_ret | skip
    exact HF.out
  · go_wp2_with fail
    refine int_new z _ (by omega) (by omega) _ ?_
    intro v w3 hq hnw hb3
    have HQ3 := Lib.hid hq
    have HNW := Lib.hid hnw
    have hg2 := HS2.out.lt
    have HS3 := Lib.hid (HS2.out.later hb3 hg2)
    have HB3 := Lib.hid (HB2.out.trans (butOf (g := g) hb3))
    obtain ⟨a1, n1, c1, a2, n2, c2, rfl, e1, e2, hq1, hq2⟩ := hq.open
    have HG2 := Lib.hid hg2
    clear hq hq1 hq2 e1 e2 hb3 hnw hg2
    dsimp only
    go_wp2_with fail
    refine pick_any g (K + 2) 6 _ HS3.out (by omega) (by omega) (by omega) _ ?_
    intro m w4 hm hs4 hb4
    have HS4 := Lib.hid hs4
    have HB4 := Lib.hid (HB3.out.trans hb4)
    have HQ4 := Lib.hid (isQ_but HQ3.out HNW.out hb4 HG2.out)
    obtain ⟨y, hy⟩ : ∃ y : Nat, y = m + 1 := ⟨_, rfl⟩
    have ey : IntKind.i64.wrap (1 + (m : Int)) = (y : Int) := by rw [IntWalk.i64_in _ (by omega)]; omega
    have ey2 : (1 : Int) + (m : Int) = (y : Int) := by omega
    have hy1 : 1 ≤ y ∧ y ≤ 6 := by omega
    clear hs4 hb4 hy hm
    dsimp only
    go_wp2_with fail
    refine int_any (y : Int) _ (by omega) (by omega) _ ?_
    intro v5 w5 hq5 hb5
    obtain ⟨a3, n3, c3, a4, n4, c4, rfl, e1, e2, hq1, hq2⟩ := hq5.open
    have HQ5 := Lib.hid hq5
    have HQ45 := Lib.hid (HQ4.out.later hb5 (Nat.le_refl _))
    have HS5 := Lib.hid (HS4.out.later hb5 HS4.out.lt)
    have HB5 := Lib.hid (HB4.out.trans (butOf (g := g) hb5))
    have hlz := small_len (z := z) (by omega)
    have hly := small_len (z := (y : Int)) (by omega)
    have HY := Lib.hid (frac_bd (z := z) (y := y) (by omega) (by omega) (by omega))
    have HY0 : Hid (((y : Int) : Rat) ≠ 0) := Lib.hid (rat_ne0 (by omega))
    clear hq5 hq1 hq2 e1 e2 hb5
    dsimp only
    go_wp2_with fail
    refine divQ_any _ _ (z : Rat) ((y : Int) : Rat) _ HQ45.out HQ5.out (by have := hlz.1; omega) (by have := hlz.2; omega) (by have := hly.1; omega) (by have := hly.2; omega) HY0.out _ ?_
    intro v6 w6 hq6 hb6
    obtain ⟨q, hq⟩ : ∃ q : Rat, q = (z : Rat) / ((y : Int) : Rat) := ⟨_, rfl⟩
    rw [← hq] at hq6 HY
    obtain ⟨a5, n5, c5, a6, n6, c6, rfl, e1, e2, hq1, hq2⟩ := hq6.open
    have HQ6 := Lib.hid hq6
    have HS6 := Lib.hid (HS5.out.later hb6 HS5.out.lt)
    have HB6 := Lib.hid (HB5.out.trans (butOf (g := g) hb6))
    have HL6 := Lib.hid (HY.out.len (B := 10000) (by omega))
    clear hq6 hq1 hq2 e1 e2 hb6 hq
    dsimp only
    go_wp2_with fail
    refine text_any _ q _ HQ6.out (by have := HL6.out.1; omega) (by have := HL6.out.2; omega) _ ?_
    intro w7 hb7
    have hT : IsT ⟨(textQ q).toArray⟩ q := ⟨rfl, few_bd (HY.out.mono (by omega))⟩
    have HF := Lib.hid (HR.out _ q w7 hT HY.out (HS6.out.later hb7 HS6.out.lt) (HB6.out.trans (butOf (g := g) hb7)))
    obtain ⟨A, hA⟩ : ∃ A : ByteArray, A = ⟨(textQ q).toArray⟩ := ⟨_, rfl⟩
    rw [← hA] at HF ⊢
    clear hT hA hb7
    dsimp only
    go_wp2
    first | go_ret | skip
    exact HF.out
end Go.Proofs.YtdkjcdfkoahfkaaGreatDoor

namespace Go.Proofs.YtdkjcdfkoahfkaaGreatDoor
open Go Go.RowKit

set_option maxRecDepth 100000 in
set_option maxHeartbeats 1000000 in
theorem b10long_any (v1 v2 : Value) (w : World) (h1 : ByB w v1) (h2 : ByB w v2) (R : Ending → World → Prop)
    (hR : ∀ b : Bool, R (.returned (.bool b)) w) :
    Calls Tryz.prog 10 #[v1, v2] w R := by
  have HR := Lib.hid hR; clear hR
  obtain ⟨a1, n1, c1, rfl, _⟩ := h1
  obtain ⟨a2, n2, c2, rfl, _⟩ := h2
  by_cases hlt : (1048576 : Int) < (n1 : Int)
  · go_enter Tryz.func10, Tryz.ntmps10
    go_wp2
    first | go_ret | skip
    exact HR.out _
  · go_enter Tryz.func10, Tryz.ntmps10
    go_wp2
    first | go_ret | skip
    exact HR.out _

set_option maxRecDepth 100000 in
set_option maxHeartbeats 1000000 in
theorem b10at_any (v : Value) (k : Nat) (n : Nat) (w : World) (h : ByB w v) (hn : 2 ≤ n) (hn2 : n ≤ 1000) (hk : k ≤ 10) (R : Ending → World → Prop)
    (hR : ∀ r : Nat, r < n → R (.returned (.int .i64 (r : Int))) w) :
    Calls Tryz.prog 19 #[v, .int .i64 (k : Int), .int .i64 (n : Int)] w R := by
  have HR := Lib.hid hR; clear hR
  obtain ⟨ao, len, cap, rfl, hx⟩ := h
  have HX := Lib.hid hx
  clear hx
  have t1 : ¬ ((n : Int) ≤ 1) := by omega
  by_cases hlt : k < len
  · obtain ⟨b, off, x, rfl, hb, hc, hx0, hx1⟩ := HX.out k hlt
    have t2 : ¬ ((len : Int) ≤ (k : Int)) := by omega
    have t3 : (0 : Int) ≤ (k : Int) := by omega
    have t4 : (k : Int) < (len : Int) := by omega
    obtain ⟨r, hr⟩ : ∃ r : Nat, r = x.toNat % n := ⟨_, rfl⟩
    have hrn : r < n := by rw [hr]; exact Nat.mod_lt _ (by omega)
    obtain ⟨y, rfl⟩ : ∃ y : Nat, x = (y : Int) := ⟨x.toNat, by omega⟩
    rw [Int.toNat_natCast] at hr
    have e1 : IntKind.i64.wrap (y : Int) = (y : Int) := IntWalk.i64_in _ (by omega)
    have e2 : (y : Int) % (n : Int) = (r : Int) := by rw [hr]; omega
    have e3 : Int.tmod (y : Int) (n : Int) = (r : Int) := by rw [tmodD, hr]
    have e4 : IntKind.i64.wrap (r : Int) = (r : Int) := IntWalk.i64_in _ (by omega)
    have z1 : ((n : Int) == 0) = false := by rw [beq_eq_false_iff_ne]; omega
    have z2 : ¬ ((n : Int) = 0) := by omega
    have HF := Lib.hid (HR.out r hrn)
    clear hr hlt
    go_enter Tryz.func19, Tryz.ntmps19
    go_wp2
    first | go_ret | skip
    exact HF.out
  · have t2 : (len : Int) ≤ (k : Int) := by omega
    have t4 : ¬ (k : Int) < (len : Int) := by omega
    obtain ⟨r, hr⟩ : ∃ r : Nat, r = (k * 37 + 11) % n := ⟨_, rfl⟩
    have hrn : r < n := by rw [hr]; exact Nat.mod_lt _ (by omega)
    have e0 : IntKind.i64.wrap ((k : Int) * 37) = ((k * 37 : Nat) : Int) := by rw [IntWalk.i64_in _ (by omega)]; omega
    have e1 : IntKind.i64.wrap (((k * 37 : Nat) : Int) + 11) = ((k * 37 + 11 : Nat) : Int) := by rw [IntWalk.i64_in _ (by omega)]; omega
    have e1' : IntKind.i64.wrap ((k : Int) * 37 + 11) = ((k * 37 + 11 : Nat) : Int) := by rw [IntWalk.i64_in _ (by omega)]; omega
    have e2 : ((k * 37 + 11 : Nat) : Int) % (n : Int) = (r : Int) := by rw [hr]; omega
    have e3 : Int.tmod ((k * 37 + 11 : Nat) : Int) (n : Int) = (r : Int) := by rw [tmodD, hr]
    have e3' : Int.tmod ((k : Int) * 37 + 11) (n : Int) = (r : Int) := by rw [show (k : Int) * 37 + 11 = ((k * 37 + 11 : Nat) : Int) by omega]; exact e3
    have e4 : IntKind.i64.wrap (r : Int) = (r : Int) := IntWalk.i64_in _ (by omega)
    have z1 : ((n : Int) == 0) = false := by rw [beq_eq_false_iff_ne]; omega
    have z2 : ¬ ((n : Int) = 0) := by omega
    have HF := Lib.hid (HR.out r hrn)
    clear hlt hr
    go_enter Tryz.func19, Tryz.ntmps19
    go_wp2
    first | go_ret | skip
    exact HF.out

set_option maxRecDepth 100000 in
set_option maxHeartbeats 1000000 in
theorem from_any (v : Value) (w : World) (h : ByB w v) (R : Ending → World → Prop)
    (hR : ∀ w', Src w' w.heap.size 0 → Below w.heap.size w w' → R (.returned (.pointer (some ⟨w.heap.size, 0, none⟩))) w') :
    Calls Tryz.prog 53 #[v] w R := by
  have HR := Lib.hid hR; clear hR
  obtain ⟨ao, len, cap, rfl, hx⟩ := h
  have HX := Lib.hid hx
  clear hx
  have HS : Hid (Src (w.alloc (.cells #[.slice ao len cap, .int .i64 0, .int .u64 0] 140)) w.heap.size 0) := Lib.hid ⟨ao, len, cap, 0, 0, Box3.made _ _ _ _ _, Nat.le_refl _, by omega, fun i hi => by
    obtain ⟨b, off, x, h1, h2, h3, h4⟩ := HX.out i hi
    exact ⟨b, off, x, h1, h2, by rw [((Below.refl w.heap.size w).alloc (Nat.le_refl _) _).cell (p := ⟨b, off + i, none⟩) h2]; exact h3, h4⟩⟩
  have HB : Hid (Below w.heap.size w (w.alloc (.cells #[.slice ao len cap, .int .i64 0, .int .u64 0] 140))) := Lib.hid ((Below.refl _ _).alloc (Nat.le_refl _) _)
  go_enter Tryz.func53, Tryz.ntmps53
  go_wp2
  first | go_ret | skip
  exact HR.out _ HS.out HB.out

theorem below_but {B g : Nat} {a b c : World} (h : Below B a b) (k : But g b c) (hg : B ≤ g) (hB : B ≤ b.heap.size) : Below B a c :=
  h.trans (k.below hg hB)

theorem Src.drw {w : World} {g K : Nat} (h : Src w g K) : Src w.drew g K := h
theorem but_unDrew {g : Nat} {w w' : World} (h : But g w.drew w') : But g w w' := ⟨h.os, h.tape, h.output, h.size, h.block⟩
theorem box2_but {w w' : World} {b g : Nat} {x y : Value} {t : TypeId} (h : Box2 w b x y t) (hb : But g w w') (hne : b ≠ g) : Box2 w' b x y t := by
  have := hb.block b (lt_of_block h) hne
  unfold Box2 at *
  rw [this]; exact h
theorem small_lenN {z : Int} (h : z.natAbs < 1000000000000000000) : (dig 10000 (z : Rat).num.natAbs).length ≤ 18 ∧ (dig 10000 (z : Rat).den).length ≤ 18 :=
  (small_bd h).len (by omega)
theorem isQ_of {w : World} {z : Int} {x y s1 s2 : Value} (h1 : IsZ w (.agg #[x, s1]) z) (h2 : IsZ w (.agg #[y, s2]) 1) : IsQ w (.agg #[x, s1, y, s2]) (z : Rat) := by
  obtain ⟨t1, e1, k1⟩ := h1
  obtain ⟨t2, e2, k2⟩ := h2
  simp at e1 e2
  obtain ⟨rfl, rfl⟩ := e1
  obtain ⟨rfl, rfl⟩ := e2
  exact ⟨s1, s2, rfl, k1, k2⟩

set_option maxRecDepth 100000 in
set_option maxHeartbeats 4000000 in
theorem b10number_any (v : Value) (w : World) (h : ByB w v) (R : Ending → World → Prop)
    (hR : ∀ (A : ByteArray) (p : Rat) w', IsT A p → Bd 18 p → Below w.heap.size w w' → R (.returned (.string A)) w') :
    Calls Tryz.prog 11 #[v] w R := by
  have HR := Lib.hid hR; clear hR
  have HV := Lib.hid h
  obtain ⟨ao, len, cap, rfl, _⟩ := h
  obtain ⟨g, hg⟩ : ∃ g, g = w.heap.size := ⟨_, rfl⟩
  have HG := Lib.hid hg
  rw [← hg] at HR
  clear hg
  go_enter Tryz.func11, Tryz.ntmps11
  go_wp2_with fail
  refine from_any _ _ HV.out _ ?_
  intro w1 hs1 hb1
  rw [← HG.out] at hs1 hb1 ⊢
  have HS1 := Lib.hid hs1
  have HB1 := Lib.hid hb1
  have HZ1 : Hid (g ≤ w1.heap.size) := Lib.hid (by have := hs1.lt; omega)
  clear hs1 hb1
  dsimp only
  go_wp2_with fail
  refine one_any g 0 4 _ HS1.out (by omega) (by omega) (by omega) _ ?_
  intro b w2 hs2 hb2
  have HS2 := Lib.hid hs2
  have HB2 := Lib.hid (below_but HB1.out hb2 (Nat.le_refl _) HZ1.out)
  have HZ2 : Hid (g ≤ w2.heap.size) := Lib.hid (by have := hs2.lt; omega)
  clear hs2 hb2
  dsimp only
  cases b
  · go_wp2_with fail
    refine small_drawn g 1 _ HS2.out (by omega) _ ?_
    intro A p w3 hA hp hs3 hb3
    have HF := Lib.hid (HR.out A p w3 hA hp (below_but HB2.out hb3 (Nat.le_refl _) HZ2.out))
    clear hA hp hs3 hb3
    dsimp only
    go_wp2
    first | go_ret | skip
    exact HF.out
  · go_wp2_with fail
    refine pick_any g 1 18 _ HS2.out (by omega) (by omega) (by omega) _ ?_
    intro r w3 hr hs3 hb3
    obtain ⟨n, hn⟩ : ∃ n : Nat, n = r + 1 := ⟨_, rfl⟩
    have en : IntKind.i64.wrap (1 + (r : Int)) = (n : Int) := by rw [IntWalk.i64_in _ (by omega)]; omega
    have en2 : (1 : Int) + (r : Int) = (n : Int) := by omega
    have hn1 : 1 ≤ n ∧ n ≤ 18 := by omega
    have HS3 := Lib.hid hs3
    have HB3 := Lib.hid (below_but HB2.out hb3 (Nat.le_refl _) HZ2.out)
    have HZ3 : Hid (g ≤ w3.heap.size) := Lib.hid (by have := hs3.lt; omega)
    clear hs3 hb3 hn hr
    dsimp only
    go_wp2_with fail
    refine digits_drawn g 2 n _ HS3.out (by omega) (by omega) (by omega) _ ?_
    intro S w4 hS1 hS2 hs4 hb4
    have HSS := Lib.hid (And.intro hS1 hS2)
    have HS4 := Lib.hid (hs4.mono (K' := 20) (by omega))
    have HB4 := Lib.hid (below_but HB3.out hb4 (Nat.le_refl _) HZ3.out)
    have HZ4 : Hid (g ≤ w4.heap.size) := Lib.hid (by have := hs4.lt; omega)
    have HN := Lib.hid hn1
    clear hS1 hS2 hs4 hb4 en en2
    dsimp only
    go_wp2_with fail
    refine zread_new S _ HSS.out.1 (by have := HSS.out.2; have := HN.out; omega) _ ?_
    intro v5 w5 hz5 hnw hb5
    obtain ⟨ao5, n5, c5, rfl, e5, hs5⟩ := hz5.open
    have HZ5 := Lib.hid hs5
    have HNW := Lib.hid hnw
    have HG4 : Hid (g < w4.heap.size) := Lib.hid HS4.out.lt
    have HS5 := Lib.hid (HS4.out.later hb5 HG4.out)
    have HB5 := Lib.hid (HB4.out.trans (hb5.mono HZ4.out))
    have HZZ5 : Hid (g ≤ w5.heap.size) := Lib.hid (Nat.le_trans HZ4.out hb5.size)
    clear hz5 hs5 hnw hb5 e5
    dsimp only
    go_wp2_with fail
    obtain ⟨ng5, hng5⟩ : ∃ ng5, ng5 = decide (((rdec S.data.toList : Nat) : Int) < 0) := ⟨_, rfl⟩
    rw [← hng5] at HNW ⊢
    obtain ⟨V, hV⟩ : ∃ V, V = w5.alloc (.cells #[.bool ng5, .slice ao5 n5 c5] 67) := ⟨_, rfl⟩
    have hbV : Below w5.heap.size w5 V := by rw [hV]; exact (Below.refl _ _).alloc (Nat.le_refl _) _
    have HKV : Hid (Box2 V w5.heap.size (.bool ng5) (.slice ao5 n5 c5) 67) := Lib.hid (by rw [hV]; exact Box2.made _ _ _ _)
    have HSV := Lib.hid (HS5.out.later hbV HS5.out.lt)
    have HBV := Lib.hid (HB5.out.trans (hbV.mono HZZ5.out))
    have HZV := Lib.hid (HZ5.out.later hbV (Nat.le_refl _))
    have HGV : Hid (g ≤ V.heap.size ∧ g < w5.heap.size) := Lib.hid ⟨Nat.le_trans HZZ5.out hbV.size, HS5.out.lt⟩
    have HPL : Hid (∀ b off sp, ao5 = some ⟨b, off, sp⟩ → b ≠ g) := Lib.hid (by
      obtain ⟨x, a, m, c, e, hf⟩ := HNW.out
      simp at e
      obtain ⟨_, rfl, _⟩ := e
      intro b off sp e
      have := hf b off sp e
      have := HG4.out
      omega)
    have HRD : Hid (rdec S.data.toList < 10 ^ 18) := Lib.hid (by
      have h1 := rdec_lt _ HSS.out.1
      rw [size_list, HSS.out.2] at h1
      exact Nat.lt_of_lt_of_le h1 (Nat.pow_le_pow_right (by omega) HN.out.2))
    obtain ⟨m, hm⟩ : ∃ m : Nat, m = rdec S.data.toList := ⟨_, rfl⟩
    rw [← hm] at HRD HZV
    have hmn : ((m : Nat) : Int).natAbs = m := by omega
    rw [hmn] at HZV
    have HVV := Lib.hid hV
    have HML : Hid ((dig 10000 m).length ≤ 18) := Lib.hid (dig_length_ten (by omega) HRD.out)
    obtain ⟨hK0, hK1, _, _⟩ := HKV.out.cells
    clear hng5 hbV hm hV hmn
    rw [← HVV.out]
    go_region_law (first
      | (have hguard := HB8; (try go_simp); go_at_call 58; refine text_any _ (z : Rat) _ (isQ_of (HZ7.out.later HB78.out (Nat.le_refl _)) HZ8.out) (by have := (small_lenN HZB.out).1; omega) (by have := (small_lenN HZB.out).2; omega) _ ?_; intro w9 hb9; obtain ⟨A, hA⟩ : ∃ A : ByteArray, A = ⟨(textQ (z : Rat)).toArray⟩ := ⟨_, rfl⟩; have HA : Hid (IsT A (z : Rat)) := Lib.hid ⟨hA, small_few HZB.out⟩; rw [← hA]; have HB9 : Hid (Below g w w9) := Lib.hid (HB8.out.trans (hb9.mono HG8.out)); clear hguard hA hb9; dsimp only)
      | (have hguard := HB7; (try go_simp); go_at_call 60; refine zof_any 1 _ (by omega) (by omega) _ ?_; intro v8 w8 hz8 hb8; obtain ⟨a8, n8, c8, rfl, e8, hs8⟩ := hz8.open; have HZ8 := Lib.hid hz8; have HB78 := Lib.hid hb8; have HB8 : Hid (Below g w w8) := Lib.hid (HB7.out.trans (hb8.mono HG7.out)); have HG8 : Hid (g ≤ w8.heap.size) := Lib.hid (Nat.le_trans HG7.out hb8.size); clear hguard hz8 hs8 e8 hb8; dsimp only)
      | (have hguard := HB6; (try go_simp); go_at_call 59; refine cut_z b6 _ (dig 10000 m) _ HZ6.out (dig_lt (by omega) _) (by have := HML.out; omega) (if b6 then -(m : Int) else (m : Int)) (by rw [val_dig (by omega)]) _ ?_; obtain ⟨z, hz⟩ : ∃ z : Int, z = if b6 then -(m : Int) else (m : Int) := ⟨_, rfl⟩; have HZB : Hid (z.natAbs < 1000000000000000000) := Lib.hid (by have := HRD.out; rw [hz]; split <;> omega); rw [← hz]; intro v7 w7 hz7 hb7; obtain ⟨a7, n7, c7, rfl, e7, hs7⟩ := hz7.open; have HZ7 := Lib.hid hz7; have HB7 : Hid (Below g w w7) := Lib.hid (HB6.out.trans (hb7.mono HG6.out)); have HG7 : Hid (g ≤ w7.heap.size) := Lib.hid (Nat.le_trans HG6.out hb7.size); clear hguard hz hz7 hs7 e7 hb7; dsimp only)
      | ((try go_simp); go_at_call 54; refine one_any g 20 2 _ (by first | exact HSV.out | exact HSV.out.drw) (by omega) (by omega) (by omega) _ ?_; intro b6 w6 hs6 hb6'; have hb6 : But g V w6 := (by first | exact hb6' | exact but_unDrew hb6'); have HZ6 := Lib.hid (sl_but HZV.out hb6 HPL.out); have HB6 : Hid (Below g w w6) := Lib.hid (below_but HBV.out hb6 (Nat.le_refl _) HGV.out.1); have HG6 : Hid (g ≤ w6.heap.size) := Lib.hid (Nat.le_trans HGV.out.1 hb6.size); have hk6 : Box2 w6 w5.heap.size (.bool ng5) (.slice ao5 n5 c5) 67 := box2_but HKV.out hb6 (by have := HGV.out.2; omega); obtain ⟨hL0, hL1, _, _⟩ := hk6.cells; clear hs6 hb6' hb6 hk6; dsimp only))
    all_goals
      go_wp2
      first | go_ret | skip
      exact HR.out A (z : Rat) _ HA.out (small_bd HZB.out) HB9.out
end Go.Proofs.YtdkjcdfkoahfkaaGreatDoor

namespace Go.Proofs.YtdkjcdfkoahfkaaGreatDoor
open Go Go.RowKit

set_option maxRecDepth 100000 in
set_option maxHeartbeats 1000000 in
/-- impl.IsNumber: whether the text is the text of a number with few digits. -/
theorem isnumber_any (s : ByteArray) (w : World) (hE : Env w) (R : Ending → World → Prop)
    (hR : ∀ w', Below w.heap.size w w' → R (.returned (.bool (numB s.data.toList))) w') :
    Calls Tryz.prog 18 #[.string s] w R := by
  have HR := Lib.hid hR; clear hR
  have HE := Lib.hid hE; clear hE
  go_enter Tryz.func18, Tryz.ntmps18
  go_wp2_with fail
  refine readr_any s _ HE.out _ ?_ ?_
  · intro v q w' h1 h2 hv hb
    have hn : numB s.data.toList = true := numB_true.2 ⟨q, h1, h2⟩
    rw [hn] at HR
    obtain ⟨s1, s2, rfl, hn1, hn2⟩ := hv
    obtain ⟨a1, n1, c1, rfl, hn1'⟩ := hn1.op
    obtain ⟨a2, n2, c2, rfl, hn2'⟩ := hn2.op
    obtain ⟨ng, hng⟩ : ∃ ng, ng = decide (q.num < 0) := ⟨_, rfl⟩
    rw [← hng]
    have HB := Lib.hid hb
    clear hn1 hn2 hn1' hn2' hng h1 h2 hb hn
    dsimp only
    go_wp2
    first | go_ret | skip
    exact HR.out _ (HB.out.alloc HB.out.size _)
  · intro e w' hn he hb
    rw [hn] at HR
    obtain ⟨t, p, rfl⟩ := he
    have HB := Lib.hid hb
    clear hb hn
    unfold zeroR
    dsimp only
    go_wp2
    first | go_ret | skip
    exact HR.out _ (HB.out.alloc HB.out.size _)
end Go.Proofs.YtdkjcdfkoahfkaaGreatDoor

namespace Go.Proofs.YtdkjcdfkoahfkaaGreatDoor
open Go Go.RowKit

set_option maxRecDepth 100000 in
set_option maxHeartbeats 4000000 in
theorem law_fnNumbers (v1 v2 : Value) (w : World) (hE : Env w) (htab : Lib.TabIs Tryz.prog w "internal/strconv.uint64pow10" .u64 Lib.pow10Tab) (h1 : ByB w v1) (h2 : ByB w v2) (R : Ending → World → Prop)
    (hR : ∀ w', Below w.heap.size w w' → R (.returned (.bool true)) w') :
    Calls Tryz.prog 3 #[v1, v2] w R := by
  have HR := Lib.hid hR; clear hR
  have HE := Lib.hid hE; clear hE
  have HTAB := Lib.hid htab; clear htab
  have H1 := Lib.hid h1
  have H2 := Lib.hid h2
  obtain ⟨a1, n1, c1, rfl, _⟩ := h1
  obtain ⟨a2, n2, c2, rfl, _⟩ := h2
  go_enter Tryz.func3, Tryz.ntmps3
  go_wp2_with fail
  refine b10long_any _ _ _ H1.out H2.out _ ?_
  intro b0
  cases b0
  rotate_left
  · dsimp only
    go_wp2
    first | go_ret | skip
    exact HR.out _ (Below.refl _ _)
  dsimp only
  go_wp2_with fail
  refine b10number_any _ _ H1.out _ ?_
  intro A p w1 hA hp hb1
  have HA := Lib.hid hA
  have HP := Lib.hid hp
  have HB1 := Lib.hid hb1
  have H2a := Lib.hid (H2.out.later hb1)
  clear hA hp hb1
  dsimp only
  go_wp2_with fail
  refine b10number_any _ _ H2a.out _ ?_
  intro B q w2 hA hp hb2
  have HB := Lib.hid hA
  have HQ := Lib.hid hp
  have HB2 := Lib.hid (HB1.out.trans (hb2.mono HB1.out.size))
  clear hA hp hb2
  dsimp only
  go_wp2_with fail
  refine iadd_t A B p q _ _ HA.out HB.out ((HP.out.add HQ.out).mono (by omega)) (HE.out.later HB2.out (Nat.le_refl _)) (tab_later HTAB.out HB2.out (Nat.le_refl _)) ?_
  intro S w3 hS hb3
  have HS := Lib.hid hS
  have HB3 := Lib.hid (HB2.out.trans (hb3.mono HB2.out.size))
  clear hS hb3
  dsimp only
  go_wp2_with fail
  refine isub_t S B (p + q) q _ _ HS.out HB.out (by rw [radd_sub]; exact HP.out.mono (by omega)) (HE.out.later HB3.out (Nat.le_refl _)) (tab_later HTAB.out HB3.out (Nat.le_refl _)) ?_
  intro S2 w4 hS hb4
  obtain rfl : S2 = A := hS.eq HA.out (radd_sub p q)
  have HB4 := Lib.hid (HB3.out.trans (hb4.mono HB3.out.size))
  clear hS hb4
  dsimp only
  go_wp2_with fail
  refine imul_t S2 B p q _ _ HA.out HB.out ((HP.out.mul HQ.out).mono (by omega)) (HE.out.later HB4.out (Nat.le_refl _)) (tab_later HTAB.out HB4.out (Nat.le_refl _)) ?_
  intro M w5 hM hb5
  have HM := Lib.hid hM
  have HB5 := Lib.hid (HB4.out.trans (hb5.mono HB4.out.size))
  clear hM hb5
  dsimp only
  go_wp2_with fail
  refine isub_t S2 B p q _ _ HA.out HB.out ((sub_bd HP.out HQ.out).mono (by omega)) (HE.out.later HB5.out (Nat.le_refl _)) (tab_later HTAB.out HB5.out (Nat.le_refl _)) ?_
  intro D w6 hD hb6
  have HD := Lib.hid hD
  have HB6 := Lib.hid (HB5.out.trans (hb6.mono HB5.out.size))
  clear hD hb6
  dsimp only
  go_wp2_with fail
  refine icmp_t S2 B p q _ _ HA.out HB.out (HE.out.later HB6.out (Nat.le_refl _)) ?_
  intro w7 hb7
  obtain ⟨z, hz⟩ : ∃ z : Int, z = cmpR p q := ⟨_, rfl⟩
  have HZ := Lib.hid hz
  rw [← hz]
  have HB7 := Lib.hid (HB6.out.trans (hb7.mono HB6.out.size))
  clear hz hb7
  dsimp only
  go_wp2_with fail
  refine icmp_t D _ (p - q) 0 _ _ HD.out isT_zero (HE.out.later HB7.out (Nat.le_refl _)) ?_
  intro w8 hb8
  rw [cmp_diff, ← HZ.out]
  have HB8 := Lib.hid (HB7.out.trans (hb8.mono HB7.out.size))
  have ezz : (z != z) = false := by simp
  clear hb8
  dsimp only
  go_wp2_with fail
  refine imul_t B S q (p + q) _ _ HB.out HS.out ((HQ.out.mul (HP.out.add HQ.out)).mono (by omega)) (HE.out.later HB8.out (Nat.le_refl _)) (tab_later HTAB.out HB8.out (Nat.le_refl _)) ?_
  intro X w9 hX hb9
  have HX := Lib.hid hX
  have HB9 := Lib.hid (HB8.out.trans (hb9.mono HB8.out.size))
  clear hX hb9
  dsimp only
  go_wp2_with fail
  refine bmul_t B B q q _ _ HB.out HB.out ((HQ.out.mul HQ.out).mono (by omega)) ?_
  intro Q w10 hQ hb10
  have HQQ := Lib.hid hQ
  have HB10 := Lib.hid (HB9.out.trans (hb10.mono HB9.out.size))
  clear hQ hb10
  dsimp only
  go_wp2_with fail
  have exy : p * q + q * q = q * (p + q) := by rw [Rat.mul_add, Rat.mul_comm p q]
  refine iadd_t M Q (p * q) (q * q) _ _ HM.out HQQ.out (by rw [exy]; exact (HQ.out.mul (HP.out.add HQ.out)).mono (by omega)) (HE.out.later HB10.out (Nat.le_refl _)) (tab_later HTAB.out HB10.out (Nat.le_refl _)) ?_
  intro Y w11 hY hb11
  obtain rfl : Y = X := hY.eq HX.out exy
  have HB11 := Lib.hid (HB10.out.trans (hb11.mono HB10.out.size))
  clear hY hb11 exy
  by_cases hq0 : q = 0
  · subst hq0
    obtain rfl : B = ⟨#[48]⟩ := HB.out.eq isT_zero rfl
    obtain rfl : M = ⟨#[48]⟩ := HM.out.eq isT_zero (Rat.mul_zero p)
    dsimp only
    go_wp2_with fail
    refine idiv_0 _ _ _ _ HB.out (HE.out.later HB11.out (Nat.le_refl _)) (tab_later HTAB.out HB11.out (Nat.le_refl _)) ?_
    intro w12 hb12
    have HB12 := Lib.hid (HB11.out.trans (hb12.mono HB11.out.size))
    clear hb12
    dsimp only
    go_wp2
    first | go_ret | skip
    exact HR.out _ HB12.out
  · have hB0 : B ≠ ⟨#[48]⟩ := HB.out.ne isT_zero hq0
    have eB : (B.toList == [48]) = false := text_neq hB0
    have HQ0 := Lib.hid hq0
    clear hq0
    dsimp only
    go_wp2_with fail
    refine idiv_t M B (p * q) q _ _ HM.out HB.out HQ0.out (by rw [rmul_div p q HQ0.out]; exact HP.out.mono (by omega)) (HE.out.later HB11.out (Nat.le_refl _)) (tab_later HTAB.out HB11.out (Nat.le_refl _)) ?_
    intro C w12 hC hb12
    obtain rfl : C = S2 := hC.eq HA.out (rmul_div p q HQ0.out)
    have HB12 := Lib.hid (HB11.out.trans (hb12.mono HB11.out.size))
    clear hC hb12
    dsimp only
    go_wp2_with fail
    refine isnumber_any M _ (HE.out.later HB12.out (Nat.le_refl _)) _ ?_
    intro w13 hb13
    rw [numB_numO, HM.out.num, Option.isSome_some]
    have HB13 := Lib.hid (HB12.out.trans (hb13.mono HB12.out.size))
    clear hb13
    dsimp only
    go_wp2
    first | go_ret | skip
    exact HR.out _ HB13.out
end Go.Proofs.YtdkjcdfkoahfkaaGreatDoor

namespace Go.Proofs.YtdkjcdfkoahfkaaGreatDoor.EnvLaid
open Go Go.ChangeShapes Go.WideShapes Go.ChangeAt Go.RowKit

theorem own : ownKnob Tryz.prog.godebug = none := by kernel_rfl
theorem gForm : Tryz.prog.globalNamed "loop.example/g01120/impl.errForm" = some 1 := by kernel_rfl
theorem gSize : Tryz.prog.globalNamed "loop.example/g01120/impl.errSize" = some 0 := by kernel_rfl
theorem gType : Tryz.prog.globalNamed "errors.errorType" = some 2 := by kernel_rfl
theorem tForm : (Tryz.prog.globals[1]?).map (·.type) = some 87 := by kernel_rfl
theorem tSize : (Tryz.prog.globals[0]?).map (·.type) = some 87 := by kernel_rfl
theorem rt : (Tryz.prog.cutTypes.find? (·.1 == "internal/reflectlite.rtype")).map (·.2) = some 256 := by kernel_rfl
theorem size : Tryz.prog.types.size = 328 := by kernel_rfl
theorem oneRow : ((List.range 328).filter fun t => Tryz.prog.rowNamed t [101, 114, 114, 111, 114]) = [87] := by kernel_rfl
theorem star : "*" ++ "errors.errorString" = "*errors.errorString" := by decide
theorem rowPtr (u : TypeId) (h : Tryz.prog.typeName? 3 u = some "*errors.errorString") : u = 299 :=
  typeName_ptr_named (nm := "errors.errorString") (by rw [star]; kernel_rfl) (by kernel_rfl) (by decide) u (by rw [star]; exact h)
theorem cells190 : Tryz.prog.cellsOf 301 = 1 := by kernel_rfl
theorem cells9 : Tryz.prog.cellsOf 9 = 1 := by kernel_rfl

theorem handle_of {W : World} (h : handlesMet Tryz.prog [("errors.errorType", Rows.laid_errors_errorType)] W) :
    W.cell? ⟨2, 0, none⟩ = some (.iface 256 (.agg #[.pointer (some ⟨11, 87, none⟩)])) := by
  obtain ⟨name, u, ty, e1, e2, e3, e4, e5⟩ := h _ (List.mem_singleton.2 rfl)
  have en : name = [101, 114, 114, 111, 114] := (Option.some.inj e1).symm
  subst en
  obtain rfl := Option.some.inj (rt.symm.trans e2)
  have hm : ty ∈ (List.range 328).filter fun t => Tryz.prog.rowNamed t [101, 114, 114, 111, 114] := List.mem_filter.2 ⟨List.mem_range.2 (by rw [← size]; exact e3), e4⟩
  rw [oneRow] at hm
  obtain rfl := List.mem_singleton.1 hm
  have hh : typeHandle Tryz.prog 87 = .pointer (some ⟨11, 87, none⟩) := by kernel_rfl
  rw [hh] at e5
  simpa using World.var?_cell gType e5 0

/-- what a row's condition gives -/
theorem env_of {W : World} (h : laidMetH Tryz.prog [("errors.errorType", Rows.laid_errors_errorType), ("loop.example/g01120/impl.errForm", Rows.laid_loop_example_g01120_impl_errForm), ("loop.example/g01120/impl.errSize", Rows.laid_loop_example_g01120_impl_errSize)] W) :
    Env W ∧ (∃ a, W.var? Tryz.prog "loop.example/g01120/impl.errForm" = some #[.iface 299 (.pointer (some a))]) ∧ (∃ a, W.var? Tryz.prog "loop.example/g01120/impl.errSize" = some #[.iface 299 (.pointer (some a))]) := by
  have h' : laidMet Tryz.prog [("loop.example/g01120/impl.errForm", Rows.laid_loop_example_g01120_impl_errForm), ("loop.example/g01120/impl.errSize", Rows.laid_loop_example_g01120_impl_errSize)] W ∧ handlesMet Tryz.prog [("errors.errorType", Rows.laid_errors_errorType)] W := h
  obtain ⟨a1, s1, hv1, hc1, _, _⟩ := laid_sentinel h'.1 gForm tForm Tryz.underlying87 rowPtr Tryz.underlying299 Tryz.underlying301 rfl rfl Tryz.underlying9 cells190 cells9
  obtain ⟨a2, s2, hv2, hc2, _, _⟩ := laid_sentinel (laidMet.tail h'.1) gSize tSize Tryz.underlying87 rowPtr Tryz.underlying299 Tryz.underlying301 rfl rfl Tryz.underlying9 cells190 cells9
  exact ⟨⟨⟨a1, by simpa using World.var?_cell gForm hv1 0⟩, ⟨a2, by simpa using World.var?_cell gSize hv2 0⟩, handle_of h'.2⟩, ⟨a1, hv1⟩, ⟨a2, hv2⟩⟩
end Go.Proofs.YtdkjcdfkoahfkaaGreatDoor.EnvLaid

namespace Go.Proofs.YtdkjcdfkoahfkaaGreatDoor
open Go Go.RowKit

/-- what is asked of the reading of an element -/
structure Elem {α : Type} (sz : Nat) (E : World → List Value → α → Prop) : Prop where
  len : ∀ {w cs x}, E w cs x → cs.length = sz
  ints : ∀ {w cs x}, E w cs x → ∀ u ∈ cs, notInt u = true
  one : ∀ {w cs x}, E w cs x → ∀ u ∈ cs, u.oneCell' = true
  keep : ∀ {w w' g cs x}, E w cs x → But g w w' → NoInt w g → E w' cs x

theorem NoInt.new (w : World) (b : Nat) (h : w.heap.size ≤ b) : NoInt w b := by
  intro o u hu
  simp [World.cell?, Array.getElem?_eq_none h] at hu

theorem NoInt.of {w : World} {g : Nat} {cur : Array Value} {e : TypeId} (h : w.heap[g]? = some (.cells cur e (0, 0))) (hc : ∀ u ∈ cur.toList, notInt u = true) : NoInt w g := by
  intro o u hu
  simp only [World.cell?, h, Option.isSome_none, Bool.false_eq_true, if_false] at hu
  exact hc u (by rw [← Array.getElem?_toList] at hu; exact List.mem_of_getElem? hu)

theorem Elem.below {α : Type} {sz : Nat} {E : World → List Value → α → Prop} (hE : Elem sz E) {w w' : World} {cs : List Value} {x : α} {B : Nat} (h : E w cs x) (hb : Below B w w') (hB : w.heap.size ≤ B) : E w' cs x :=
  hE.keep (g := w.heap.size) h (But.ofBelow (hb.mono hB)) (NoInt.new _ _ (Nat.le_refl _))

/-- a slice value reads as a list -/
def SlE {α : Type} (sz : Nat) (E : World → List Value → α → Prop) (w : World) (v : Value) (xs : List α) : Prop :=
  ∃ ao cap, v = .slice ao xs.length cap ∧ xs.length ≤ cap ∧ ∀ i x, xs[i]? = some x → ∃ b off cs, ao = some ⟨b, off, none⟩ ∧ b < w.heap.size ∧ (∀ j u, cs[j]? = some u → w.cell? ⟨b, off + (i * sz + j), none⟩ = some u) ∧ E w cs x

theorem SlE.later {α : Type} {sz : Nat} {E : World → List Value → α → Prop} (hE : Elem sz E) {w w' : World} {v : Value} {xs : List α} {B : Nat} (h : SlE sz E w v xs) (hb : Below B w w') (hB : w.heap.size ≤ B) : SlE sz E w' v xs := by
  obtain ⟨ao, cap, hv, hc, hx⟩ := h
  refine ⟨ao, cap, hv, hc, fun i x hi => ?_⟩
  obtain ⟨b, off, cs, h1, h2, h3, h4⟩ := hx i x hi
  exact ⟨b, off, cs, h1, Nat.lt_of_lt_of_le h2 hb.size, fun j u hj => by rw [hb.cell (by exact Nat.lt_of_lt_of_le h2 hB)]; exact h3 j u hj, hE.below h4 hb hB⟩

theorem SlE.open {α : Type} {sz : Nat} {E : World → List Value → α → Prop} {w : World} {v : Value} {xs : List α} (h : SlE sz E w v xs) : ∃ ao n cap, v = .slice ao n cap ∧ n = xs.length ∧ n ≤ cap ∧ SlE sz E w (.slice ao n cap) xs := by
  obtain ⟨ao, cap, rfl, hc, hx⟩ := h
  exact ⟨ao, _, cap, rfl, rfl, hc, ao, cap, rfl, hc, hx⟩

theorem SlE.at {α : Type} {sz : Nat} {E : World → List Value → α → Prop} {w : World} {ao : Option Addr} {n cap : Nat} {xs : List α} (h : SlE sz E w (.slice ao n cap) xs) (i : Nat) (x : α) (hi : xs[i]? = some x) :
    ∃ b off cs, ao = some ⟨b, off, none⟩ ∧ b < w.heap.size ∧ (∀ j u, cs[j]? = some u → w.cell? ⟨b, off + (i * sz + j), none⟩ = some u) ∧ E w cs x := by
  obtain ⟨_, _, hv, _, hx⟩ := h
  simp only [Value.slice.injEq] at hv
  obtain ⟨rfl, _, _⟩ := hv
  exact hx i x hi

theorem SlE.nil {α : Type} {sz : Nat} {E : World → List Value → α → Prop} (w : World) (ao : Option Addr) (cap : Nat) : SlE sz E w (.slice ao 0 cap) ([] : List α) :=
  ⟨ao, cap, rfl, Nat.zero_le _, fun i x h => by simp at h⟩

/-- a slice that the call has made itself, from block B on; no cell of its block holds a number -/
def OwE {α : Type} (sz : Nat) (E : World → List Value → α → Prop) (e : TypeId) (w : World) (B : Nat) (v : Value) (xs : List α) : Prop :=
  (v = .slice none 0 0 ∧ xs = []) ∨ ∃ g cap cur, v = .slice (some ⟨g, 0, none⟩) xs.length cap ∧ B ≤ g ∧ w.heap[g]? = some (.cells cur e (0, 0)) ∧ xs.length ≤ cap ∧ cap ≤ maxLen ∧ cur.size = cap * sz ∧
    (∀ u ∈ cur.toList, notInt u = true) ∧ ∀ i x, xs[i]? = some x → E w ((cur.toList.drop (i * sz)).take sz) x

theorem OwE.nil {α : Type} {sz : Nat} {E : World → List Value → α → Prop} (e : TypeId) (w : World) (B : Nat) : OwE sz E e w B (.slice none 0 0) ([] : List α) := .inl ⟨rfl, rfl⟩

theorem OwE.lit {α : Type} {sz : Nat} {E : World → List Value → α → Prop} (e : TypeId) (w : World) (B : Nat) (hB : B ≤ w.heap.size) : OwE sz E e (w.alloc (.cells #[] e)) B (.slice (some ⟨w.heap.size, 0, none⟩) 0 0) ([] : List α) := by
  refine .inr ⟨w.heap.size, 0, #[], rfl, hB, ?_, Nat.le_refl _, by simp only [maxLen]; omega, by simp, by simp, fun i x h => by simp at h⟩
  show (w.heap.push _)[_]? = _
  simp

theorem OwE.shape {α : Type} {sz : Nat} {E : World → List Value → α → Prop} {e : TypeId} {w : World} {B : Nat} {v : Value} {xs : List α} (h : OwE sz E e w B v xs) : ∃ ao n c, v = .slice ao n c ∧ n = xs.length := by
  rcases h with ⟨rfl, rfl⟩ | ⟨g, cap, cur, rfl, _⟩
  · exact ⟨none, 0, 0, rfl, rfl⟩
  · exact ⟨_, _, _, rfl, rfl⟩

theorem OwE.later {α : Type} {sz : Nat} {E : World → List Value → α → Prop} (hE : Elem sz E) {e : TypeId} {w w' : World} {B B' : Nat} {v : Value} {xs : List α} (h : OwE sz E e w B v xs) (hb : Below B' w w') (hB : w.heap.size ≤ B') : OwE sz E e w' B v xs := by
  rcases h with h | ⟨g, cap, cur, h1, h2, h3, h4, h5, h6, h7, h8⟩
  · exact .inl h
  · exact .inr ⟨g, cap, cur, h1, h2, by rw [hb.block g (Nat.lt_of_lt_of_le (lt_of_block h3) hB)]; exact h3, h4, h5, h6, h7, fun i x hi => hE.below (h8 i x hi) hb hB⟩

theorem OwE.drew {α : Type} {sz : Nat} {E : World → List Value → α → Prop} (hE : Elem sz E) {e : TypeId} {w : World} {B : Nat} {v : Value} {xs : List α} (h : OwE sz E e w B v xs) : OwE sz E e w.drew B v xs :=
  h.later hE (Below.refl w.heap.size w).drew (Nat.le_refl _)

theorem OwE.noInt {α : Type} {sz : Nat} {E : World → List Value → α → Prop} {e : TypeId} {w : World} {B : Nat} {v : Value} {xs : List α} (h : OwE sz E e w B v xs) : ∀ g, v.ownBlock = some g → NoInt w g := by
  rcases h with ⟨rfl, _⟩ | ⟨g, cap, cur, rfl, h2, h3, h4, h5, h6, h7, h8⟩
  · intro g hg; cases hg
  · intro g' hg
    obtain rfl : g = g' := by simpa [Value.ownBlock] using hg
    exact NoInt.of h3 h7

theorem seg_le {i n sz : Nat} (h : i < n) : i * sz + sz ≤ n * sz := by
  have := Nat.mul_le_mul_right sz (show i + 1 ≤ n from h)
  rw [Nat.add_mul, Nat.one_mul] at this
  exact this

theorem OwE.sl {α : Type} {sz : Nat} {E : World → List Value → α → Prop} {e : TypeId} {w : World} {B : Nat} {v : Value} {xs : List α} (h : OwE sz E e w B v xs) : SlE sz E w v xs := by
  rcases h with ⟨rfl, rfl⟩ | ⟨g, cap, cur, rfl, h2, h3, h4, h5, h6, h7, h8⟩
  · exact SlE.nil _ _ _
  · refine ⟨_, cap, rfl, h4, fun i x hi => ⟨g, 0, _, rfl, lt_of_block h3, fun j u hj => ?_, h8 i x hi⟩⟩
    simp only [World.cell?, h3, Option.isSome_none, Bool.false_eq_true, if_false, Nat.zero_add]
    rw [← Array.getElem?_toList]
    rw [List.getElem?_take] at hj
    split at hj
    · rw [List.getElem?_drop] at hj; exact hj
    · cases hj

theorem seg_lt {A B : List Value} {n sz i : Nat} (hA : A.length = n * sz) (hi : i < n) : ((A ++ B).drop (i * sz)).take sz = (A.drop (i * sz)).take sz := by
  have h := seg_le (sz := sz) hi
  rw [List.drop_append_of_le_length (by omega), List.take_append_of_le_length (by rw [List.length_drop]; omega)]

theorem seg_take {C : List Value} {n sz i : Nat} (hi : i < n) : ((C.take (n * sz)).drop (i * sz)).take sz = (C.drop (i * sz)).take sz := by
  have h := seg_le (sz := sz) hi
  rw [List.drop_take, List.take_take]
  congr 1
  omega

theorem seg_at {A news Z : List Value} {n sz : Nat} (hA : A.length = n * sz) (hn : news.length = sz) : ((A ++ (news ++ Z)).drop (n * sz)).take sz = news := by
  rw [← hA, List.drop_left, ← hn, List.take_left]

theorem zeroCells_ints (z : Array Value) (n : Nat) (h : ∀ u ∈ z.toList, notInt u = true) : ∀ u ∈ (Builtin.zeroCells z n).toList, notInt u = true := by
  intro u hu
  simp only [Builtin.zeroCells, Array.toList_map, List.mem_map] at hu
  obtain ⟨i, hi, rfl⟩ := hu
  have hi' : i < n * z.size := by simpa using hi
  have hz : 0 < z.size := by
    rcases Nat.eq_zero_or_pos z.size with h0 | h0
    · rw [h0] at hi'; simp at hi'
    · exact h0
  have hm : i % z.size < z.size := Nat.mod_lt _ hz
  rw [getElem!_pos z _ hm]
  exact h _ (Array.mem_toList_iff.2 (Array.getElem_mem hm))

theorem get_snoc {α : Type} {xs : List α} {x y : α} {i : Nat} (h : (xs ++ [x])[i]? = some y) : (i < xs.length ∧ xs[i]? = some y) ∨ (i = xs.length ∧ x = y) := by
  rcases Nat.lt_trichotomy i xs.length with h1 | h1 | h1
  · rw [List.getElem?_append_left h1] at h; exact .inl ⟨h1, h⟩
  · subst h1; rw [List.getElem?_append_right (Nat.le_refl _)] at h; simp at h; exact .inr ⟨rfl, h⟩
  · rw [List.getElem?_eq_none (by simp; omega)] at h; cases h

/-- one element is appended to a slice that the call has made -/
theorem run_pushE {α : Type} {P : Program} {w : World} {sz : Nat} {E : World → List Value → α → Prop} (hE : Elem sz E) (hsz : 0 < sz) (t ty e : TypeId) (bytes : Nat) (z : Value) (ht : P.underlying t = some (.slice e))
    (hi : (P.info? e).map (fun i => (i.zero, i.size, i.bytes)) = some (some z, sz, bytes)) (hzs : z.cells.size = sz) (hzi : ∀ u ∈ z.cells.toList, notInt u = true) (hby : bytes ≤ 100)
    (B : Nat) (v : Value) (xs : List α) (h : OwE sz E e w B v xs) (hlen : xs.length ≤ 100000000) (hB : B ≤ w.heap.size) (g : Nat) (cs : List Value) (x : α) (hcs : E w cs x) (hc : ∀ j u, cs[j]? = some u → w.cell? ⟨g, j, none⟩ = some u) :
    ∃ v' w', (Builtin.append_ #[t, t] ty #[v, .slice (some ⟨g, 0, none⟩) 1 1]).run P w = .ok v' w' ∧ OwE sz E e w' B v' (xs ++ [x]) ∧ w.grownBy w' v.ownBlock ∧ Below B w w' := by
  obtain ⟨i0, hi0, hz0, hz1, hz2⟩ := info_parts hi
  subst hz1
  have hl : cs.length = 1 * i0.size := by rw [hE.len hcs, Nat.one_mul]
  have hnews : ∀ j u, cs[j]? = some u → w.cell? ((⟨g, 0, none⟩ : Addr).add j) = some u := fun j u hj => by
    rw [Addr.add_lit, Nat.zero_add]; exact hc j u hj
  have hbyt : ∀ k : Nat, k ≤ 100000001 → k * i0.bytes ≤ 140737488355328 := fun k hk => by
    have : k * i0.bytes ≤ 100000001 * 100 := Nat.mul_le_mul hk (by omega)
    omega
  have fresh : ∀ (o : Obj), Below w.heap.size w (w.drew.alloc o) := fun o => (Below.refl _ _).drew.alloc (Nat.le_refl _) o
  have hzl : ∀ k : Nat, (Builtin.zeroCells z.cells k).toList.length = k * i0.size := fun k => by rw [Array.length_toList, size_zeroCells, hzs]
  have grownAll : ∀ (A Z : List Value) (cap : Nat), A.length = xs.length * i0.size → xs.length + 1 ≤ cap → cap ≤ maxLen → (A ++ (cs ++ Z)).length = cap * i0.size → (∀ u ∈ A, notInt u = true) → (∀ u ∈ Z, notInt u = true) →
      (∀ i y, xs[i]? = some y → E w ((A.drop (i * i0.size)).take i0.size) y) →
      OwE i0.size E e (w.drew.alloc (.cells (A ++ (cs ++ Z)).toArray e)) B (.slice (some ⟨w.heap.size, 0, none⟩) (xs.length + 1) cap) (xs ++ [x]) := by
    intro A Z cap hA hcap hmax hsize hAi hZi hel
    refine .inr ⟨w.heap.size, cap, (A ++ (cs ++ Z)).toArray, by rw [List.length_append]; rfl, hB, ?_, by rw [List.length_append]; exact hcap, hmax, hsize, ?_, ?_⟩
    · show (w.heap.push _)[_]? = _
      simp
    · intro u hu
      simp only [List.mem_append] at hu
      rcases hu with hu | hu | hu
      · exact hAi u hu
      · exact hE.ints hcs u hu
      · exact hZi u hu
    · intro i y hy
      rcases get_snoc hy with ⟨h1, h2⟩ | ⟨rfl, rfl⟩
      · show E _ (((A ++ (cs ++ Z)).drop (i * i0.size)).take i0.size) y
        rw [seg_lt hA h1]
        exact hE.below (hel i y h2) (fresh _) (Nat.le_refl _)
      · show E _ (((A ++ (cs ++ Z)).drop (xs.length * i0.size)).take i0.size) x
        rw [seg_at hA (hE.len hcs)]
        exact hE.below hcs (fresh _) (Nat.le_refl _)
  rcases h with ⟨rfl, rfl⟩ | ⟨g0, cap, cur, rfl, h2, h3, h4, h5, h6, h7, h8⟩
  · have hr := run_append_nil (P := P) w t ty e i0 z ht hi0 hz0 ⟨g, 0, none⟩ 1 1 cs hl hnews (by omega) (by omega) (by have := hbyt 1 (by omega); omega)
    have hge := grownCap_ge w 1 0 e
    have e1 : cs.toArray ++ Builtin.zeroCells z.cells (grownCap w 1 0 e - 1) = ([] ++ (cs ++ (Builtin.zeroCells z.cells (grownCap w 1 0 e - 1)).toList)).toArray := Array.toList_inj.1 (by simp)
    rw [e1] at hr
    refine ⟨_, _, hr, ?_, ⟨rfl, rfl, rfl, by simp, fun k hk _ => (fresh _).block k hk⟩, (fresh _).mono hB⟩
    refine grownAll [] _ _ (by simp) hge (grownCap_le_maxLen w 1 0 e (by simp only [maxLen]; omega)) ?_ (by simp) (zeroCells_ints _ _ hzi) (fun i y hy => by simp at hy)
    rw [List.nil_append, List.length_append, hzl, hl, ← Nat.add_mul]
    congr 1; omega
  · have hnc : cur.toList.length = cap * i0.size := by rw [Array.length_toList]; exact h6
    have hle : xs.length * i0.size ≤ cap * i0.size := Nat.mul_le_mul_right _ h4
    have hA : (cur.toList.take (xs.length * i0.size)).length = xs.length * i0.size := by rw [List.length_take]; omega
    by_cases hroom : xs.length + 1 ≤ cap
    · have hfit : xs.length * i0.size + cs.length ≤ cur.size := by
        rw [hl, h6, ← Nat.add_mul]; exact Nat.mul_le_mul_right _ hroom
      have hr := run_append_room (P := P) w t ty e i0 ht hi0 g0 xs.length cap cur h3 ⟨g, 0, none⟩ 1 1 cs hl hnews (hE.one hcs) hroom hfit
      have hbut : But g0 w (w.setRow g0 (cur.toList.take (xs.length * i0.size) ++ cs ++ cur.toList.drop (xs.length * i0.size + cs.length)).toArray) :=
        ⟨rfl, rfl, rfl, by simp, fun k _ hk => setRow_other w g0 k _ hk⟩
      have hni := NoInt.of h3 h7
      refine ⟨_, _, hr, ?_, ⟨rfl, rfl, rfl, by simp, fun k _ hk => setRow_other w g0 k _ (fun e9 => hk (by simp [Value.ownBlock, e9]))⟩, hbut.below h2 hB⟩
      refine .inr ⟨g0, cap, _, by rw [List.length_append]; rfl, h2, setRow_heap w g0 cur _ e _ h3, by rw [List.length_append]; exact hroom, h5, ?_, ?_, ?_⟩
      · simp only [List.size_toArray, List.length_append, List.length_take, List.length_drop, Array.length_toList]
        omega
      · intro u hu
        simp only [List.mem_append] at hu
        rcases hu with (hu | hu) | hu
        · exact h7 u (List.mem_of_mem_take hu)
        · exact hE.ints hcs u hu
        · exact h7 u (List.mem_of_mem_drop hu)
      · intro i y hy
        rcases get_snoc hy with ⟨q1, q2⟩ | ⟨rfl, rfl⟩
        · show E _ (((cur.toList.take (xs.length * i0.size) ++ cs ++ cur.toList.drop (xs.length * i0.size + cs.length)).drop (i * i0.size)).take i0.size) y
          have e9 : ((cur.toList.take (xs.length * i0.size) ++ cs ++ cur.toList.drop (xs.length * i0.size + cs.length)).drop (i * i0.size)).take i0.size = (cur.toList.drop (i * i0.size)).take i0.size := by
            rw [List.append_assoc, seg_lt hA q1, seg_take q1]
          rw [e9]
          exact hE.keep (h8 i y q2) hbut hni
        · show E _ (((cur.toList.take (xs.length * i0.size) ++ cs ++ cur.toList.drop (xs.length * i0.size + cs.length)).drop (xs.length * i0.size)).take i0.size) x
          have e9 : ((cur.toList.take (xs.length * i0.size) ++ cs ++ cur.toList.drop (xs.length * i0.size + cs.length)).drop (xs.length * i0.size)).take i0.size = cs := by
            rw [List.append_assoc, seg_at hA (hE.len hcs)]
          rw [e9]
          exact hE.keep hcs hbut hni
    · have holds : ∀ j u, (cur.toList.take (xs.length * i0.size))[j]? = some u → w.cell? ((⟨g0, 0, none⟩ : Addr).add j) = some u := by
        intro j u hj
        rw [Addr.add_lit, Nat.zero_add]
        simp only [World.cell?, h3, Option.isSome_none, Bool.false_eq_true, if_false]
        rw [← Array.getElem?_toList]
        rw [List.getElem?_take] at hj
        split at hj
        · exact hj
        · cases hj
      have hr := run_append_grow (P := P) w t ty e i0 z ht hi0 hz0 ⟨g0, 0, none⟩ xs.length cap (cur.toList.take (xs.length * i0.size)) hA holds ⟨g, 0, none⟩ 1 1 cs hl hnews (by omega) (by omega) (growslice_fits (by omega) (hbyt _ (by omega)))
      have hge := grownCap_ge w (xs.length + 1) cap e
      have e1 : (cur.toList.take (xs.length * i0.size)).toArray ++ cs.toArray ++ Builtin.zeroCells z.cells (grownCap w (xs.length + 1) cap e - (xs.length + 1)) =
          (cur.toList.take (xs.length * i0.size) ++ (cs ++ (Builtin.zeroCells z.cells (grownCap w (xs.length + 1) cap e - (xs.length + 1))).toList)).toArray := Array.toList_inj.1 (by simp)
      rw [e1] at hr
      refine ⟨_, _, hr, ?_, ⟨rfl, rfl, rfl, by simp, fun k hk _ => (fresh _).block k hk⟩, (fresh _).mono hB⟩
      refine grownAll _ _ _ hA hge (grownCap_le_maxLen w (xs.length + 1) cap e (by simp only [maxLen]; omega)) ?_ (fun u hu => h7 u (List.mem_of_mem_take hu)) (zeroCells_ints _ _ hzi) (fun i y hy => ?_)
      · rw [List.length_append, List.length_append, hA, hzl, hl, ← Nat.add_assoc, ← Nat.add_mul, ← Nat.add_mul]
        congr 1; omega
      · have hi9 : i < xs.length := (List.getElem?_eq_some_iff.1 hy).1
        rw [seg_take hi9]
        exact h8 i y hy

/-- the same as an operation of a walk -/
theorem wpList_pushE {α : Type} {P : Program} {w : World} {ops : Array Oper} {rest : List Oper} {o : Oper} {a : Act} {Q : Exit → Act → World → Prop} {sz : Nat} {E : World → List Value → α → Prop} (hE : Elem sz E) (hsz : 0 < sz) (hgd : o.guard = none) (s x : Operand) (t : TypeId)
    (ho : o.op = .call { callee := .builtin .append, args := #[s, x], argTypes := #[t, t] })
    (e : TypeId) (bytes : Nat) (z : Value) (ht : P.underlying t = some (.slice e))
    (hi : (P.info? e).map (fun i => (i.zero, i.size, i.bytes)) = some (some z, sz, bytes)) (hzs : z.cells.size = sz) (hzi : ∀ u ∈ z.cells.toList, notInt u = true) (hby : bytes ≤ 100)
    (B : Nat) (xs : List α) (h : OwE sz E e w B (a.eval s) xs) (hlen : xs.length ≤ 100000000) (hB : B ≤ w.heap.size) (g : Nat) (cs : List Value) (y : α) (hx : a.eval x = .slice (some ⟨g, 0, none⟩) 1 1) (hcs : E w cs y) (hc : ∀ j u, cs[j]? = some u → w.cell? ⟨g, j, none⟩ = some u)
    (hK : ∀ ao n c w', OwE sz E e w' B (.slice ao n c) (xs ++ [y]) → n = xs.length + 1 → w.grownBy w' (a.eval s).ownBlock → Below B w w' → wpList P ops Q rest (a.put o.dst (.slice ao n c)) w') : wpList P ops Q (o :: rest) a w := by
  obtain ⟨v', w', hr, h2, h3, h4⟩ := run_pushE (P := P) hE hsz t o.type e bytes z ht hi hzs hzi hby B _ xs h hlen hB g cs y hcs hc
  refine wpList_plain hgd fun K hK' => ?_
  unfold Oper.wp execOp
  obtain ⟨ao, n, c, rfl, hn⟩ := h2.shape
  simp only [ho, resolve, invoke, builtin, Sem.run_bind, Sem.run_pure, Result.andThen_ok, List.map_toArray, List.map_cons, List.map_nil, hx, hr]
  exact hK' _ _ (hK ao n c w' h2 (by simpa using hn) h3 h4)

/-- the same as a step of a region that draws its order -/
theorem step_pushE {α : Type} {P : Program} {w : World} {ops : Array Oper} {o : Oper} {a : Act} {K : Act → World → Prop} {Q : Exit → Act → World → Prop} {E0 : Prop} {sz : Nat} {E : World → List Value → α → Prop} (hE : Elem sz E) (hsz : 0 < sz) (hgd : o.guard = none) (s x : Operand) (t : TypeId)
    (ho : o.op = .call { callee := .builtin .append, args := #[s, x], argTypes := #[t, t] })
    (e : TypeId) (bytes : Nat) (z : Value) (ht : P.underlying t = some (.slice e))
    (hi : (P.info? e).map (fun i => (i.zero, i.size, i.bytes)) = some (some z, sz, bytes)) (hzs : z.cells.size = sz) (hzi : ∀ u ∈ z.cells.toList, notInt u = true) (hby : bytes ≤ 100)
    (B : Nat) (xs : List α) (h : OwE sz E e w B (a.eval s) xs) (hlen : xs.length ≤ 100000000) (hB : B ≤ w.heap.size) (g : Nat) (cs : List Value) (y : α) (hx : a.eval x = .slice (some ⟨g, 0, none⟩) 1 1) (hcs : E w cs y) (hc : ∀ j u, cs[j]? = some u → w.cell? ⟨g, j, none⟩ = some u)
    (hK : ∀ ao n c w', OwE sz E e w' B (.slice ao n c) (xs ++ [y]) → n = xs.length + 1 → w.grownBy w' (a.eval s).ownBlock → Below B w w' → K (a.put o.dst (.slice ao n c)) w') :
    if Region.wanted o (yielded ops a.tmps) = true then Oper.wp P o a w K Q else E0 := by
  have hw : Region.wanted o (yielded ops a.tmps) = true := by simp [Region.wanted, hgd]
  rw [if_pos hw]
  obtain ⟨v', w', hr, h2, h3, h4⟩ := run_pushE (P := P) hE hsz t o.type e bytes z ht hi hzs hzi hby B _ xs h hlen hB g cs y hcs hc
  unfold Oper.wp execOp
  obtain ⟨ao, n, c, rfl, hn⟩ := h2.shape
  simp only [ho, resolve, invoke, builtin, Sem.run_bind, Sem.run_pure, Result.andThen_ok, List.map_toArray, List.map_cons, List.map_nil, hx, hr]
  exact hK ao n c w' h2 (by simpa using hn) h3 h4

/-- a text as an element -/
def ET (_ : World) (cs : List Value) (s : ByteArray) : Prop := cs = [.string s]
theorem elemT : Elem 1 ET where
  len := by intro w cs x h; rw [h]; rfl
  ints := by intro w cs x h u hu; rw [h] at hu; simp at hu; subst hu; rfl
  one := by intro w cs x h u hu; rw [h] at hu; simp at hu; subst hu; rfl
  keep := by intro w w' g cs x h _ _; exact h

/-- a slice value reads as a list of texts -/
def TxL (w : World) (v : Value) (L : List ByteArray) : Prop := SlE 1 ET w v L

theorem TxL.later {w w' : World} {v : Value} {L : List ByteArray} {B : Nat} (h : TxL w v L) (hb : Below B w w') (hB : w.heap.size ≤ B) : TxL w' v L := SlE.later elemT h hb hB
theorem TxL.at {w : World} {ao : Option Addr} {n cap : Nat} {L : List ByteArray} (h : TxL w (.slice ao n cap) L) (i : Nat) (s : ByteArray) (hi : L[i]? = some s) :
    ∃ b off, ao = some ⟨b, off, none⟩ ∧ b < w.heap.size ∧ w.cell? ⟨b, off + i, none⟩ = some (.string s) := by
  obtain ⟨b, off, cs, h1, h2, h3, rfl⟩ := SlE.at h i s hi
  refine ⟨b, off, h1, h2, ?_⟩
  have := h3 0 _ rfl
  rwa [Nat.mul_one, Nat.add_zero] at this
theorem TxL.open {w : World} {v : Value} {L : List ByteArray} (h : TxL w v L) : ∃ ao n cap, v = .slice ao n cap ∧ n = L.length ∧ n ≤ cap ∧ TxL w (.slice ao n cap) L := SlE.open h

theorem SlE.op {α : Type} {sz : Nat} {E : World → List Value → α → Prop} {w : World} {v : Value} {xs : List α} (h : SlE sz E w v xs) : ∃ ao n cap, v = .slice ao n cap ∧ SlE sz E w (.slice ao n cap) xs := by
  obtain ⟨ao, n, cap, h1, _, _, h2⟩ := h.open
  exact ⟨ao, n, cap, h1, h2⟩
theorem TxL.op {w : World} {v : Value} {L : List ByteArray} (h : TxL w v L) : ∃ ao n cap, v = .slice ao n cap ∧ TxL w (.slice ao n cap) L := SlE.op h

/-- a slice without room or not is one of cells that lie there -/
theorem TxL.mk {w : World} {b off n cap : Nat} {L : List ByteArray} (hn : n = L.length) (hc : n ≤ cap) (hb : b < w.heap.size) (hx : ∀ i s, L[i]? = some s → w.cell? ⟨b, off + i, none⟩ = some (.string s)) : TxL w (.slice (some ⟨b, off, none⟩) n cap) L := by
  subst hn
  refine ⟨_, cap, rfl, hc, fun i s hi => ⟨b, off, [.string s], rfl, hb, fun j u hj => ?_, rfl⟩⟩
  match j, hj with
  | 0, hj => simp at hj; subst hj; rw [Nat.mul_one, Nat.add_zero]; exact hx i s hi
  | (k + 1), hj => simp at hj

/-- a block of texts that is known whole -/
def TArr (e : TypeId) (w : World) (g : Nat) (L : List ByteArray) : Prop := w.heap[g]? = some (.cells (L.map Value.string).toArray e (0, 0))
theorem TArr.lt {e : TypeId} {w : World} {g : Nat} {L : List ByteArray} (h : TArr e w g L) : g < w.heap.size := lt_of_block h
theorem TArr.cell {e : TypeId} {w : World} {g : Nat} {L : List ByteArray} (h : TArr e w g L) (i : Nat) (s : ByteArray) (hi : L[i]? = some s) : w.cell? ⟨g, i, none⟩ = some (.string s) := by
  unfold TArr at h
  simp [World.cell?, h, hi]
theorem TArr.frozen {e : TypeId} {w : World} {g : Nat} {L : List ByteArray} (h : TArr e w g L) (i : Nat) : w.frozen? ⟨g, i, none⟩ = false := by
  unfold TArr at h
  simp [World.frozen?, h]
theorem TArr.set {e : TypeId} {w : World} {g : Nat} {L : List ByteArray} (h : TArr e w g L) (i : Nat) (s : ByteArray) : TArr e (w.setCell ⟨g, i, none⟩ (.string s)) g (L.set i s) := by
  unfold TArr at *
  simp only [World.setCell, Array.getElem?_modify, h, if_true, Option.map_some]
  congr 2
  simp [List.map_set]
theorem TArr.drewN {e : TypeId} {w : World} {g : Nat} {L : List ByteArray} (h : TArr e w g L) (n : Nat) : TArr e (w.drewN n) g L := h
theorem TArr.sl {e : TypeId} {w : World} {g : Nat} {L : List ByteArray} (h : TArr e w g L) (n cap : Nat) (hn : n = L.length) (hc : n ≤ cap) : TxL w (.slice (some ⟨g, 0, none⟩) n cap) L :=
  TxL.mk hn hc h.lt fun i s hi => by rw [Nat.zero_add]; exact h.cell i s hi

/-- make of texts with a length that is a number of the walk's -/
theorem wpList_maket {P : Program} (w : World) {ops : Array Oper} {rest : List Oper} {o : Oper} {a : Act} {Q : Exit → Act → World → Prop}
    (hg : o.guard = none) (l : Operand) (t : TypeId) (hop : o.op = Op.makeSlice t l l)
    (e : TypeId) (bytes : Nat) (h1 : P.underlying t = some (.slice e)) (hi : (P.info? e).map (fun i => (i.zero, i.size, i.bytes)) = some (some (.string ByteArray.empty), 1, bytes)) (hby : bytes ≤ 16)
    (kl : IntKind) (L : Int) (n : Nat) (hl : a.eval l = .int kl L) (hL : L = (n : Int)) (hn : n ≤ 1000000000000)
    (hK : ∀ w', TArr e w' w.heap.size (List.replicate n ByteArray.empty) → Below w.heap.size w w' → w'.heap.size = w.heap.size + 1 → wpList P ops Q rest (a.put o.dst (.slice (some ⟨w.heap.size, 0, none⟩) n n)) w') :
    wpList P ops Q (o :: rest) a w := by
  obtain ⟨i0, hi0, hz0, hz1, hz2⟩ := info_parts hi
  refine wpList_plain hg fun K hK' => ?_
  subst hL
  have hb : (i0.bytes : Int) * (n : Int) ≤ 281474976710656 := by
    rw [hz2]
    have : bytes * n ≤ 16 * n := Nat.mul_le_mul_right n hby
    have h2 : ((bytes * n : Nat) : Int) ≤ 281474976710656 := by omega
    rwa [Int.natCast_mul] at h2
  have hr := run_make (P := P) w t e i0 (.string ByteArray.empty) h1 hi0 hz0 kl kl n n (by omega) (Int.le_refl _) hb (by omega)
  simp only [Int.toNat_natCast, hz1, Nat.mul_one] at hr
  unfold Oper.wp
  simp [execOp, hop, hl, hr, Result.andThen]
  refine hK' _ _ (hK _ ?_ ?_ ?_)
  · show (w.heap.push _)[_]? = _
    rw [Array.getElem?_push, if_pos rfl]
    congr 2
    apply Array.toList_inj.1
    have h3 := toList_madeCells_one (.string ByteArray.empty) n
    simp only [Value.cells] at h3 ⊢
    rw [h3]
    simp
  · exact (Below.refl _ _).alloc (Nat.le_refl _) _
  · simp
end Go.Proofs.YtdkjcdfkoahfkaaGreatDoor

namespace Go.Proofs.YtdkjcdfkoahfkaaGreatDoor
open Go Go.RowKit

def sizes (L : List ByteArray) : Nat := (L.map (·.size)).sum
def tot (L : List ByteArray) : Nat := L.length + sizes L

theorem sizes_succ (L : List ByteArray) (k : Nat) (s : ByteArray) (h : L[k]? = some s) : sizes (L.take (k + 1)) = sizes (L.take k) + s.size := by
  have hk := (List.getElem?_eq_some_iff.1 h).1
  have : L.take (k + 1) = L.take k ++ [s] := by rw [List.take_add_one, h]; rfl
  simp [sizes, this]
theorem sizes_take_le (L : List ByteArray) (k : Nat) : sizes (L.take k) ≤ sizes L := by
  have : sizes L = sizes (L.take k) + sizes (L.drop k) := by
    rw [sizes, sizes, sizes, ← List.sum_append, ← List.map_append, List.take_append_drop]
  omega
theorem size_le_sizes {L : List ByteArray} {s : ByteArray} (h : s ∈ L) : s.size ≤ sizes L := by
  obtain ⟨k, hk, rfl⟩ := List.mem_iff_getElem.1 h
  have := sizes_succ L k L[k] (List.getElem?_eq_getElem hk)
  have h2 := sizes_take_le L (k + 1)
  omega

theorem maxLen_eq : maxLen = 9223372036854775807 := rfl

set_option maxRecDepth 100000 in
set_option maxHeartbeats 1000000 in
theorem szT_any (v : Value) (L : List ByteArray) (w : World) (left : Nat) (h : TxL w v L) (hn : L.length ≤ maxLen) (hs : ∀ s ∈ L, s.size ≤ maxLen) (hl : left ≤ 1048576) (R : Ending → World → Prop)
    (hR : tot L ≤ left → R (.returned (.int .i64 ((left - tot L : Nat) : Int))) w) (hR2 : left < tot L → R (.returned (.int .i64 (-1))) w) :
    Calls Tryz.prog 34 #[v, .int .i64 (left : Int)] w R := by
  have HR := Lib.hid hR; clear hR
  have HR2 := Lib.hid hR2; clear hR2
  obtain ⟨ao, n, cap, rfl, hnl, hc, hh⟩ := h.open
  have HH := Lib.hid hh
  rw [maxLen_eq] at hn
  have HS := Lib.hid hs
  have HN := Lib.hid hnl
  rw [← hnl] at hn
  clear h hs hnl hh
  by_cases h0 : left < n
  · obtain ⟨y, hy⟩ : ∃ y : Int, y = (left : Int) - (n : Int) := ⟨_, rfl⟩
    have hw : IntKind.i64.wrap ((left : Int) - (n : Int)) = y := by rw [hy]; exact IntWalk.i64_in _ (by omega)
    have hyn : y < 0 := by omega
    have HF := Lib.hid (HR2.out (by unfold tot; rw [← HN.out]; omega))
    clear hy h0
    go_enter Tryz.func34, Tryz.ntmps34
    go_wp2
    first | go_ret | skip
    exact HF.out
  · obtain ⟨y, hy⟩ : ∃ y : Nat, left = y + n := ⟨left - n, by omega⟩
    have hw : IntKind.i64.wrap ((left : Int) - (n : Int)) = (y : Int) := by rw [IntWalk.i64_in _ (by omega)]; omega
    have HY := Lib.hid hy
    clear hy h0
    go_enter Tryz.func34, Tryz.ntmps34
    go_wp2
    clear hw
    go_loop [5, 1] (fun i l => ∃ k x : Nat, i = .int .i64 (k : Int) ∧ k ≤ n ∧ l = .int .i64 (x : Int) ∧ y = x + sizes (L.take k)) (fun i _ => n - (intOf i).toNat)
    case atStart => exact ⟨0, y, rfl, Nat.zero_le _, rfl, by simp [sizes]⟩
    case round =>
      obtain ⟨k, x, rfl, hk, rfl, hx⟩ := hrel
      have HX := Lib.hid hx
      clear hx
      by_cases hkn : k = n
      · subst hkn
        have hfin : R (.returned (.int .i64 (x : Int))) w := by
          have h1 := HX.out
          rw [HN.out, List.take_length] at h1
          have h2 := HY.out
          have h3 := HR.out (by unfold tot; rw [← HN.out]; omega)
          rw [show left - tot L = x by unfold tot; rw [← HN.out]; omega] at h3
          exact h3
        have HF := Lib.hid hfin
        clear hfin
        go_wp2
        first | go_ret | skip
        exact HF.out
      · have hkl : k < n := by omega
        obtain ⟨s, hs⟩ : ∃ s, L[k]? = some s := ⟨_, List.getElem?_eq_getElem (by rw [← HN.out]; exact hkl)⟩
        have hsz := HS.out s (List.mem_of_getElem? hs)
        rw [maxLen_eq] at hsz
        obtain ⟨b, off, rfl, hb, hcell⟩ := TxL.at HH.out k s hs
        have HSZ := Lib.hid (sizes_succ L k s hs)
        have HLE := Lib.hid (sizes_take_le L (k + 1))
        clear hs
        obtain ⟨m, hm⟩ : ∃ m, m = s.size := ⟨_, rfl⟩
        have HM := Lib.hid hm
        have hxb : x ≤ 1048576 := by have := HX.out; have := HY.out; omega
        by_cases hxm : x < m
        · obtain ⟨z, hz⟩ : ∃ z : Int, z = (x : Int) - (s.size : Int) := ⟨_, rfl⟩
          have hw : IntKind.i64.wrap ((x : Int) - (s.size : Int)) = z := by rw [hz]; exact IntWalk.i64_in _ (by omega)
          have hzn : z < 0 := by omega
          have HF := Lib.hid (HR2.out (by have h1 := HX.out; have h2 := HY.out; have h3 := HSZ.out; have h4 := HLE.out; unfold tot; rw [← HN.out]; omega))
          clear hz hm hxm hsz
          go_wp2
          first | go_ret | skip
          exact HF.out
        · obtain ⟨z, hz⟩ : ∃ z : Nat, x = z + s.size := ⟨x - s.size, by omega⟩
          have hw : IntKind.i64.wrap ((x : Int) - (s.size : Int)) = (z : Int) := by rw [IntWalk.i64_in _ (by omega)]; omega
          have hw1 : IntKind.i64.wrap ((k : Int) + 1) = ((k + 1 : Nat) : Int) := by rw [IntWalk.i64_in _ (by omega)]; omega
          have HZ := Lib.hid (show y = z + sizes (L.take (k + 1)) by have h1 := HX.out; have h3 := HSZ.out; omega)
          clear hz hm hxm hsz hxb
          go_wp2
          go_round
          case rel => exact ⟨k + 1, z, by first | rfl | go_num, by omega, rfl, HZ.out⟩
          case measure => simp [intOf]; omega

theorem set_copy {α : Type} (L : List α) (k n : Nat) (e s : α) (hk : k < n) (h : L[k]? = some s) : (L.take k ++ List.replicate (n - k) e).set k s = L.take (k + 1) ++ List.replicate (n - (k + 1)) e := by
  have hl : k < L.length := (List.getElem?_eq_some_iff.1 h).1
  have h1 : n - k = (n - (k + 1)) + 1 := by omega
  have h2 : (L.take k).length = k := by rw [List.length_take]; omega
  rw [h1, List.replicate_succ, List.set_append_right _ _ (by omega), h2, Nat.sub_self, List.set_cons_zero, List.take_add_one, h]
  simp

theorem info_str : (Tryz.prog.info? 9).map (fun i => (i.zero, i.size, i.bytes)) = some (some (.string ByteArray.empty), 1, 16) := by kernel_rfl

def CopyRel (w : World) (n : Nat) (L : List ByteArray) (i : Value) (wr : World) : Prop :=
  ∃ k : Nat, i = .int .i64 (k : Int) ∧ k ≤ n ∧ TArr 9 wr w.heap.size (L.take k ++ List.replicate (n - k) ByteArray.empty) ∧ Below w.heap.size w wr

set_option maxRecDepth 100000 in
set_option maxHeartbeats 1000000 in
theorem toT_any (v : Value) (L : List ByteArray) (w : World) (h : TxL w v L) (hn : L.length ≤ 1048576) (R : Ending → World → Prop)
    (hR : ∀ v' w', TxL w' v' L → Below w.heap.size w w' → R (.returned v') w') :
    Calls Tryz.prog 36 #[v] w R := by
  have HR := Lib.hid hR; clear hR
  obtain ⟨ao, n, cap, rfl, hnl, hc, hh⟩ := h.open
  have HH := Lib.hid hh
  have HN := Lib.hid hnl
  rw [← hnl] at hn
  clear h hnl hh
  go_enter Tryz.func36, Tryz.ntmps36
  go_wp2_with (at_make; go_must (refine wpList_maket _ rfl (.tmp 6) 38 rfl 9 16 Tryz.underlying38 info_str (by omega) .i64 _ n rfl (by omega) (by omega) ?_))
  intro W hA hbW hsW
  have HST : Hid (CopyRel w n L (.int .i64 0) W) := Lib.hid ⟨0, rfl, Nat.zero_le _, by simpa using hA, hbW⟩
  clear hA hbW hsW
  go_wp2
  go_loopw [4] (fun i wr => CopyRel w n L i wr) (fun i _ => n - (intOf i).toNat)
  case atStart => exact HST.out
  case round =>
    clear HST
    obtain ⟨k, rfl, hk, hA, hbel⟩ := hrel
    have HB := Lib.hid hbel
    by_cases hkn : k = n
    · subst hkn
      have hL : L.take k ++ List.replicate (k - k) ByteArray.empty = L := by rw [Nat.sub_self, HN.out, List.take_length]; simp
      rw [hL] at hA
      have HT := Lib.hid (hA.sl k k HN.out (Nat.le_refl _))
      clear hA hbel hL
      go_wp2
      first | go_ret | skip
      exact HR.out _ _ HT.out HB.out
    · have hkl : k < n := by omega
      obtain ⟨s, hs⟩ : ∃ s, L[k]? = some s := ⟨_, List.getElem?_eq_getElem (by rw [← HN.out]; exact hkl)⟩
      obtain ⟨b, off, rfl, hb, hcell⟩ := TxL.at HH.out k s hs
      rw [← hbel.cell (p := ⟨b, off + k, none⟩) hb] at hcell
      have hlen : (L.take k ++ List.replicate (n - k) ByteArray.empty).length = n := by rw [List.length_append, List.length_take, List.length_replicate, ← HN.out]; omega
      have hc2 := hA.cell k _ (List.getElem?_eq_getElem (by rw [hlen]; exact hkl))
      have hf2 := hA.frozen k
      have hA2 := hA.set k s
      rw [set_copy L k n ByteArray.empty s hkl hs] at hA2
      have HA2 := Lib.hid hA2
      obtain ⟨u, hu⟩ : ∃ u, u = (L.take k ++ List.replicate (n - k) ByteArray.empty)[k]'(by rw [hlen]; exact hkl) := ⟨_, rfl⟩
      rw [← hu] at hc2
      have hw1 : IntKind.i64.wrap ((k : Int) + 1) = ((k + 1 : Nat) : Int) := by rw [IntWalk.i64_in _ (by omega)]; omega
      clear hA hA2 hbel hlen hs hu
      go_wp2
      go_roundw
      case rel => exact ⟨k + 1, by first | rfl | go_num, by omega, HA2.out, HB.out.setCell (Nat.le_refl _) _⟩
      case measure => simp [intOf]; omega

set_option maxRecDepth 100000 in
set_option maxHeartbeats 1000000 in
theorem eqT_any (v1 v2 : Value) (L1 L2 : List ByteArray) (w : World) (h1 : TxL w v1 L1) (h2 : TxL w v2 L2) (hn : L1.length ≤ 281474976710656) (hn2 : L2.length ≤ 281474976710656) (R : Ending → World → Prop)
    (hR : ∀ w', Below w.heap.size w w' → R (.returned (.bool (decide (L1 = L2)))) w') :
    Calls Tryz.prog 39 #[v1, v2] w R := by
  have HR := Lib.hid hR; clear hR
  obtain ⟨a1, n, c1, rfl, hn1, hc1, hh1⟩ := h1.open
  obtain ⟨a2, n2, c2, rfl, hn2', hc2, hh2⟩ := h2.open
  have HH1 := Lib.hid hh1
  have HH2 := Lib.hid hh2
  have HN1 := Lib.hid hn1
  have HN2 := Lib.hid hn2'
  rw [← hn1] at hn
  rw [← hn2'] at hn2
  clear h1 h2 hn1 hn2' hh1 hh2
  by_cases hne : n = n2
  · subst hne
    have e0 : ((n : Int) != (n : Int)) = false := by simp
    go_enter Tryz.func39, Tryz.ntmps39
    go_wp2
    clear e0
    go_loopw [5] (fun i wr => ∃ k : Nat, i = .int .i64 (k : Int) ∧ k ≤ n ∧ L1.take k = L2.take k ∧ Below w.heap.size w wr) (fun i _ => n - (intOf i).toNat)
    case atStart => exact ⟨0, rfl, Nat.zero_le _, by simp, Below.refl _ _⟩
    case round =>
      obtain ⟨k, rfl, hk, htk, hbel⟩ := hrel
      have HTK := Lib.hid htk
      have HB := Lib.hid hbel
      clear htk
      by_cases hkn : k = n
      · subst hkn
        have he : L1 = L2 := by
          have := HTK.out
          rw [HN1.out, List.take_length] at this
          rw [this, ← HN1.out, HN2.out, List.take_length]
        rw [decide_eq_true he] at HR
        clear hbel he
        go_wp2
        first | go_ret | skip
        exact HR.out _ HB.out
      · have hkl : k < n := by omega
        obtain ⟨s, hs⟩ : ∃ s, L1[k]? = some s := ⟨_, List.getElem?_eq_getElem (by rw [← HN1.out]; exact hkl)⟩
        obtain ⟨t, ht⟩ : ∃ t, L2[k]? = some t := ⟨_, List.getElem?_eq_getElem (by rw [← HN2.out]; exact hkl)⟩
        obtain ⟨b1, o1, rfl, hb1, hcell1⟩ := TxL.at HH1.out k s hs
        obtain ⟨b2, o2, rfl, hb2, hcell2⟩ := TxL.at HH2.out k t ht
        rw [← hbel.cell (p := ⟨b1, o1 + k, none⟩) hb1] at hcell1
        rw [← hbel.cell (p := ⟨b2, o2 + k, none⟩) hb2] at hcell2
        have hw1 : IntKind.i64.wrap ((k : Int) + 1) = ((k + 1 : Nat) : Int) := by rw [IntWalk.i64_in _ (by omega)]; omega
        have hk0 : (0 : Int) ≤ (k : Int) := by omega
        have hk1 : (k : Int) < (n : Int) := by omega
        by_cases hst : s = t
        · have HT2 := Lib.hid (show L1.take (k + 1) = L2.take (k + 1) by rw [List.take_add_one, List.take_add_one, hs, ht, HTK.out, hst])
          have e9 : (s.toList == t.toList) = true := by subst hst; simp
          clear hs ht hbel hst
          go_wp2
          go_quiet (fail)
          go_wp2
          go_roundw
          case rel => exact ⟨k + 1, by first | rfl | go_num, by omega, HT2.out, below_draws HB.out _⟩
          case measure => simp [intOf]; omega
        · have hne : L1 ≠ L2 := fun e => by subst e; rw [hs] at ht; exact hst (Option.some.inj ht)
          have e9 : (s.toList == t.toList) = false := by
            rw [beq_eq_false_iff_ne]
            intro e
            rw [Lib.toList_data, Lib.toList_data] at e
            exact hst (by cases s; cases t; simpa [← Array.toList_inj] using e)
          rw [decide_eq_false hne] at HR
          clear hs ht hbel hst hne
          go_wp2
          go_quiet (fail)
          go_wp2
          first | go_ret | skip
          exact HR.out _ (below_draws HB.out _)
  · have e0 : ((n : Int) != (n2 : Int)) = true := by simp; omega
    have hd : L1 ≠ L2 := fun e => hne (by rw [HN1.out, HN2.out, e])
    rw [decide_eq_false hd] at HR
    clear hne hd
    go_enter Tryz.func39, Tryz.ntmps39
    go_wp2
    first | go_ret | skip
    exact HR.out _ (Below.refl _ _)
end Go.Proofs.YtdkjcdfkoahfkaaGreatDoor

namespace Go.Proofs.YtdkjcdfkoahfkaaGreatDoor.EnvLaid
open Go Go.ChangeShapes Go.WideShapes Go.ChangeAt Go.RowKit

theorem laidOut : laidOutB Tryz.prog = true := by kernel_rfl
theorem cellsStr : Tryz.prog.cellsOf 9 = 1 := by kernel_rfl

theorem wf_i64 {n : Int} (h : (Lit.int .i64 n).wf = true) : -9223372036854775807 - 1 ≤ n ∧ n ≤ 9223372036854775807 := by
  have e1 : IntKind.i64.min = -9223372036854775807 - 1 := rfl
  have e2 : IntKind.i64.max = 9223372036854775807 := rfl
  simp [Lit.wf, e1, e2] at h
  omega

theorem var?_after {P : Program} {W W' : World} {n : String} {cs : Array Value} (h : Below W.heap.size W W') (hv : W.var? P n = some cs) : W'.var? P n = some cs := by
  have hv' := hv
  unfold World.var? at hv'
  cases hg : P.globalNamed n with
  | none => rw [hg] at hv'; simp at hv'
  | some g =>
    refine var?_below h hg ?_ hv
    rw [hg] at hv'
    simp only [Option.bind_some] at hv'
    rcases Nat.lt_or_ge g W.heap.size with h | h
    · exact h
    · rw [Array.getElem?_eq_none (by omega)] at hv'; simp at hv'

/-- a list of texts among the cells that came in -/
theorem open_textsC {H : Type} {enc : TypeId × Value → H} {W : World} {x : Value} {fuel : Nat} {y : DataW H × List MemPlace}
    (hf : DataW.trod enc Tryz.prog W 0 (fun _ => true) true fuel 38 [x] = some y) :
    ∃ L, TxL W x L ∧ L.length ≤ maxLen ∧ ∀ s ∈ L, s.size ≤ maxLen := by
  rcases open_strings Tryz.underlying38 Tryz.underlying9 cellsStr hf with ⟨hcs, hx⟩ | ⟨a, len, cap, ss, hcs, _, hl, hm, hz, hx, hcell, hsz⟩
  · simp at hcs
    subst hcs
    exact ⟨[], SlE.nil _ _ _, Nat.zero_le _, by simp⟩
  · simp at hcs
    subst hcs
    simp only [if_true] at hz
    obtain ⟨b, off, spot⟩ := a
    by_cases h0 : len = 0
    · subst h0
      exact ⟨[], SlE.nil _ _ _, Nat.zero_le _, by simp⟩
    · have hspot : spot = none := by simpa [Addr.add] using World.cell?_spot (hcell 0 (by omega))
      subst hspot
      refine ⟨ss.take len, TxL.mk (by simp; omega) hl (by have := hcell 0 (by omega); rw [Addr.add_lit] at this; exact lt_of_cell this) (fun i s hi => ?_), by simp; omega, fun s hs => hsz s (List.mem_of_mem_take hs)⟩
      have hi' : i < len := by
        have := (List.getElem?_eq_some_iff.1 hi).1
        simp at this
        omega
      have e : ss.getD i ByteArray.empty = s := by
        rw [List.getElem?_take_of_lt hi'] at hi
        simp [List.getD, hi]
      have := hcell i (by omega)
      rw [Addr.add_lit, e] at this
      exact this

/-- a list of texts that came in -/
theorem open_texts {H : Type} {enc : TypeId × Value → H} {W : World} {a0 : Option Addr} {len cap : Nat} {d : DataW H} {ps : List MemPlace}
    (h : DataW.Trod enc Tryz.prog W 0 (fun _ => true) true 38 (.slice a0 len cap) d ps) :
    ∃ L, TxL W (.slice a0 len cap) L ∧ L.length ≤ maxLen ∧ ∀ s ∈ L, s.size ≤ maxLen := by
  obtain ⟨fuel, hf⟩ := h
  exact open_textsC (y := (d, ps)) (by simpa [Value.cells] using hf)
end Go.Proofs.YtdkjcdfkoahfkaaGreatDoor.EnvLaid

namespace Go.Proofs.YtdkjcdfkoahfkaaGreatDoor.EnvLaid
open Go Go.ChangeShapes Go.WideShapes Go.ChangeAt Go.RowKit

theorem gPow : Tryz.prog.globalNamed "internal/strconv.uint64pow10" = some 5 := by kernel_rfl
theorem tPow : (Tryz.prog.globals[5]?).map (·.type) = some 271 := by kernel_rfl

/-- what a row's condition gives -/
theorem env_ofT {W : World} (h : laidMetH Tryz.prog [("math/bits.deBruijn32tab", Rows.laid_math_bits_deBruijn32tab), ("math/bits.deBruijn64tab", Rows.laid_math_bits_deBruijn64tab), ("internal/strconv.uint64pow10", Rows.laid_internal_strconv_uint64pow10), ("errors.errorType", Rows.laid_errors_errorType), ("loop.example/g01120/impl.errForm", Rows.laid_loop_example_g01120_impl_errForm), ("loop.example/g01120/impl.errSize", Rows.laid_loop_example_g01120_impl_errSize)] W) :
    Env W ∧ (∃ a, W.var? Tryz.prog "loop.example/g01120/impl.errForm" = some #[.iface 299 (.pointer (some a))]) ∧ (∃ a, W.var? Tryz.prog "loop.example/g01120/impl.errSize" = some #[.iface 299 (.pointer (some a))]) ∧
      Lib.TabIs Tryz.prog W "internal/strconv.uint64pow10" .u64 Lib.pow10Tab := by
  have h' : laidMet Tryz.prog [("math/bits.deBruijn32tab", Rows.laid_math_bits_deBruijn32tab), ("math/bits.deBruijn64tab", Rows.laid_math_bits_deBruijn64tab), ("internal/strconv.uint64pow10", Rows.laid_internal_strconv_uint64pow10), ("loop.example/g01120/impl.errForm", Rows.laid_loop_example_g01120_impl_errForm), ("loop.example/g01120/impl.errSize", Rows.laid_loop_example_g01120_impl_errSize)] W ∧ handlesMet Tryz.prog [("errors.errorType", Rows.laid_errors_errorType)] W := h
  have h3 := laidMet.tail (laidMet.tail h'.1)
  have h4 := laidMet.tail h3
  obtain ⟨a1, s1, hv1, hc1, _, _⟩ := laid_sentinel h4 gForm tForm Tryz.underlying87 rowPtr Tryz.underlying299 Tryz.underlying301 rfl rfl Tryz.underlying9 cells190 cells9
  obtain ⟨a2, s2, hv2, hc2, _, _⟩ := laid_sentinel (laidMet.tail h4) gSize tSize Tryz.underlying87 rowPtr Tryz.underlying299 Tryz.underlying301 rfl rfl Tryz.underlying9 cells190 cells9
  exact ⟨⟨⟨a1, by simpa using World.var?_cell gForm hv1 0⟩, ⟨a2, by simpa using World.var?_cell gSize hv2 0⟩, handle_of h'.2⟩, ⟨a1, hv1⟩, ⟨a2, hv2⟩,
    Lib.tabIs_of_head gPow tPow Tryz.underlying271 Tryz.underlying99 (by kernel_rfl) (by kernel_rfl) h3⟩
end Go.Proofs.YtdkjcdfkoahfkaaGreatDoor.EnvLaid
