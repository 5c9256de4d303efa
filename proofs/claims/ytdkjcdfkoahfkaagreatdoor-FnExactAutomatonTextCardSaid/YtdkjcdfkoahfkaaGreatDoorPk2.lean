/- Contracts of functions of the program and of the model: DivMain, Gcd, Q, Make, MulQ0, Dec, Digits, Text, FitQ, Rdec, Give. -/
import Derived.Test.YtdkjcdfkoahfkaaGreatDoorPk1
import Derived.Deep.DeepCutAuto
import Derived.Laws.BytesString
set_option linter.all false
set_option linter.unusedVariables false
set_option linter.unusedSimpArgs false
set_option linter.unnecessarySimpa false
set_option linter.deprecated false
namespace Go.Proofs.YtdkjcdfkoahfkaaGreatDoor
open Go Go.RowKit

set_option maxRecDepth 100000 in
set_option maxHeartbeats 1000000 in
theorem zdiv_main (va vb : Value) (a b : Int) (w : World) (ha : IsZ w va a) (hb : IsZ w vb b) (hla : (dig 10000 a.natAbs).length ≤ 1000000) (hlb : (dig 10000 b.natAbs).length ≤ 1000000)
    (hb0 : b ≠ 0) (hmore : (dig 10000 b.natAbs).length ≤ (dig 10000 a.natAbs).length) (R : Ending → World → Prop)
    (hR : ∀ v1 v2 w', IsZ w' v1 ((a.natAbs / b.natAbs : Nat) : Int) → IsZ w' v2 ((a.natAbs % b.natAbs : Nat) : Int) → Below w.heap.size w w' → R (.returned (.tuple #[v1, v2])) w') :
    Calls Tryz.prog 212 #[va, vb] w R := by
  have HR := Lib.hid hR; clear hR
  have hbp : 0 < b.natAbs := by omega
  obtain ⟨aa, na, ca, rfl, ena, hsa⟩ := ha.open
  obtain ⟨ab, nb, cb, rfl, enb, hsb⟩ := hb.open
  have hnb : 0 < nb := by
    rcases Nat.eq_zero_or_pos nb with h | h
    · exfalso; rw [h] at enb; exact absurd ((dig_eq_nil (B := 10000) (by omega)).1 (List.length_eq_zero_iff.1 enb.symm)) (by omega)
    · exact h
  rw [← ena] at hmore hla
  rw [← enb] at hmore hlb
  obtain ⟨nega, hnega⟩ : ∃ x, x = decide (a < 0) := ⟨_, rfl⟩
  obtain ⟨negb, hnegb⟩ : ∃ x, x = decide (b < 0) := ⟨_, rfl⟩
  rw [← hnega, ← hnegb]
  obtain ⟨A, hA⟩ : ∃ A, A = a.natAbs := ⟨_, rfl⟩
  obtain ⟨M, hM⟩ : ∃ M, M = b.natAbs := ⟨_, rfl⟩
  rw [← hA] at HR ena hsa
  rw [← hM] at HR enb hsb hbp
  clear ha hb hb0 hnega hnegb hA hM
  obtain ⟨k, hk⟩ : ∃ k, na - nb + 1 = k := ⟨_, rfl⟩
  have hk1 : 1 ≤ k := by omega
  have hkn : k ≤ na := by omega
  have hki : (na : Int) - (nb : Int) + 1 = (k : Int) := by omega
  have Ena := Lib.hid ena
  have Enb := Lib.hid enb
  have Hk := Lib.hid hk
  have Hki := Lib.hid hki
  obtain ⟨pa, oa, rfl, hpa, _⟩ := hsa.at 0 (by omega)
  obtain ⟨pb, ob, rfl, hpb, _⟩ := hsb.at 0 (by omega)
  have hcap := hsa.cap
  obtain ⟨L, hL⟩ : ∃ L, L = (((w.alloc (.cells #[.bool nega, .slice (some ⟨pa, oa, none⟩) na ca] 67)).alloc (.cells #[.bool negb, .slice (some ⟨pb, ob, none⟩) nb cb] 67)).alloc (.cells #[.bool false, .slice none 0 0] 67)).alloc (.cells #[.bool false, .slice none 0 0] 67) := ⟨_, rfl⟩
  have hLs : L.heap.size = w.heap.size + 4 := by rw [hL]; simp
  have B0 : Box2 L w.heap.size (.bool nega) (.slice (some ⟨pa, oa, none⟩) na ca) 67 := by rw [hL]; exact (((Box2.made w _ _ _).alloc _).alloc _).alloc _
  have B1 : Box2 L (w.heap.size + 1) (.bool negb) (.slice (some ⟨pb, ob, none⟩) nb cb) 67 := by rw [hL]; have := ((Box2.made (w.alloc (.cells #[.bool nega, .slice (some ⟨pa, oa, none⟩) na ca] 67)) (.bool negb) (.slice (some ⟨pb, ob, none⟩) nb cb) 67).alloc (.cells #[.bool false, .slice none 0 0] 67)).alloc (.cells #[.bool false, .slice none 0 0] 67); simpa using this
  have B2 : Box2 L (w.heap.size + 2) (.bool false) (.slice none 0 0) 67 := by rw [hL]; have := (Box2.made ((w.alloc (.cells #[.bool nega, .slice (some ⟨pa, oa, none⟩) na ca] 67)).alloc (.cells #[.bool negb, .slice (some ⟨pb, ob, none⟩) nb cb] 67)) (.bool false) (.slice none 0 0) 67).alloc (.cells #[.bool false, .slice none 0 0] 67); simpa using this
  have B3 : Box2 L (w.heap.size + 3) (.bool false) (.slice none 0 0) 67 := by rw [hL]; have := Box2.made (((w.alloc (.cells #[.bool nega, .slice (some ⟨pa, oa, none⟩) na ca] 67)).alloc (.cells #[.bool negb, .slice (some ⟨pb, ob, none⟩) nb cb] 67)).alloc (.cells #[.bool false, .slice none 0 0] 67)) (.bool false) (.slice none 0 0) 67; simpa using this
  have HEXT : Below w.heap.size w L := by rw [hL]; exact ((((Below.refl w.heap.size w).alloc (Nat.le_refl _) _).alloc (by simp) _).alloc (by simp; omega) _).alloc (by simp; omega) _
  obtain ⟨hA0, hA1, _, _⟩ := B0.cells
  obtain ⟨hB0, hB1, _, _⟩ := B1.cells
  have HL := Lib.hid hL
  clear ena enb hL hki hk
  go_enter Tryz.func212, Tryz.ntmps212
  go_wp2_with fail
  rw [← HL.out]
  refine cut_at false _ _ _ (dig 10000 M) L (hsb.later HEXT (Nat.le_refl _)) (dig_lt (by omega) _) (by rw [← Enb.out]; omega) _ ?_
  intro n1 w1 hs1 hb1
  rw [val_dig (by omega)] at hs1
  have b0 := B0.later hb1 (by omega)
  have b1 := B1.later hb1 (by omega)
  have b2 := B2.later hb1 (by omega)
  have b3 := B3.later hb1 (by omega)
  have HB1 := HEXT.trans (hb1.mono (by omega : w.heap.size ≤ L.heap.size))
  have hsz1 := hb1.size
  clear B0 B1 B2 B3 hA0 hA1 hB0 hB1 hb1 HEXT
  obtain ⟨hA0, hA1, _, _⟩ := b0.cells
  obtain ⟨hB0, hB1, _, _⟩ := b1.cells
  have hl3 := lt_of_block b3
  have hl0 : w.heap.size < w1.heap.size := by omega
  have hl1 : w.heap.size + 1 < w1.heap.size := by omega
  have hkt := Hki.out
  have hk2 : (1 : Int) ≤ (k : Int) := by omega
  simp only [Bool.false_and]
  go_wp2_with (at_make; go_must (refine wpList_makez _ rfl (.tmp 31) 65 rfl 2 .i64 8 Tryz.underlying65 info_i64 (by omega) .i64 (↑k) k rfl rfl (by omega) ?_))
  intro w2 harr2 hbw2 hsz2
  have B4 := (Box2.made w1 (.bool false) (.slice (some ⟨pb, ob, none⟩) n1 cb) 67).later hbw2 (by omega)
  have d0 := (b0.alloc (.cells #[.bool false, .slice (some ⟨pb, ob, none⟩) n1 cb] 67)).later hbw2 (by omega)
  have d2 := (b2.alloc (.cells #[.bool false, .slice (some ⟨pb, ob, none⟩) n1 cb] 67)).later hbw2 (by omega)
  have d3 := (b3.alloc (.cells #[.bool false, .slice (some ⟨pb, ob, none⟩) n1 cb] 67)).later hbw2 (by omega)
  have hs1' := (hs1.alloc (.cells #[.bool false, .slice (some ⟨pb, ob, none⟩) n1 cb] 67)).later hbw2 (by simp)
  have HB2 := (HB1.alloc HB1.size (.cells #[.bool false, .slice (some ⟨pb, ob, none⟩) n1 cb] 67)).trans (hbw2.mono (by omega))
  clear hA0 hA1 hB0 hB1 b0 b1 b2 b3 hs1 hbw2 HB1
  obtain ⟨hA0, hA1, _, _⟩ := d0.cells
  have hkn2 : (k : Int) ≤ (na : Int) := by omega
  have hk3 : (0 : Int) ≤ (k : Int) := by omega
  have hkd : decide ((k : Int) < 1) = false := by simp; omega
  go_wp2_with (with_reducible (refine wpList_slice_from rfl (.tmp 34) (.tmp 35) 65 rfl 2 .i64 8 Tryz.underlying65 info_i64 (some ⟨pa, oa, none⟩) na ca k (dig 10000 A) rfl rfl hkn (hsa.later HB2 (Nat.le_refl _)) ?_))
  intro ak hsk
  go_wp2_with fail
  refine cut_at false _ _ _ _ w2 hsk (fun d hd => dig_lt (by omega : 2 ≤ 10000) A d (List.mem_of_mem_drop hd)) (by rw [← hsk.len]; omega) _ ?_
  intro n3 w3 hs3 hb3
  obtain ⟨r0, hr0⟩ : ∃ r0, r0 = val 10000 ((dig 10000 A).drop k) := ⟨_, rfl⟩
  rw [← hr0] at hs3
  have hr0M : r0 < M := by
    have h1 := val_lt ((dig 10000 A).drop k) (fun d hd => dig_lt (by omega : 2 ≤ 10000) A d (List.mem_of_mem_drop hd))
    rw [← hr0, List.length_drop, ← Ena.out] at h1
    have h2 : 10000 ^ (na - k) ≤ M := pow_le_dig (by omega) M _ (by rw [← Enb.out]; have := Hk.out; omega)
    omega
  have hr0v := Lib.hid hr0
  have e0 := d0.later hb3 (by omega)
  have e2 := d2.later hb3 (by omega)
  have e3 := d3.later hb3 (by omega)
  have e4 := B4.later hb3 (by omega)
  have earr := harr2.later hb3 (by omega)
  have hs1'' := hs1'.later hb3 (Nat.le_refl _)
  have HB3 := HB2.trans (hb3.mono HB2.size)
  have hsz3 := hb3.size
  clear hA0 hA1 d0 d2 d3 B4 harr2 hs1' hb3 HB2 hr0
  simp only [Bool.false_and]
  go_wp2
  go_loopw [10] (fun i wr => DivOut w A M na k pa oa ca pb ob n1 cb w1.heap.size (w1.heap.size + 1) w3.heap.size nega i wr) (fun i _ => (intOf i + 1).toNat)
  case atStart =>
    refine ⟨k, List.replicate k 0, r0, ak, n3, ca - k, rfl, Nat.le_refl _, by simp, fun x hx => by rw [(List.mem_replicate.1 hx).2]; omega, fun q hq => by simp [List.getD, hq], ?_, hr0M, earr.alloc _, HB3.alloc HB3.size _, e0.alloc _, e2.alloc _, e3.alloc _, e4.alloc _, hs1''.alloc _, Box2.made _ _ _ _, hs3.alloc _⟩
    rw [← hr0v.out, List.drop_eq_nil_of_le (by simp)]; simp [val]
  case round =>
    clear e0 e2 e3 e4 earr hs1'' hs3 HB3
    obtain ⟨j, D, r, ar, nr, cr, rfl, hj, hdl, hd, hd0, hval, hrM, harr, hbel, b0, b2, b3, b6, hsby, b9, hsr⟩ := hrel
    have Hdl := Lib.hid hdl
    have Hd := Lib.hid hd
    have Hd0 := Lib.hid hd0
    have Hval := Lib.hid hval
    have HBEL := Lib.hid hbel
    clear hdl hd hd0 hval
    obtain ⟨hA0, hA1, _, _⟩ := b0.cells
    obtain ⟨h60, h61, _, _⟩ := b6.cells
    obtain ⟨h90, h91, h92, h93⟩ := b9.cells
    by_cases hj0 : j = 0
    · subst hj0
      obtain ⟨h20, h21, h22, h23⟩ := b2.cells
      obtain ⟨h30, h31, h32, h33⟩ := b3.cells
      have hvq : A / M = val 10000 D ∧ A % M = r := by
        have h := Hval.out
        rw [List.drop_zero, List.drop_zero, val_dig (by omega)] at h
        have h1 : A / M = val 10000 D := Nat.div_eq_of_lt_le (by rw [h, Nat.mul_comm]; omega) (by rw [h, Nat.add_mul, Nat.mul_comm M]; omega)
        exact ⟨h1, by have := Nat.div_add_mod A M; rw [h1] at this; omega⟩
      rw [hvq.1, hvq.2] at HR
      have Hslw := Lib.hid (harr.sl k k Hdl.out.symm (Nat.le_refl _))
      have HB2 := Lib.hid b2
      have HB3 := Lib.hid b3
      have HB9 := Lib.hid b9
      have HSR := Lib.hid hsr
      have hl9 := lt_of_block b9
      clear hvq b0 b2 b3 b6 b9 hsby hsr harr hbel hA0 hA1 h60 h61
      go_wp2_with fail
      go_region_law (first
        | (go_simp; go_at_call 59; refine cut_at false _ _ _ D _ Hslw.out.drew Hd.out (by rw [Hdl.out]; omega) _ ?_; intro nq wq hsq hbq; have hbq' : Below wr.heap.size wr wq := below_ofDrew hbq; obtain ⟨m20, m21, m22, m23⟩ := (HB2.out.later hbq' (lt_of_block HB2.out)).cells; obtain ⟨m30, m31, m32, m33⟩ := (HB3.out.later hbq' (lt_of_block HB3.out)).cells; obtain ⟨m90, m91, m92, m93⟩ := (HB9.out.later hbq' hl9).cells; simp only [Bool.false_and]))
      all_goals
        go_wp2
        refine bodyPost_ret_at (by simp [results, Tryz.results212, go_sem, m20, m21, m30, m31] <;> rfl) rfl ?_
        have hbq2 : Below wr.heap.size wr wq := below_ofDrew hbq
        have hn2 := (HB2.out.later hbq2 (lt_of_block HB2.out)).noInt rfl rfl
        have hn3 := (HB3.out.later hbq2 (lt_of_block HB3.out)).noInt rfl rfl
        have hsr2 := HSR.out.later hbq2 (Nat.le_refl _)
        exact HR.out _ _ _ (IsZ.mkNat ((((hsq.set hn2 0 _).set (hn2.set 0 _ rfl) 1 _).set ((hn3.set 0 _ rfl).set 1 _ rfl) 0 _).set (((hn3.set 0 _ rfl).set 1 _ rfl).set 0 _ rfl) 1 _)) (IsZ.mkNat ((((hsr2.set hn2 0 _).set (hn2.set 0 _ rfl) 1 _).set ((hn3.set 0 _ rfl).set 1 _ rfl) 0 _).set (((hn3.set 0 _ rfl).set 1 _ rfl).set 0 _ rfl) 1 _)) (((((HBEL.out.trans (hbq2.mono HBEL.out.size)).setCell (by simp <;> omega) _).setCell (by simp <;> omega) _).setCell (by simp <;> omega) _).setCell (by simp <;> omega) _)
    · obtain ⟨i, rfl⟩ : ∃ i, j = i + 1 := ⟨j - 1, by omega⟩
      have es : ((i + 1 : Nat) : Int) - 1 = (i : Int) := by omega
      rw [es]
      clear es hj0
      have hina : i < na := by omega
      have hca := hsa.at i hina
      obtain ⟨_, _, he, _, hci⟩ := hca
      simp only [Option.some.injEq, Addr.mk.injEq, and_true] at he
      obtain ⟨rfl, rfl⟩ := he
      rw [← hbel.cell (p := ⟨pa, oa + i, none⟩) hpa] at hci
      obtain ⟨x, hxe⟩ : ∃ x, x = (dig 10000 A).getD i 0 := ⟨_, rfl⟩
      rw [← hxe] at hci
      have Hxe := Lib.hid hxe
      have hi0 : (0 : Int) ≤ (i : Int) := by omega
      have hi1 : (i : Int) < (na : Int) := by omega
      clear hxe
      go_wp2
      have hlp := lt_of_block b9
      have hlb0 := lt_of_block b0
      have hpw : pa < wr.heap.size := by have := hbel.size; omega
      have hrl : (dig 10000 r).length ≤ 1000000 := by
        have h1 := dig_length_le (B := 10000) (by omega) _ r (Nat.lt_trans hrM (lt_pow_dig (by omega : 2 ≤ 10000) M))
        rw [← Enb.out] at h1; omega
      have hdA := Lib.hid (show ∀ d ∈ [x] ++ dig 10000 r, d < 10000 from fun d hd => by
        rcases List.mem_append.1 hd with h | h
        · simp at h; rw [h, Hxe.out]; exact dig_getD_lt (by omega) _ _
        · exact dig_lt (by omega) _ _ h)
      have hvalA : val 10000 ([x] ++ dig 10000 r) = x + 10000 * r := by rw [List.singleton_append, val_cons_pos, val_dig (by omega)]
      have hvalA := Lib.hid hvalA
      go_cut [10] (fun s10 wx => s10 = .int .i64 i ∧ DivMid w M na pa oa ca pb ob n1 cb w1.heap.size (w1.heap.size + 1) w3.heap.size nega D (x + 10000 * r) wx)
      case first =>
        go_region_law (first
            | (refine step_append_any rfl (.tmp 49) (.tmp 51) 65 rfl 2 .i64 8 Tryz.underlying65 info_i64 (by omega) wr.heap.size [x] (dig 10000 r) (Own.lit1 _ _ _ _ _ _ rfl (Nat.le_refl _)).drew (hsr.alloc _).drew (by simp; omega) (by simp) ?_; intro av an ac wA hownA hnA hbA; have HnA := Lib.hid hnA; clear hnA; have hwA : wr.heap.size ≤ wA.heap.size := Nat.le_trans (by simp) hbA.size)
            | (go_simp; go_at_call 59; refine cut_at false _ _ _ _ _ hownA.sl hdA.out (by simp; omega) _ ?_; intro nC wC hsC hbC; have b9C := Box2.later (Box2.later (w := (wr.alloc (.cells #[.int .i64 x] 2)).drew) (b9.alloc _) hbA hlp) hbC (Nat.lt_of_lt_of_le hlp hwA); obtain ⟨hR0, hR1, hR2, hR3⟩ := b9C.cells; dsimp only))
        all_goals (go_wp2_with fail; go_meet; exact ⟨rfl, mid_rel w wr wA wC M na pa oa ca pb ob n1 cb w1.heap.size (w1.heap.size + 1) w3.heap.size nega D ([x] ++ dig 10000 r) (x + 10000 * r) _ av an ac nC ar nr cr hl3 (by omega) (by omega) harr HBEL.out b0 b2 b3 b6 hsby b9 hownA hbA hbC (by have := hsC; rwa [hvalA.out] at this)⟩)
      case rest =>
        obtain ⟨rfl, hmid⟩ := hcut
        have hib : i < k := by omega
        have hxi := Lib.hid (show i < (dig 10000 A).length by rw [← Ena.out]; exact hina)
        have hdi := Lib.hid (show i < D.length by rw [Hdl.out]; exact hib)
        have hxlt : x < 10000 := by rw [Hxe.out]; exact dig_getD_lt (by omega) _ _
        obtain ⟨t, ht⟩ : ∃ t, t = x + 10000 * r := ⟨_, rfl⟩
        rw [← ht] at hmid
        have htM : t < 10000 * M := by omega
        have Ht := Lib.hid ht
        have HMID := Lib.hid hmid
        have hml : (dig 10000 M).length ≤ 1000000 := by rw [← Enb.out]; exact hlb
        have htl : (dig 10000 t).length ≤ 2000000 := by
          have h1 := dig_length_le (B := 10000) (by omega) (nb + 1) t (by
            have := lt_pow_dig (by omega : 2 ≤ 10000) M
            rw [← Enb.out] at this
            rw [Nat.pow_succ]; omega)
          omega
        have Hml := Lib.hid hml
        have Htl := Lib.hid htl
        clear ht b0 b2 b3 b6 b9 hsby hsr harr hbel hA0 hA1 h60 h61 h90 h91 h92 h93 hlp hlb0 hpw hrl hdA hvalA hci hml htl
        obtain ⟨ar, nr, cr, haw, harr, hbel, b0, b2, b3, b6, hsby, b9, hsr⟩ := hmid
        obtain ⟨h60, h61, _, _⟩ := b6.cells
        obtain ⟨h90, h91, _, _⟩ := b9.cells
        go_wp2_with fail
        refine far_any _ _ (t : Int) (M : Int) _ (IsZ.mkNat hsr) (IsZ.mkNat hsby) (by have := Htl.out; simp; omega) (by have := Hml.out; simp; omega) _ ?_
        intro w4 hb4
        have HMID4 := Lib.hid (HMID.out.later hb4)
        rw [Int.natAbs_natCast, Int.natAbs_natCast]
        clear haw harr hbel b0 b2 b3 b6 hsby b9 hsr h60 h61 h90 h91 HMID hb4
        by_cases htm : t < M
        · rw [cmpN_lt htm]
          dsimp only
          go_wp2
          go_roundw
          case rel =>
            obtain ⟨ar, nr, cr, haw, harr, hbel, b0, b2, b3, b6, hsby, b9, hsr⟩ := HMID4.out
            exact ⟨i, D, t, ar, nr, cr, by go_num, by omega, Hdl.out, Hd.out, fun q hq => Hd0.out q (by omega), by rw [Ht.out]; exact div_cont _ _ _ _ _ _ hxi.out hdi.out Hxe.out (Hd0.out i (by omega)) Hval.out, htm, harr, hbel, b0, b2, b3, b6, hsby, b9, hsr⟩
          case measure => simp [intOf] <;> omega
        · have hcm : ¬ cmpN t M < 0 := by unfold cmpN; rw [if_neg htm]; split <;> omega
          obtain ⟨cm, hcme⟩ : ∃ cm, cm = cmpN t M := ⟨_, rfl⟩
          rw [← hcme] at hcm ⊢
          clear hcme
          dsimp only
          go_wp2
          go_loopw [11, 12] (fun low high wq => DivIn w M na pa oa ca pb ob n1 cb w1.heap.size (w1.heap.size + 1) w3.heap.size nega D t low high wq) (fun low high _ => (intOf high).toNat - (intOf low).toNat)
          case atStart => exact ⟨1, 9999, rfl, rfl, by omega, by omega, by omega, by omega, by omega, HMID4.out⟩
          case round =>
            obtain ⟨lo, hi, rfl, rfl, hlo1, hlohi, hhi, hlot, hhit, hmid⟩ := hrel
            have HMID := Lib.hid hmid
            have Hlot := Lib.hid hlot
            have Hhit := Lib.hid hhit
            clear hlot hhit hmid
            by_cases hlh : lo < hi
            · obtain ⟨m, hm⟩ : ∃ m, m = (lo + hi + 1) / 2 := ⟨_, rfl⟩
              have hme : ((lo : Int) + (hi : Int) + 1) / 2 = (m : Int) := by omega
              have hm1 : 1 ≤ m := by omega
              have hm2 : m ≤ 9999 := by omega
              have hm3 : lo < m := by omega
              have hm4 : m ≤ hi := by omega
              have Hm := Lib.hid hm
              clear hm
              obtain ⟨ar, nr, cr, haw, harr, hbel, b0, b2, b3, b6, hsby, b9, hsr⟩ := HMID.out
              obtain ⟨h60, h61, _, _⟩ := b6.cells
              obtain ⟨h90, h91, _, _⟩ := b9.cells
              have hMm : (dig 10000 (M * m)).length ≤ 1000001 := by
                have h1 := dig_length_le (B := 10000) (by omega) (nb + 1) (M * m) (by
                  have h2 := lt_pow_dig (by omega : 2 ≤ 10000) M
                  rw [← Enb.out] at h2
                  have h3 : M * m ≤ M * 9999 := Nat.mul_le_mul_left _ hm2
                  rw [Nat.pow_succ]; omega)
                omega
              have HMm := Lib.hid hMm
              have Hmm : Hid (decide (cmpN (M * m) t ≤ 0) = decide (M * m ≤ t)) := Lib.hid (cmpN_le _ _)
              clear haw harr hbel b0 b2 b3 hMm
              go_wp2_with fail
              go_cut [11, 12, 13, 72] (fun s11 s12 s13 s72 wx => s11 = .int .i64 lo ∧ s12 = .int .i64 hi ∧ s13 = .int .i64 m ∧ s72 = .bool (decide (M * m ≤ t)) ∧ DivMid w M na pa oa ca pb ob n1 cb w1.heap.size (w1.heap.size + 1) w3.heap.size nega D t wx)
              case first =>
                go_region_law (first
                  | (go_simp; go_at_call 60; refine zof_any (m : Int) _ (by omega) (by omega) _ ?_; intro vz wz hzz hbz; have hbz' : Below wr.heap.size wr wz := below_ofDrew hbz; obtain ⟨az, nz, cz, rfl, ez, hsz⟩ := (show IsZ wz vz ((m : Nat) : Int) from hzz).nat; obtain ⟨k60, k61, _, _⟩ := (b6.later hbz' (lt_of_block b6)).cells; obtain ⟨k90, k91, _, _⟩ := (b9.later hbz' (lt_of_block b9)).cells; clear ez hzz hbz; dsimp only)
                  | (go_simp; go_at_call 176; refine zmul_any _ _ (M : Int) (m : Int) _ (IsZ.mkNat (hsby.later hbz' (Nat.le_refl _))) (IsZ.mkNat hsz) (by have := Hml.out; simp; omega) (by have := @dig_length_ten 10000 (by omega) m 4 (by omega); simp; omega) _ ?_; intro vm wm hzm hbm; have hbm' := hbz'.trans (hbm.mono hbz'.size); obtain ⟨am, nm, cm2, rfl, em, hsm⟩ := (show IsZ wm vm ((M * m : Nat) : Int) from by rw [Int.natCast_mul]; exact hzm).nat; obtain ⟨l90, l91, _, _⟩ := (b9.later hbm' (lt_of_block b9)).cells; clear em hzm hbm; dsimp only)
                  | (go_simp; go_at_call 246; refine far_any _ _ ((M * m : Nat) : Int) (t : Int) _ (IsZ.mkNat hsm) (IsZ.mkNat (hsr.later hbm' (Nat.le_refl _))) (by have := HMm.out; simp only [Int.natAbs_natCast]; omega) (by have := Htl.out; simp; omega) _ ?_; intro wf hbf; have hbf' := hbm'.trans (hbf.mono hbm'.size); rw [Int.natAbs_natCast, Int.natAbs_natCast]; clear hbf; dsimp only))
                all_goals (go_wp2_with fail; go_meet; exact ⟨rfl, rfl, rfl, congrArg Value.bool Hmm.out, HMID.out.later hbf'⟩)
              case rest =>
                obtain ⟨rfl, rfl, rfl, rfl, hmid⟩ := hcut
                have HMIDc := Lib.hid hmid
                clear hmid b6 hsby b9 hsr h60 h61 h90 h91
                by_cases hle : M * m ≤ t
                · rw [decide_eq_true hle]
                  have Hle := Lib.hid hle
                  clear hle
                  go_wp2
                  go_roundw
                  case rel => exact ⟨m, hi, rfl, rfl, hm1, hm4, hhi, Hle.out, Hhit.out, HMIDc.out⟩
                  case measure => simp [intOf]; omega
                · rw [decide_eq_false hle]
                  have Hle := Lib.hid hle
                  clear hle
                  go_wp2
                  go_roundw
                  case rel => exact ⟨lo, m - 1, rfl, by go_num, hlo1, by omega, by omega, Hlot.out, by have := Hle.out; rw [show m - 1 + 1 = m by omega]; omega, HMIDc.out⟩
                  case measure => simp [intOf]; omega
            · obtain rfl : lo = hi := by omega
              have hq : t / M = lo := by
                have h1 := Hlot.out
                have h2 := Hhit.out
                exact Nat.div_eq_of_lt_le (by rw [Nat.mul_comm]; exact h1) (by rw [Nat.mul_comm]; exact h2)
              have Hq := Lib.hid hq
              clear hq
              obtain ⟨ar, nr, cr, haw, harr, hbel, b0, b2, b3, b6, hsby, b9, hsr⟩ := HMID.out
              obtain ⟨h60, h61, _, _⟩ := b6.cells
              obtain ⟨h90, h91, h92, h93⟩ := b9.cells
              have hcD := harr.cell i hdi.out
              have hfD := harr.frozen i
              have hik : (i : Int) < (k : Int) := by omega
              obtain ⟨wd, hwd⟩ : ∃ wd, wd = wr.setCell ⟨w1.heap.size + 1, i, none⟩ (.int .i64 (lo : Int)) := ⟨_, rfl⟩
              have hmd : DivMid w M na pa oa ca pb ob n1 cb w1.heap.size (w1.heap.size + 1) w3.heap.size nega (D.set i lo) t wd := by rw [hwd]; exact HMID.out.store i lo hpb hl3 (by omega) (by omega)
              have HMD := Lib.hid hmd
              have HWD := Lib.hid hwd
              clear hwd hmd
              go_wp2_with fail
              rw [← HWD.out]
              clear haw harr hbel b0 b2 b3 b6 hsby b9 hsr h60 h61 h90 h91 h92 h93 hcD hfD
              obtain ⟨ar, nr, cr, haw, harr, hbel, b0, b2, b3, b6, hsby, b9, hsr⟩ := HMD.out
              obtain ⟨h60, h61, _, _⟩ := b6.cells
              obtain ⟨h90, h91, h92, h93⟩ := b9.cells
              clear haw harr hbel b0 b2 b3
              have hMl : M * lo ≤ t := Hlot.out
              have hzz : (t : Int) + -((M * lo : Nat) : Int) = ((t % M : Nat) : Int) := by
                have h1 := Nat.div_add_mod t M
                rw [Hq.out] at h1
                have h2 : ((M * lo + t % M : Nat) : Int) = (t : Int) := by rw [h1]
                rw [Int.natCast_add] at h2
                omega
              have Hzz := Lib.hid hzz
              have hMlo : (dig 10000 (M * lo)).length ≤ 2000000 := by
                have h1 := dig_length_le (B := 10000) (by omega) _ (M * lo) (Nat.lt_of_le_of_lt hMl (lt_pow_dig (by omega : 2 ≤ 10000) t))
                exact Nat.le_trans h1 Htl.out
              have HMlo := Lib.hid hMlo
              clear hzz hMlo hMl
              go_region_law (first
                | (go_simp; go_at_call 60; refine zof_any (lo : Int) _ (by omega) (by omega) _ ?_; intro vz wz hzz hbz; have hbz' : Below wd.heap.size wd wz := below_ofDrew hbz; obtain ⟨az, nz, cz, rfl, ez, hsz⟩ := (show IsZ wz vz ((lo : Nat) : Int) from hzz).nat; obtain ⟨k60, k61, _, _⟩ := (b6.later hbz' (lt_of_block b6)).cells; obtain ⟨k90, k91, _, _⟩ := (b9.later hbz' (lt_of_block b9)).cells; clear ez hzz hbz; dsimp only)
                | (go_simp; go_at_call 176; refine zmul_any _ _ (M : Int) (lo : Int) _ (IsZ.mkNat (hsby.later hbz' (Nat.le_refl _))) (IsZ.mkNat hsz) (by have := Hml.out; simp; omega) (by have := @dig_length_ten 10000 (by omega) lo 4 (by omega); simp; omega) _ ?_; intro vm wm hzm hbm; have hbm' := hbz'.trans (hbm.mono hbz'.size); obtain ⟨am, nm, cm2, rfl, em, hsm⟩ := (show IsZ wm vm ((M * lo : Nat) : Int) from by rw [Int.natCast_mul]; exact hzm).nat; have hzm' : IsZ wm (.agg #[.bool false, .slice am nm cm2]) ((M * lo : Nat) : Int) := IsZ.mkNat hsm; obtain ⟨l90, l91, _, _⟩ := (b9.later hbm' (lt_of_block b9)).cells; clear em hzm hbm hsm; dsimp only)
                | (go_simp; go_at_call 153; refine zneg_any _ ((M * lo : Nat) : Int) _ hzm' (by have := HMlo.out; simp only [Int.natAbs_natCast]; omega) _ ?_; intro vn wn hzn hbn; have hbn' := hbm'.trans (hbn.mono hbm'.size); obtain ⟨bn, an, nn, cn2, rfl, hzn'⟩ := hzn.openB; obtain ⟨m90, m91, _, _⟩ := (b9.later hbn' (lt_of_block b9)).cells; clear hzn hbn; dsimp only)
                | (go_simp; go_at_call 236; refine zadd_any _ _ (t : Int) (-((M * lo : Nat) : Int)) _ (IsZ.mkNat (hsr.later hbn' (Nat.le_refl _))) hzn' (by have := Htl.out; simp; omega) (by have := HMlo.out; simp only [Int.natAbs_neg, Int.natAbs_natCast]; omega) _ ?_; intro vf wf hzf hbf; have hbf' := hbn'.trans (hbf.mono hbn'.size); rw [Hzz.out] at hzf; obtain ⟨af, nf, cf, rfl, ef, hsf⟩ := hzf.nat; obtain ⟨n90, n91, n92, n93⟩ := (b9.later hbf' (lt_of_block b9)).cells; clear ef hzf hbf; dsimp only))
              all_goals
                go_wp2
                go_roundw
                case rel => exact end_rel w wd wf A M na k pa oa ca pb ob n1 cb w1.heap.size (w1.heap.size + 1) w3.heap.size i nega (D.set i lo) t (t % M) af nf cf hl3 (by omega) (by omega) HMD.out hbf' hsf (by omega) (by rw [List.length_set]; exact Hdl.out) (set_lt D i lo Hd.out (by omega)) (fun q hq => by have h1 := Hd0.out q (by omega); rw [List.getD, List.getElem?_set_ne (by omega)]; exact h1) (div_store _ _ _ _ _ _ _ _ hxi.out hdi.out Hxe.out (by rw [← Ht.out, ← Hq.out]; exact (Nat.div_add_mod t M).symm) Hval.out) (Nat.mod_lt _ hbp)
                case measure => simp [intOf] <;> omega
end Go.Proofs.YtdkjcdfkoahfkaaGreatDoor

namespace Go.Proofs.YtdkjcdfkoahfkaaGreatDoor
open Go Go.RowKit

theorem zdiv_any (va vb : Value) (a b : Int) (w : World) (ha : IsZ w va a) (hb : IsZ w vb b) (hla : (dig 10000 a.natAbs).length ≤ 1000000) (hlb : (dig 10000 b.natAbs).length ≤ 1000000)
    (hb0 : b ≠ 0) (R : Ending → World → Prop)
    (hR : ∀ v1 v2 w', IsZ w' v1 ((a.natAbs / b.natAbs : Nat) : Int) → IsZ w' v2 ((a.natAbs % b.natAbs : Nat) : Int) → Below w.heap.size w w' → R (.returned (.tuple #[v1, v2])) w') :
    Calls Tryz.prog 212 #[va, vb] w R := by
  by_cases h : (dig 10000 a.natAbs).length < (dig 10000 b.natAbs).length
  · exact zdiv_small va vb a b w ha hb hla hlb h R hR
  · exact zdiv_main va vb a b w ha hb hla hlb hb0 (by omega) R hR

theorem zdiv_nat (va vb : Value) (a b : Nat) (w : World) (ha : IsZ w va (a : Int)) (hb : IsZ w vb (b : Int)) (hla : (dig 10000 a).length ≤ 1000000) (hlb : (dig 10000 b).length ≤ 1000000)
    (hb0 : b ≠ 0) (R : Ending → World → Prop)
    (hR : ∀ v1 v2 w', IsZ w' v1 ((a / b : Nat) : Int) → IsZ w' v2 ((a % b : Nat) : Int) → Below w.heap.size w w' → R (.returned (.tuple #[v1, v2])) w') :
    Calls Tryz.prog 212 #[va, vb] w R :=
  zdiv_any va vb a b w ha hb (by rw [Int.natAbs_natCast]; exact hla) (by rw [Int.natAbs_natCast]; exact hlb) (by omega) R (by rw [Int.natAbs_natCast, Int.natAbs_natCast]; exact hR)

/-- the number in a cell -/
def cellNat : Option Value → Nat
  | some (.int _ z) => z.toNat
  | _ => 0
/-- the number in a slice of digits -/
def slNat (w : World) : Value → Nat
  | .slice (some a) n _ => val 10000 ((List.range n).map fun i => cellNat (w.cell? ⟨a.block, a.off + i, none⟩))
  | _ => 0
/-- the number in the second cell of a box -/
def boxNat (w : World) (g : Nat) : Nat :=
  match w.cell? ⟨g, 1, none⟩ with
  | some v => slNat w v
  | none => 0

theorem Sl.slNat {k : IntKind} {w : World} {v : Value} {xs : List Nat} (h : Sl k w v xs) : slNat w v = val 10000 xs := by
  rcases h.cases with ⟨rfl, ao, cap, rfl⟩ | ⟨hl, b, off, cap, rfl, _, _, hc⟩
  · cases ao <;> simp [Go.Proofs.YtdkjcdfkoahfkaaGreatDoor.slNat, val]
  · unfold Go.Proofs.YtdkjcdfkoahfkaaGreatDoor.slNat
    dsimp only
    have : (List.range xs.length).map (fun i => cellNat (w.cell? ⟨b, off + i, none⟩)) = xs := by
      apply List.ext_getElem (by simp)
      intro i h1 h2
      rw [List.getElem_map, List.getElem_range, hc i h2]
      simp [cellNat, List.getD, List.getElem?_eq_getElem h2]
    rw [this]
theorem Box2.nat {w : World} {g : Nat} {u v : Value} {t : TypeId} {xs : List Nat} {k : IntKind} (h : Box2 w g u v t) (hs : Sl k w v xs) : boxNat w g = val 10000 xs := by
  obtain ⟨_, h1, _, _⟩ := h.cells
  unfold boxNat
  rw [h1]
  exact hs.slNat

def GcdRel (w : World) (G g : Nat) (wr : World) : Prop :=
  ∃ (x y : Nat) (a1 : Option Addr) (n1 c1 : Nat) (a2 : Option Addr) (n2 c2 : Nat), Nat.gcd x y = G ∧ (dig 10000 x).length ≤ 1000000 ∧ (dig 10000 y).length ≤ 1000000 ∧
    Box2 wr g (.bool false) (.slice a1 n1 c1) 67 ∧ Box2 wr (g + 1) (.bool false) (.slice a2 n2 c2) 67 ∧ Box2 wr (g + 2) (.bool false) (.slice none 0 0) 67 ∧
    Sl .i64 wr (.slice a1 n1 c1) (dig 10000 x) ∧ Sl .i64 wr (.slice a2 n2 c2) (dig 10000 y) ∧ Below g w wr

theorem gcd_step (w w3 : World) (x y g G : Nat) (u0 u1 : Value) (a1 : Option Addr) (n1 c1 : Nat) (a2 : Option Addr) (n2 c2 : Nat) (a4 : Option Addr) (n4 c4 : Nat) (hly : (dig 10000 y).length ≤ 1000000) (hy : y ≠ 0) (hG : Nat.gcd x y = G)
    (b0 : Box2 w3 g u0 (.slice a1 n1 c1) 67) (b1 : Box2 w3 (g + 1) u1 (.slice a2 n2 c2) 67) (b2 : Box2 w3 (g + 2) (.bool false) (.slice none 0 0) 67)
    (hu0 : notInt u0 = true) (hu1 : notInt u1 = true)
    (hs2 : Sl .i64 w3 (.slice a2 n2 c2) (dig 10000 y)) (hs4 : Sl .i64 w3 (.slice a4 n4 c4) (dig 10000 (x % y))) (hb : Below g w w3) (o1 o2 : Obj) (hgz : g ≤ w3.heap.size) :
    ∀ wz, wz = (((((w3.setCell ⟨g, 0, none⟩ (.bool false)).setCell ⟨g, 1, none⟩ (.slice a2 n2 c2)).setCell ⟨g + 1, 0, none⟩ (.bool false)).setCell ⟨g + 1, 1, none⟩ (.slice a4 n4 c4)).alloc o1).alloc o2 →
    GcdRel w G g wz ∧ boxNat wz (g + 1) = x % y := by
  have hn0 := b0.noInt hu0 rfl
  have d0 := b0.set01 (.bool false) (.slice a2 n2 c2)
  have d1 := b1.noSet (b := g) (by omega) (.bool false) (.slice a2 n2 c2)
  have d2 := b2.noSet (b := g) (by omega) (.bool false) (.slice a2 n2 c2)
  have t2 := hs2.noSet hn0 (.bool false) (.slice a2 n2 c2) rfl
  have t4 := hs4.noSet hn0 (.bool false) (.slice a2 n2 c2) rfl
  have hn1 := d1.noInt hu1 rfl
  have e1 := d1.set01 (.bool false) (.slice a4 n4 c4)
  have f4 := t4.noSet hn1 (.bool false) (.slice a4 n4 c4) rfl
  have hyp : 0 < y := by omega
  rintro _ rfl
  refine ⟨⟨y, x % y, a2, n2, c2, a4, n4, c4, ?_, hly, ?_, ((d0.noSet (by omega) _ _).alloc _).alloc _, (e1.alloc _).alloc _, ((d2.noSet (by omega) _ _).alloc _).alloc _, ((t2.noSet hn1 _ _ rfl).alloc _).alloc _, (f4.alloc _).alloc _, (((((hb.setCell (by simp) _).setCell (by simp) _).setCell (by simp) _).setCell (by simp) _).alloc (by simpa using hgz) _).alloc (by simp; omega) _⟩, ?_⟩
  · rw [← hG, Nat.gcd_comm y, ← Nat.gcd_rec, Nat.gcd_comm]
  · exact Nat.le_trans (dig_length_le (by omega) _ _ (Nat.lt_trans (Nat.mod_lt x hyp) (lt_pow_dig (by omega : 2 ≤ 10000) y))) hly
  · rw [((e1.alloc _).alloc _).nat ((f4.alloc _).alloc _), val_dig (by omega)]

set_option maxRecDepth 100000 in
set_option maxHeartbeats 1000000 in
theorem zgcd_any (va vb : Value) (a b : Int) (w : World) (ha : IsZ w va a) (hb : IsZ w vb b) (hla : (dig 10000 a.natAbs).length ≤ 1000000) (hlb : (dig 10000 b.natAbs).length ≤ 1000000)
    (R : Ending → World → Prop) (hR : ∀ v w', IsZ w' v ((Nat.gcd a.natAbs b.natAbs : Nat) : Int) → Below w.heap.size w w' → R (.returned v) w') :
    Calls Tryz.prog 211 #[va, vb] w R := by
  have HR := Lib.hid hR; clear hR
  obtain ⟨aa, na, ca, rfl, ena, hsa⟩ := ha.open
  obtain ⟨ab, nb, cb, rfl, enb, hsb⟩ := hb.open
  obtain ⟨nega, hnega⟩ : ∃ x, x = decide (a < 0) := ⟨_, rfl⟩
  obtain ⟨negb, hnegb⟩ : ∃ x, x = decide (b < 0) := ⟨_, rfl⟩
  rw [← hnega, ← hnegb]
  obtain ⟨A, hA⟩ : ∃ A, A = a.natAbs := ⟨_, rfl⟩
  obtain ⟨M, hM⟩ : ∃ M, M = b.natAbs := ⟨_, rfl⟩
  rw [← hA] at HR ena hsa hla
  rw [← hM] at HR enb hsb hlb
  clear ha hb hnega hnegb hA hM ena enb
  obtain ⟨L, hL⟩ : ∃ L, L = ((w.alloc (.cells #[.bool nega, .slice aa na ca] 67)).alloc (.cells #[.bool negb, .slice ab nb cb] 67)).alloc (.cells #[.bool false, .slice none 0 0] 67) := ⟨_, rfl⟩
  have hLs : L.heap.size = w.heap.size + 3 := by rw [hL]; simp
  have B0 : Box2 L w.heap.size (.bool nega) (.slice aa na ca) 67 := by rw [hL]; exact ((Box2.made w _ _ _).alloc _).alloc _
  have B1 : Box2 L (w.heap.size + 1) (.bool negb) (.slice ab nb cb) 67 := by rw [hL]; have := (Box2.made (w.alloc (.cells #[.bool nega, .slice aa na ca] 67)) (.bool negb) (.slice ab nb cb) 67).alloc (.cells #[.bool false, .slice none 0 0] 67); simpa using this
  have B2 : Box2 L (w.heap.size + 2) (.bool false) (.slice none 0 0) 67 := by rw [hL]; have := Box2.made ((w.alloc (.cells #[.bool nega, .slice aa na ca] 67)).alloc (.cells #[.bool negb, .slice ab nb cb] 67)) (.bool false) (.slice none 0 0) 67; simpa using this
  have HEXT : Below w.heap.size w L := by rw [hL]; exact (((Below.refl w.heap.size w).alloc (Nat.le_refl _) _).alloc (by simp) _).alloc (by simp; omega) _
  obtain ⟨hA0, hA1, _, _⟩ := B0.cells
  obtain ⟨hB0, hB1, _, _⟩ := B1.cells
  have HL := Lib.hid hL
  clear hL
  go_enter Tryz.func211, Tryz.ntmps211
  go_wp2_with fail
  rw [← HL.out]
  refine cut_at false _ _ _ (dig 10000 A) L (hsa.later HEXT (Nat.le_refl _)) (dig_lt (by omega) _) (by omega) _ ?_
  intro n1 w1 hs1 hb1
  rw [val_dig (by omega)] at hs1
  have b0 := B0.later hb1 (by omega)
  have b1 := B1.later hb1 (by omega)
  have b2 := B2.later hb1 (by omega)
  have HB1 := HEXT.trans (hb1.mono (by omega : w.heap.size ≤ L.heap.size))
  have hsz1 := hb1.size
  have hsb1 := (hsb.later HB1 (Nat.le_refl _))
  clear B0 B1 B2 hA0 hA1 hB0 hB1 hb1 HEXT hsa hsb
  obtain ⟨hA0, hA1, hA0', hA1'⟩ := b0.cells
  obtain ⟨hB0, hB1, _, _⟩ := b1.cells
  have hn0 := b0.noInt rfl rfl
  simp only [Bool.false_and]
  obtain ⟨L2, hL2⟩ : ∃ L2, L2 = (w1.setCell ⟨w.heap.size, 0, none⟩ (.bool false)).setCell ⟨w.heap.size, 1, none⟩ (.slice aa n1 ca) := ⟨_, rfl⟩
  have hL2s : L2.heap.size = w1.heap.size := by rw [hL2]; simp
  have c0 : Box2 L2 w.heap.size (.bool false) (.slice aa n1 ca) 67 := by rw [hL2]; exact b0.set01 _ _
  have c1 : Box2 L2 (w.heap.size + 1) (.bool negb) (.slice ab nb cb) 67 := by rw [hL2]; exact b1.noSet (by omega) _ _
  have c2 : Box2 L2 (w.heap.size + 2) (.bool false) (.slice none 0 0) 67 := by rw [hL2]; exact b2.noSet (by omega) _ _
  have hs2 : Sl .i64 L2 (.slice aa n1 ca) (dig 10000 A) := by rw [hL2]; exact hs1.noSet hn0 _ _ rfl
  have hsb2 : Sl .i64 L2 (.slice ab nb cb) (dig 10000 M) := by rw [hL2]; exact hsb1.noSet hn0 _ _ rfl
  have HB2 : Below w.heap.size w L2 := by rw [hL2]; exact (HB1.setCell (by simp) _).setCell (by simp) _
  have HL2 := Lib.hid hL2
  clear hL2
  go_wp2_with fail
  rw [← HL2.out]
  refine cut_at false _ _ _ (dig 10000 M) L2 hsb2 (dig_lt (by omega) _) (by omega) _ ?_
  intro n2 w2 hs3 hb2
  rw [val_dig (by omega)] at hs3
  have e0 := c0.later hb2 (by omega)
  have e1 := c1.later hb2 (by omega)
  have e2 := c2.later hb2 (by omega)
  have hs4 := hs2.later hb2 (Nat.le_refl _)
  have HB3 := HB2.trans (hb2.mono (by omega : w.heap.size ≤ L2.heap.size))
  clear b0 b1 b2 hs1 hsb1 hA0 hA1 hA0' hA1' hB0 hB1 hn0 c0 c1 c2 hs2 hsb2 HB2 HB1 hb2
  obtain ⟨hB0, hB1, hB0', hB1'⟩ := e1.cells
  have hn1 := e1.noInt rfl rfl
  simp only [Bool.false_and]
  go_wp2
  go_loopw [] (fun wr => GcdRel w (Nat.gcd A M) w.heap.size wr) (fun wr => boxNat wr (w.heap.size + 1))
  case atStart =>
    exact ⟨A, M, _, _, _, _, _, _, rfl, hla, hlb, e0.noSet (by omega) _ _, e1.set01 _ _, e2.noSet (by omega) _ _, hs4.noSet hn1 _ _ rfl, hs3.noSet hn1 _ _ rfl, (HB3.setCell (by simp) _).setCell (by simp) _⟩
  case round =>
    clear e0 e1 e2 hs3 hs4 HB3 hB0 hB1 hB0' hB1' hn1 hla hlb
    obtain ⟨x, y, a1, n1, c1, a2, n2, c2, hG, hlx, hly, b0, b1, b2, hs1, hs2, hbel⟩ := hrel
    have HG := Lib.hid hG
    clear hG
    obtain ⟨hA0, hA1, hA0', hA1'⟩ := b0.cells
    obtain ⟨hB0, hB1, hB0', hB1'⟩ := b1.cells
    obtain ⟨hC0, hC1, hC0', hC1'⟩ := b2.cells
    have hmeas := Lib.hid (b1.nat hs2)
    have hn2 := hs2.len
    by_cases hy : y = 0
    · have hn0 : n2 = 0 := by rw [hn2, hy, dig_zero]; rfl
      subst hn0
      rw [hy, Nat.gcd_zero_right] at HG
      have Hs1 := Lib.hid hs1
      have HBEL := Lib.hid hbel
      have hn3 := Lib.hid (b2.noInt rfl rfl)
      have hgx := HG.out
      rw [← hgx] at HR
      clear hs1 hbel hn2 hmeas hy hgx
      go_wp2
      refine bodyPost_ret_at (by simp [results, Tryz.results211, go_sem, hA0, hA1, hC0, hC1, hA0', hA1', hC0', hC1'] <;> rfl) rfl ?_
      exact HR.out _ _ (IsZ.mkNat ((Hs1.out.set hn3.out 0 _).set (hn3.out.set 0 _ rfl) 1 _)) ((HBEL.out.setCell (by simp <;> omega) _).setCell (by simp <;> omega) _)
    · have hmeas2 := Lib.hid (b1.nat hs2)
      have hnp : (0 : Int) < (n2 : Int) := by
        have h1 := dig_pos (B := 10000) (n := y) (by omega) (by omega)
        rw [h1] at hn2
        simp at hn2
        omega
      have Hn2 := Lib.hid hn2
      have HBEL := Lib.hid hbel
      have hlt := lt_of_block b2
      clear hn2 hbel hmeas
      go_wp2_with fail
      refine zdiv_nat _ _ x y wr (IsZ.mkNat hs1) (IsZ.mkNat hs2) hlx hly hy _ ?_
      intro v1 v2 w3 hz1 hz2 hb3
      obtain ⟨a3, n3, c3, rfl, rfl, _⟩ := hz1.nat
      obtain ⟨a4, n4, c4, rfl, rfl, hs4⟩ := hz2.nat
      have d0 := b0.later hb3 (by omega)
      have d1 := b1.later hb3 (by omega)
      have d2 := b2.later hb3 (by omega)
      have ht2 := hs2.later hb3 (Nat.le_refl _)
      have hbz := HBEL.out.trans (hb3.mono (by omega))
      have hl3 := lt_of_block d2
      have hl0 : w.heap.size < w3.heap.size := by omega
      have hl1 : w.heap.size + 1 < w3.heap.size := by omega
      clear hA0 hA1 hA0' hA1' hB0 hB1 hB0' hB1' hC0 hC1 hC0' hC1' b0 b1 b2 hs1 hs2 hb3 hz1 hz2 hnp
      obtain ⟨hA0, hA1, hA0', hA1'⟩ := d0.cells
      obtain ⟨hB0, hB1, hB0', hB1'⟩ := d1.cells
      have S := Lib.hid (gcd_step w w3 x y w.heap.size (Nat.gcd A M) _ _ a1 n1 c1 a2 n2 c2 a4 _ c4 hly hy HG.out d0 d1 d2 rfl rfl ht2 hs4 hbz (.cells #[.bool false, .slice a3 (dig 10000 (x / y)).length c3] 67) (.cells #[.bool false, .slice a4 (dig 10000 (x % y)).length c4] 67) (by omega) _ rfl)
      have hlt2 := Nat.mod_lt x (Nat.pos_of_ne_zero hy)
      clear d0 d1 d2 ht2 hs4 hbz
      go_wp2
      go_roundw
      case rel => exact S.out.1
      case measure => rw [S.out.2, hmeas2.out, val_dig (by omega)]; exact hlt2
end Go.Proofs.YtdkjcdfkoahfkaaGreatDoor

namespace Go.Proofs.YtdkjcdfkoahfkaaGreatDoor
open Go Go.RowKit

/-- the value of the model's type of a fraction of any size in lowest terms -/
def IsQ (w : World) (v : Value) (q : Rat) : Prop := ∃ s1 s2, v = .agg #[.bool (decide (q.num < 0)), s1, .bool false, s2] ∧ Sl .i64 w s1 (dig 10000 q.num.natAbs) ∧ Sl .i64 w s2 (dig 10000 q.den)

theorem IsQ.later {w w' : World} {v : Value} {q : Rat} {B : Nat} (h : IsQ w v q) (hb : Below B w w') (hB : w.heap.size ≤ B) : IsQ w' v q := by
  obtain ⟨s1, s2, h1, h2, h3⟩ := h; exact ⟨s1, s2, h1, h2.later hb hB, h3.later hb hB⟩

theorem IsQ.open {w : World} {v : Value} {q : Rat} (h : IsQ w v q) : ∃ a1 n1 c1 a2 n2 c2, v = .agg #[.bool (decide (q.num < 0)), .slice a1 n1 c1, .bool false, .slice a2 n2 c2] ∧
    n1 = (dig 10000 q.num.natAbs).length ∧ n2 = (dig 10000 q.den).length ∧ Sl .i64 w (.slice a1 n1 c1) (dig 10000 q.num.natAbs) ∧ Sl .i64 w (.slice a2 n2 c2) (dig 10000 q.den) := by
  obtain ⟨s1, s2, h1, h2, h3⟩ := h
  obtain ⟨a1, c1, e1, r1⟩ := h2
  obtain ⟨a2, c2, e2, r2⟩ := h3
  exact ⟨a1, _, c1, a2, _, c2, by rw [h1, e1, e2], rfl, rfl, ⟨a1, c1, rfl, r1⟩, ⟨a2, c2, rfl, r2⟩⟩

/-- a block of four cells -/
def Box4 (w : World) (b : Nat) (x0 x1 x2 x3 : Value) (t : TypeId) : Prop := w.heap[b]? = some (.cells #[x0, x1, x2, x3] t (0, 0))
theorem Box4.cells {w : World} {b : Nat} {x0 x1 x2 x3 : Value} {t : TypeId} (h : Box4 w b x0 x1 x2 x3 t) :
    (w.cell? ⟨b, 0, none⟩ = some x0 ∧ w.cell? ⟨b, 1, none⟩ = some x1 ∧ w.cell? ⟨b, 2, none⟩ = some x2 ∧ w.cell? ⟨b, 3, none⟩ = some x3) ∧
    (w.frozen? ⟨b, 0, none⟩ = false ∧ w.frozen? ⟨b, 1, none⟩ = false ∧ w.frozen? ⟨b, 2, none⟩ = false ∧ w.frozen? ⟨b, 3, none⟩ = false) := by
  unfold Box4 at h
  simp [World.cell?, World.frozen?, h]
theorem Box4.later {w w' : World} {b : Nat} {x0 x1 x2 x3 : Value} {t : TypeId} {B : Nat} (h : Box4 w b x0 x1 x2 x3 t) (hb : Below B w w') (hB : b < B) : Box4 w' b x0 x1 x2 x3 t := by
  unfold Box4 at *; rw [hb.block b hB]; exact h
theorem Box4.made (w : World) (x0 x1 x2 x3 : Value) (t : TypeId) : Box4 (w.alloc (.cells #[x0, x1, x2, x3] t)) w.heap.size x0 x1 x2 x3 t := by
  show (w.heap.push _)[_]? = _
  simp
theorem Box4.noInt {w : World} {b : Nat} {x0 x1 x2 x3 : Value} {t : TypeId} (h : Box4 w b x0 x1 x2 x3 t) (h0 : notInt x0 = true) (h1 : notInt x1 = true) (h2 : notInt x2 = true) (h3 : notInt x3 = true) : NoInt w b := by
  intro o x hx
  unfold Box4 at h
  simp only [World.cell?, h, Option.isSome_none, Bool.false_eq_true, if_false] at hx
  match o, hx with
  | 0, hx => simp at hx; subst hx; exact h0
  | 1, hx => simp at hx; subst hx; exact h1
  | 2, hx => simp at hx; subst hx; exact h2
  | 3, hx => simp at hx; subst hx; exact h3
  | (n + 4), hx => simp at hx

set_option maxRecDepth 100000 in
theorem int_any (n : Int) (w : World) (h1 : -9223372036854775807 - 1 ≤ n) (h2 : n ≤ 9223372036854775807) (R : Ending → World → Prop)
    (hR : ∀ v w', IsQ w' v (n : Rat) → Below w.heap.size w w' → R (.returned v) w') :
    Calls Tryz.prog 114 #[.int .i64 n] w R := by
  have HR := Lib.hid hR; clear hR
  obtain ⟨B, hB⟩ : ∃ B, B = w.heap.size := ⟨_, rfl⟩
  have hbox := Box4.made w (.bool false) (.slice none 0 0) (.bool false) (.slice none 0 0) 75
  go_enter Tryz.func114, Tryz.ntmps114
  go_wp2_with fail
  refine zof_any n _ h1 h2 _ ?_
  intro v1 w1 hz1 hb1
  have hbox1 := hbox.later hb1 (by simp)
  clear hbox
  dsimp only
  go_wp2_with fail
  refine zof_any 1 _ (by omega) (by omega) _ ?_
  intro v2 w2 hz2 hb2
  have hbox2 := hbox1.later hb2 (lt_of_block hbox1)
  have hz1' := hz1.later hb2 (Nat.le_refl _)
  obtain ⟨a1, n1, c1, rfl, e1, hs1⟩ := hz1'.open
  obtain ⟨a2, n2, c2, rfl, e2, hs2⟩ := hz2.open
  have E1 := Lib.hid e1
  have E2 := Lib.hid e2
  obtain ⟨⟨hA, hB, hC, hD⟩, hA', hB', hC', hD'⟩ := hbox2.cells
  have hni := hbox2.noInt rfl rfl rfl rfl
  clear e1 e2 hbox1 hz1 hz1' hz2
  dsimp only
  go_wp2
  refine bodyPost_ret_at (by simp [results, Tryz.results114, go_sem, hA, hB, hC, hD, hA', hB', hC', hD'] <;> rfl) rfl ?_
  have hbz : Below w.heap.size w w2 := ((Below.refl _ _).alloc (Nat.le_refl _) _).trans ((hb1.mono (by simp)).trans (hb2.mono (by have := hb1.size; simp at this; omega)))
  refine HR.out _ _ ⟨_, _, ?_, ((((hs1.set hni 0 _).set (hni.set 0 _ rfl) 1 _).set ((hni.set 0 _ rfl).set 1 _ rfl) 2 _).set (((hni.set 0 _ rfl).set 1 _ rfl).set 2 _ rfl) 3 _), ((((hs2.set hni 0 _).set (hni.set 0 _ rfl) 1 _).set ((hni.set 0 _ rfl).set 1 _ rfl) 2 _).set (((hni.set 0 _ rfl).set 1 _ rfl).set 2 _ rfl) 3 _)⟩ ((((hbz.setCell (by simp) _).setCell (by simp) _).setCell (by simp) _).setCell (by simp) _)
  simp <;> exact decide_eq_decide.2 Iff.rfl

set_option maxRecDepth 100000 in
theorem integerQ_any (v : Value) (q : Rat) (w : World) (hq : IsQ w v q) (hlen : (dig 10000 q.den).length ≤ 1000000000) (R : Ending → World → Prop)
    (hR : ∀ w', Below w.heap.size w w' → R (.returned (.bool (decide (q.den = 1)))) w') :
    Calls Tryz.prog 112 #[v] w R := by
  have HR := Lib.hid hR; clear hR
  obtain ⟨a1, n1, c1, a2, n2, c2, rfl, e1, e2, hs1, hs2⟩ := hq.open
  rw [← e2] at hlen
  by_cases hone : n2 = 1
  · subst hone
    rcases hs2.cases with ⟨h0, _⟩ | ⟨h0, b, off, cap, he, hcap, hb, hc⟩
    · rw [h0] at e2; cases e2
    · simp only [Value.slice.injEq] at he
      obtain ⟨rfl, he3, rfl⟩ := he; clear he3
      have hcell := hc 0 (by omega)
      rw [Nat.add_zero] at hcell
      obtain ⟨x, hx⟩ : ∃ x, x = (dig 10000 q.den).getD 0 0 := ⟨_, rfl⟩
      rw [← hx] at hcell
      have hxd : decide (q.den = 1) = decide (x = 1) := by
        have h1 : dig 10000 q.den = [x] := by
          obtain ⟨y, hd⟩ := List.length_eq_one_iff.1 e2.symm
          rw [hd] at hx; simp at hx; rw [hd, hx]
        have h2 := val_dig (B := 10000) (by omega) q.den
        rw [h1] at h2; simp [val] at h2
        rw [← h2]
      rw [hxd] at HR
      have E2 := Lib.hid e2
      have HX := Lib.hid hx
      clear hc hcap h0 hs1 hs2 e1 e2 hx hxd hq
      by_cases hx1 : x = 1
      · subst hx1
        go_enter Tryz.func112, Tryz.ntmps112
        go_wp2
        first | go_ret | skip
        exact HR.out _ ((Below.refl _ _).alloc (Nat.le_refl _) _)
      · have e : (((x : Nat) : Int) == 1) = false := by simp; omega
        rw [decide_eq_false hx1] at HR
        go_enter Tryz.func112, Tryz.ntmps112
        go_wp2
        first | go_ret | skip
        exact HR.out _ ((Below.refl _ _).alloc (Nat.le_refl _) _)
  · have hxd : q.den ≠ 1 := by
      intro h; rw [h, dig_small (by omega) (by omega)] at e2; exact hone e2
    rw [decide_eq_false hxd] at HR
    have e : (((n2 : Nat) : Int) == 1) = false := by simp; omega
    clear hs1 hs2 e1 e2 hq hxd
    go_enter Tryz.func112, Tryz.ntmps112
    go_wp2
    first | go_ret | skip
    exact HR.out _ ((Below.refl _ _).alloc (Nat.le_refl _) _)
end Go.Proofs.YtdkjcdfkoahfkaaGreatDoor

namespace Go.Proofs.YtdkjcdfkoahfkaaGreatDoor
open Go Go.RowKit

theorem divint_parts (n m : Int) (hm : m ≠ 0) : (Rat.divInt n m).num.natAbs = n.natAbs / Nat.gcd n.natAbs m.natAbs ∧ (Rat.divInt n m).den = m.natAbs / Nat.gcd n.natAbs m.natAbs ∧
    decide ((Rat.divInt n m).num < 0) = ((decide (n < 0) != decide (m < 0)) && decide (0 < n.natAbs / Nat.gcd n.natAbs m.natAbs)) := by
  have hg : m.gcd n = Nat.gcd n.natAbs m.natAbs := by rw [Nat.gcd_comm]; rfl
  have hgp : 0 < Nat.gcd n.natAbs m.natAbs := Nat.gcd_pos_of_pos_right _ (by omega)
  rw [Rat.num_divInt, Rat.den_divInt, if_neg hm, hg]
  have hd : Nat.gcd n.natAbs m.natAbs ∣ n.natAbs := Nat.gcd_dvd_left _ _
  generalize Nat.gcd n.natAbs m.natAbs = g at hd hgp
  clear hg
  obtain ⟨k, hk⟩ := (Int.ofNat_dvd_left.2 hd : (g : Int) ∣ n)
  subst hk
  have e1 : m.sign * ((g : Int) * k) / (g : Int) = m.sign * k := by
    rw [Int.mul_left_comm, Int.mul_ediv_cancel_left _ (by omega)]
  have e2 : ((g : Int) * k).natAbs / g = k.natAbs := by
    rw [Int.natAbs_mul, Int.natAbs_natCast, Nat.mul_div_cancel_left _ hgp]
  have hgi : (0 : Int) < (g : Int) := by omega
  have e3 : decide ((g : Int) * k < 0) = decide (k < 0) := by
    apply decide_eq_decide.2
    constructor
    · intro h; rcases Int.lt_or_le k 0 with h1 | h1
      · exact h1
      · have := Int.mul_nonneg (Int.le_of_lt hgi) h1; omega
    · intro h; exact Int.mul_neg_of_pos_of_neg hgi h
  rw [e1, e2, e3]
  rcases Int.lt_or_gt_of_ne hm with h | h
  · rw [Int.sign_eq_neg_one_of_neg h, decide_eq_true h]
    refine ⟨by simp, rfl, ?_⟩
    rcases Int.lt_trichotomy k 0 with h1 | h1 | h1
    · rw [decide_eq_false (by omega), decide_eq_true h1]; rfl
    · subst h1; rfl
    · rw [decide_eq_true (by omega), decide_eq_false (by omega), decide_eq_true (by omega)]; rfl
  · rw [Int.sign_eq_one_of_pos h, decide_eq_false (by omega : ¬ m < 0)]
    refine ⟨by simp, rfl, ?_⟩
    rcases Int.lt_trichotomy k 0 with h1 | h1 | h1
    · rw [decide_eq_true (by omega), decide_eq_true h1, decide_eq_true (by omega)]; rfl
    · subst h1; rfl
    · rw [decide_eq_false (by omega), decide_eq_false (by omega)]; rfl

theorem gcd_len (a b : Nat) (hb : b ≠ 0) (N : Nat) (h : (dig 10000 b).length ≤ N) : (dig 10000 (Nat.gcd a b)).length ≤ N :=
  Nat.le_trans (dig_length_le (by omega) _ _ (Nat.lt_of_le_of_lt (Nat.gcd_le_right _ (by omega)) (lt_pow_dig (by omega : 2 ≤ 10000) b))) h
theorem div_len (a b : Nat) (N : Nat) (h : (dig 10000 a).length ≤ N) : (dig 10000 (a / b)).length ≤ N :=
  Nat.le_trans (dig_length_le (by omega) _ _ (Nat.lt_of_le_of_lt (Nat.div_le_self _ _) (lt_pow_dig (by omega : 2 ≤ 10000) a))) h

/-- a box with a fraction -/
def QBox (g : Nat) (w : World) (b : Nat) (q : Rat) (wx : World) : Prop :=
  ∃ (n : Bool) (x1 x2 : Value), Box4 wx b (.bool n) x1 (.bool false) x2 75 ∧ n = decide (q.num < 0) ∧ Sl .i64 wx x1 (dig 10000 q.num.natAbs) ∧ Sl .i64 wx x2 (dig 10000 q.den) ∧ Below g w wx

theorem Box4.set4 {w : World} {b : Nat} {x0 x1 x2 x3 : Value} {t : TypeId} (h : Box4 w b x0 x1 x2 x3 t) (y0 y1 y2 y3 : Value) :
    Box4 ((((w.setCell ⟨b, 0, none⟩ y0).setCell ⟨b, 1, none⟩ y1).setCell ⟨b, 2, none⟩ y2).setCell ⟨b, 3, none⟩ y3) b y0 y1 y2 y3 t := by
  unfold Box4 at *
  simp [World.setCell, Array.getElem?_modify, h]

theorem Sl.set4 {k : IntKind} {w : World} {v : Value} {xs : List Nat} (h : Sl k w v xs) {b : Nat} (hn : NoInt w b) (y0 y1 y2 y3 : Value) (h0 : notInt y0 = true) (h1 : notInt y1 = true) (h2 : notInt y2 = true) :
    Sl k ((((w.setCell ⟨b, 0, none⟩ y0).setCell ⟨b, 1, none⟩ y1).setCell ⟨b, 2, none⟩ y2).setCell ⟨b, 3, none⟩ y3) v xs :=
  (((h.set hn 0 _).set (hn.set 0 _ h0) 1 _).set ((hn.set 0 _ h0).set 1 _ h1) 2 _).set (((hn.set 0 _ h0).set 1 _ h1).set 2 _ h2) 3 _

theorem make_val (a b : Int) (hb : b ≠ 0) (G : Nat) (hG : G = Nat.gcd a.natAbs b.natAbs) (Q1 Q2 : Nat) (h1 : Q1 = a.natAbs / G) (h2 : Q2 = b.natAbs / G) (nega negb : Bool) (hna : nega = decide (a < 0)) (hnb : negb = decide (b < 0)) :
    (!(nega == negb) && decide (0 < Q1)) = decide ((Rat.divInt a b).num < 0) ∧ Q1 = (Rat.divInt a b).num.natAbs ∧ Q2 = (Rat.divInt a b).den := by
  obtain ⟨e1, e2, e3⟩ := divint_parts a b hb
  refine ⟨?_, by rw [e1, h1, hG], by rw [e2, h2, hG]⟩
  rw [e3, hna, hnb, h1, hG]; rfl

theorem make_end (w W wC : World) (g : Nat) (q : Rat) (nega negb : Bool) (a2 : Option Addr) (nC c2 : Nat) (a4 : Option Addr) (n4 c4 : Nat) (Q1 Q2 : Nat)
    (hv : (!(nega == negb) && decide (0 < Q1)) = decide (q.num < 0) ∧ Q1 = q.num.natAbs ∧ Q2 = q.den) (d2 : Box4 wC (g + 2) (.bool false) (.slice none 0 0) (.bool false) (.slice none 0 0) 75)
    (hs : Sl .i64 wC (.slice a2 nC c2) (dig 10000 (val 10000 (dig 10000 Q1)))) (hs4 : Sl .i64 W (.slice a4 n4 c4) (dig 10000 Q2)) (hb : Below g w W) (hbC : Below W.drew.heap.size W.drew wC) (hgW : g ≤ W.heap.size) :
    QBox g w (g + 1 + 1) q ((((wC.setCell ⟨g + 1 + 1, 0, none⟩ (.bool (!(nega == negb) && decide (0 < val 10000 (dig 10000 Q1))))).setCell ⟨g + 1 + 1, 1, none⟩ (.slice a2 nC c2)).setCell ⟨g + 1 + 1, 2, none⟩ (.bool false)).setCell ⟨g + 1 + 1, 3, none⟩ (.slice a4 n4 c4)) := by
  obtain ⟨h1, h2, h3⟩ := hv
  rw [val_dig (by omega)] at hs ⊢
  have hn := d2.noInt rfl rfl rfl rfl
  have t4 := (Sl.drew hs4).later hbC (Nat.le_refl _)
  refine ⟨_, _, _, d2.set4 _ _ _ _, h1, ?_, ?_, ((((hb.trans ((below_ofDrew hbC).mono hgW)).setCell (by simp <;> omega) _).setCell (by simp <;> omega) _).setCell (by simp <;> omega) _).setCell (by simp <;> omega) _⟩
  · rw [← h2]; exact hs.set4 hn _ _ _ _ rfl rfl rfl
  · rw [← h3]; exact t4.set4 hn _ _ _ _ rfl rfl rfl

set_option maxRecDepth 100000 in
set_option maxHeartbeats 1000000 in
theorem make_any (va vb : Value) (a b : Int) (w : World) (ha : IsZ w va a) (hb : IsZ w vb b) (hla : (dig 10000 a.natAbs).length ≤ 1000000) (hlb : (dig 10000 b.natAbs).length ≤ 1000000) (hb0 : b ≠ 0)
    (R : Ending → World → Prop) (hR : ∀ v w', IsQ w' v (Rat.divInt a b) → Below w.heap.size w w' → R (.returned v) w') :
    Calls Tryz.prog 154 #[va, vb] w R := by
  have HR := Lib.hid hR; clear hR
  obtain ⟨nega, aa, na, ca, rfl, hza⟩ := ha.openB
  obtain ⟨negb, ab, nb, cb, rfl, hzb⟩ := hb.openB
  have hna : nega = decide (a < 0) := by obtain ⟨s, h, _⟩ := hza; simp at h; exact h.1
  have hnb : negb = decide (b < 0) := by obtain ⟨s, h, _⟩ := hzb; simp at h; exact h.1
  have HNA := Lib.hid hna
  have HNB := Lib.hid hnb
  have HB0 := Lib.hid hb0
  clear ha hb hna hnb hb0
  obtain ⟨L, hL⟩ : ∃ L, L = ((w.alloc (.cells #[.bool nega, .slice aa na ca] 67)).alloc (.cells #[.bool negb, .slice ab nb cb] 67)).alloc (.cells #[.bool false, .slice none 0 0, .bool false, .slice none 0 0] 75) := ⟨_, rfl⟩
  have hLs : L.heap.size = w.heap.size + 3 := by rw [hL]; simp
  have B0 : Box2 L w.heap.size (.bool nega) (.slice aa na ca) 67 := by rw [hL]; exact ((Box2.made w _ _ _).alloc _).alloc _
  have B1 : Box2 L (w.heap.size + 1) (.bool negb) (.slice ab nb cb) 67 := by rw [hL]; have := (Box2.made (w.alloc (.cells #[.bool nega, .slice aa na ca] 67)) (.bool negb) (.slice ab nb cb) 67).alloc (.cells #[.bool false, .slice none 0 0, .bool false, .slice none 0 0] 75); simpa using this
  have B2 : Box4 L (w.heap.size + 2) (.bool false) (.slice none 0 0) (.bool false) (.slice none 0 0) 75 := by rw [hL]; have := Box4.made ((w.alloc (.cells #[.bool nega, .slice aa na ca] 67)).alloc (.cells #[.bool negb, .slice ab nb cb] 67)) (.bool false) (.slice none 0 0) (.bool false) (.slice none 0 0) 75; simpa using this
  have HEXT : Below w.heap.size w L := by rw [hL]; exact (((Below.refl w.heap.size w).alloc (Nat.le_refl _) _).alloc (by simp) _).alloc (by simp; omega) _
  obtain ⟨hA0, hA1, _, _⟩ := B0.cells
  obtain ⟨hB0, hB1, _, _⟩ := B1.cells
  have HL := Lib.hid hL
  have za := hza.later HEXT (Nat.le_refl _)
  have zb := hzb.later HEXT (Nat.le_refl _)
  clear hL hza hzb
  obtain ⟨G, hG⟩ : ∃ G, G = Nat.gcd a.natAbs b.natAbs := ⟨_, rfl⟩
  have HG := Lib.hid hG
  have hG0 : (G : Int) ≠ 0 := by have : 0 < Nat.gcd a.natAbs b.natAbs := Nat.gcd_pos_of_pos_right _ (by have := HB0.out; omega); omega
  have hGl : (dig 10000 ((G : Int)).natAbs).length ≤ 1000000 := by rw [Int.natAbs_natCast, hG]; exact gcd_len _ _ (by have := HB0.out; omega) _ hlb
  have HGl := Lib.hid hGl
  have HG0 := Lib.hid hG0
  clear hG hG0 hGl
  go_enter Tryz.func154, Tryz.ntmps154
  go_wp2_with fail
  rw [← HL.out]
  refine zgcd_any _ _ a b L za zb hla hlb _ ?_
  intro v1 w1 hz1 hb1
  rw [← HG.out] at hz1
  obtain ⟨a1, n1, c1, rfl, rfl, _⟩ := hz1.nat
  have b0 := B0.later hb1 (by omega)
  have b1 := B1.later hb1 (by omega)
  have b2 := B2.later hb1 (by omega)
  have ya := za.later hb1 (Nat.le_refl _)
  have yb := zb.later hb1 (Nat.le_refl _)
  have hbz1 := HEXT.trans (hb1.mono (by omega))
  have hsz1 := hb1.size
  clear B0 B1 B2 za zb hA0 hA1 hB0 hB1 hb1 HEXT
  obtain ⟨hA0, hA1, _, _⟩ := b0.cells
  obtain ⟨hB0, hB1, _, _⟩ := b1.cells
  have hl2 := lt_of_block b2
  have hl0 : w.heap.size < w1.heap.size := by omega
  have hl1 : w.heap.size + 1 < w1.heap.size := by omega
  go_wp2_with fail
  refine zdiv_any _ _ a (G : Int) _ (ya.later ((Below.refl w1.heap.size w1).alloc (Nat.le_refl _) _) (Nat.le_refl _)) (hz1.later ((Below.refl w1.heap.size w1).alloc (Nat.le_refl _) _) (Nat.le_refl _)) hla HGl.out HG0.out _ ?_
  intro v2 v3 w2 hz2 hz3 hb2
  rw [Int.natAbs_natCast] at hz2 hz3
  obtain ⟨Q1, hQ1⟩ : ∃ q, q = a.natAbs / G := ⟨_, rfl⟩
  rw [← hQ1] at hz2
  have HQ1 := Lib.hid hQ1
  have HY := Lib.hid ya
  clear hQ1 ya
  obtain ⟨a2, n2, c2, rfl, rfl, hs2⟩ := hz2.nat
  obtain ⟨a3, n3, c3, rfl, rfl, _⟩ := hz3.nat
  clear hz2 hz3
  have hb2s := hb2.size
  simp only [World.size_alloc] at hb2s
  have hY2 := (yb.later ((Below.refl w1.heap.size w1).alloc (Nat.le_refl _) (.cells #[.bool false, .slice a1 (dig 10000 G).length c1] 67)) (Nat.le_refl _)).later hb2 (Nat.le_refl _)
  have d0 := (b0.alloc (.cells #[.bool false, .slice a1 (dig 10000 G).length c1] 67)).later hb2 (by simp; omega)
  have d1 := (b1.alloc (.cells #[.bool false, .slice a1 (dig 10000 G).length c1] 67)).later hb2 (by simp; omega)
  have d2 : Box4 w2 (w.heap.size + 2) (.bool false) (.slice none 0 0) (.bool false) (.slice none 0 0) 75 := (b2.later ((Below.refl w1.heap.size w1).alloc (Nat.le_refl _) (.cells #[.bool false, .slice a1 (dig 10000 G).length c1] 67)) hl2).later hb2 (by simp; omega)
  have d5 := (Box2.made w1 (.bool false) (.slice a1 (dig 10000 G).length c1) 67).later hb2 (by simp)
  have hzG := (hz1.later ((Below.refl w1.heap.size w1).alloc (Nat.le_refl _) (.cells #[.bool false, .slice a1 (dig 10000 G).length c1] 67)) (Nat.le_refl _)).later hb2 (Nat.le_refl _)
  have hbz2 := (hbz1.alloc (by omega) (.cells #[.bool false, .slice a1 (dig 10000 G).length c1] 67)).trans (hb2.mono (by simp; omega))
  clear b0 b1 b2 hA0 hA1 hB0 hB1 hz1 hb2 yb hbz1
  obtain ⟨hA0, hA1, _, _⟩ := d0.cells
  obtain ⟨hB0, hB1, _, _⟩ := d1.cells
  obtain ⟨hC0, hC1, _, _⟩ := d5.cells
  have hl3 : w.heap.size < w2.heap.size := by omega
  have hl4 : w.heap.size + 1 < w2.heap.size := by omega
  have hl5 : w1.heap.size < w2.heap.size := by omega
  go_wp2_with fail
  refine zdiv_any _ _ b (G : Int) _ ((hY2.later ((Below.refl w2.heap.size w2).alloc (Nat.le_refl _) _) (Nat.le_refl _)).later (B := w2.heap.size + 1) ((Below.refl _ _).alloc (by simp) _) (by simp)) ((hzG.later ((Below.refl w2.heap.size w2).alloc (Nat.le_refl _) _) (Nat.le_refl _)).later (B := w2.heap.size + 1) ((Below.refl _ _).alloc (by simp) _) (by simp)) hlb HGl.out HG0.out _ ?_
  intro v4 v5 w3 hz4 hz5 hb3
  rw [Int.natAbs_natCast] at hz4 hz5
  obtain ⟨Q2, hQ2⟩ : ∃ q, q = b.natAbs / G := ⟨_, rfl⟩
  rw [← hQ2] at hz4
  have HQ2 := Lib.hid hQ2
  clear hQ2
  obtain ⟨a4, n4, c4, rfl, rfl, hs4⟩ := hz4.nat
  obtain ⟨a5, n5, c5, rfl, rfl, _⟩ := hz5.nat
  clear hz4 hz5
  have hb3s := hb3.size
  simp only [World.size_alloc] at hb3s
  have hbb : Below w2.heap.size w2 w3 := (((Below.refl w2.heap.size w2).alloc (Nat.le_refl _) (.cells #[.bool false, .slice a2 (dig 10000 Q1).length c2] 67)).alloc (by simp) (.cells #[.bool false, .slice a3 (dig 10000 (a.natAbs % G)).length c3] 67)).trans (hb3.mono (by simp; omega))
  have e0 := d0.later hbb (by omega)
  have e1 := d1.later hbb (by omega)
  have e2 := d2.later hbb (by omega)
  have e6 := ((Box2.made w2 (.bool false) (.slice a2 (dig 10000 Q1).length c2) 67).alloc (.cells #[.bool false, .slice a3 (dig 10000 (a.natAbs % G)).length c3] 67)).later hb3 (by simp; omega)
  have hs6 := hs2.later hbb (Nat.le_refl _)
  have hbz3 := hbz2.trans (hbb.mono (by omega))
  clear d0 d1 d2 d5 hA0 hA1 hB0 hB1 hC0 hC1 hzG hY2 hs2 hb3 hbz2 hbb
  have f0 := (e0.alloc (.cells #[.bool false, .slice a4 (dig 10000 Q2).length c4] 67)).alloc (.cells #[.bool false, .slice a5 (dig 10000 (b.natAbs % G)).length c5] 67)
  have f1 := (e1.alloc (.cells #[.bool false, .slice a4 (dig 10000 Q2).length c4] 67)).alloc (.cells #[.bool false, .slice a5 (dig 10000 (b.natAbs % G)).length c5] 67)
  have f6 := (e6.alloc (.cells #[.bool false, .slice a4 (dig 10000 Q2).length c4] 67)).alloc (.cells #[.bool false, .slice a5 (dig 10000 (b.natAbs % G)).length c5] 67)
  have f8 := (Box2.made w3 (.bool false) (.slice a4 (dig 10000 Q2).length c4) 67).alloc (.cells #[.bool false, .slice a5 (dig 10000 (b.natAbs % G)).length c5] 67)
  have f2 : Box4 ((w3.alloc (.cells #[.bool false, .slice a4 (dig 10000 Q2).length c4] 67)).alloc (.cells #[.bool false, .slice a5 (dig 10000 (b.natAbs % G)).length c5] 67)) (w.heap.size + 2) (.bool false) (.slice none 0 0) (.bool false) (.slice none 0 0) 75 := (e2.later ((Below.refl w3.heap.size w3).alloc (Nat.le_refl _) _) (by omega)).later (B := w3.heap.size + 1) ((Below.refl _ _).alloc (by simp) _) (by omega)
  have f4 := (hs4.alloc (.cells #[.bool false, .slice a4 (dig 10000 Q2).length c4] 67)).alloc (.cells #[.bool false, .slice a5 (dig 10000 (b.natAbs % G)).length c5] 67)
  have f5 := (hs6.alloc (.cells #[.bool false, .slice a4 (dig 10000 Q2).length c4] 67)).alloc (.cells #[.bool false, .slice a5 (dig 10000 (b.natAbs % G)).length c5] 67)
  have hbz4 := (hbz3.alloc (by omega) (.cells #[.bool false, .slice a4 (dig 10000 Q2).length c4] 67)).alloc (by simp; omega) (.cells #[.bool false, .slice a5 (dig 10000 (b.natAbs % G)).length c5] 67)
  clear e0 e1 e2 e6 hs4 hs6 hbz3
  obtain ⟨W, hW⟩ : ∃ W, W = (w3.alloc (.cells #[.bool false, .slice a4 (dig 10000 Q2).length c4] 67)).alloc (.cells #[.bool false, .slice a5 (dig 10000 (b.natAbs % G)).length c5] 67) := ⟨_, rfl⟩
  rw [← hW] at f0 f1 f2 f4 f5 f6 f8 hbz4
  have hWs : W.heap.size = w3.heap.size + 2 := by rw [hW]; simp
  have HW := Lib.hid hW
  clear hW
  go_wp2_with fail
  rw [← HW.out]
  obtain ⟨hA0, hA1, _, _⟩ := f0.cells
  obtain ⟨hB0, hB1, _, _⟩ := f1.cells
  obtain ⟨hC0, hC1, _, _⟩ := f6.cells
  obtain ⟨hD0, hD1, _, _⟩ := f8.cells
  have hQl : (dig 10000 Q1).length ≤ 1000000000 := by have := div_len a.natAbs G 1000000 hla; rw [← HQ1.out] at this; omega
  have hlt2 : w.heap.size + 2 < W.heap.size := by omega
  have hlt8 : w3.heap.size < W.heap.size := by omega
  have hval := make_val a b HB0.out G HG.out Q1 Q2 HQ1.out HQ2.out nega negb HNA.out HNB.out
  have HVAL := Lib.hid hval
  clear hval
  go_cut [] (fun wx => QBox w.heap.size w (w.heap.size + 1 + 1) (Rat.divInt a b) wx)
  case first =>
    go_region_law (first
      | (go_simp; go_at_call 59; refine cut_at _ _ _ _ (dig 10000 Q1) _ (Sl.drew f5) (dig_lt (by omega) _) hQl _ ?_; intro nC wC hsC hbC; have d2 := f2.later (below_ofDrew hbC) hlt2; obtain ⟨⟨hR0, hR1, hR2, hR3⟩, hR4, hR5, hR6, hR7⟩ := d2.cells; obtain ⟨hD0, hD1, _, _⟩ := (f8.later (below_ofDrew hbC) hlt8).cells; dsimp only))
    all_goals (go_wp2_with fail; go_meet; exact make_end w W wC w.heap.size (Rat.divInt a b) nega negb a2 nC c2 a4 _ c4 Q1 Q2 HVAL.out d2 hsC f4 hbz4 hbC (by omega))
  case rest =>
    clear f0 f1 f2 f4 f5 f6 f8 hA0 hA1 hB0 hB1 hC0 hC1 hD0 hD1
    obtain ⟨b1, x1, x2, hbx, he, ht1, ht2, hbl⟩ := hcut
    obtain ⟨⟨hR0, hR1, hR2, hR3⟩, _, _, _, _⟩ := hbx.cells
    go_wp2
    refine bodyPost_ret_at (by simp [results, Tryz.results154, go_sem, hR0, hR1, hR2, hR3] <;> rfl) rfl ?_
    exact HR.out _ _ ⟨x1, x2, by rw [he], ht1, ht2⟩ hbl
end Go.Proofs.YtdkjcdfkoahfkaaGreatDoor

namespace Go.Proofs.YtdkjcdfkoahfkaaGreatDoor
open Go Go.RowKit

theorem mul_len (a b N M : Nat) (ha : (dig 10000 a).length ≤ N) (hb : (dig 10000 b).length ≤ M) : (dig 10000 (a * b)).length ≤ N + M := by
  apply dig_length_le (by omega)
  rw [Nat.pow_add]
  exact Nat.mul_lt_mul'' (Nat.lt_of_lt_of_le (lt_pow_dig (by omega) a) (Nat.pow_le_pow_right (by omega) ha)) (Nat.lt_of_lt_of_le (lt_pow_dig (by omega) b) (Nat.pow_le_pow_right (by omega) hb))

theorem IsQ.parts {w : World} {v : Value} {q : Rat} (h : IsQ w v q) : ∃ (n : Bool) (a1 : Option Addr) (n1 c1 : Nat) (a2 : Option Addr) (n2 c2 : Nat), v = .agg #[.bool n, .slice a1 n1 c1, .bool false, .slice a2 n2 c2] ∧
    IsZ w (.agg #[.bool n, .slice a1 n1 c1]) q.num ∧ IsZ w (.agg #[.bool false, .slice a2 n2 c2]) (q.den : Int) := by
  obtain ⟨a1, n1, c1, a2, n2, c2, rfl, _, _, h1, h2⟩ := h.open
  exact ⟨_, a1, n1, c1, a2, n2, c2, rfl, ⟨_, rfl, h1⟩, IsZ.mkNat h2⟩
theorem IsZ.drew {w : World} {v : Value} {z : Int} (h : IsZ w v z) : IsZ w.drew v z := h

theorem mul_divint (a b : Rat) : Rat.divInt (a.num * b.num) ((a.den : Int) * (b.den : Int)) = a * b := by
  rw [← Rat.divInt_mul_divInt, Rat.num_divInt_den, Rat.num_divInt_den]

theorem q_end (w L wC : World) (g : Nat) (q : Rat) (n : Bool) (a1 : Option Addr) (n1 c1 : Nat) (m : Bool) (a2 : Option Addr) (n2 c2 : Nat)
    (d2 : Box4 wC (g + 2) (.bool false) (.slice none 0 0) (.bool false) (.slice none 0 0) 75)
    (hq : IsQ wC (.agg #[.bool n, .slice a1 n1 c1, .bool m, .slice a2 n2 c2]) q) (hb : Below g w L) (hbC : Below L.heap.size L wC) (hgW : g ≤ L.heap.size) :
    QBox g w (g + 1 + 1) q ((((wC.setCell ⟨g + 1 + 1, 0, none⟩ (.bool n)).setCell ⟨g + 1 + 1, 1, none⟩ (.slice a1 n1 c1)).setCell ⟨g + 1 + 1, 2, none⟩ (.bool m)).setCell ⟨g + 1 + 1, 3, none⟩ (.slice a2 n2 c2)) := by
  have hn := d2.noInt rfl rfl rfl rfl
  obtain ⟨s1, s2, e, h1, h2⟩ := hq
  simp at e
  obtain ⟨e1, rfl, rfl, rfl⟩ := e
  refine ⟨_, _, _, d2.set4 _ _ _ _, e1, ?_, ?_, ((((hb.trans (hbC.mono hgW)).setCell (by simp <;> omega) _).setCell (by simp <;> omega) _).setCell (by simp <;> omega) _).setCell (by simp <;> omega) _⟩
  · exact h1.set4 hn _ _ _ _ rfl rfl rfl
  · exact h2.set4 hn _ _ _ _ rfl rfl rfl

theorem Box4.noSet2 {w : World} {g : Nat} {x0 x1 x2 x3 : Value} {t : TypeId} (h : Box4 w g x0 x1 x2 x3 t) {b : Nat} (hb : g ≠ b) (x y : Value) : Box4 ((w.setCell ⟨b, 0, none⟩ x).setCell ⟨b, 1, none⟩ y) g x0 x1 x2 x3 t := by
  unfold Box4 at *
  simp [World.setCell, Array.getElem?_modify, h, Ne.symm hb]
theorem IsZ.noSet {w : World} {v : Value} {z : Int} (h : IsZ w v z) {b : Nat} (hb : NoInt w b) (x y : Value) (hx : notInt x = true) : IsZ ((w.setCell ⟨b, 0, none⟩ x).setCell ⟨b, 1, none⟩ y) v z := by
  obtain ⟨s, e, h⟩ := h
  exact ⟨s, e, h.noSet hb x y hx⟩

end Go.Proofs.YtdkjcdfkoahfkaaGreatDoor

namespace Go.Proofs.YtdkjcdfkoahfkaaGreatDoor

def chr (d : Nat) : UInt8 := UInt8.ofNat (48 + d)
/-- a number in decimal -/
def decs (n : Nat) : List UInt8 := if n = 0 then [48] else (dig 10 n).reverse.map chr
/-- four digits of a digit to the base 10000 -/
def four (x : Nat) : List UInt8 := [chr (x / 1000), chr (x / 100 % 10), chr (x / 10 % 10), chr (x % 10)]
/-- the texts of digits to the base 10000, the last one first -/
def cat4 (ds : List Nat) : List UInt8 := ds.reverse.flatMap four
def e4 (x : Nat) : List Nat := [x % 10, x / 10 % 10, x / 100 % 10, x / 1000]
/-- a text without zeros at its beginning -/
def strip0 : List UInt8 → List UInt8
  | [] => []
  | c :: l => if c = 48 then strip0 l else c :: l

theorem cat4_nil : cat4 [] = [] := rfl
theorem cat4_snoc (ds : List Nat) (x : Nat) : cat4 (ds ++ [x]) = four x ++ cat4 ds := by simp [cat4]
theorem cat4_cons (ds : List Nat) (x : Nat) : cat4 (x :: ds) = cat4 ds ++ four x := by simp [cat4]
theorem cat4_length (ds : List Nat) : (cat4 ds).length = 4 * ds.length := by
  induction ds with
  | nil => rfl
  | cons x ds ih => rw [cat4_cons, List.length_append, ih]; simp [four]; omega

theorem chr_zero {d : Nat} (h : d < 10) : chr d = 48 ↔ d = 0 := by
  constructor
  · intro e
    have := congrArg UInt8.toNat e
    simp [chr] at this
    omega
  · intro e; subst e; rfl

theorem val_e4 (ds : List Nat) : val 10 (ds.flatMap e4) = val 10000 ds := by
  induction ds with
  | nil => rfl
  | cons x ds ih =>
    rw [List.flatMap_cons, val_append, ih]
    simp only [e4, val, List.length_cons, List.length_nil]
    omega

theorem e4_lt (ds : List Nat) (h : ∀ d ∈ ds, d < 10000) : ∀ d ∈ ds.flatMap e4, d < 10 := by
  intro d hd
  obtain ⟨x, hx, hd⟩ := List.mem_flatMap.1 hd
  have := h x hx
  simp [e4] at hd
  omega

theorem cat4_e4 (ds : List Nat) : cat4 ds = (ds.flatMap e4).reverse.map chr := by
  induction ds with
  | nil => rfl
  | cons x ds ih => rw [cat4_cons, ih, List.flatMap_cons]; simp [four, e4]

theorem strip0_cut (xs : List Nat) (h : ∀ d ∈ xs, d < 10) (n : Nat) (hn : n ≤ xs.length) : strip0 ((xs.take n).reverse.map chr) = (xs.take (cutLen xs n)).reverse.map chr := by
  induction n with
  | zero => simp [cutLen, strip0]
  | succ n ih =>
    have hlt : n < xs.length := by omega
    rw [List.take_succ_eq_append_getElem hlt]
    simp only [List.reverse_append, List.reverse_cons, List.reverse_nil, List.nil_append, List.singleton_append, List.map_cons, strip0, cutLen]
    have hd : xs.getD n 0 = xs[n] := by simp [List.getD, List.getElem?_eq_getElem hlt]
    have hc := chr_zero (h xs[n] (List.getElem_mem hlt))
    rw [hd]
    by_cases h0 : xs[n] = 0
    · rw [if_pos (hc.2 h0), if_pos h0, ih (by omega)]
    · rw [if_neg (fun e => h0 (hc.1 e)), if_neg h0, List.take_succ_eq_append_getElem hlt, List.reverse_append]
      rfl

theorem strip0_cat4 (ds : List Nat) (h : ∀ d ∈ ds, d < 10000) : strip0 (cat4 ds) = (dig 10 (val 10000 ds)).reverse.map chr := by
  have h1 := strip0_cut (ds.flatMap e4) (e4_lt ds h) _ (Nat.le_refl _)
  rw [List.take_length, take_cut (by omega : 2 ≤ 10) _ (e4_lt ds h), val_e4] at h1
  rw [cat4_e4, h1]

/-- what the model makes of the digits of a number -/
theorem decs_of (ds : List Nat) (h : ∀ d ∈ ds, d < 10000) : decs (val 10000 ds) = if strip0 (cat4 ds) = [] then [48] else strip0 (cat4 ds) := by
  rw [strip0_cat4 ds h, decs]
  by_cases h0 : val 10000 ds = 0
  · rw [if_pos h0, h0, dig_zero]; rfl
  · rw [if_neg h0, if_neg]
    intro e
    have := congrArg List.length e
    simp at this
    exact h0 ((dig_eq_nil (by omega)).1 this)

theorem strip0_length (l : List UInt8) : (strip0 l).length ≤ l.length := by
  induction l with
  | nil => simp [strip0]
  | cons c l ih => simp only [strip0]; split <;> simp <;> omega

theorem dig10_length (n : Nat) : (dig 10 n).length ≤ 4 * (dig 10000 n).length := by
  refine dig_length_le (by omega) _ n ?_
  have := lt_pow_dig (by omega : 2 ≤ 10000) n
  rwa [show (10000 : Nat) = 10 ^ 4 from rfl, ← Nat.pow_mul] at this

theorem decs_length (n : Nat) : (decs n).length ≤ 4 * (dig 10000 n).length + 1 := by
  unfold decs
  split
  · simp
  · have := dig10_length n; simp; omega

/-- the text of a fraction -/
def textQ (q : Rat) : List UInt8 := (if q.num < 0 then [45] else []) ++ (decs q.num.natAbs ++ (if q.den = 1 then [] else 47 :: decs q.den))

end Go.Proofs.YtdkjcdfkoahfkaaGreatDoor

namespace Go.Proofs.YtdkjcdfkoahfkaaGreatDoor
open Go Go.RowKit

def lenOf : Value → Nat
  | .string s => s.size
  | _ => 0

theorem chr_int (d : Nat) : UInt8.ofNat (48 + (d : Int)).toNat = chr d := by
  have : (48 + (d : Int)).toNat = 48 + d := by omega
  rw [this]; rfl

set_option maxRecDepth 100000 in
/-- four bytes as a text -/
theorem conv4 (W : World) (x : Nat) :
    (convert 22 9 (.slice (some ⟨W.heap.size, 0, none⟩) 4 4)).run Tryz.prog (W.alloc (.cells #[.int .u8 (48 + (x : Int) / 1000), .int .u8 (48 + (x : Int) / 100 % 10), .int .u8 (48 + (x : Int) / 10 % 10), .int .u8 (48 + (x : Int) % 10)] 5)) =
      .ok (.string ⟨(four x).toArray⟩) (W.alloc (.cells #[.int .u8 (48 + (x : Int) / 1000), .int .u8 (48 + (x : Int) / 100 % 10), .int .u8 (48 + (x : Int) / 10 % 10), .int .u8 (48 + (x : Int) % 10)] 5)) := by
  rw [run_convert_bytes_string _ _ _ 5 _ _ _ Tryz.underlying22 Tryz.underlying5 Tryz.underlying9]
  rw [run_bytesToString _ _ _ _ [48 + (x : Int) / 1000, 48 + (x : Int) / 100 % 10, 48 + (x : Int) / 10 % 10, 48 + (x : Int) % 10] (by simp [go_sem])]
  have e : [48 + (x : Int) / 1000, 48 + (x : Int) / 100 % 10, 48 + (x : Int) / 10 % 10, 48 + (x : Int) % 10].foldl (fun r n => r.push (UInt8.ofNat n.toNat)) ByteArray.empty = ⟨(four x).toArray⟩ := by
    have h1 := chr_int (x / 1000)
    have h2 := chr_int (x / 100 % 10)
    have h3 := chr_int (x / 10 % 10)
    have h4 := chr_int (x % 10)
    push_cast at h1 h2 h3 h4
    simp only [List.foldl_cons, List.foldl_nil, h1, h2, h3, h4]
    rfl
  rw [e]

set_option maxRecDepth 100000 in
theorem zdigits_any (v : Value) (z : Int) (w : World) (hz : IsZ w v z) (hlen : (dig 10000 z.natAbs).length ≤ 1000000000) (R : Ending → World → Prop)
    (hR : ∀ w', Below w.heap.size w w' → R (.returned (.string ⟨(decs z.natAbs).toArray⟩)) w') :
    Calls Tryz.prog 111 #[v] w R := by
  have HR := Lib.hid hR; clear hR
  obtain ⟨a, n, c, rfl, en, hs⟩ := hz.open
  rw [← en] at hlen
  obtain ⟨ds, hds⟩ : ∃ ds, ds = dig 10000 z.natAbs := ⟨_, rfl⟩
  have hdlt : ∀ d ∈ ds, d < 10000 := by rw [hds]; exact dig_lt (by omega) _
  have hval : val 10000 ds = z.natAbs := by rw [hds]; exact val_dig (by omega) _
  rw [← hds] at hs en
  rw [← hval] at HR
  have En := Lib.hid en
  have Hlt := Lib.hid hdlt
  clear en hdlt hds hval hz
  go_enter Tryz.func111, Tryz.ntmps111
  go_wp2
  go_loopw [3, 4] (fun o i wr => ∃ k : Nat, k ≤ n ∧ i = .int .i64 k ∧ o = .string ⟨(cat4 (ds.take k)).toArray⟩ ∧ Below (w.heap.size + 1) (w.alloc (.cells #[.bool (decide (z < 0)), .slice a n c] 67)) wr) (fun _ i _ => n - (intOf i).toNat)
  case atStart => exact ⟨0, Nat.zero_le _, rfl, rfl, Below.refl _ _⟩
  case round =>
    obtain ⟨k, hk, rfl, rfl, hbel⟩ := hrel
    have hbox := (Box2.made w (.bool (decide (z < 0))) (.slice a n c) 67).later hbel (by omega)
    obtain ⟨hA, hB, hA', hB'⟩ := hbox.cells
    by_cases hkn : k < n
    · rcases hs.cases with ⟨h0, _⟩ | ⟨h0, b, off, cap, he, hcap, hb, hc⟩
      · subst h0; have := En.out; simp at this; omega
      · simp only [Value.slice.injEq] at he
        obtain ⟨rfl, he3, rfl⟩ := he; clear he3
        have hcell := hc k (by rw [← En.out]; exact hkn)
        rw [← World.cell?_alloc_past (.cells #[.bool (decide (z < 0)), .slice (some ⟨b, off, none⟩) n c] 67) b (off + k) hb, ← hbel.cell (p := ⟨b, off + k, none⟩) (by simp; omega)] at hcell
        obtain ⟨x, hx⟩ : ∃ x, x = ds.getD k 0 := ⟨_, rfl⟩
        rw [← hx] at hcell
        have hxl : x < 10000 := by rw [hx]; have := Hlt.out; rw [List.getD, List.getElem?_eq_getElem (by rw [← En.out]; exact hkn)]; exact this _ (List.getElem_mem _)
        have Hx := Lib.hid hx; clear hx hc
        have hcv := conv4 wr x
        have hs1 : (cat4 (ds.take k)).length ≤ 4000000000 := by rw [cat4_length]; have := List.length_take_le k ds; omega
        have hs2 : (four x).length ≤ 4 := by simp [four]
        go_wp2
        go_roundw
        case rel =>
          refine ⟨k + 1, by omega, by go_num, ?_, hbel.alloc (by have := hbel.size; simp at this; omega) _⟩
          have hk1 : k < ds.length := by rw [← En.out]; exact hkn
          have hxx : ds[k] = x := by rw [Hx.out, List.getD, List.getElem?_eq_getElem hk1]; rfl
          rw [List.take_succ_eq_append_getElem hk1, cat4_snoc, hxx, ByteArray.mk_append_mk]
        case measure => simp [intOf]; omega
    · obtain rfl : k = n := by omega
      have hbz : Below w.heap.size w wr := ((Below.refl _ _).alloc (Nat.le_refl _) _).trans (hbel.mono (by omega))
      have htake : ds.take k = ds := by rw [En.out, List.take_length]
      have Hbz := Lib.hid hbz
      have hdecs := decs_of ds Hlt.out
      have hsl := cat4_length ds
      rw [htake]
      rw [hdecs] at HR
      obtain ⟨L, hL⟩ : ∃ L, L = cat4 ds := ⟨_, rfl⟩
      rw [← hL] at HR hsl ⊢
      have hsl' : L.length ≤ 4000000000 := by have := En.out; omega
      clear hbz htake hdecs hsl hL hbox hbel
      go_wp2
      go_loop [3] (fun o => ∃ l : List UInt8, o = .string ⟨l.toArray⟩ ∧ l.length ≤ 4000000000 ∧ strip0 l = strip0 L) (fun o => lenOf o)
      case atStart => exact ⟨L, rfl, hsl', rfl⟩
      case round =>
        obtain ⟨l, rfl, hll, hst⟩ := hrel
        have Hst := Lib.hid hst; clear hst
        match l with
        | [] =>
          have hn : strip0 L = [] := by rw [← Hst.out]; rfl
          rw [if_pos hn] at HR
          clear hn
          go_wp2
          first | go_ret | skip
          exact HR.out _ Hbz.out
        | ch :: l =>
          by_cases hch : ch = 48
          · subst hch
            go_wp2
            go_round
            case rel => exact ⟨l, by rw [ByteArray.extract_mk]; simp, by simp at hll; omega, by rw [← Hst.out]; simp [strip0]⟩
            case measure => simp [lenOf, ByteArray.size]
          · have e : ((((ByteArray.mk (ch :: l).toArray)[0]'(by simp [ByteArray.size])).toNat : Int) == 48) = false := by
              show ((ch.toNat : Int) == 48) = false
              have : ch.toNat ≠ 48 := fun h => hch (UInt8.toNat_inj.1 (by rw [h]; rfl))
              simp; omega
            have hn : strip0 L = ch :: l := by rw [← Hst.out, strip0, if_neg hch]
            rw [hn, if_neg (by simp)] at HR
            clear hn
            go_wp2
            first | go_ret | skip
            exact HR.out _ Hbz.out
end Go.Proofs.YtdkjcdfkoahfkaaGreatDoor

namespace Go.Proofs.YtdkjcdfkoahfkaaGreatDoor
open Go Go.RowKit

set_option maxRecDepth 100000 in
theorem text_any (v : Value) (q : Rat) (w : World) (hq : IsQ w v q) (hl1 : (dig 10000 q.num.natAbs).length ≤ 1000000000) (hl2 : (dig 10000 q.den).length ≤ 1000000000) (R : Ending → World → Prop)
    (hR : ∀ w', Below w.heap.size w w' → R (.returned (.string ⟨(textQ q).toArray⟩)) w') :
    Calls Tryz.prog 58 #[v] w R := by
  have HR := Lib.hid hR; clear hR
  have hd1 := decs_length q.num.natAbs
  have hd2 := decs_length q.den
  obtain ⟨D1, hD1⟩ : ∃ D, D = decs q.num.natAbs := ⟨_, rfl⟩
  obtain ⟨D2, hD2⟩ : ∃ D, D = decs q.den := ⟨_, rfl⟩
  rw [← hD1] at hd1
  rw [← hD2] at hd2
  have hd1' : D1.length ≤ 4000000001 := by omega
  have hd2' : D2.length ≤ 4000000001 := by omega
  have h1 := Lib.hid hD1
  have h2 := Lib.hid hD2
  clear hd1 hd2 hD1 hD2
  obtain ⟨a1, n1, c1, a2, n2, c2, rfl, e1, e2, hs1, hs2⟩ := hq.open
  clear e1 e2
  have HR2 : ∀ w', Below w.heap.size w w' → R (.returned (.string ⟨((if decide (q.num < 0) = true then [45] else []) ++ (D1 ++ if decide (q.den = 1) = true then [] else 47 :: D2)).toArray⟩)) w' := by
    intro w' hw'
    have := HR.out w' hw'
    unfold textQ at this
    rw [← h1.out, ← h2.out] at this
    simpa using this
  obtain ⟨neg, hneg⟩ : ∃ b, b = decide (q.num < 0) := ⟨_, rfl⟩
  rw [← hneg] at hq HR2 ⊢
  have hz1 : IsZ w (.agg #[.bool neg, .slice a1 n1 c1]) q.num := ⟨_, by rw [hneg], hs1⟩
  have hz2 : IsZ w (.agg #[.bool false, .slice a2 n2 c2]) (q.den : Int) := ⟨_, by simp, hs2⟩
  have HZ2 := Lib.hid hz2
  have hbox := Box4.made w (.bool neg) (.slice a1 n1 c1) (.bool false) (.slice a2 n2 c2) 75
  have hext : Below w.heap.size w (w.alloc (.cells #[.bool neg, .slice a1 n1 c1, .bool false, .slice a2 n2 c2] 75)) := (Below.refl _ _).alloc (Nat.le_refl _) _
  have HEXT := Lib.hid hext
  obtain ⟨int, hint⟩ : ∃ b, b = decide (q.den = 1) := ⟨_, rfl⟩
  rw [← hint] at HR2
  have HR := Lib.hid HR2
  have Hint := Lib.hid hint
  clear HR2 hneg hs1 hs2 hz2 hext hint
  go_enter Tryz.func58, Tryz.ntmps58
  go_wp2_with fail
  refine zdigits_any _ q.num _ (hz1.later HEXT.out (Nat.le_refl _)) hl1 _ ?_
  intro w1 hb1
  have hbox1 := hbox.later hb1 (by simp)
  have hb1' : Below w.heap.size w w1 := HEXT.out.trans (hb1.mono (by simp))
  have hq1 := hq.later hb1' (Nat.le_refl _)
  have HB1 := Lib.hid hb1'
  obtain ⟨⟨hA, hB, hC, hD⟩, _, _, _, _⟩ := hbox1.cells
  rw [← h1.out]
  clear hbox hb1 hb1' hz1 hq
  dsimp only
  cases neg
  all_goals
    go_wp2_with fail
    refine integerQ_any _ q _ hq1 hl2 _ ?_
    intro w2 hb2
    have hbox2 := hbox1.later hb2 (lt_of_block hbox1)
    rw [← Hint.out]
    have hz3 := (HZ2.out.later HB1.out (Nat.le_refl _)).later hb2 (Nat.le_refl _)
    have HB2 := Lib.hid (HB1.out.trans (hb2.mono HB1.out.size))
    clear hbox1 hA hB hC hD hb2 hq1
    obtain ⟨⟨hA, hB, hC, hD⟩, _, _, _, _⟩ := hbox2.cells
    dsimp only
    cases int
    · go_wp2_with fail
      refine zdigits_any _ (q.den : Int) _ hz3 (by simpa using hl2) _ ?_
      intro w3 hb3
      have hd2 : decs (q.den : Int).natAbs = D2 := by rw [h2.out]; simp
      rw [hd2]
      have HB3 := Lib.hid (HB2.out.trans (hb3.mono HB2.out.size))
      clear hbox2 hA hB hC hD hb3 hz3 hd2
      dsimp only
      go_wp2
      first | go_ret | skip
      have := HR.out _ HB3.out
      simpa [ByteArray.mk_append_mk] using this
    · go_wp2
      first | go_ret | skip
      have := HR.out _ HB2.out
      simpa [ByteArray.mk_append_mk] using this
end Go.Proofs.YtdkjcdfkoahfkaaGreatDoor

namespace Go.Proofs.YtdkjcdfkoahfkaaGreatDoor
open Go Go.RowKit

set_option maxRecDepth 100000 in
theorem fitQ_any (v : Value) (q : Rat) (w : World) (hq : IsQ w v q) (hl1 : (dig 10000 q.num.natAbs).length ≤ 1000000000) (hl2 : (dig 10000 q.den).length ≤ 1000000000) (R : Ending → World → Prop)
    (hR : ∀ w', Below w.heap.size w w' → R (.returned (.bool (decide ((decs q.num.natAbs).length ≤ 60) && decide ((decs q.den).length ≤ 60)))) w') :
    Calls Tryz.prog 180 #[v] w R := by
  obtain ⟨na, a1, n1, c1, a2, n2, c2, rfl, hz1, hz2⟩ := hq.parts
  obtain ⟨D1, h1⟩ : ∃ D, D = decs q.num.natAbs := ⟨_, rfl⟩
  obtain ⟨D2, h2⟩ : ∃ D, D = decs q.den := ⟨_, rfl⟩
  rw [← h1, ← h2] at hR
  have HR := Lib.hid hR
  have H1 := Lib.hid h1
  have H2 := Lib.hid h2
  clear hR h1 h2 hq
  have hbox := Box4.made w (.bool na) (.slice a1 n1 c1) (.bool false) (.slice a2 n2 c2) 75
  obtain ⟨⟨hA, hB, hC, hD⟩, _, _, _, _⟩ := hbox.cells
  have hext : Below w.heap.size w (w.alloc (.cells #[.bool na, .slice a1 n1 c1, .bool false, .slice a2 n2 c2] 75)) := (Below.refl _ _).alloc (Nat.le_refl _) _
  go_enter Tryz.func180, Tryz.ntmps180
  go_wp2_with fail
  refine zdigits_any _ q.num _ (hz1.later hext (Nat.le_refl _)) hl1 _ ?_
  intro w1 hb1
  rw [← H1.out]
  have hbox1 := hbox.later hb1 (by simp)
  have hb1' := hext.trans (hb1.mono (by simp))
  have hz3 := hz2.later hb1' (Nat.le_refl _)
  have HB1 := Lib.hid hb1'
  clear hbox hA hB hC hD hb1 hb1' hext hz1 hz2
  obtain ⟨⟨hA, hB, hC, hD⟩, _, _, _, _⟩ := hbox1.cells
  dsimp only
  by_cases hf : D1.length ≤ 60
  · rw [decide_eq_true hf, Bool.true_and] at HR
    have hf1 : decide ((D1.length : Int) ≤ 60) = true := by simp; omega
    have hf2 : (D1.length : Int) ≤ 60 := by omega
    clear hf
    go_wp2_with fail
    refine zdigits_any _ (q.den : Int) _ hz3 (by rw [Int.natAbs_natCast]; exact hl2) _ ?_
    intro w2 hb2
    rw [Int.natAbs_natCast, ← H2.out]
    have HB2 := Lib.hid (HB1.out.trans (hb2.mono HB1.out.size))
    clear hb2 hz3
    have hd : decide (D2.length ≤ 60) = decide ((D2.length : Int) ≤ 60) := decide_eq_decide.2 (by omega)
    rw [hd] at HR
    clear hd
    dsimp only
    go_wp2
    first | go_ret | skip
    exact HR.out _ HB2.out
  · rw [decide_eq_false hf, Bool.false_and] at HR
    have hf1 : decide ((D1.length : Int) ≤ 60) = false := by simp; omega
    have hf2 : ¬ (D1.length : Int) ≤ 60 := by omega
    clear hf
    go_wp2
    first | go_ret | skip
    exact HR.out _ HB1.out
end Go.Proofs.YtdkjcdfkoahfkaaGreatDoor

namespace Go.Proofs.YtdkjcdfkoahfkaaGreatDoor

/-- the number that digits make -/
def rdec (s : List UInt8) : Nat := s.foldl (fun r c => 10 * r + (c.toNat - 48)) 0

def isDig (c : UInt8) : Bool := decide (48 ≤ c.toNat) && decide (c.toNat ≤ 57)

/-- whether a text has few digits, at least one, and does not begin with 0 unless it is 0 -/
def digB (s : List UInt8) : Bool := s.all isDig && (decide (1 ≤ s.length) && (decide (s.length ≤ 60) && (decide (s.head? ≠ some 48) || decide (s.length = 1))))

theorem rdec_snoc (s : List UInt8) (c : UInt8) : rdec (s ++ [c]) = 10 * rdec s + (c.toNat - 48) := by simp [rdec]
theorem rdec_nil : rdec [] = 0 := rfl

theorem chr_toNat {d : Nat} (h : d < 10) : (chr d).toNat = 48 + d := by
  simp [chr]; omega

theorem chr_of {c : UInt8} (h : isDig c = true) : chr (c.toNat - 48) = c := by
  simp [isDig] at h
  apply UInt8.toNat_inj.1
  rw [chr_toNat (by omega)]; omega

/-- digits from the least one on -/
def lows (s : List UInt8) : List Nat := s.reverse.map fun c => c.toNat - 48

theorem lows_snoc (s : List UInt8) (c : UInt8) : lows (s ++ [c]) = (c.toNat - 48) :: lows s := by simp [lows]

theorem val_lows (s : List UInt8) : val 10 (lows s) = rdec s := by
  suffices h : ∀ r : List UInt8, ∀ s, s = r.reverse → val 10 (lows s) = rdec s from h s.reverse s (by simp)
  intro r
  induction r with
  | nil => intro s hs; subst hs; rfl
  | cons c r ih =>
    intro s hs
    subst hs
    rw [List.reverse_cons, lows_snoc, rdec_snoc, val, ih _ rfl]
    omega

theorem lows_lt (s : List UInt8) (h : s.all isDig = true) : ∀ d ∈ lows s, d < 10 := by
  intro d hd
  obtain ⟨c, hc, rfl⟩ := List.mem_map.1 hd
  have := List.all_eq_true.1 h c (List.mem_reverse.1 hc)
  simp [isDig] at this
  omega

theorem lows_chr (s : List UInt8) (h : s.all isDig = true) : (lows s).reverse.map chr = s := by
  unfold lows
  rw [← List.map_reverse, List.reverse_reverse, List.map_map]
  conv => rhs; rw [← List.map_id s]
  apply List.map_congr_left
  intro c hc
  exact chr_of (List.all_eq_true.1 h c hc)

theorem digB_iff {s : List UInt8} : digB s = true ↔ s.all isDig = true ∧ 1 ≤ s.length ∧ s.length ≤ 60 ∧ (s.head? ≠ some 48 ∨ s.length = 1) := by
  unfold digB
  rw [Bool.and_eq_true, Bool.and_eq_true, Bool.and_eq_true, Bool.or_eq_true, decide_eq_true_iff, decide_eq_true_iff, decide_eq_true_iff, decide_eq_true_iff]

/-- a text of digits is the text of its number -/
theorem decs_rdec {s : List UInt8} (h : digB s = true) : decs (rdec s) = s := by
  obtain ⟨h1, h2, h3, h4⟩ := digB_iff.1 h
  have hv := val_lows s
  have hlt := lows_lt s h1
  have hch := lows_chr s h1
  by_cases hz : s = [48]
  · subst hz; rfl
  · have hl : (lows s).getLast? ≠ some 0 := by
      intro e
      cases s with
      | nil => simp at h2
      | cons c s =>
        simp [lows] at e
        have hc := List.all_eq_true.1 h1 c (by simp)
        simp [isDig] at hc
        have : c = 48 := UInt8.toNat_inj.1 (by show c.toNat = 48; omega)
        subst this
        rcases h4 with h4 | h4
        · simp at h4
        · simp at h4; subst h4; exact hz rfl
    have hd := dig_val (by omega : 2 ≤ 10) _ hlt hl
    rw [hv] at hd
    have hne : rdec s ≠ 0 := by
      intro e
      rw [e, dig_zero] at hd
      have := congrArg List.length hd
      simp [lows] at this
      omega
    rw [decs, if_neg hne, hd, hch]

theorem dig10_lt (n : Nat) : ∀ d ∈ dig 10 n, d < 10 := dig_lt (by omega) n

theorem decs_all (n : Nat) : (decs n).all isDig = true := by
  unfold decs
  split
  · rfl
  · apply List.all_eq_true.2
    intro c hc
    obtain ⟨d, hd, rfl⟩ := List.mem_map.1 hc
    have := dig10_lt n d (List.mem_reverse.1 hd)
    simp [isDig, chr_toNat this]
    omega

theorem decs_pos (n : Nat) : 1 ≤ (decs n).length := by
  unfold decs
  split
  · simp
  · rename_i h
    rw [dig_pos (by omega) h]; simp

theorem getLast_dig (n : Nat) : (dig 10 n).getLast? ≠ some 0 := by
  have := getLast_cut (dig 10 n) _ (Nat.le_refl _)
  rw [take_cut (by omega : 2 ≤ 10) _ (dig10_lt n), val_dig (by omega)] at this
  exact this

theorem decs_head (n : Nat) : (decs n).head? ≠ some 48 ∨ (decs n).length = 1 := by
  unfold decs
  split
  · right; rfl
  · rename_i h
    left
    intro e
    rw [List.head?_map, List.head?_reverse] at e
    cases hg : (dig 10 n).getLast? with
    | none => rw [hg] at e; simp at e
    | some d =>
      rw [hg] at e
      simp at e
      have hd := dig10_lt n d (List.mem_of_getLast? hg)
      rw [chr_zero hd] at e
      exact getLast_dig n (by rw [hg, e])

theorem rdec_decs (n : Nat) : rdec (decs n) = n := by
  rw [← val_lows]
  unfold decs
  split
  · rename_i h; rw [h]; rfl
  · have : lows ((dig 10 n).reverse.map chr) = dig 10 n := by
      unfold lows
      rw [← List.map_reverse, List.reverse_reverse, List.map_map]
      conv => rhs; rw [← List.map_id (dig 10 n)]
      apply List.map_congr_left
      intro d hd
      have := chr_toNat (dig10_lt n d hd)
      simp [this]
    rw [this, val_dig (by omega)]

theorem digB_decs {n : Nat} (h : (decs n).length ≤ 60) : digB (decs n) = true := digB_iff.2 ⟨decs_all n, decs_pos n, h, decs_head n⟩

/-- the parts of a text: whether it begins with '-', what stands before the first '/', and the rest -/
def Parts (s : List UInt8) (neg : Bool) (D r : List UInt8) : Prop :=
  s = (if neg then [45] else []) ++ (D ++ r) ∧ (neg = false → s.head? ≠ some 45) ∧ (∀ c ∈ D, c ≠ 47) ∧ (r = [] ∨ ∃ E, r = 47 :: E)

/-- few digits above and below -/
def few (q : Rat) : Prop := (decs q.num.natAbs).length ≤ 60 ∧ (decs q.den).length ≤ 60

def sgn (neg : Bool) (n : Nat) : Int := if neg then -(n : Int) else n

/-- the number with some parts, if that is one -/
def NumIs (neg : Bool) (D r : List UInt8) (q : Rat) : Prop :=
  digB D = true ∧ ((r = [] ∧ ¬ (neg = true ∧ rdec D = 0) ∧ q = ((sgn neg (rdec D) : Int) : Rat)) ∨
    ∃ E, r = 47 :: E ∧ digB E = true ∧ 2 ≤ rdec E ∧ Nat.gcd (rdec D) (rdec E) = 1 ∧ q.num = sgn neg (rdec D) ∧ q.den = rdec E)

theorem isDig_ne {c : UInt8} (h : isDig c = true) : c ≠ 47 ∧ c ≠ 45 := by
  refine ⟨?_, ?_⟩ <;> rintro rfl <;> simp [isDig] at h

/-- the text of a number with few digits has its parts -/
theorem parts_text (q : Rat) (h : few q) : ∃ neg D r, Parts (textQ q) neg D r ∧ NumIs neg D r q := by
  refine ⟨decide (q.num < 0), decs q.num.natAbs, if q.den = 1 then [] else 47 :: decs q.den, ⟨?_, ?_, ?_, ?_⟩, digB_decs h.1, ?_⟩
  · unfold textQ
    by_cases h : q.num < 0 <;> simp [h]
  · intro hn hh
    have hn' : ¬ q.num < 0 := by simpa using hn
    unfold textQ at hh
    rw [if_neg hn', List.nil_append] at hh
    have h1 := decs_pos q.num.natAbs
    cases hd : decs q.num.natAbs with
    | nil => rw [hd] at h1; simp at h1
    | cons c l =>
      rw [hd] at hh
      have := decs_all q.num.natAbs
      rw [hd] at this
      have := isDig_ne (List.all_eq_true.1 this c (by simp))
      simp at hh
      exact this.2 hh
  · intro c hc
    exact (isDig_ne (List.all_eq_true.1 (decs_all _) c hc)).1
  · split
    · exact .inl rfl
    · exact .inr ⟨_, rfl⟩
  · have hs : sgn (decide (q.num < 0)) (rdec (decs q.num.natAbs)) = q.num := by
      rw [rdec_decs, sgn]
      by_cases h : q.num < 0
      · simp [h]; omega
      · simp [h]; omega
    by_cases hd : q.den = 1
    · left
      rw [if_pos hd]
      refine ⟨rfl, ?_, ?_⟩
      · rw [rdec_decs]
        rintro ⟨h1, h2⟩
        have := of_decide_eq_true h1
        omega
      · rw [hs]
        apply Rat.ext <;> simp [hd]
    · right
      rw [if_neg hd]
      refine ⟨_, rfl, digB_decs h.2, ?_, ?_, hs.symm, (rdec_decs _).symm⟩
      · rw [rdec_decs]; have := q.den_pos; omega
      · rw [rdec_decs, rdec_decs]; exact q.reduced

/-- a text whose parts are those of a number is its text -/
theorem text_parts {s : List UInt8} {neg : Bool} {D r : List UInt8} {q : Rat} (hp : Parts s neg D r) (h : NumIs neg D r q) : s = textQ q ∧ few q := by
  obtain ⟨h1, h2, h3, h4⟩ := hp
  obtain ⟨hD, h⟩ := h
  have hl := (digB_iff.1 hD).2.2.1
  have hdD := decs_rdec hD
  rcases h with ⟨rfl, hz, rfl⟩ | ⟨E, rfl, hE, hge, hg, hn, hd⟩
  · have hn : ((sgn neg (rdec D) : Int) : Rat).num = sgn neg (rdec D) := rfl
    have hdn : ((sgn neg (rdec D) : Int) : Rat).den = 1 := rfl
    have ha : (sgn neg (rdec D)).natAbs = rdec D := by cases neg <;> simp [sgn]
    have hlt : (sgn neg (rdec D) < 0) ↔ neg = true := by cases neg <;> simp [sgn] at hz ⊢ <;> omega
    refine ⟨?_, ?_, ?_⟩
    · rw [h1, textQ, hn, hdn, ha, hdD]
      cases neg <;> simp [hlt]
    · rw [hn, ha, hdD]; exact hl
    · rw [hdn, decs, if_neg (by omega), dig_small (by omega) (by omega)]; simp
  · have hlE := (digB_iff.1 hE).2.2.1
    have hdE := decs_rdec hE
    have ha : (sgn neg (rdec D)).natAbs = rdec D := by cases neg <;> simp [sgn]
    have hnz : rdec D ≠ 0 := by intro e; rw [e, Nat.gcd_zero_left] at hg; omega
    have hlt : (sgn neg (rdec D) < 0) ↔ neg = true := by cases neg <;> simp [sgn] <;> omega
    refine ⟨?_, ?_, ?_⟩
    · have hne : ¬ rdec E = 1 := by omega
      rw [h1, textQ, hn, hd, ha, hdD, hdE, if_neg hne]
      cases neg <;> simp [hlt]
    · rw [hn, ha, hdD]; exact hl
    · rw [hd, hdE]; exact hlE

theorem cut_unique (D1 r1 D2 r2 : List UInt8) (h : D1 ++ r1 = D2 ++ r2) (h1 : ∀ c ∈ D1, c ≠ 47) (h2 : ∀ c ∈ D2, c ≠ 47) (e1 : r1 = [] ∨ ∃ E, r1 = 47 :: E) (e2 : r2 = [] ∨ ∃ E, r2 = 47 :: E) : D1 = D2 ∧ r1 = r2 := by
  induction D1 generalizing D2 with
  | nil =>
    cases D2 with
    | nil => exact ⟨rfl, by simpa using h⟩
    | cons c D2 =>
      rcases e1 with rfl | ⟨E, rfl⟩
      · simp at h
      · simp at h; exact absurd h.1.symm (h2 c (by simp))
  | cons c D1 ih =>
    cases D2 with
    | nil =>
      rcases e2 with rfl | ⟨E, rfl⟩
      · simp at h
      · simp at h; exact absurd h.1 (h1 c (by simp))
    | cons c' D2 =>
      simp at h
      obtain ⟨rfl, h⟩ := h
      obtain ⟨h5, h6⟩ := ih D2 h (fun c hc => h1 c (by simp [hc])) (fun c hc => h2 c (by simp [hc]))
      exact ⟨by rw [h5], h6⟩

theorem parts_unique {s : List UInt8} {n1 n2 : Bool} {D1 D2 r1 r2 : List UInt8} (h1 : Parts s n1 D1 r1) (h2 : Parts s n2 D2 r2) : n1 = n2 ∧ D1 = D2 ∧ r1 = r2 := by
  obtain ⟨a1, b1, c1, d1⟩ := h1
  obtain ⟨a2, b2, c2, d2⟩ := h2
  have hn : n1 = n2 := by
    cases n1 <;> cases n2
    · rfl
    · exact absurd (by rw [a2]; rfl) (b1 rfl)
    · exact absurd (by rw [a1]; rfl) (b2 rfl)
    · rfl
  subst hn
  rw [a1] at a2
  exact ⟨rfl, cut_unique _ _ _ _ (List.append_cancel_left a2) c1 c2 d1 d2⟩

/-- whether some parts are those of a number can be asked of the text -/
theorem num_iff {s : List UInt8} {neg : Bool} {D r : List UInt8} (hp : Parts s neg D r) (q : Rat) : NumIs neg D r q ↔ (s = textQ q ∧ few q) := by
  constructor
  · exact text_parts hp
  · rintro ⟨rfl, h⟩
    obtain ⟨n2, D2, r2, hp2, hn⟩ := parts_text q h
    obtain ⟨rfl, rfl, rfl⟩ := parts_unique hp hp2
    exact hn

theorem rdec_append (s t : List UInt8) : rdec (s ++ t) = rdec s * 10 ^ t.length + rdec t := by
  suffices h : ∀ r : List UInt8, ∀ t, t = r.reverse → rdec (s ++ t) = rdec s * 10 ^ t.length + rdec t from h t.reverse t (by simp)
  intro r
  induction r with
  | nil => intro t ht; subst ht; simp [rdec]
  | cons c r ih =>
    intro t ht
    subst ht
    rw [List.reverse_cons, ← List.append_assoc, rdec_snoc, rdec_snoc, ih _ rfl, List.length_append, List.length_singleton, Nat.pow_succ]
    grind

theorem rdec_lt (s : List UInt8) (h : s.all isDig = true) : rdec s < 10 ^ s.length := by
  suffices hh : ∀ r : List UInt8, ∀ s, s = r.reverse → s.all isDig = true → rdec s < 10 ^ s.length from hh s.reverse s (by simp) h
  intro r
  induction r with
  | nil => intro s hs _; subst hs; simp [rdec]
  | cons c r ih =>
    intro s hs ha
    subst hs
    rw [List.reverse_cons] at ha ⊢
    rw [List.all_append, Bool.and_eq_true] at ha
    have h1 := ih _ rfl ha.1
    have h2 := ha.2
    simp [isDig] at h2
    rw [rdec_snoc, List.length_append, List.length_singleton, Nat.pow_succ]
    omega

/-- a group of four digits in front of those that are read -/
theorem read_step (L : List UInt8) (ds : List Nat) (e x : Nat) (h4 : e ≤ L.length) (hk : L.length - e = 4 * ds.length) (hv : val 10000 ds = rdec (L.drop e)) (hx : x = rdec ((L.take e).drop (e - 4))) :
    val 10000 (ds ++ [x]) = rdec (L.drop (e - 4)) := by
  have e1 : L.drop (e - 4) = (L.take e).drop (e - 4) ++ L.drop e := by
    conv => lhs; rw [← List.take_append_drop e L]
    rw [List.drop_append, List.length_take, Nat.min_eq_left h4, show e - 4 - e = 0 by omega, List.drop_zero]
  rw [e1, rdec_append, val_snoc, hv, hx, List.length_drop, hk, show (10000 : Nat) = 10 ^ 4 from rfl, ← Nat.pow_mul]
  rw [Nat.mul_comm, Nat.add_comm]

/-- a digit behind those of a group that are read -/
theorem read_digit (L : List UInt8) (m i : Nat) (hm : m ≤ i) (hi : i < L.length) : rdec ((L.take (i + 1)).drop m) = 10 * rdec ((L.take i).drop m) + (L[i].toNat - 48) := by
  rw [List.take_succ_eq_append_getElem hi, List.drop_append, List.length_take, Nat.min_eq_left (by omega), show m - i = 0 by omega, List.drop_zero, rdec_snoc]

theorem group_lt (L : List UInt8) (h : L.all isDig = true) (m i : Nat) (hm : i ≤ m + 4) : rdec ((L.take i).drop m) < 10000 := by
  have h1 := rdec_lt ((L.take i).drop m) (by
    apply List.all_eq_true.2
    intro c hc
    exact List.all_eq_true.1 h c (List.mem_of_mem_take (List.mem_of_mem_drop hc)))
  have h2 : 10 ^ ((L.take i).drop m).length ≤ 10 ^ 4 := Nat.pow_le_pow_right (by omega) (by rw [List.length_drop, List.length_take]; omega)
  omega
theorem group_le (L : List UInt8) (h : L.all isDig = true) (m i : Nat) (hm : i ≤ m + 3) : rdec ((L.take i).drop m) ≤ 999 := by
  have h1 := rdec_lt ((L.take i).drop m) (by
    apply List.all_eq_true.2
    intro c hc
    exact List.all_eq_true.1 h c (List.mem_of_mem_take (List.mem_of_mem_drop hc)))
  have h2 : 10 ^ ((L.take i).drop m).length ≤ 10 ^ 3 := Nat.pow_le_pow_right (by omega) (by rw [List.length_drop, List.length_take]; omega)
  omega
theorem group_nil (L : List UInt8) (m i : Nat) (hm : i ≤ m) : rdec ((L.take i).drop m) = 0 := by
  rw [List.drop_eq_nil_of_le (by rw [List.length_take]; omega)]; rfl
theorem dig_at (L : List UInt8) (h : L.all isDig = true) (i : Nat) (hi : i < L.length) : 48 ≤ L[i].toNat ∧ L[i].toNat ≤ 57 := by
  have := List.all_eq_true.1 h L[i] (List.getElem_mem hi)
  simpa [isDig] using this

end Go.Proofs.YtdkjcdfkoahfkaaGreatDoor

namespace Go.Proofs.YtdkjcdfkoahfkaaGreatDoor
open Go Go.RowKit

set_option maxRecDepth 100000 in
theorem give_any (v : Value) (q : Rat) (w : World) (hq : IsQ w v q) (hl1 : (dig 10000 q.num.natAbs).length ≤ 1000000000) (hl2 : (dig 10000 q.den).length ≤ 1000000000) (R : Ending → World → Prop)
    (hR : ∀ w', few q → Below w.heap.size w w' → R (.returned (.tuple #[.string ⟨(textQ q).toArray⟩, .bool true])) w')
    (hR2 : ∀ w', ¬ few q → Below w.heap.size w w' → R (.returned (.tuple #[.string ⟨#[]⟩, .bool false])) w') :
    Calls Tryz.prog 123 #[v] w R := by
  have HR := Lib.hid hR; clear hR
  have HR2 := Lib.hid hR2; clear hR2
  obtain ⟨na, a1, n1, c1, a2, n2, c2, rfl, hz1, hz2⟩ := hq.parts
  obtain ⟨L, hL⟩ : ∃ L, L = w.alloc (.cells #[.bool na, .slice a1 n1 c1, .bool false, .slice a2 n2 c2] 75) := ⟨_, rfl⟩
  have B0 : Hid (Box4 L w.heap.size (.bool na) (.slice a1 n1 c1) (.bool false) (.slice a2 n2 c2) 75) := Lib.hid (by rw [hL]; exact Box4.made w _ _ _ _ _)
  have HEXT : Hid (Below w.heap.size w L) := Lib.hid (by rw [hL]; exact (Below.refl w.heap.size w).alloc (Nat.le_refl _) _)
  have HLT : Hid (w.heap.size < L.heap.size) := Lib.hid (by rw [hL]; simp)
  have HL := Lib.hid hL
  have HQ := Lib.hid (hq.later HEXT.out (Nat.le_refl _))
  have HLL := Lib.hid (And.intro hl1 hl2)
  obtain ⟨⟨hA, hB, hC, hD⟩, _, _, _, _⟩ := B0.out.cells
  rw [hL] at hA hB hC hD
  clear hq hz1 hz2 hl1 hl2 hL
  go_enter Tryz.func123, Tryz.ntmps123
  go_wp2_with fail
  rw [← HL.out]
  refine fitQ_any _ q _ HQ.out HLL.out.1 HLL.out.2 _ ?_
  intro w1 hb1
  have HB1 := Lib.hid hb1
  have k1 := B0.out.later hb1 HLT.out
  clear hA hB hC hD
  obtain ⟨⟨hA, hB, hC, hD⟩, _, _, _, _⟩ := k1.cells
  clear k1
  obtain ⟨x, hx⟩ : ∃ x, x = (decide ((decs q.num.natAbs).length ≤ 60) && decide ((decs q.den).length ≤ 60)) := ⟨_, rfl⟩
  rw [← hx]
  cases x with
  | true =>
    have HF : Hid (few q) := Lib.hid (by
      have h := hx.symm
      rw [Bool.and_eq_true, decide_eq_true_iff, decide_eq_true_iff] at h
      exact h)
    clear hx hb1
    dsimp only
    go_wp2_with fail
    refine text_any _ q _ (HQ.out.later HB1.out (Nat.le_refl _)) HLL.out.1 HLL.out.2 _ ?_
    intro w2 hb2
    have HB2 := Lib.hid (HB1.out.trans (hb2.mono HB1.out.size))
    obtain ⟨T, hT⟩ : ∃ T, T = textQ q := ⟨_, rfl⟩
    rw [← hT] at HR ⊢
    clear hT hb2
    dsimp only
    go_wp2
    first | go_ret | skip
    exact HR.out _ HF.out (HEXT.out.trans (HB2.out.mono HEXT.out.size))
  | false =>
    have HF : Hid (¬ few q) := Lib.hid (by
      intro hf
      have h : (decide ((decs q.num.natAbs).length ≤ 60) && decide ((decs q.den).length ≤ 60)) = true := by
        rw [Bool.and_eq_true, decide_eq_true_iff, decide_eq_true_iff]; exact hf
      rw [h] at hx; cases hx)
    clear hx hb1
    dsimp only
    go_wp2
    first | go_ret | skip
    exact HR2.out _ HF.out (HEXT.out.trans (HB1.out.mono HEXT.out.size))
end Go.Proofs.YtdkjcdfkoahfkaaGreatDoor
