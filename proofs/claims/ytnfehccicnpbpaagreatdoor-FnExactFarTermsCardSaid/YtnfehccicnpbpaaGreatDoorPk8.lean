/- Contracts of functions of the program and of the model: FarW, FarT, FarL, FarZ, FarF, InvM, InvI, InvS, ResB, FarI, FarQ, FarA, LawFarTerm. -/
import Derived.Test.YtnfehccicnpbpaaGreatDoorPk7
import Derived.Laws.Bits64b
import Derived.Deep.RegionHeld3
set_option linter.all false
set_option linter.unusedVariables false
set_option linter.unusedSimpArgs false
set_option linter.unnecessarySimpa false
set_option linter.deprecated false
namespace Go.Proofs.YtnfehccicnpbpaaGreatDoor
open Go Go.RowKit

theorem lt_bitLen : ∀ (n : Nat), n < 2 ^ 64 → n < 2 ^ Lib.bitLen n := by
  intro n
  induction n using Nat.strongRecOn with
  | _ n ih =>
    intro h
    by_cases h0 : n = 0
    · subst h0; exact Nat.pow_pos (by omega)
    · have h1 := ih (n / 2) (by omega) (by omega)
      rw [Lib.bitLen_half n h0 h, Nat.add_comm, Nat.pow_succ]
      omega

theorem div_bitLen (n : Nat) (h : n < 2 ^ 64) : n / 2 ^ Lib.bitLen n = 0 := Nat.div_eq_of_lt (lt_bitLen n h)

theorem div_step (n b : Nat) : n / 2 ^ b = n / 2 ^ (b + 1) + n / 2 ^ (b + 1) + n / 2 ^ b % 2 := by
  rw [Nat.pow_succ, ← Nat.div_div_eq_div_mul]
  omega

def PwA (w : World) (k m N : Nat) (u : Nat → Nat) (rv bv : Value) (wr : World) : Prop :=
  ∃ (b : Nat) (P : List Nat), bv = .int .i64 ((b : Int) - 1) ∧ b ≤ 64 ∧ Sl .u64 wr rv P ∧ P.length = k ∧ (∀ x ∈ P, x < m) ∧ Rp m u k P (N / 2 ^ b) ∧ Below w.heap.size w wr

def PwB (wo : World) (g k m r : Nat) (A : List Nat) (u : Nat → Nat) (iv : Value) (wr : World) : Prop :=
  ∃ (i : Nat) (Q : List Nat), iv = .int .i64 (i : Int) ∧ i ≤ k ∧ Q.length = 2 * k + r ∧ (∀ y ∈ Q, y < m) ∧ (∀ s, lin Q u s (2 * k + r) % m = pr2 A A u k (s + r) i % m) ∧ Arr .u64 61 wr g Q ∧ Below g wo wr
def PwC (wo : World) (g k m r i : Nat) (A : List Nat) (u : Nat → Nat) (jv : Value) (wr : World) : Prop :=
  ∃ (j : Nat) (Q : List Nat), jv = .int .i64 (j : Int) ∧ j ≤ k ∧ Q.length = 2 * k + r ∧ (∀ y ∈ Q, y < m) ∧ (∀ s, lin Q u s (2 * k + r) % m = (pr2 A A u k (s + r) i + A.getD i 0 * lin A u (s + r + i) j) % m) ∧ Arr .u64 61 wr g Q ∧ Below g wo wr

set_option maxRecDepth 100000 in
set_option maxHeartbeats 8000000 in
theorem power_any (m N : Nat) (vs vc : Value) (cs : List Nat) (w : World) (u : Nat → Nat) (hvs : ∃ a n c, vs = .slice a n c) (hcs : Sl .u64 w vc cs) (hC : ∀ x ∈ cs, x < m) (hm : 2 ≤ m) (hm2 : m ≤ 1000000) (hk9 : cs.length ≤ 100) (hN : N < 18446744073709551616)
    (hrec : ∀ s top, cs.length ≤ top → csum cs u (s + top) cs.length % m = u (s + top) % m) (R : Ending → World → Prop)
    (hR : ∀ v' P w', Sl .u64 w' v' P → P.length = cs.length → (∀ x ∈ P, x < m) → Rp m u cs.length P N → Below w.heap.size w w' → R (.returned v') w') :
    Calls Tryz.prog 90 #[.agg #[.int .u64 ((m : Nat) : Int), vs, vc], .int .u64 ((N : Nat) : Int)] w R := by
  have HR := Lib.hid hR; clear hR
  obtain ⟨a1, n1, c1, rfl⟩ := hvs
  have hcs0 := hcs
  obtain ⟨a2, c2, rfl, hc2, hcell⟩ := hcs
  obtain ⟨k, hk⟩ : ∃ k, k = cs.length := ⟨_, rfl⟩
  rw [← hk] at hk9 HR hcs0 ⊢
  have HK := Lib.hid hk
  have HREC := Lib.hid hrec
  have HC := Lib.hid hC
  obtain ⟨L, hL⟩ : ∃ L, L = w.alloc (.cells #[.int .u64 ((m : Nat) : Int), .slice a1 n1 c1, .slice a2 k c2] 65) := ⟨_, rfl⟩
  have HBL : Hid (Below w.heap.size w L) := Lib.hid (by rw [hL]; exact (Below.refl _ _).alloc (Nat.le_refl _) _)
  have HBX : Hid (Box3 L w.heap.size (.int .u64 ((m : Nat) : Int)) (.slice a1 n1 c1) (.slice a2 k c2) 65) := Lib.hid (by rw [hL]; exact Box3.made _ _ _ _ _)
  have HLS : Hid (L.heap.size = w.heap.size + 1) := Lib.hid (by rw [hL]; simp)
  have HL := Lib.hid hL
  have HCS := Lib.hid (hcs0.later HBL.out (Nat.le_refl _))
  obtain ⟨⟨hB0, hB1, hB2⟩, _, _, _⟩ := HBX.out.cells
  rw [hL] at hB0 hB1 hB2
  have hwk : IntKind.i64.wrap ((k : Int) + 1) = ((k + 1 : Nat) : Int) := by rw [IntWalk.i64_in _ (by omega)]; omega
  clear hcs0 hcell hk hrec hC hL hc2
  go_enter Tryz.func90, Tryz.ntmps90
  go_wp2_with (at_make; go_must (refine wpList_makez _ rfl (.tmp 20) 63 rfl 61 .u64 8 Tryz.underlying63 info_u64' (by omega) .i64 ((k + 1 : Nat) : Int) (k + 1) rfl rfl (by omega) ?_))
  rw [← HL.out]
  intro w1 harr1 hb1 hs1
  obtain ⟨g, hg⟩ : ∃ g, g = w.heap.size + 1 := ⟨_, rfl⟩
  rw [← hg] at harr1 hb1 hs1 ⊢
  have HG := Lib.hid (show g = L.heap.size by rw [HLS.out]; exact hg)
  have hcl := harr1.cell 0 (by simp)
  have hfl := harr1.frozen 0
  have hA1 := harr1.setz 0 1 1 rfl
  obtain ⟨V, hV⟩ : ∃ V, V = w1.setCell ⟨g, 0, none⟩ (.int .u64 1) := ⟨_, rfl⟩
  rw [← hV] at hA1
  have hbV : Below g L V := by rw [hV]; exact hb1.setCell (Nat.le_refl _) _
  have HBV := Lib.hid (show Below L.heap.size L V by rw [← HG.out]; exact hbV)
  have HA1 := Lib.hid hA1
  have HV := Lib.hid hV
  have kV := (HBX.out.later hbV (by have := HLS.out; omega)).cells.1
  obtain ⟨hB0, hB1, hB2⟩ := kV
  rw [hV] at hB0 hB1 hB2
  clear harr1 hb1 hs1 hA1 hV hbV hg hwk
  go_wp2_with fail
  rw [← HV.out]
  refine reduce_any m _ _ cs _ g (k + 1) (k + 1) _ u ⟨_, _, _, rfl⟩ (HCS.out.later HBV.out (Nat.le_refl _)) (fun h0 => HCS.out.off (by rw [HG.out]; exact Nat.le_refl _) h0) HA1.out (by simp) (by rw [← HK.out]; omega) (Nat.le_refl _) (fun x hx => by
    rcases List.mem_or_eq_of_mem_set hx with hx | hx
    · rw [(List.mem_replicate.1 hx).2]; omega
    · rw [hx]; omega) HC.out hm hm2 (by omega) HREC.out _ ?_
  rw [← HK.out]
  intro P0 w2 hA2 hl2 hm3 hr2 hb2
  have hu := unit_getD (k + 1) 0 (by omega)
  have HST : Hid (Sl .u64 w2 (.slice (some ⟨g, 0, none⟩) k (k + 1)) (P0.take k) ∧ (P0.take k).length = k ∧ (∀ x ∈ P0.take k, x < m) ∧ Rp m u k (P0.take k) 0) := Lib.hid ⟨by
    have := hA2.sub 0 k (k + 1) (by rw [hl2]; omega) (by omega)
    rwa [List.drop_zero] at this, by rw [List.length_take, hl2]; omega, fun x hx => hm3 x (List.mem_of_mem_take hx), fun s => by
    rw [lin_take _ _ _ _ _ (Nat.le_refl _), hr2 s, lin_one u s (k + 1) _ 0 hu.1 hu.2, if_pos (by omega)]⟩
  have HB2 : Hid (Below L.heap.size L w2) := Lib.hid (HBV.out.trans (hb2.below (by rw [HG.out]; exact Nat.le_refl _) HBV.out.size))
  clear hA2 hl2 hm3 hr2 hb2 hB0 hB1 hB2 hcl hfl hu
  obtain ⟨⟨hB0, hB1, hB2⟩, _, _, _⟩ := (HBX.out.later HB2.out (by have := HLS.out; omega)).cells
  dsimp only
  go_wp2_with fail
  refine (Tryz.bits_Len64 (N : Int) _ (by omega) (by omega)).mono ?_
  rintro e w3 ⟨rfl, rfl⟩
  rw [Int.toNat_natCast]
  obtain ⟨b0, hb0⟩ : ∃ b0, b0 = Lib.bitLen N := ⟨_, rfl⟩
  rw [← hb0]
  have hb64 : b0 ≤ 64 := by rw [hb0]; exact Lib.bitLen_le N 64 (by omega) (by omega)
  have HST2 : Hid (PwA L k m N u (.slice (some ⟨g, 0, none⟩) k (k + 1)) (.int .i64 ((b0 : Int) - 1)) w3) := Lib.hid ⟨b0, P0.take k, rfl, hb64, HST.out.1, HST.out.2.1, HST.out.2.2.1, by rw [hb0, div_bitLen N (by omega)]; exact HST.out.2.2.2, HB2.out⟩
  have hwb : IntKind.i64.wrap ((b0 : Int) - 1) = (b0 : Int) - 1 := IntWalk.i64_in _ (by omega)
  clear hb0
  dsimp only
  go_wp2
  clear hB0 hB1 hB2 hwb
  go_loopw [7, 8] (fun rv bv wr => PwA L k m N u rv bv wr) (fun _ bv _ => (intOf bv + 1).toNat)
  case atStart => exact HST2.out
  case round =>
    clear HST2 HST HB2 HA1 HBV
    obtain ⟨b, P, rfl, hb64, hP, hPl, hPm, hRP, hbel⟩ := hrel
    obtain ⟨aP, cP, rfl, hcP, hPc⟩ := hP
    rw [hPl] at hPc hcP ⊢
    have HPS := Lib.hid (show Sl .u64 wr (.slice aP k cP) P from ⟨aP, cP, by rw [hPl], by rw [hPl]; exact hcP, by rw [hPl]; exact hPc⟩)
    have HP := Lib.hid (And.intro hPl (And.intro hPm hRP))
    have HB := Lib.hid hbel
    obtain ⟨⟨hB0, hB1, hB2⟩, _, _, _⟩ := (HBX.out.later hbel (by have := HLS.out; omega)).cells
    by_cases hb0 : b = 0
    · subst hb0
      have hneg : ¬ (0 : Int) ≤ ((0 : Nat) : Int) - 1 := by omega
      have HF := Lib.hid (HR.out _ P wr HPS.out hPl hPm (by rw [Nat.pow_zero, Nat.div_one] at hRP; exact hRP) (HBL.out.trans (hbel.mono (by have := HLS.out; omega))))
      clear hPc hcP hPl hPm hRP hbel
      go_wp2
      first | go_ret | skip
      exact HF.out
    · obtain ⟨c, rfl⟩ : ∃ c, b = c + 1 := ⟨b - 1, by omega⟩
      have ec : ((c + 1 : Nat) : Int) - 1 = (c : Int) := by omega
      rw [ec]
      have hc0 : (0 : Int) ≤ (c : Int) := by omega
      have hc64 : (c : Int) < 64 := by omega
      have hcn : ¬ (c : Int) < 0 := by omega
      obtain ⟨q, hq⟩ : ∃ q, q = N / 2 ^ c := ⟨_, rfl⟩
      have hqN : q ≤ N := by rw [hq]; exact Nat.div_le_self _ _
      obtain ⟨r, hr⟩ : ∃ r, r = q % 2 := ⟨_, rfl⟩
      have hr2 : r < 2 := by rw [hr]; exact Nat.mod_lt _ (by omega)
      have he1 : (N : Int) / 2 ^ c = (q : Int) := by rw [shr_nat, hq]
      have he2 : bits .and .u64 (q : Int) 1 = (r : Int) := by
        have := bits_and_u64_nat q 1 (by omega) (by omega)
        rw [Nat.and_one_is_mod, ← hr] at this
        exact this
      have hwr : IntKind.i64.wrap (r : Int) = (r : Int) := IntWalk.i64_in _ (by omega)
      have hw2 : IntKind.i64.wrap (2 * (k : Int)) = 2 * (k : Int) := IntWalk.i64_in _ (by omega)
      obtain ⟨n, hn⟩ : ∃ n, n = 2 * k + r := ⟨_, rfl⟩
      have hw3 : IntKind.i64.wrap (2 * (k : Int) + (r : Int)) = (n : Int) := by rw [IntWalk.i64_in _ (by omega)]; omega
      have HQ := Lib.hid (show q = N / 2 ^ (c + 1) + N / 2 ^ (c + 1) + r by have := div_step N c; rw [← hq, ← hr] at this; exact this)
      have HQE := Lib.hid hq
      have HNE := Lib.hid hn
      have hn9 : n ≤ 1000 := by omega
      clear hPc hcP hPl hPm hRP hbel hq hr ec hn
      go_wp2_with (at_make; go_must (refine wpList_makez _ rfl (.tmp 42) 63 rfl 61 .u64 8 Tryz.underlying63 info_u64' (by omega) .i64 (n : Int) n rfl rfl (by omega) ?_))
      intro w4 harr4 hb4 hs4
      obtain ⟨g4, hg4⟩ : ∃ g4, g4 = wr.heap.size := ⟨_, rfl⟩
      rw [← hg4] at harr4 hb4 hs4 ⊢
      have HG4 := Lib.hid hg4
      have HST4 : Hid (PwB wr g4 k m r P u (.int .i64 0) w4) := Lib.hid ⟨0, List.replicate n 0, rfl, Nat.zero_le _, by rw [List.length_replicate, HNE.out], fun y hy => by rw [(List.mem_replicate.1 hy).2]; omega, fun s => by rw [lin_zero]; rfl, harr4, hb4⟩
      have HPW := Lib.hid (HPS.out.later hb4 (by rw [HG4.out]; exact Nat.le_refl _))
      obtain ⟨wo, hwo⟩ : ∃ wo : World, wo = wr := ⟨_, rfl⟩
      have HLG := Lib.hid (show w.heap.size < g4 by have := HB.out.size; have := HLS.out; have := HG4.out; omega)
      clear harr4 hb4 hs4 hg4 hB0 hB1 hB2 he1 he2 hw2 hw3 hwr hcn
      rw [← hwo] at HST4 HB HPS HG4
      clear hwo
      go_wp2
      go_loopw [46] (fun i wr => PwB wo g4 k m r P u i wr) (fun i _ => k - (intOf i).toNat)
      case atStart => exact HST4.out
      case round =>
        clear HST4
        obtain ⟨i, Q, rfl, hik, hQ, hQm, hlin, harr, hbel⟩ := hrel
        have HBI : Hid (Below L.heap.size L wr) := Lib.hid (HB.out.trans (by rw [HG4.out] at hbel; exact hbel.mono HB.out.size))
        obtain ⟨⟨hB0, hB1, hB2⟩, _, _, _⟩ := (HBX.out.later HBI.out (by have := HLS.out; omega)).cells
        by_cases hi : i = k
        · subst hi
          have HQQ := Lib.hid (And.intro hQ (And.intro hQm hlin))
          have HARR := Lib.hid harr
          have hii : ¬ ((i : Int) < (i : Int)) := by omega
          clear hQ hQm hlin harr hbel hik
          go_wp2_with fail
          refine reduce_any m _ _ cs Q g4 n n _ u ⟨_, _, _, rfl⟩ (HCS.out.later HBI.out (Nat.le_refl _)) (fun h0 => HCS.out.off (by rw [HG4.out]; exact HB.out.size) h0) HARR.out (by rw [HQQ.out.1]; exact HNE.out) (by rw [← HK.out]; have := HNE.out; omega) (Nat.le_refl _) HQQ.out.2.1 HC.out hm hm2 (by have := HNE.out; omega) HREC.out _ ?_
          rw [← HK.out]
          intro P2 w5 hA5 hl5 hm5 hr5 hb5
          have HNX : Hid (PwA L i m N u (.slice (some ⟨g4, 0, none⟩) i n) (.int .i64 ((c : Int) - 1)) w5) := Lib.hid ⟨c, P2.take i, rfl, by omega, by
            have := hA5.sub 0 i n (by rw [hl5]; have := HNE.out; omega) (by have := HNE.out; omega)
            rwa [List.drop_zero] at this, by rw [List.length_take, hl5]; have := HNE.out; omega, fun x hx => hm5 x (List.mem_of_mem_take hx), by
            intro s
            rw [lin_take _ _ _ _ _ (Nat.le_refl _), hr5 s, HNE.out, HQQ.out.2.2 s, rp_prod HP.out.2.2 HP.out.2.2 s r, ← HQ.out, HQE.out], HBI.out.trans (hb5.below (by rw [HG4.out]; exact HB.out.size) HBI.out.size)⟩
          have hwc : IntKind.i64.wrap ((c : Int) - 1) = (c : Int) - 1 := IntWalk.i64_in _ (by omega)
          clear hA5 hl5 hm5 hr5 hb5 hB0 hB1 hB2
          dsimp only
          go_wp2
          go_roundw
          case rel => exact HNX.out
          case measure => simp [intOf]
        · have hil : i < k := by omega
          have hi1 : (i : Int) < (k : Int) := by omega
          have hi0 : (0 : Int) ≤ (i : Int) := by omega
          obtain ⟨b1, o1, eP, hbb1, hc1⟩ : ∃ b off, aP = some ⟨b, off, none⟩ ∧ b < wo.heap.size ∧ ∀ i, i < k → wo.cell? ⟨b, off + i, none⟩ = some (.int .u64 ((P.getD i 0 : Nat) : Int)) := by
            have h9 := HPS.out
            obtain ⟨b, off, e, hb, _⟩ := h9.at 0 (by omega)
            exact ⟨b, off, e, hb, fun j hj => by
              obtain ⟨b', off', e', _, h3⟩ := h9.at j hj
              rw [e] at e'; cases e'; exact h3⟩
          subst eP
          obtain ⟨x, hx⟩ : ∃ x, x = P.getD i 0 := ⟨_, rfl⟩
          have hxm : x < m := by rw [hx]; exact getD_lt_of (by omega) HP.out.2.1 _
          have HX := Lib.hid hx
          have hcx : wr.cell? ⟨b1, o1 + i, none⟩ = some (.int .u64 ((x : Nat) : Int)) := by
            rw [hbel.cell (p := ⟨b1, o1 + i, none⟩) (by rw [HG4.out]; exact hbb1), hx]; exact hc1 i hil
          have HC1 := Lib.hid (And.intro hbb1 hc1)
          have HST5 : Hid (PwC wo g4 k m r i P u (.int .i64 0) wr) := Lib.hid ⟨0, Q, rfl, Nat.zero_le _, hQ, hQm, fun s => by rw [lin, Nat.mul_zero, Nat.add_zero]; exact hlin s, harr, hbel⟩
          have hw3 : IntKind.i64.wrap ((i : Int) + 1) = ((i + 1 : Nat) : Int) := by rw [IntWalk.i64_in _ (by omega)]; omega
          clear hQ hQm hlin harr hbel hik hi hx hc1 hbb1 hB0 hB1 hB2
          go_wp2
          clear hcx
          go_loopw [53] (fun j wq => PwC wo g4 k m r i P u j wq) (fun j _ => k - (intOf j).toNat)
          case atStart => exact HST5.out
          case round =>
            clear HST5
            obtain ⟨j, Q, rfl, hjk, hQ, hQm, hlin, harr, hbel⟩ := hrel
            by_cases hj : j = k
            · subst hj
              have hii : ¬ ((j : Int) < (j : Int)) := by omega
              have HNX : Hid (PwB wo g4 j m r P u (.int .i64 ((i + 1 : Nat) : Int)) wr) := Lib.hid ⟨i + 1, Q, rfl, hil, hQ, hQm, fun s => by rw [hlin s, pr2], harr, hbel⟩
              clear hQ hQm hlin harr hbel
              go_wp2
              go_roundw
              case rel => exact HNX.out
              case measure => simp [intOf]; omega
            · have hjl : j < k := by omega
              have HBJ : Hid (Below L.heap.size L wr) := Lib.hid (HB.out.trans (by rw [HG4.out] at hbel; exact hbel.mono HB.out.size))
              obtain ⟨⟨hB0, hB1, hB2⟩, _, _, _⟩ := (HBX.out.later HBJ.out (by have := HLS.out; omega)).cells
              obtain ⟨y, hy⟩ : ∃ y, y = P.getD j 0 := ⟨_, rfl⟩
              have hym : y < m := by rw [hy]; exact getD_lt_of (by omega) HP.out.2.1 _
              have hcy : wr.cell? ⟨b1, o1 + j, none⟩ = some (.int .u64 ((y : Nat) : Int)) := by
                rw [hbel.cell (p := ⟨b1, o1 + j, none⟩) (by rw [HG4.out]; exact HC1.out.1), hy]; exact HC1.out.2 j hjl
              obtain ⟨a, ha⟩ : ∃ a, a = i + j + r := ⟨_, rfl⟩
              obtain ⟨t, ht⟩ : ∃ t, t = i + j := ⟨_, rfl⟩
              obtain ⟨d, hd⟩ : ∃ d, d = Q.getD a 0 := ⟨_, rfl⟩
              have hdm : d < m := by rw [hd]; exact getD_lt_of (by omega) hQm _
              have hq1 := harr.cell a (by omega)
              have hq3 := harr.frozen a
              rw [← hd] at hq1
              obtain ⟨p, hp⟩ : ∃ p, p = x * y % m := ⟨_, rfl⟩
              have hpm : p < m := by rw [hp]; exact Nat.mod_lt _ (by omega)
              obtain ⟨z, hz⟩ : ∃ z, z = (d + p) % m := ⟨_, rfl⟩
              have hzm : z < m := by rw [hz]; exact Nat.mod_lt _ (by omega)
              have HPE := Lib.hid hp
              have HZE := Lib.hid hz
              have HNX : Hid (∀ M, PwC wo g4 k m r i P u (.int .i64 ((j + 1 : Nat) : Int)) ((wr.drewN M).setCell ⟨g4, a, none⟩ (.int .u64 ((z : Nat) : Int)))) := Lib.hid fun M =>
                ⟨j + 1, Q.set a z, rfl, by omega, by rw [List.length_set]; exact hQ, set_all hQm hzm, by
                  intro s
                  have e := mul_step2 (A := P) (B := P) (k := k) (N := 2 * k + r) (i := i) (j := j) (r := r) (Q := Q) (u := u) (m := m) (by omega) (by omega) hlin s
                  have e9 : z = (Q.getD (i + j + r) 0 + P.getD i 0 * P.getD j 0) % m := by rw [hz, hd, hp, HX.out, hy, ha, Nat.add_mod _ (P.getD i 0 * P.getD j 0 % m) m, Nat.mod_mod, ← Nat.add_mod]
                  rw [e9, ha]; exact e, (harr.drewN M).set _ _, below_set_g hbel M _ _⟩
              have hw1 : IntKind.i64.wrap ((i : Int) + (j : Int)) = (t : Int) := by rw [IntWalk.i64_in _ (by omega)]; omega
              have hw2 : IntKind.i64.wrap ((t : Int) + (r : Int)) = (a : Int) := by rw [IntWalk.i64_in _ (by omega)]; omega
              have hw4 : IntKind.i64.wrap ((j : Int) + 1) = ((j + 1 : Nat) : Int) := by rw [IntWalk.i64_in _ (by omega)]; omega
              have hj0 : (0 : Int) ≤ (j : Int) := by omega
              have hj1 : (j : Int) < (k : Int) := by omega
              have ha0 : (0 : Int) ≤ (a : Int) := by omega
              have ha1 : (a : Int) < (n : Int) := by have := HNE.out; omega
              have HMM := Lib.hid (show x < W64 ∧ y < W64 ∧ m < W64 by rw [W64_eq]; omega)
              have HMP := Lib.hid (And.intro hdm hpm)
              clear hQ hQm hlin harr hbel hy hd hz hp ha ht hjk hj hw3
              go_wp2_with fail
              go_region_law (first
                | (have hguard := HM1; (try go_simp); go_at_call 92; refine mplus_any m d p _ HMP.out.1 HMP.out.2 (by omega) _ ?_; rw [← HZE.out]; clear hguard; dsimp only)
                | ((try go_simp); go_at_call 93; refine mtimes_any m x y _ HMM.out.1 HMM.out.2.1 HMM.out.2.2 (by omega) _ ?_; rw [← HPE.out]; intro N1; have HM1 : Hid True := Lib.hid trivial; dsimp only))
              all_goals
                go_wp2
                go_roundw
                case rel => exact HNX.out _
                case measure => simp [intOf]; omega
end Go.Proofs.YtnfehccicnpbpaaGreatDoor

namespace Go.Proofs.YtnfehccicnpbpaaGreatDoor
open Go Go.RowKit

/-- behind n terms: the boxes of the function that makes them, and its ring -/
def RgS (B0 B : Nat) (w : World) (bu br m : Nat) (cs ss : List Nat) (n : Nat) : Prop :=
  ∃ a1 n1 c1 b2 o2 c2 a3 c3 f,
    Box3 w bu (.int .u64 ((m : Nat) : Int)) (.slice a1 n1 c1) (.slice (some ⟨b2, o2, none⟩) cs.length c2) 65 ∧
    w.heap[br]? = some (.cells #[.slice a3 cs.length c3] 63 (0, 0)) ∧
    w.heap[br + 1]? = some (.cells #[.int .i64 ((f : Nat) : Int)] 3 (0, 0)) ∧
    (∀ i, i < cs.length → w.cell? ⟨b2, o2 + i, none⟩ = some (.int .u64 ((cs.getD i 0 : Nat) : Int))) ∧
    (0 < cs.length → ∃ g rg, a3 = some ⟨g, 0, none⟩ ∧ Rng w g rg ∧ Ring m cs ss n rg ∧ f = n % cs.length ∧ B0 ≤ g ∧ g < B ∧ g ≠ b2 ∧ g ≠ bu ∧ g ≠ br ∧ g ≠ br + 1) ∧
    b2 < B ∧ B0 ≤ br ∧ br + 1 < B ∧ bu < B ∧ bu ≠ br + 1 ∧ b2 ≠ br + 1 ∧ B ≤ w.heap.size

theorem RgS.later {B0 B : Nat} {w w' : World} {bu br m : Nat} {cs ss : List Nat} {n : Nat} (h : RgS B0 B w bu br m cs ss n) (hb : Below B w w') : RgS B0 B w' bu br m cs ss n := by
  obtain ⟨a1, n1, c1, b2, o2, c2, a3, c3, f, h1, h2, h3, h4, h5, h6, h7, h8, h9, h10, h11, h12⟩ := h
  refine ⟨a1, n1, c1, b2, o2, c2, a3, c3, f, h1.later hb h9, by rw [hb.block br (by omega)]; exact h2, by rw [hb.block (br + 1) h8]; exact h3, fun i hi => by rw [hb.cell (p := ⟨b2, o2 + i, none⟩) h6]; exact h4 i hi, fun h0 => ?_, h6, h7, h8, h9, h10, h11, Nat.le_trans h12 hb.size⟩
  obtain ⟨g, rg, k1, k2, k3, k4, k5, k6, k7⟩ := h5 h0
  exact ⟨g, rg, k1, k2.block (hb.block g k6), k3, k4, k5, k6, k7⟩

def RgIn (w : World) (cs ss : List Nat) (m n : Nat) (nx iv : Value) (wr : World) : Prop :=
  ∃ i : Nat, nx = .int .u64 ((csum cs (trm m cs ss) (n + cs.length) i % m : Nat) : Int) ∧ iv = .int .i64 (i : Int) ∧ i ≤ cs.length ∧ Below w.heap.size w wr

theorem ring_end {B0 B : Nat} {w wr : World} {bu br m : Nat} {cs ss : List Nat} {n a1n c1 b2 o2 c2 c3 g : Nat} {a1 : Option Addr} {rg : List Nat} {z y : Int}
    (h1 : Box3 w bu (.int .u64 ((m : Nat) : Int)) (.slice a1 a1n c1) (.slice (some ⟨b2, o2, none⟩) cs.length c2) 65)
    (h2 : w.heap[br]? = some (.cells #[.slice (some ⟨g, 0, none⟩) cs.length c3] 63 (0, 0)))
    (h3 : w.heap[br + 1]? = some (.cells #[.int .i64 ((n % cs.length : Nat) : Int)] 3 (0, 0)))
    (h4 : ∀ i, i < cs.length → w.cell? ⟨b2, o2 + i, none⟩ = some (.int .u64 ((cs.getD i 0 : Nat) : Int)))
    (hr : Rng w g rg) (hR : Ring m cs ss n rg) (h0 : 0 < cs.length) (k1 : B0 ≤ g) (k2 : g < B) (k3 : g ≠ b2) (k4 : g ≠ bu) (k5 : g ≠ br) (k6 : g ≠ br + 1)
    (h6 : b2 < B) (h7 : B0 ≤ br) (h8 : br + 1 < B) (h9 : bu < B) (h10 : bu ≠ br + 1) (h11 : b2 ≠ br + 1) (h12 : B ≤ w.heap.size) (hb : Below w.heap.size w wr)
    (hz : z = ((trm m cs ss (n + cs.length) : Nat) : Int)) (hy : y = (((n + 1) % cs.length : Nat) : Int)) :
    RgS B0 B ((wr.setCell ⟨g, n % cs.length, none⟩ (.int .u64 z)).setCell ⟨br + 1, 0, none⟩ (.int .i64 y)) bu br m cs ss (n + 1) ∧
    Below B0 w ((wr.setCell ⟨g, n % cs.length, none⟩ (.int .u64 z)).setCell ⟨br + 1, 0, none⟩ (.int .i64 y)) ∧
    ∀ k, B ≤ k → k < w.heap.size → ((wr.setCell ⟨g, n % cs.length, none⟩ (.int .u64 z)).setCell ⟨br + 1, 0, none⟩ (.int .i64 y)).heap[k]? = w.heap[k]? := by
  subst hz hy
  have hbl : ∀ k, k ≠ g → k ≠ br + 1 → k < w.heap.size → ((wr.setCell ⟨g, n % cs.length, none⟩ (.int .u64 ((trm m cs ss (n + cs.length) : Nat) : Int))).setCell ⟨br + 1, 0, none⟩ (.int .i64 (((n + 1) % cs.length : Nat) : Int))).heap[k]? = w.heap[k]? := by
    intro k e1 e2 hk
    rw [Below.heap_setCell _ _ _ _ e2, Below.heap_setCell _ _ _ _ e1, hb.block k hk]
  refine ⟨⟨a1, a1n, c1, b2, o2, c2, some ⟨g, 0, none⟩, c3, (n + 1) % cs.length, ?_, by rw [hbl br (fun e => k5 e.symm) (by omega) (by omega)]; exact h2, ?_, fun i hi => ?_, fun _ => ⟨g, rg.set (n % cs.length) (trm m cs ss (n + cs.length)), rfl, ?_, hR.next h0, rfl, k1, k2, k3, k4, k5, k6⟩, h6, h7, h8, h9, h10, h11, ?_⟩, ?_, fun k hk hkw => hbl k (by omega) (by omega) hkw⟩
  · unfold Box3 at *
    rw [hbl bu (fun e => k4 e.symm) h10 (by omega)]; exact h1
  · have : (wr.setCell ⟨g, n % cs.length, none⟩ (.int .u64 ((trm m cs ss (n + cs.length) : Nat) : Int))).heap[br + 1]? = some (.cells #[.int .i64 ((n % cs.length : Nat) : Int)] 3 (0, 0)) := by
      rw [Below.heap_setCell _ _ _ _ (fun e => k6 e.symm), hb.block _ (by omega)]; exact h3
    rw [World.setCell, Array.getElem?_modify, if_pos rfl, this]
    rfl
  · rw [World.cell?_of_block (w := w) (hbl b2 (fun e => k3 e.symm) h11 (by omega))]; exact h4 i hi
  · exact ((hr.block (hb.block g (by omega))).set _ _).block (Below.heap_setCell _ _ _ _ k6)
  · simp [World.setCell]; exact Nat.le_trans h12 hb.size
  · exact (((hb.mono (by omega)).setCell k1 _).setCell (Nat.le_trans h7 (Nat.le_succ _)) _)

set_option maxRecDepth 100000 in
set_option maxHeartbeats 4000000 in
theorem rstep_any (B0 B : Nat) (w : World) (bu br m : Nat) (cs ss : List Nat) (n : Nat) (h : RgS B0 B w bu br m cs ss n) (hl : ss.length = cs.length) (h8 : cs.length ≤ 10) (hm : 2 ≤ m) (hm2 : m ≤ 1000000)
    (hC : ∀ x ∈ cs, x < m) (hS : ∀ x ∈ ss, x < m) (R : Ending → World → Prop)
    (hR : ∀ w', RgS B0 B w' bu br m cs ss (n + 1) → Below B0 w w' → (∀ k, B ≤ k → k < w.heap.size → w'.heap[k]? = w.heap[k]?) → R (.returned (.int .u64 ((trm m cs ss n : Nat) : Int))) w') :
    Calls Tryz.prog 171 #[.pointer (some ⟨br, 0, none⟩), .pointer (some ⟨br + 1, 0, none⟩), .pointer (some ⟨bu, 0, none⟩)] w R := by
  have HR := Lib.hid hR; clear hR
  have hW := h
  obtain ⟨a1, n1, c1, b2, o2, c2, a3, c3, f, h1, h2, h3, h4, h5, h6, h7, h8', h9, h10, h11, h12⟩ := h
  obtain ⟨hT0, hT1⟩ := cells_one h2
  obtain ⟨hF0, hF1⟩ := cells_one h3
  rcases Nat.eq_zero_or_pos cs.length with h0 | h0
  · have hs0 : ss = [] := List.eq_nil_of_length_eq_zero (by omega)
    have hc0 : cs = [] := List.eq_nil_of_length_eq_zero h0
    have HF := Lib.hid (HR.out w (by
      refine ⟨a1, n1, c1, b2, o2, c2, a3, c3, f, h1, h2, h3, h4, fun h => by omega, h6, h7, h8', h9, h10, h11, h12⟩) (Below.refl _ _) (fun _ _ _ => rfl))
    rw [show trm m cs ss n = 0 by rw [hs0, hc0]; exact trm_nil m n] at HF
    rw [h0] at hT0
    clear h1 h2 h3 h4 h5 hW hs0 hc0 h0
    go_enter Tryz.func171, Tryz.ntmps171
    go_wp2
    first | go_ret | skip
    exact HF.out
  · obtain ⟨g, rg, rfl, k1, k2, rfl, k3, k4, k5, k6, k7, k8⟩ := h5 h0
    obtain ⟨k, hk⟩ : ∃ k, k = cs.length := ⟨_, rfl⟩
    obtain ⟨f, hf⟩ : ∃ f, f = n % k := ⟨_, rfl⟩
    have HEND := Lib.hid (fun (wr : World) (hb : Below w.heap.size w wr) (z y : Int) hz hy => ring_end (z := z) (y := y) h1 h2 h3 h4 k1 k2 h0 k3 k4 k5 k6 k7 k8 h6 h7 h8' h9 h10 h11 h12 hb hz hy)
    have H1 := Lib.hid h1
    have H2 := Lib.hid h2
    have H3 := Lib.hid h3
    have H4 := Lib.hid h4
    have HRG := Lib.hid k1
    have HRI := Lib.hid k2
    have HC := Lib.hid hC
    have HTL := Lib.hid (fun j => trm_lt (cs := cs) (ss := ss) (show 0 < m by omega) hS j)
    have HREC : Hid (csum cs (trm m cs ss) (n + k) k % m = trm m cs ss (n + k)) := Lib.hid (by rw [hk]; exact (trm_rec hl h0 n).symm)
    rw [← hk] at HEND H1 H2 H3 H4 hT0 hF0 h0 h8
    rw [← hf] at HEND H3 hF0
    have hfk : f < k := by rw [hf]; exact Nat.mod_lt _ h0
    have hrl : rg.length = k := by rw [hk]; exact k2.len
    have hq0 : w.cell? ⟨g, f, none⟩ = some (.int .u64 ((trm m cs ss n : Nat) : Int)) := by
      have e := k2.at' n (Nat.le_refl _) (by omega)
      rw [← hk, ← hf] at e
      rw [← e]; exact k1.cell f (by omega)
    obtain ⟨x, hx⟩ : ∃ x, x = trm m cs ss n := ⟨_, rfl⟩
    rw [← hx] at hq0 HR
    have HK := Lib.hid hk
    have HF := Lib.hid hf
    have HRL := Lib.hid hrl
    have HSZ := Lib.hid (show g < w.heap.size ∧ br + 1 < w.heap.size ∧ bu < w.heap.size ∧ b2 < w.heap.size by omega)
    obtain ⟨⟨hB0, hB1, hB2⟩, _, _, _⟩ := h1.cells
    rw [← hk] at hB2
    have hST : RgIn w cs ss m n (.int .u64 0) (.int .i64 0) w := ⟨0, by rw [csum, Nat.zero_mod]; rfl, rfl, Nat.zero_le _, Below.refl _ _⟩
    have HST := Lib.hid hST
    have hf0 : (0 : Int) ≤ (f : Int) := by omega
    have hf1 : (f : Int) < (k : Int) := by omega
    have hkz : ((k : Int) == 0) = false := by rw [beq_eq_false_iff_ne]; omega
    have hkz2 : ¬ ((k : Int) = 0) := by omega
    have hgf : ¬ g = br + 1 := k8
    have hkz3 : ¬ k = 0 := by omega
    clear h1 h2 h3 h4 h5 hW k1 k2 hk hf hrl hx hST hC hS h6 h7 h8' h9 h10 h11 h12 k3 k4 k5 k6 k7 k8 hl
    go_enter Tryz.func171, Tryz.ntmps171
    go_wp2
    clear hB0 hB1 hB2 hT0 hF0 hT1 hF1 hq0
    go_loopw [6, 20] (fun nx i wr => RgIn w cs ss m n nx i wr) (fun _ i _ => k - (intOf i).toNat)
    case atStart => exact HST.out
    case round =>
      clear HST
      obtain ⟨i, rfl, rfl, hik, hbel⟩ := hrel
      rw [← HK.out] at hik ⊢
      have HB := Lib.hid hbel
      have hB0' := H1.out.later hbel HSZ.out.2.2.1
      obtain ⟨⟨hB0, hB1, hB2⟩, _, _, _⟩ := hB0'.cells
      have h2' : wr.heap[br]? = _ := (hbel.block br (by have := HSZ.out.2.1; omega)).trans H2.out
      have h3' : wr.heap[br + 1]? = _ := (hbel.block (br + 1) HSZ.out.2.1).trans H3.out
      obtain ⟨hT0, hT1⟩ := cells_one h2'
      obtain ⟨hF0, hF1⟩ := cells_one h3'
      have hrg := HRG.out.block (hbel.block g HSZ.out.1)
      by_cases hi : i = k
      · subst hi
        rw [HREC.out]
        obtain ⟨z, hz⟩ : ∃ z, z = trm m cs ss (n + i) := ⟨_, rfl⟩
        obtain ⟨f2, hf2⟩ : ∃ f2, f2 = (n + 1) % i := ⟨_, rfl⟩
        have hcf := hrg.cell f (by rw [HRL.out]; omega)
        have hff := hrg.frozen f
        have hw1 : IntKind.i64.wrap ((f : Int) + 1) = (f : Int) + 1 := IntWalk.i64_in _ (by omega)
        have e1 : ((f : Int) + 1) % (i : Int) = (f2 : Int) := by rw [hf2, HF.out, ← Nat.mod_add_mod n i 1]; first | (push_cast; rfl) | (push_cast; done)
        have e2 : Int.tmod ((f : Int) + 1) (i : Int) = (f2 : Int) := by rw [Int.tmod_eq_emod_of_nonneg (by omega)]; exact e1
        have hf2i : f2 < i := by rw [hf2]; exact Nat.mod_lt _ h0
        have hw2 : IntKind.i64.wrap (f2 : Int) = (f2 : Int) := IntWalk.i64_in _ (by omega)
        have HFN := Lib.hid (HEND.out wr hbel (z : Int) (f2 : Int) (by rw [hz]) (by rw [hf2]))
        have HFN2 := Lib.hid (HR.out _ HFN.out.1 HFN.out.2.1 HFN.out.2.2)
        have hgf2 : ¬ br + 1 = g := fun e => hgf e.symm
        rw [← hz]
        clear hbel h2' h3' hrg hz hf2 hf2i hik hB0'
        go_wp2
        first | go_ret | skip
        exact HFN2.out
      · have hik2 : i < k := by omega
        have hc1 : wr.cell? ⟨b2, o2 + i, none⟩ = some (.int .u64 ((cs.getD i 0 : Nat) : Int)) := by
          rw [hbel.cell (p := ⟨b2, o2 + i, none⟩) HSZ.out.2.2.2]; exact H4.out i hik2
        obtain ⟨c, hcc⟩ : ∃ c, c = cs.getD i 0 := ⟨_, rfl⟩
        have hcm : c < m := by rw [hcc]; exact getD_lt_of (by omega) HC.out _
        rw [← hcc] at hc1
        obtain ⟨j, hj⟩ : ∃ j, j = (f + k - 1 - i) % k := ⟨_, rfl⟩
        obtain ⟨y, hy⟩ : ∃ y, y = trm m cs ss (n + k - 1 - i) := ⟨_, rfl⟩
        have hjk : j < k := by rw [hj]; exact Nat.mod_lt _ h0
        have hje : (n + k - 1 - i) % k = j := by
          rw [hj, HF.out]
          have e := Nat.mod_add_mod n k (k - 1 - i)
          rw [show n % k + k - 1 - i = n % k + (k - 1 - i) by omega, e]
          congr 1; omega
        have hq1 : wr.cell? ⟨g, j, none⟩ = some (.int .u64 ((y : Nat) : Int)) := by
          have e := HRI.out.at' (n + k - 1 - i) (by omega) (by rw [← HK.out]; omega)
          rw [← HK.out, hje, ← hy] at e
          rw [← e]; exact hrg.cell j (by rw [HRL.out]; exact hjk)
        have hym : y < m := by rw [hy]; exact HTL.out _
        obtain ⟨s, hs⟩ : ∃ s, s = csum cs (trm m cs ss) (n + k) i % m := ⟨_, rfl⟩
        have hsm : s < m := by rw [hs]; exact Nat.mod_lt _ (by omega)
        obtain ⟨p, hp⟩ : ∃ p, p = c * y % m := ⟨_, rfl⟩
        have hpm : p < m := by rw [hp]; exact Nat.mod_lt _ (by omega)
        have HPE := Lib.hid hp
        obtain ⟨z, hz⟩ : ∃ z, z = (s + p) % m := ⟨_, rfl⟩
        have HZE := Lib.hid hz
        have HNX : Hid (∀ N, RgIn w cs ss m n (.int .u64 ((z : Nat) : Int)) (.int .i64 ((i + 1 : Nat) : Int)) (wr.drewN N)) := Lib.hid fun N =>
          ⟨i + 1, by
            rw [hz, hs, hp, csum, ← HK.out, hcc, hy]
            congr 2
            rw [Nat.add_mod _ _ m, Nat.mod_mod, Nat.mod_mod, ← Nat.add_mod], rfl, by rw [← HK.out]; omega, below_draws hbel N⟩
        rw [← hs]
        have hw1 : IntKind.i64.wrap ((f : Int) + (k : Int)) = (f : Int) + (k : Int) := IntWalk.i64_in _ (by omega)
        obtain ⟨t1, ht1⟩ : ∃ t1, t1 = f + k - 1 := ⟨_, rfl⟩
        obtain ⟨t2, ht2⟩ : ∃ t2, t2 = t1 - i := ⟨_, rfl⟩
        have hw2 : IntKind.i64.wrap ((f : Int) + (k : Int) - 1) = (t1 : Int) := by rw [IntWalk.i64_in _ (by omega)]; omega
        have hw3 : IntKind.i64.wrap ((t1 : Int) - (i : Int)) = (t2 : Int) := by rw [IntWalk.i64_in _ (by omega)]; omega
        have e1 : (t2 : Int) % (k : Int) = (j : Int) := by rw [hj, ht2, ht1]; omega
        have e2 : Int.tmod (t2 : Int) (k : Int) = (j : Int) := by rw [Int.tmod_eq_emod_of_nonneg (by omega)]; exact e1
        have hw4 : IntKind.i64.wrap (j : Int) = (j : Int) := IntWalk.i64_in _ (by omega)
        have hw5 : IntKind.i64.wrap ((i : Int) + 1) = ((i + 1 : Nat) : Int) := by rw [IntWalk.i64_in _ (by omega)]; omega
        have hi0 : (0 : Int) ≤ (i : Int) := by omega
        have hi1 : (i : Int) < (k : Int) := by omega
        have hj0 : (0 : Int) ≤ (j : Int) := by omega
        have hj1 : (j : Int) < (k : Int) := by omega
        have HMM := Lib.hid (show c < W64 ∧ y < W64 ∧ m < W64 by rw [W64_eq]; omega)
        have HMP := Lib.hid (And.intro hsm hpm)
        clear hbel h2' h3' hrg hcc hy hs hz hp hj ht1 ht2 hik hi hje hB0'
        go_wp2_with fail
        go_region_law (first
          | (have hguard := HM1; (try go_simp); go_at_call 92; refine mplus_any m s p _ HMP.out.1 HMP.out.2 (by omega) _ ?_; rw [← HZE.out]; clear hguard; dsimp only)
          | ((try go_simp); go_at_call 93; refine mtimes_any m c y _ HMM.out.1 HMM.out.2.1 HMM.out.2.2 (by omega) _ ?_; rw [← HPE.out]; intro N1; have HM1 : Hid True := Lib.hid trivial; dsimp only))
        all_goals
          go_wp2
          go_roundw
          case rel => exact HNX.out _
          case measure => simp [intOf]; omega
end Go.Proofs.YtnfehccicnpbpaaGreatDoor

namespace Go.Proofs.YtnfehccicnpbpaaGreatDoor
open Go Go.RowKit

theorem Own.rng' {w : World} {B : Nat} {v : Value} {xs : List Nat} (h : Own .u64 61 w B v xs) (h0 : v ≠ .slice none 0 0) : ∃ g cap, v = .slice (some ⟨g, 0, none⟩) xs.length cap ∧ B ≤ g ∧ Rng w g xs := by
  obtain ⟨h1, h2⟩ := h
  rcases h2 with ⟨rfl, h2⟩ | ⟨g, cap, cur, rfl, hg, hh, hn, hm, hs, ht⟩
  · exact absurd rfl h0
  · exact ⟨g, cap, rfl, hg, cur, hh, by rw [Nat.mul_one] at ht; exact ht⟩

set_option maxRecDepth 100000 in
set_option maxHeartbeats 2000000 in
theorem rsteps_any (m : Nat) (vs vc : Value) (cs ss : List Nat) (w : World) (hs : At w vs ss) (hc : At w vc cs) (hl : ss.length = cs.length) (h8 : cs.length ≤ 10) (R : Ending → World → Prop)
    (hR : ∀ bu br w', RgS w.heap.size w'.heap.size w' bu br m cs ss 0 → Below w.heap.size w w' → R (.returned (.func (.func 171) #[] #[.pointer (some ⟨br, 0, none⟩), .pointer (some ⟨br + 1, 0, none⟩), .pointer (some ⟨bu, 0, none⟩)])) w') :
    Calls Tryz.prog 129 #[.agg #[.int .u64 ((m : Nat) : Int), vs, vc]] w R := by
  have HR := Lib.hid hR; clear hR
  obtain ⟨b1, o1, c1, rfl, hs'⟩ := hs.op
  obtain ⟨b2, o2, c2, e2, hc2, hb2, hcell⟩ := hc
  subst e2
  obtain ⟨L, hL⟩ : ∃ L, L = w.alloc (.cells #[.int .u64 ((m : Nat) : Int), .slice (some ⟨b1, o1, none⟩) ss.length c1, .slice (some ⟨b2, o2, none⟩) cs.length c2] 65) := ⟨_, rfl⟩
  have HBL : Hid (Below w.heap.size w L) := Lib.hid (by rw [hL]; exact (Below.refl _ _).alloc (Nat.le_refl _) _)
  have HBX : Hid (Box3 L w.heap.size (.int .u64 ((m : Nat) : Int)) (.slice (some ⟨b1, o1, none⟩) ss.length c1) (.slice (some ⟨b2, o2, none⟩) cs.length c2) 65) := Lib.hid (by rw [hL]; exact Box3.made _ _ _ _ _)
  have HL := Lib.hid hL
  have HS := Lib.hid (hs'.later HBL.out (Nat.le_refl _))
  have HCELL := Lib.hid (And.intro hb2 hcell)
  have HLL := Lib.hid (And.intro hl h8)
  obtain ⟨⟨hB0, hB1, hB2⟩, _, _, _⟩ := HBX.out.cells
  rw [hL] at hB0 hB1 hB2
  obtain ⟨n1, hn1⟩ : ∃ n1, n1 = ss.length := ⟨_, rfl⟩
  obtain ⟨k, hk⟩ : ∃ k, k = cs.length := ⟨_, rfl⟩
  rw [← hn1] at hB1 HL HBX HS ⊢
  rw [← hk] at hB2 HL HBX ⊢
  rw [← hn1, ← hk] at hB0
  rw [← hk] at hB1
  rw [← hn1] at hB2
  have HK := Lib.hid (And.intro hn1 hk)
  have hmf : ∀ (fn : Fn) (first cap : Array Value) (w : World), (Instr.makeFunc fn first cap).run Tryz.prog w = .ok (.func fn first cap) w := fun _ _ _ _ => rfl
  clear hs hs' hb2 hcell hL hn1 hk hc2 hl h8
  go_enter Tryz.func129, Tryz.ntmps129
  go_wp2_with fail
  rw [← HL.out]
  refine clone64_any _ ss _ HS.out (by have := HLL.out; omega) _ ?_
  intro v3 w3 hv3 hne hb3
  obtain ⟨g, cap, rfl, hg, hrng⟩ := hv3.rng' hne
  rw [← HK.out.1]
  obtain ⟨W, hW⟩ : ∃ W, W = (w3.alloc (.cells #[.slice (some ⟨g, 0, none⟩) n1 cap] 63)).alloc (.cells #[.int .i64 0] 3) := ⟨_, rfl⟩
  have hW1 : Below w3.heap.size w3 (w3.alloc (.cells #[.slice (some ⟨g, 0, none⟩) n1 cap] 63)) := (Below.refl _ _).alloc (Nat.le_refl _) _
  have hW2 : Below (w3.heap.size + 1) (w3.alloc (.cells #[.slice (some ⟨g, 0, none⟩) n1 cap] 63)) W := by rw [hW]; exact (Below.refl _ _).alloc (by simp) _
  have hbW : Below w3.heap.size w3 W := hW1.trans (hW2.mono (by omega))
  have hsz : W.heap.size = w3.heap.size + 2 := by rw [hW]; simp
  have hgl := hrng.lt
  have hbu := lt_of_block HBX.out
  have hLs := hb3.size
  have hbb := HBL.out.trans (hb3.mono HBL.out.size)
  have HF := Lib.hid (HR.out w.heap.size w3.heap.size W (by
    refine ⟨some ⟨b1, o1, none⟩, n1, c1, b2, o2, c2, some ⟨g, 0, none⟩, cap, 0, ?_, ?_, ?_, fun i hi => ?_, fun h0 => ⟨g, ss, rfl, hrng.block (hbW.block g hgl), Ring.start HLL.out.1, by rw [Nat.zero_mod], by have := HBL.out.size; omega, by omega, by have := HCELL.out.1; have := HBL.out.size; omega, by omega, by omega, by omega⟩, by have := HCELL.out.1; have := HBL.out.size; omega, by have := HBL.out.size; omega, by omega, by omega, by omega, by have := HCELL.out.1; have := HBL.out.size; omega, Nat.le_refl _⟩
    · have := (HBX.out.later hb3 hbu).later hbW (by omega)
      rw [HK.out.2] at this
      exact this
    · rw [hW2.block _ (by omega)]
      show (w3.heap.push _)[_]? = _
      rw [← HLL.out.1, ← HK.out.1]
      simp
    · rw [hW]
      show (Array.push _ _)[_]? = _
      have : w3.heap.size + 1 = (w3.alloc (.cells #[.slice (some ⟨g, 0, none⟩) n1 cap] 63)).heap.size := by simp
      rw [this]
      rw [Array.getElem?_push, if_pos rfl]; rfl
    · rw [((hbb.trans (hbW.mono hbb.size))).cell (p := ⟨b2, o2 + i, none⟩) HCELL.out.1]; exact HCELL.out.2 i hi) (hbb.trans (hbW.mono hbb.size)))
  rw [hW] at HF
  clear hv3 hne hb3 hg hrng hW hW1 hW2 hbW hsz hgl hbu hLs hbb hB0 hB1 hB2
  dsimp only
  go_wp2
  first | go_ret | skip
  exact HF.out

/-- the first terms -/
def trms (m : Nat) (cs ss : List Nat) (n : Nat) : List Nat := (List.range n).map (trm m cs ss)
theorem trms_len (m : Nat) (cs ss : List Nat) (n : Nat) : (trms m cs ss n).length = n := by simp [trms]
theorem trms_at {m : Nat} {cs ss : List Nat} {n i : Nat} (h : i < n) : (trms m cs ss n).getD i 0 = trm m cs ss i := by
  simp [trms, List.getD_eq_getElem?_getD, h]
theorem trms_set {m : Nat} {cs ss : List Nat} {c j : Nat} (h : j < c) : (trms m cs ss j ++ List.replicate (c - j) 0).set j (trm m cs ss j) = trms m cs ss (j + 1) ++ List.replicate (c - (j + 1)) 0 := by
  have e : c - j = (c - (j + 1)) + 1 := by omega
  rw [e, List.replicate_succ, List.set_append_right _ _ (by rw [trms_len]; exact Nat.le_refl _), trms_len, Nat.sub_self, List.set_cons_zero]
  simp [trms, List.range_succ]

def TermsR (w : World) (B g bu br m : Nat) (cs ss : List Nat) (c : Nat) (iv : Value) (wr : World) : Prop :=
  ∃ j : Nat, iv = .int .i64 (j : Int) ∧ j ≤ c ∧ Arr .u64 61 wr g (trms m cs ss j ++ List.replicate (c - j) 0) ∧ RgS w.heap.size B wr bu br m cs ss j ∧ Below w.heap.size w wr

set_option maxRecDepth 100000 in
set_option maxHeartbeats 2000000 in
theorem rterms_any (m c : Nat) (vs vc : Value) (cs ss : List Nat) (w : World) (hs : At w vs ss) (hc : At w vc cs) (hl : ss.length = cs.length) (h8 : cs.length ≤ 10) (hm : 2 ≤ m) (hm2 : m ≤ 1000000)
    (hC : ∀ x ∈ cs, x < m) (hS : ∀ x ∈ ss, x < m) (hcn : c ≤ 100000) (R : Ending → World → Prop)
    (hR : ∀ g w', Arr .u64 61 w' g (trms m cs ss c) → w.heap.size ≤ g → Below w.heap.size w w' → R (.returned (.slice (some ⟨g, 0, none⟩) c c)) w') :
    Calls Tryz.prog 91 #[.agg #[.int .u64 ((m : Nat) : Int), vs, vc], .int .i64 ((c : Nat) : Int)] w R := by
  have HR := Lib.hid hR; clear hR
  obtain ⟨b1, o1, c1, rfl, hs'⟩ := hs.op
  obtain ⟨b2, o2, c2, rfl, hc'⟩ := hc.op
  obtain ⟨L, hL⟩ : ∃ L, L = w.alloc (.cells #[.int .u64 ((m : Nat) : Int), .slice (some ⟨b1, o1, none⟩) ss.length c1, .slice (some ⟨b2, o2, none⟩) cs.length c2] 65) := ⟨_, rfl⟩
  have HBL : Hid (Below w.heap.size w L) := Lib.hid (by rw [hL]; exact (Below.refl _ _).alloc (Nat.le_refl _) _)
  have HBX : Hid (Box3 L w.heap.size (.int .u64 ((m : Nat) : Int)) (.slice (some ⟨b1, o1, none⟩) ss.length c1) (.slice (some ⟨b2, o2, none⟩) cs.length c2) 65) := Lib.hid (by rw [hL]; exact Box3.made _ _ _ _ _)
  have HL := Lib.hid hL
  have HS := Lib.hid (hs'.later HBL.out (Nat.le_refl _))
  have HC := Lib.hid (hc'.later HBL.out (Nat.le_refl _))
  have HLL := Lib.hid (And.intro hl (And.intro h8 (And.intro hm (And.intro hm2 (And.intro hC hS)))))
  have HCN := Lib.hid hcn
  obtain ⟨⟨hB0, hB1, hB2⟩, _, _, _⟩ := HBX.out.cells
  rw [hL] at hB0 hB1 hB2
  obtain ⟨n1, hn1⟩ : ∃ n1, n1 = ss.length := ⟨_, rfl⟩
  obtain ⟨k, hk⟩ : ∃ k, k = cs.length := ⟨_, rfl⟩
  rw [← hn1, ← hk] at hB0 hB1 hB2 HL HBX ⊢
  rw [← hn1] at HS
  rw [← hk] at HC
  clear hs hs' hc hc' hL hn1 hk hl h8 hm hm2 hC hS hcn
  go_enter Tryz.func91, Tryz.ntmps91
  go_wp2_with fail
  rw [← HL.out]
  refine rsteps_any m _ _ cs ss _ HS.out HC.out HLL.out.1 HLL.out.2.1 _ ?_
  intro bu br w3 hrg hb3
  have HRG := Lib.hid hrg
  have HB3 := Lib.hid (HBL.out.trans (hb3.mono HBL.out.size))
  have HLS := Lib.hid HBL.out.size
  clear hrg hb3 hB0 hB1 hB2
  dsimp only
  go_wp2_with (at_make; go_must (refine wpList_makez _ rfl _ 63 rfl 61 .u64 8 Tryz.underlying63 info_u64' (by omega) .i64 _ c rfl (by omega) (by have := HCN.out; omega) ?_))
  intro W hA hbW hsW
  have HST : Hid (TermsR w w3.heap.size w3.heap.size bu br m cs ss c (.int .i64 0) W) := Lib.hid ⟨0, rfl, Nat.zero_le _, by simpa [trms] using hA, (by
    obtain ⟨a1', n1', c1', b2', o2', c2', a3, c3, f, h1, h2, h3, h4, h5, h6, h7, h8, h9, h10, h11, h12⟩ := HRG.out.later (hbW)
    refine ⟨a1', n1', c1', b2', o2', c2', a3, c3, f, h1, h2, h3, h4, fun h0 => ?_, h6, by have := HLS.out; omega, h8, h9, h10, h11, h12⟩
    obtain ⟨g, rg, k1, k2, k3, k4, k5, k6⟩ := h5 h0
    exact ⟨g, rg, k1, k2, k3, k4, by have := HLS.out; omega, k6⟩), HB3.out.trans (hbW.mono HB3.out.size)⟩
  have HZ := Lib.hid HB3.out.size
  clear hA hbW hsW
  go_wp2
  go_loopw [14] (fun i wr => TermsR w w3.heap.size w3.heap.size bu br m cs ss c i wr) (fun i _ => c - (intOf i).toNat)
  case atStart => exact HST.out
  case round =>
    clear HST
    obtain ⟨j, rfl, hj, hA, hrg, hbel⟩ := hrel
    have HB := Lib.hid hbel
    have HA := Lib.hid hA
    have HRGJ := Lib.hid hrg
    by_cases hjc : j = c
    · subst hjc
      have HF := Lib.hid (HR.out w3.heap.size wr (by rw [Nat.sub_self, List.replicate_zero, List.append_nil] at hA; exact hA) HZ.out hbel)
      have hjj : ¬ ((j : Int) < (j : Int)) := by omega
      clear hj hA hrg hbel
      go_wp2
      first | go_ret | skip
      exact HF.out
    · have hjl : j < c := by omega
      have hj1 : (j : Int) < (c : Int) := by omega
      have hj0 : (0 : Int) ≤ (j : Int) := by omega
      have hw1 : IntKind.i64.wrap ((j : Int) + 1) = ((j + 1 : Nat) : Int) := by rw [IntWalk.i64_in _ (by have := HCN.out; omega)]; omega
      have HJL := Lib.hid hjl
      clear hj hA hrg hbel hjc
      go_wp2_with fail
      refine rstep_any w.heap.size w3.heap.size wr bu br m cs ss j HRGJ.out HLL.out.1 HLL.out.2.1 HLL.out.2.2.1 HLL.out.2.2.2.1 HLL.out.2.2.2.2.1 HLL.out.2.2.2.2.2 _ ?_
      intro w6 hrg6 hb6 hfr6
      obtain ⟨x, hx⟩ : ∃ x, x = trm m cs ss j := ⟨_, rfl⟩
      rw [← hx]
      have hA6 : Arr .u64 61 w6 w3.heap.size (trms m cs ss j ++ List.replicate (c - j) 0) := by
        have h9 := HA.out
        have := hfr6 w3.heap.size (Nat.le_refl _) h9.lt
        unfold Arr at *
        rw [this]; exact h9
      have hcl := hA6.cell j (by rw [List.length_append, trms_len, List.length_replicate]; have := HJL.out; omega)
      have hfl := hA6.frozen j
      have hA7 := hA6.set j x
      rw [show List.set (trms m cs ss j ++ List.replicate (c - j) 0) j x = trms m cs ss (j + 1) ++ List.replicate (c - (j + 1)) 0 from (by rw [hx]; exact trms_set HJL.out)] at hA7
      have HNX : Hid (TermsR w w3.heap.size w3.heap.size bu br m cs ss c (.int .i64 ((j + 1 : Nat) : Int)) (w6.setCell ⟨w3.heap.size, j, none⟩ (.int .u64 ((x : Nat) : Int)))) := Lib.hid
        ⟨j + 1, rfl, HJL.out, hA7, hrg6.later (show Below w3.heap.size w6 (w6.setCell ⟨w3.heap.size, j, none⟩ (.int .u64 ((x : Nat) : Int))) from (Below.refl _ _).setCell (Nat.le_refl w3.heap.size) _), (HB.out.trans (hb6.mono (Nat.le_refl _))).setCell HZ.out _⟩
      clear hrg6 hb6 hfr6 hx hA6 hA7
      dsimp only
      go_wp2
      go_roundw
      case rel => exact HNX.out
      case measure => simp [intOf]; have := HJL.out; omega
end Go.Proofs.YtnfehccicnpbpaaGreatDoor

namespace Go.Proofs.YtnfehccicnpbpaaGreatDoor
open Go Go.RowKit

theorem rec_all {m : Nat} {cs ss : List Nat} (hl : ss.length = cs.length) : ∀ s top, cs.length ≤ top → csum cs (trm m cs ss) (s + top) cs.length % m = trm m cs ss (s + top) % m := by
  intro s top ht
  rcases Nat.eq_zero_or_pos cs.length with h0 | h0
  · have hs0 : ss = [] := List.eq_nil_of_length_eq_zero (by omega)
    have hc0 : cs = [] := List.eq_nil_of_length_eq_zero h0
    rw [hs0, hc0, trm_nil]; rfl
  · exact rp_top hl h0 s top ht

theorem start_at {m : Nat} {cs ss : List Nat} (hl : ss.length = cs.length) {i : Nat} (hi : i < cs.length) : ss.getD i 0 = trm m cs ss i := by
  have := sta_at (m := m) hl i 0 hi
  rw [Nat.zero_add] at this
  exact this

def RaiR (w : World) (m k N : Nat) (u : Nat → Nat) (nv ov xv : Value) (wr : World) : Prop :=
  ∃ (nn e0 e1 : Nat) (P X : List Nat), nv = .int .i64 (nn : Int) ∧ Sl .i64 wr ov P ∧ Sl .i64 wr xv X ∧ P.length = k ∧ X.length = k ∧ (∀ x ∈ P, x < m) ∧ (∀ x ∈ X, x < m) ∧ Rp m u k P e0 ∧ Rp m u k X e1 ∧ e0 + e1 * nn = N ∧ nn ≤ N ∧ Below w.heap.size w wr

set_option maxRecDepth 100000 in
set_option maxHeartbeats 4000000 in
theorem sraise_any (m N : Nat) (vc : Value) (cs : List Nat) (w : World) (u : Nat → Nat) (hcs : Sl .i64 w vc cs) (h0 : 0 < cs.length) (hC : ∀ x ∈ cs, x < m) (hm : 2 ≤ m) (hm2 : m ≤ 1000000) (hk9 : cs.length ≤ 100) (hN : N ≤ 9000000000000000000)
    (hrec : ∀ s top, cs.length ≤ top → csum cs u (s + top) cs.length % m = u (s + top) % m) (R : Ending → World → Prop)
    (hR : ∀ v' P w', Sl .i64 w' v' P → P.length = cs.length → (∀ x ∈ P, x < m) → Rp m u cs.length P N → Below w.heap.size w w' → R (.returned v') w') :
    Calls Tryz.prog 85 #[.int .i64 ((N : Nat) : Int), vc, .int .i64 ((m : Nat) : Int)] w R := by
  have HR := Lib.hid hR; clear hR
  have hcs0 := hcs
  obtain ⟨ac, cc, rfl, hcc2, hcc⟩ := hcs
  obtain ⟨k, hk⟩ : ∃ k, k = cs.length := ⟨_, rfl⟩
  rw [← hk] at h0 hk9 HR hcc hcs0 hcc2 ⊢
  have HREC := Lib.hid hrec
  have HCS := Lib.hid hcs0
  have HK := Lib.hid hk
  have HC := Lib.hid hC
  obtain ⟨b0, o0, rfl, hb0, hc0⟩ := hcc 0 h0
  have HC0 := Lib.hid (And.intro hb0 hc0)
  have hk0 : (0 : Int) < (k : Int) := by omega
  clear hcc hcs0 hk hrec hC hb0 hc0 hcc2
  go_enter Tryz.func85, Tryz.ntmps85
  go_wp2_with (at_make; go_must (refine wpList_makez _ rfl (.tmp 12) 32 rfl 2 .i64 8 Tryz.underlying32 info_i64 (by omega) .i64 (k : Int) k rfl rfl (by omega) ?_))
  intro w1 harr1 hb1 hs1
  obtain ⟨g, hg⟩ : ∃ g, g = w.heap.size := ⟨_, rfl⟩
  rw [← hg] at harr1 hb1 hs1
  have hcl := harr1.cell 0 (by simp; exact h0)
  have hfl := harr1.frozen 0
  have hA1 := harr1.setz 0 1 1 rfl
  obtain ⟨V, hV⟩ : ∃ V, V = w1.setCell ⟨g, 0, none⟩ (.int .i64 1) := ⟨_, rfl⟩
  rw [← hV] at hA1
  have HBV : Hid (Below w.heap.size w V) := Lib.hid (by rw [hV, ← hg]; exact hb1.setCell (Nat.le_refl _) _)
  have HVS : Hid (V.heap.size = g + 1) := Lib.hid (by rw [hV]; simp [World.setCell]; exact hs1)
  have HA1 := Lib.hid hA1
  have HV := Lib.hid hV
  have HGW := Lib.hid hg
  clear harr1 hb1 hA1 hV
  rw [← hg]
  clear hg
  go_wp2_with (at_make; go_must (refine wpList_makez _ rfl (.tmp 16) 32 rfl 2 .i64 8 Tryz.underlying32 info_i64 (by omega) .i64 (k : Int) k rfl rfl (by omega) ?_))
  rw [← HV.out]
  intro w2 harr2 hb2 hs2
  have HB2 := Lib.hid (HBV.out.trans (hb2.mono (by have := HGW.out; omega)))
  have HAG := Lib.hid (HA1.out.later hb2 (Nat.lt_succ_self g))
  have HST : Hid (∀ (wr : World) (P X : List Nat), (∃ e1, Rp m u k X e1 ∧ e1 = 1) → Arr .i64 2 wr (g + 1) X → X.length = k → (∀ x ∈ X, x < m) → Below (g + 1) w2 wr → RaiR w m k N u (.int .i64 (N : Int)) (.slice (some ⟨g, 0, none⟩) k k) (.slice (some ⟨g + 1, 0, none⟩) k k) wr) := Lib.hid (by
    rintro wr _ X ⟨e1, hx, rfl⟩ ha hlx hxm hbw
    have hg2 : g < g + 1 := Nat.lt_succ_self g
    have hga := HAG.out.later hbw hg2
    have hu := unit_getD k 0 h0
    exact ⟨N, 0, 1, (List.replicate k 0).set 0 1, X, rfl, hga.sl k k (by simp) (Nat.le_refl _), ha.sl k k hlx.symm (Nat.le_refl _), by simp, hlx, fun x hx => by
      rcases List.mem_or_eq_of_mem_set hx with hx | hx
      · rw [(List.mem_replicate.1 hx).2]; omega
      · rw [hx]; omega, hxm, rp_one m u k _ 0 h0 hu.1 hu.2, hx, by omega, Nat.le_refl _, HB2.out.trans (hbw.mono (by have := HGW.out; omega))⟩)
  have HLOOP : Hid True := Lib.hid trivial
  obtain ⟨G, hG⟩ : ∃ G, G = g + 1 := ⟨_, rfl⟩
  rw [← hG] at harr2 hb2 hs2 HST ⊢
  have HA2 := Lib.hid harr2
  have HHB2 := Lib.hid hb2
  clear hG hcl hfl hb2 hs2 hs1
  by_cases hk1 : k = 1
  · subst hk1
    have hcl := harr2.cell 0 (by simp)
    have hfl := harr2.frozen 0
    obtain ⟨c, hcc⟩ : ∃ c, c = cs.getD 0 0 := ⟨_, rfl⟩
    have hc1 : w2.cell? ⟨b0, o0, none⟩ = some (.int .i64 ((c : Nat) : Int)) := by
      rw [HB2.out.cell (p := ⟨b0, o0, none⟩) HC0.out.1, hcc]; exact HC0.out.2
    have hcm : c < m := by rw [hcc]; exact getD_lt_of (by omega) HC.out _
    have HS2 := Lib.hid (HST.out (w2.setCell ⟨G, 0, none⟩ (.int .i64 ((c : Nat) : Int))) [] ((List.replicate 1 0).set 0 c) ⟨1, by
      intro s
      have := HREC.out s 1 (by rw [← HK.out]; exact Nat.le_refl _)
      rw [← HK.out, csum, csum, Nat.zero_add, ← hcc] at this
      show (0 + (List.set (List.replicate 1 0) 0 c).getD 0 0 * u (s + 0)) % m = _
      rw [Nat.zero_add]
      exact this, rfl⟩ (HA2.out.set 0 c) (by simp) (fun x hx => by
        rcases List.mem_or_eq_of_mem_set hx with hx | hx
        · rw [(List.mem_replicate.1 hx).2]; omega
        · rw [hx]; exact hcm) (by
        exact (Below.refl G w2).setCell (Nat.le_refl _) _))
    clear hcc harr2 hcm HST
    go_wp2
    clear hcl hfl hc1
    go_loopw [0, 8, 9] (fun nv ov xv wr => RaiR w m 1 N u nv ov xv wr) (fun nv _ _ _ => (intOf nv).toNat)
    case atStart => exact HS2.out
    case round =>
      clear HS2
      obtain ⟨nn, e0, e1, P, X, rfl, hP, hX, hPl, hXl, hPm, hXm, rP, rX, hsum, hnn, hbel⟩ := hrel
      have HB := Lib.hid hbel
      have HF := Lib.hid (And.intro hPl (And.intro hXl (And.intro hPm (And.intro hXm (And.intro rP rX)))))
      obtain ⟨aP, cP, rfl, hcP, hPc⟩ := hP
      obtain ⟨aX, cX, rfl, hcX, hXc⟩ := hX
      have HPP := Lib.hid (show Sl .i64 wr (.slice aP P.length cP) P from ⟨aP, cP, rfl, hcP, hPc⟩)
      have HXX := Lib.hid (show Sl .i64 wr (.slice aX X.length cX) X from ⟨aX, cX, rfl, hcX, hXc⟩)
      rw [hPl] at HPP ⊢
      rw [hXl] at HXX ⊢
      have HCW := Lib.hid (HCS.out.later HB.out (Nat.le_refl _))
      have HSUM := Lib.hid (And.intro hsum hnn)
      by_cases hn0 : nn = 0
      · subst hn0
        have HFIN := Lib.hid (HR.out _ P wr HPP.out hPl hPm (by rw [← show e0 = N by omega]; exact rP) hbel)
        clear hPl hXl hPm hXm rP rX hbel hcP hPc hcX hXc hsum hnn
        go_wp2
        first | go_ret | skip
        exact HFIN.out
      · obtain ⟨q, hq⟩ : ∃ q, q = nn / 2 := ⟨_, rfl⟩
        have hd1 : (nn : Int) / 2 = (q : Int) := by rw [hq]; omega
        have hd2 : Int.tdiv (nn : Int) 2 = (q : Int) := by rw [Int.tdiv_eq_ediv_of_nonneg (by omega)]; exact hd1
        have hwq : IntKind.i64.wrap (q : Int) = (q : Int) := IntWalk.i64_in _ (by omega)
        have hn1 : (0 : Int) < (nn : Int) := by omega
        have HQ := Lib.hid (And.intro hq (show nn ≠ 0 from hn0))
        clear hPl hXl hPm hXm rP rX hbel hcP hPc hcX hXc hsum hnn hn0
        by_cases hr : nn % 2 = 1
        · have hm1 : (nn : Int) % 2 = 1 := by omega
          have hm2' : Int.tmod (nn : Int) 2 = 1 := by rw [Int.tmod_eq_emod_of_nonneg (by omega)]; exact hm1
          have HODD := Lib.hid hr
          clear hr hq
          go_wp2_with fail
          refine stimes_any m _ _ _ P X cs _ u HPP.out HXX.out HCW.out (HF.out.1.trans HK.out) (HF.out.2.1.trans HK.out) HF.out.2.2.1 HF.out.2.2.2.1 HC.out hm hm2 (by rw [← HK.out]; omega) HREC.out _ ?_
          rw [← HK.out]
          intro vt P2 wt hp2 hl2 hm3 hr2 hbt
          obtain ⟨aP2, cP2, rfl, hcP2, hP2c⟩ := hp2
          have HPP2 := Lib.hid (show Sl .i64 wt (.slice aP2 P2.length cP2) P2 from ⟨aP2, cP2, rfl, hcP2, hP2c⟩)
          rw [hl2] at HPP2 ⊢
          have HF2 := Lib.hid (And.intro hl2 (And.intro hm3 hr2))
          have HBT := Lib.hid (HB.out.trans (hbt.mono HB.out.size))
          have HXT := Lib.hid (HXX.out.later hbt (Nat.le_refl _))
          have HCT := Lib.hid (HCW.out.later hbt (Nat.le_refl _))
          clear hl2 hm3 hr2 hbt hcP2 hP2c
          dsimp only
          go_wp2_with fail
          refine stimes_any m _ _ _ X X cs _ u HXT.out HXT.out HCT.out (HF.out.2.1.trans HK.out) (HF.out.2.1.trans HK.out) HF.out.2.2.2.1 HF.out.2.2.2.1 HC.out hm hm2 (by rw [← HK.out]; omega) HREC.out _ ?_
          rw [← HK.out]
          intro vy X2 wy hx2 hlx2 hmx3 hrx2 hby
          obtain ⟨aX2, cX2, rfl, hcX2, hX2c⟩ := hx2
          have HXX2 := Lib.hid (show Sl .i64 wy (.slice aX2 X2.length cX2) X2 from ⟨aX2, cX2, rfl, hcX2, hX2c⟩)
          rw [hlx2] at HXX2 ⊢
          have HNX : Hid (RaiR w m 1 N u (.int .i64 (q : Int)) (.slice aP2 1 cP2) (.slice aX2 1 cX2) wy) := Lib.hid ⟨q, e0 + e1, e1 + e1, P2, X2, rfl, HPP2.out.later hby (Nat.le_refl _), HXX2.out, HF2.out.1, hlx2, HF2.out.2.1, hmx3, fun s => by
            rw [HF2.out.2.2 s]; have := rp_prod (k := 1) HF.out.2.2.2.2.1 HF.out.2.2.2.2.2 s 0; rw [Nat.add_zero, Nat.add_zero] at this; exact this, fun s => by
            rw [hrx2 s]; have := rp_prod (k := 1) HF.out.2.2.2.2.2 HF.out.2.2.2.2.2 s 0; rw [Nat.add_zero, Nat.add_zero] at this; exact this, by
            have h1 := HSUM.out.1; have h2 : nn = 2 * q + 1 := by have := HQ.out.1; have := HODD.out; omega
            rw [h2, Nat.mul_add, Nat.mul_one] at h1; rw [← h1, Nat.add_mul, Nat.mul_left_comm]; omega, by have := HSUM.out.2; have := HQ.out.1; omega, HBT.out.trans (hby.mono HBT.out.size)⟩
          clear hlx2 hmx3 hrx2 hby hcX2 hX2c
          dsimp only
          go_wp2
          go_roundw
          case rel => exact HNX.out
          case measure => simp [intOf]; have := HQ.out; omega
        · have hm1 : (nn : Int) % 2 = 0 := by omega
          have hm2' : Int.tmod (nn : Int) 2 = 0 := by rw [Int.tmod_eq_emod_of_nonneg (by omega)]; exact hm1
          have HEVEN := Lib.hid hr
          clear hr hq
          go_wp2_with fail
          refine stimes_any m _ _ _ X X cs _ u HXX.out HXX.out HCW.out (HF.out.2.1.trans HK.out) (HF.out.2.1.trans HK.out) HF.out.2.2.2.1 HF.out.2.2.2.1 HC.out hm hm2 (by rw [← HK.out]; omega) HREC.out _ ?_
          rw [← HK.out]
          intro vy X2 wy hx2 hlx2 hmx3 hrx2 hby
          obtain ⟨aX2, cX2, rfl, hcX2, hX2c⟩ := hx2
          have HXX2 := Lib.hid (show Sl .i64 wy (.slice aX2 X2.length cX2) X2 from ⟨aX2, cX2, rfl, hcX2, hX2c⟩)
          rw [hlx2] at HXX2 ⊢
          have HNX : Hid (RaiR w m 1 N u (.int .i64 (q : Int)) (.slice aP 1 cP) (.slice aX2 1 cX2) wy) := Lib.hid ⟨q, e0, e1 + e1, P, X2, rfl, HPP.out.later hby (Nat.le_refl _), HXX2.out, HF.out.1, hlx2, HF.out.2.2.1, hmx3, HF.out.2.2.2.2.1, fun s => by
            rw [hrx2 s]; have := rp_prod (k := 1) HF.out.2.2.2.2.2 HF.out.2.2.2.2.2 s 0; rw [Nat.add_zero, Nat.add_zero] at this; exact this, by
            have h1 := HSUM.out.1; have h2 : nn = 2 * q := by have := HQ.out.1; have := HEVEN.out; omega
            rw [h2] at h1; rw [← h1, Nat.add_mul, Nat.mul_left_comm]; omega, by have := HSUM.out.2; have := HQ.out.1; omega, HB.out.trans (hby.mono HB.out.size)⟩
          clear hlx2 hmx3 hrx2 hby hcX2 hX2c
          dsimp only
          go_wp2
          go_roundw
          case rel => exact HNX.out
          case measure => simp [intOf]; have := HQ.out; omega
  · have hcl := harr2.cell 1 (by simp; omega)
    have hfl := harr2.frozen 1
    have hk2 : ¬ (k : Int) = 1 := by omega
    have hk3 : ((k : Int) == 1) = false := by rw [beq_eq_false_iff_ne]; exact hk2
    have hk4 : (1 : Int) < (k : Int) := by omega
    have hu := unit_getD k 1 (by omega)
    have HS2 := Lib.hid (HST.out (w2.setCell ⟨G, 1, none⟩ (.int .i64 1)) [] ((List.replicate k 0).set 1 1) ⟨1, rp_one m u k _ 1 (by omega) hu.1 hu.2, rfl⟩ (HA2.out.setz 1 1 1 rfl) (by simp) (fun x hx => by
        rcases List.mem_or_eq_of_mem_set hx with hx | hx
        · rw [(List.mem_replicate.1 hx).2]; omega
        · rw [hx]; omega) (by
        exact (Below.refl G w2).setCell (Nat.le_refl _) _))
    clear harr2 HST hu
    go_wp2
    clear hcl hfl hk2 hk3 hk4
    go_loopw [0, 8, 9] (fun nv ov xv wr => RaiR w m k N u nv ov xv wr) (fun nv _ _ _ => (intOf nv).toNat)
    case atStart => exact HS2.out
    case round =>
      clear HS2
      obtain ⟨nn, e0, e1, P, X, rfl, hP, hX, hPl, hXl, hPm, hXm, rP, rX, hsum, hnn, hbel⟩ := hrel
      have HB := Lib.hid hbel
      have HF := Lib.hid (And.intro hPl (And.intro hXl (And.intro hPm (And.intro hXm (And.intro rP rX)))))
      obtain ⟨aP, cP, rfl, hcP, hPc⟩ := hP
      obtain ⟨aX, cX, rfl, hcX, hXc⟩ := hX
      have HPP := Lib.hid (show Sl .i64 wr (.slice aP P.length cP) P from ⟨aP, cP, rfl, hcP, hPc⟩)
      have HXX := Lib.hid (show Sl .i64 wr (.slice aX X.length cX) X from ⟨aX, cX, rfl, hcX, hXc⟩)
      rw [hPl] at HPP ⊢
      rw [hXl] at HXX ⊢
      have HCW := Lib.hid (HCS.out.later HB.out (Nat.le_refl _))
      have HSUM := Lib.hid (And.intro hsum hnn)
      by_cases hn0 : nn = 0
      · subst hn0
        have HFIN := Lib.hid (HR.out _ P wr HPP.out hPl hPm (by rw [← show e0 = N by omega]; exact rP) hbel)
        clear hPl hXl hPm hXm rP rX hbel hcP hPc hcX hXc hsum hnn
        go_wp2
        first | go_ret | skip
        exact HFIN.out
      · obtain ⟨q, hq⟩ : ∃ q, q = nn / 2 := ⟨_, rfl⟩
        have hd1 : (nn : Int) / 2 = (q : Int) := by rw [hq]; omega
        have hd2 : Int.tdiv (nn : Int) 2 = (q : Int) := by rw [Int.tdiv_eq_ediv_of_nonneg (by omega)]; exact hd1
        have hwq : IntKind.i64.wrap (q : Int) = (q : Int) := IntWalk.i64_in _ (by omega)
        have hn1 : (0 : Int) < (nn : Int) := by omega
        have HQ := Lib.hid (And.intro hq (show nn ≠ 0 from hn0))
        clear hPl hXl hPm hXm rP rX hbel hcP hPc hcX hXc hsum hnn hn0
        by_cases hr : nn % 2 = 1
        · have hm1 : (nn : Int) % 2 = 1 := by omega
          have hm2' : Int.tmod (nn : Int) 2 = 1 := by rw [Int.tmod_eq_emod_of_nonneg (by omega)]; exact hm1
          have HODD := Lib.hid hr
          clear hr hq
          go_wp2_with fail
          refine stimes_any m _ _ _ P X cs _ u HPP.out HXX.out HCW.out (HF.out.1.trans HK.out) (HF.out.2.1.trans HK.out) HF.out.2.2.1 HF.out.2.2.2.1 HC.out hm hm2 (by rw [← HK.out]; omega) HREC.out _ ?_
          rw [← HK.out]
          intro vt P2 wt hp2 hl2 hm3 hr2 hbt
          obtain ⟨aP2, cP2, rfl, hcP2, hP2c⟩ := hp2
          have HPP2 := Lib.hid (show Sl .i64 wt (.slice aP2 P2.length cP2) P2 from ⟨aP2, cP2, rfl, hcP2, hP2c⟩)
          rw [hl2] at HPP2 ⊢
          have HF2 := Lib.hid (And.intro hl2 (And.intro hm3 hr2))
          have HBT := Lib.hid (HB.out.trans (hbt.mono HB.out.size))
          have HXT := Lib.hid (HXX.out.later hbt (Nat.le_refl _))
          have HCT := Lib.hid (HCW.out.later hbt (Nat.le_refl _))
          clear hl2 hm3 hr2 hbt hcP2 hP2c
          dsimp only
          go_wp2_with fail
          refine stimes_any m _ _ _ X X cs _ u HXT.out HXT.out HCT.out (HF.out.2.1.trans HK.out) (HF.out.2.1.trans HK.out) HF.out.2.2.2.1 HF.out.2.2.2.1 HC.out hm hm2 (by rw [← HK.out]; omega) HREC.out _ ?_
          rw [← HK.out]
          intro vy X2 wy hx2 hlx2 hmx3 hrx2 hby
          obtain ⟨aX2, cX2, rfl, hcX2, hX2c⟩ := hx2
          have HXX2 := Lib.hid (show Sl .i64 wy (.slice aX2 X2.length cX2) X2 from ⟨aX2, cX2, rfl, hcX2, hX2c⟩)
          rw [hlx2] at HXX2 ⊢
          have HNX : Hid (RaiR w m k N u (.int .i64 (q : Int)) (.slice aP2 k cP2) (.slice aX2 k cX2) wy) := Lib.hid ⟨q, e0 + e1, e1 + e1, P2, X2, rfl, HPP2.out.later hby (Nat.le_refl _), HXX2.out, HF2.out.1, hlx2, HF2.out.2.1, hmx3, fun s => by
            rw [HF2.out.2.2 s]; have := rp_prod (k := k) HF.out.2.2.2.2.1 HF.out.2.2.2.2.2 s 0; rw [Nat.add_zero, Nat.add_zero] at this; exact this, fun s => by
            rw [hrx2 s]; have := rp_prod (k := k) HF.out.2.2.2.2.2 HF.out.2.2.2.2.2 s 0; rw [Nat.add_zero, Nat.add_zero] at this; exact this, by
            have h1 := HSUM.out.1; have h2 : nn = 2 * q + 1 := by have := HQ.out.1; have := HODD.out; omega
            rw [h2, Nat.mul_add, Nat.mul_one] at h1; rw [← h1, Nat.add_mul, Nat.mul_left_comm]; omega, by have := HSUM.out.2; have := HQ.out.1; omega, HBT.out.trans (hby.mono HBT.out.size)⟩
          clear hlx2 hmx3 hrx2 hby hcX2 hX2c
          dsimp only
          go_wp2
          go_roundw
          case rel => exact HNX.out
          case measure => simp [intOf]; have := HQ.out; omega
        · have hm1 : (nn : Int) % 2 = 0 := by omega
          have hm2' : Int.tmod (nn : Int) 2 = 0 := by rw [Int.tmod_eq_emod_of_nonneg (by omega)]; exact hm1
          have HEVEN := Lib.hid hr
          clear hr hq
          go_wp2_with fail
          refine stimes_any m _ _ _ X X cs _ u HXX.out HXX.out HCW.out (HF.out.2.1.trans HK.out) (HF.out.2.1.trans HK.out) HF.out.2.2.2.1 HF.out.2.2.2.1 HC.out hm hm2 (by rw [← HK.out]; omega) HREC.out _ ?_
          rw [← HK.out]
          intro vy X2 wy hx2 hlx2 hmx3 hrx2 hby
          obtain ⟨aX2, cX2, rfl, hcX2, hX2c⟩ := hx2
          have HXX2 := Lib.hid (show Sl .i64 wy (.slice aX2 X2.length cX2) X2 from ⟨aX2, cX2, rfl, hcX2, hX2c⟩)
          rw [hlx2] at HXX2 ⊢
          have HNX : Hid (RaiR w m k N u (.int .i64 (q : Int)) (.slice aP k cP) (.slice aX2 k cX2) wy) := Lib.hid ⟨q, e0, e1 + e1, P, X2, rfl, HPP.out.later hby (Nat.le_refl _), HXX2.out, HF.out.1, hlx2, HF.out.2.2.1, hmx3, HF.out.2.2.2.2.1, fun s => by
            rw [hrx2 s]; have := rp_prod (k := k) HF.out.2.2.2.2.2 HF.out.2.2.2.2.2 s 0; rw [Nat.add_zero, Nat.add_zero] at this; exact this, by
            have h1 := HSUM.out.1; have h2 : nn = 2 * q := by have := HQ.out.1; have := HEVEN.out; omega
            rw [h2] at h1; rw [← h1, Nat.add_mul, Nat.mul_left_comm]; omega, by have := HSUM.out.2; have := HQ.out.1; omega, HB.out.trans (hby.mono HB.out.size)⟩
          clear hlx2 hmx3 hrx2 hby hcX2 hX2c
          dsimp only
          go_wp2
          go_roundw
          case rel => exact HNX.out
          case measure => simp [intOf]; have := HQ.out; omega
end Go.Proofs.YtnfehccicnpbpaaGreatDoor

namespace Go.Proofs.YtnfehccicnpbpaaGreatDoor
open Go Go.RowKit

/-- the residues of terms from an index on -/
def tmf (m : Nat) (cs ss : List Nat) (N c : Nat) : List Nat := (List.range c).map fun i => trm m cs ss (N + i)
theorem tmf_len (m : Nat) (cs ss : List Nat) (N c : Nat) : (tmf m cs ss N c).length = c := by simp [tmf]
theorem tmf_succ (m : Nat) (cs ss : List Nat) (N c : Nat) : tmf m cs ss N (c + 1) = tmf m cs ss N c ++ [trm m cs ss (N + c)] := by simp [tmf, List.range_succ]
theorem mid_set (A B : List Nat) (x y : Nat) {i : Nat} (h : i = A.length) : (A ++ x :: B).set i y = A ++ y :: B := by
  rw [List.set_append_right _ _ (by omega), show i - A.length = 0 by omega, List.set_cons_zero]
theorem mid_get (A B : List Nat) (x : Nat) {i : Nat} (h : i = A.length) : (A ++ x :: B).getD i 0 = x := by
  rw [List.getD_eq_getElem?_getD, List.getElem?_append_right (by omega), show i - A.length = 0 by omega]; rfl

def TfA (w : World) (g N m c : Nat) (cs ss : List Nat) (iv : Value) (wr : World) : Prop :=
  ∃ i : Nat, iv = .int .i64 (i : Int) ∧ i ≤ c ∧ Arr .u64 61 wr g (tmf m cs ss N i ++ List.replicate (c - i) 0) ∧ Below g w wr
def TfB (w : World) (g N m c i k : Nat) (P cs ss : List Nat) (jv : Value) (wr : World) : Prop :=
  ∃ j : Nat, jv = .int .i64 (j : Int) ∧ j ≤ k ∧ Arr .u64 61 wr g (tmf m cs ss N i ++ (lin P (trm m cs ss) i j % m) :: List.replicate (c - (i + 1)) 0) ∧ Below g w wr

set_option maxRecDepth 100000 in
set_option maxHeartbeats 8000000 in
theorem termsFrom_any (m N c : Nat) (vs vc : Value) (cs ss : List Nat) (w : World) (hs : At w vs ss) (hc : At w vc cs) (hl : ss.length = cs.length) (h8 : cs.length ≤ 10) (hm : 2 ≤ m) (hm2 : m ≤ 1000000)
    (hC : ∀ x ∈ cs, x < m) (hS : ∀ x ∈ ss, x < m) (hc9 : c ≤ 1000) (hN : N < 18446744073709551616) (R : Ending → World → Prop)
    (hR : ∀ g w', Arr .u64 61 w' g (tmf m cs ss N c) → w.heap.size ≤ g → Below w.heap.size w w' → R (.returned (.slice (some ⟨g, 0, none⟩) c c)) w') :
    Calls Tryz.prog 60 #[.agg #[.int .u64 ((m : Nat) : Int), vs, vc], .int .u64 ((N : Nat) : Int), .int .i64 ((c : Nat) : Int)] w R := by
  have HR := Lib.hid hR; clear hR
  obtain ⟨b1, o1, c1, rfl, hs'⟩ := hs.op
  obtain ⟨b2, o2, c2, rfl, hc'⟩ := hc.op
  obtain ⟨L, hL⟩ : ∃ L, L = w.alloc (.cells #[.int .u64 ((m : Nat) : Int), .slice (some ⟨b1, o1, none⟩) ss.length c1, .slice (some ⟨b2, o2, none⟩) cs.length c2] 65) := ⟨_, rfl⟩
  have HBL : Hid (Below w.heap.size w L) := Lib.hid (by rw [hL]; exact (Below.refl _ _).alloc (Nat.le_refl _) _)
  have HBX : Hid (Box3 L w.heap.size (.int .u64 ((m : Nat) : Int)) (.slice (some ⟨b1, o1, none⟩) ss.length c1) (.slice (some ⟨b2, o2, none⟩) cs.length c2) 65) := Lib.hid (by rw [hL]; exact Box3.made _ _ _ _ _)
  have HL := Lib.hid hL
  have HS := Lib.hid (hs'.later HBL.out (Nat.le_refl _))
  have HC := Lib.hid (hc'.later HBL.out (Nat.le_refl _))
  have HLL := Lib.hid (And.intro hl (And.intro h8 (And.intro hm (And.intro hm2 (And.intro hC hS)))))
  have HCN := Lib.hid (And.intro hc9 hN)
  have HTL := Lib.hid (fun j => trm_lt (cs := cs) (ss := ss) (show 0 < m by omega) hS j)
  obtain ⟨⟨hB0, hB1, hB2⟩, _, _, _⟩ := HBX.out.cells
  rw [hL] at hB0 hB1 hB2
  obtain ⟨n1, hn1⟩ : ∃ n1, n1 = ss.length := ⟨_, rfl⟩
  obtain ⟨k, hk⟩ : ∃ k, k = cs.length := ⟨_, rfl⟩
  rw [← hn1, ← hk] at hB0 hB1 hB2 HL HBX ⊢
  rw [← hn1] at HS
  rw [← hk] at HC h8
  have HK := Lib.hid hk
  clear hs hs' hc hc' hL hn1 hk hl hC hS hN
  go_enter Tryz.func60, Tryz.ntmps60
  go_wp2_with fail
  rw [← HL.out]
  refine power_any m N _ _ cs _ (trm m cs ss) ⟨_, _, _, rfl⟩ HC.out.sl HLL.out.2.2.2.2.1 hm hm2 (by rw [← HK.out]; omega) HCN.out.2 (rec_all HLL.out.1) _ ?_
  rw [← HK.out]
  intro vp P w2 hp hpl hpm hrp hb2
  obtain ⟨aP, cP, rfl, hcP, hPc⟩ := hp
  rw [hpl] at hPc ⊢
  have HPC := Lib.hid hPc
  have HP := Lib.hid (And.intro hpl (And.intro hpm hrp))
  have HB2 := Lib.hid hb2
  have hbx := HBX.out.later hb2 (lt_of_block HBX.out)
  clear hpl hpm hrp hb2 hcP hPc hB0 hB1 hB2
  obtain ⟨⟨hB0, hB1, hB2⟩, _, _, _⟩ := hbx.cells
  have hwk : IntKind.i64.wrap ((k : Int) + (c : Int)) = ((k + c : Nat) : Int) := by rw [IntWalk.i64_in _ (by omega)]; omega
  clear hbx
  dsimp only
  go_wp2_with fail
  refine rterms_any m (k + c) _ _ cs ss _ (HS.out.later HB2.out (Nat.le_refl _)) (HC.out.later HB2.out (Nat.le_refl _)) HLL.out.1 HLL.out.2.1 hm hm2 HLL.out.2.2.2.2.1 HLL.out.2.2.2.2.2 (by omega) _ ?_
  intro gf w3 hA3 hgf hb3
  have HA3 := Lib.hid hA3
  have HB3 := Lib.hid (HB2.out.trans (hb3.mono HB2.out.size))
  have HB23 := Lib.hid hb3
  have hbx := HBX.out.later HB3.out (lt_of_block HBX.out)
  clear hA3 hb3 hgf hB0 hB1 hB2 hwk
  obtain ⟨⟨hB0, hB1, hB2⟩, _, _, _⟩ := hbx.cells
  clear hbx
  dsimp only
  go_wp2_with (at_make; go_must (refine wpList_makez _ rfl (.tmp 22) 63 rfl 61 .u64 8 Tryz.underlying63 info_u64' (by omega) .i64 (c : Int) c rfl rfl (by omega) ?_))
  intro w4 hA4 hb4 hs4
  obtain ⟨g, hg⟩ : ∃ g, g = w3.heap.size := ⟨_, rfl⟩
  rw [← hg] at hA4 hb4 hs4 ⊢
  have HG := Lib.hid hg
  have HST : Hid (TfA w3 g N m c cs ss (.int .i64 0) w4) := Lib.hid ⟨0, rfl, Nat.zero_le _, by simpa [tmf] using hA4, hb4⟩
  have HLT := Lib.hid (show w.heap.size < w3.heap.size ∧ L.heap.size ≤ w3.heap.size ∧ gf < w3.heap.size from ⟨Nat.lt_of_lt_of_le (lt_of_block HBX.out) HB3.out.size, HB3.out.size, HA3.out.lt⟩)
  clear hA4 hb4 hs4 hg hB0 hB1 hB2
  go_wp2
  go_loopw [26] (fun i wr => TfA w3 g N m c cs ss i wr) (fun i _ => c - (intOf i).toNat)
  case atStart => exact HST.out
  case round =>
    clear HST
    obtain ⟨i, rfl, hi, hA, hbel⟩ := hrel
    have HA := Lib.hid hA
    have HB := Lib.hid hbel
    by_cases hic : i = c
    · subst hic
      have HF := Lib.hid (HR.out g wr (by rw [Nat.sub_self, List.replicate_zero, List.append_nil] at hA; exact hA) (by rw [HG.out]; have := HLT.out.1; omega) ((HBL.out.trans (HB3.out.mono HBL.out.size)).trans (by rw [HG.out] at hbel; exact hbel.mono (by have := HLT.out.1; omega))))
      have hii : ¬ ((i : Int) < (i : Int)) := by omega
      clear hi hA hbel
      go_wp2
      first | go_ret | skip
      exact HF.out
    · have hil : i < c := by omega
      have hi1 : (i : Int) < (c : Int) := by omega
      have hi0 : (0 : Int) ≤ (i : Int) := by omega
      have hw3 : IntKind.i64.wrap ((i : Int) + 1) = ((i + 1 : Nat) : Int) := by rw [IntWalk.i64_in _ (by omega)]; omega
      have HST2 : Hid (TfB w3 g N m c i k P cs ss (.int .i64 0) wr) := Lib.hid ⟨0, rfl, Nat.zero_le _, by
        rw [lin, Nat.zero_mod]
        have e : c - i = (c - (i + 1)) + 1 := by omega
        rw [e, List.replicate_succ] at hA
        exact hA, hbel⟩
      clear hi hA hbel hic
      go_wp2
      go_loopw [31] (fun j wq => TfB w3 g N m c i k P cs ss j wq) (fun j _ => k - (intOf j).toNat)
      case atStart => exact HST2.out
      case round =>
        clear HST2
        obtain ⟨j, rfl, hjk, hA, hbel⟩ := hrel
        by_cases hj : j = k
        · subst hj
          have hii : ¬ ((j : Int) < (j : Int)) := by omega
          have HNX : Hid (TfA w3 g N m c cs ss (.int .i64 ((i + 1 : Nat) : Int)) wr) := Lib.hid ⟨i + 1, rfl, hil, by
            rw [HP.out.2.2 i, Nat.mod_eq_of_lt (HTL.out _)] at hA
            rw [tmf_succ, List.append_assoc, Nat.add_comm N i]
            exact hA, hbel⟩
          clear hA hbel hjk
          go_wp2
          go_roundw
          case rel => exact HNX.out
          case measure => simp [intOf]; omega
        · have hjl : j < k := by omega
          obtain ⟨b, off, rfl, hb, hcp⟩ := HPC.out j hjl
          have hbw : Below w3.heap.size w3 wr := by rw [← HG.out]; exact hbel
          have hb2w : Below w2.heap.size w2 wr := HB23.out.trans (hbw.mono HB23.out.size)
          obtain ⟨x, hx⟩ : ∃ x, x = P.getD j 0 := ⟨_, rfl⟩
          have hxm : x < m := by rw [hx]; exact getD_lt_of (by omega) HP.out.2.1 _
          have hcx : wr.cell? ⟨b, off + j, none⟩ = some (.int .u64 ((x : Nat) : Int)) := by
            rw [hb2w.cell (p := ⟨b, off + j, none⟩) hb, hx]; exact hcp
          obtain ⟨t, ht⟩ : ∃ t, t = i + j := ⟨_, rfl⟩
          obtain ⟨y, hy⟩ : ∃ y, y = trm m cs ss (i + j) := ⟨_, rfl⟩
          have hym : y < m := by rw [hy]; exact HTL.out _
          have hcy : wr.cell? ⟨gf, t, none⟩ = some (.int .u64 ((y : Nat) : Int)) := by
            rw [hbw.cell (p := ⟨gf, t, none⟩) HLT.out.2.2, HA3.out.cell t (by rw [trms_len]; omega), trms_at (by omega), hy, ht]
          obtain ⟨d, hd⟩ : ∃ d, d = lin P (trm m cs ss) i j % m := ⟨_, rfl⟩
          have hdm : d < m := by rw [hd]; exact Nat.mod_lt _ (by omega)
          have hq1 := hA.cell i (by rw [List.length_append, tmf_len, List.length_cons, List.length_replicate]; omega)
          rw [mid_get _ _ _ (by rw [tmf_len]), ← hd] at hq1
          have hq3 := hA.frozen i
          obtain ⟨p, hp⟩ : ∃ p, p = x * y % m := ⟨_, rfl⟩
          have hpm : p < m := by rw [hp]; exact Nat.mod_lt _ (by omega)
          obtain ⟨z, hz⟩ : ∃ z, z = (d + p) % m := ⟨_, rfl⟩
          have HPE := Lib.hid hp
          have HZE := Lib.hid hz
          have HNX : Hid (∀ M, TfB w3 g N m c i k P cs ss (.int .i64 ((j + 1 : Nat) : Int)) ((wr.drewN M).setCell ⟨g, i, none⟩ (.int .u64 ((z : Nat) : Int)))) := Lib.hid fun M =>
            ⟨j + 1, rfl, by omega, by
              have h9 := (hA.drewN M).set i z
              rw [mid_set _ _ _ _ (by rw [tmf_len])] at h9
              have e9 : z = lin P (trm m cs ss) i (j + 1) % m := by
                rw [hz, hd, hp, hx, hy, lin, Nat.add_mod _ (P.getD j 0 * trm m cs ss (i + j) % m) m, Nat.mod_mod, Nat.mod_mod, ← Nat.add_mod]
              rw [← e9]; exact h9, below_set_g hbel M _ _⟩
          have hw1 : IntKind.i64.wrap ((i : Int) + (j : Int)) = (t : Int) := by rw [IntWalk.i64_in _ (by omega)]; omega
          have hw4 : IntKind.i64.wrap ((j : Int) + 1) = ((j + 1 : Nat) : Int) := by rw [IntWalk.i64_in _ (by omega)]; omega
          have hj0 : (0 : Int) ≤ (j : Int) := by omega
          have hj1 : (j : Int) < (k : Int) := by omega
          have ht0 : (0 : Int) ≤ (t : Int) := by omega
          have ht1 : (t : Int) < ((k + c : Nat) : Int) := by omega
          have ht2 : (t : Int) < (k : Int) + (c : Int) := by omega
          have HMM := Lib.hid (show x < W64 ∧ y < W64 ∧ m < W64 by rw [W64_eq]; omega)
          have HMP := Lib.hid (And.intro hdm hpm)
          obtain ⟨⟨hB0, hB1, hB2⟩, _, _, _⟩ := ((HBX.out.later HB3.out (lt_of_block HBX.out)).later hbw HLT.out.1).cells
          clear hA hbel hbw hb2w hx hy hd hz hp hcp hb ht hjk hj hw3
          go_wp2_with fail
          go_region_law (first
            | (have hguard := HM1; (try go_simp); go_at_call 92; refine mplus_any m d p _ HMP.out.1 HMP.out.2 (by omega) _ ?_; rw [← HZE.out]; clear hguard; dsimp only)
            | ((try go_simp); go_at_call 93; refine mtimes_any m x y _ HMM.out.1 HMM.out.2.1 HMM.out.2.2 (by omega) _ ?_; rw [← HPE.out]; intro N1; have HM1 : Hid True := Lib.hid trivial; dsimp only))
          all_goals
            go_wp2
            go_roundw
            case rel => exact HNX.out _
            case measure => simp [intOf]; omega
end Go.Proofs.YtnfehccicnpbpaaGreatDoor

namespace Go.Proofs.YtnfehccicnpbpaaGreatDoor

/-- the last number that is not 0, and its factor -/
def egc : Nat → Nat → Nat → Int → Int → Nat × Int
  | 0, big, _, x, _ => (big, x)
  | f + 1, big, small, x, y => if small = 0 then (big, x) else egc f small (big % small) y (x - ((big / small : Nat) : Int) * y)

theorem egc_fuel : ∀ (f f' big small : Nat) (x y : Int), small ≤ f → small ≤ f' → egc f big small x y = egc f' big small x y := by
  intro f
  induction f with
  | zero =>
    intro f' big small x y h _
    have : small = 0 := by omega
    subst this
    cases f' <;> simp [egc]
  | succ f ih =>
    intro f' big small x y h h'
    by_cases h0 : small = 0
    · subst h0
      cases f' <;> simp [egc]
    · obtain ⟨g, rfl⟩ : ∃ g, f' = g + 1 := ⟨f' - 1, by omega⟩
      simp only [egc, h0, if_false]
      have := Nat.mod_lt big (Nat.pos_of_ne_zero h0)
      exact ih g _ _ _ _ (by omega) (by omega)

/-- the same, with enough steps -/
def eg (big small : Nat) (x y : Int) : Nat × Int := egc small big small x y
theorem eg_zero (big : Nat) (x y : Int) : eg big 0 x y = (big, x) := rfl
theorem eg_step {big small : Nat} (x y : Int) (h : 0 < small) : eg big small x y = eg small (big % small) y (x - ((big / small : Nat) : Int) * y) := by
  unfold eg
  obtain ⟨g, rfl⟩ : ∃ g, small = g + 1 := ⟨small - 1, by omega⟩
  rw [egc, if_neg (by omega)]
  have := Nat.mod_lt big h
  exact egc_fuel _ _ _ _ _ _ (by omega) (by omega)

/-- the signs alternate, and the numbers stay small -/
def EgB (m : Nat) (big small : Nat) (x y : Int) : Prop := small < big ∧ x.natAbs * small + y.natAbs * big = m ∧ (0 ≤ x ∧ y ≤ 0 ∨ x ≤ 0 ∧ 0 ≤ y)

theorem egb_start (m a : Nat) (h : a < m) : EgB m m a 0 1 := ⟨h, by simp, .inr ⟨Int.le_refl _, by omega⟩⟩

theorem natAbs_next {q : Nat} {x y : Int} (h : 0 ≤ x ∧ y ≤ 0 ∨ x ≤ 0 ∧ 0 ≤ y) : (x - (q : Int) * y).natAbs = x.natAbs + q * y.natAbs ∧ (0 ≤ y ∧ x - (q : Int) * y ≤ 0 ∨ y ≤ 0 ∧ 0 ≤ x - (q : Int) * y) := by
  rcases h with ⟨hx, hy⟩ | ⟨hx, hy⟩
  · have h1 : (q : Int) * y ≤ 0 := Int.mul_nonpos_of_nonneg_of_nonpos (by omega) hy
    have h2 : (((q * y.natAbs : Nat)) : Int) = -((q : Int) * y) := by
      rw [Int.natCast_mul, Int.ofNat_natAbs_of_nonpos hy, Int.mul_neg]
    exact ⟨by omega, .inr ⟨hy, by omega⟩⟩
  · have h1 : 0 ≤ (q : Int) * y := Int.mul_nonneg (by omega) hy
    have h2 : (((q * y.natAbs : Nat)) : Int) = (q : Int) * y := by
      rw [Int.natCast_mul, Int.natAbs_of_nonneg hy]
    exact ⟨by omega, .inl ⟨hy, by omega⟩⟩

theorem egb_step {m big small : Nat} {x y : Int} (h : EgB m big small x y) (h0 : 0 < small) : EgB m small (big % small) y (x - ((big / small : Nat) : Int) * y) := by
  obtain ⟨h1, h2, h3⟩ := h
  obtain ⟨n1, n2⟩ := natAbs_next (q := big / small) h3
  refine ⟨Nat.mod_lt _ h0, ?_, n2.elim .inl .inr⟩
  rw [n1, ← h2]
  have hd := Nat.div_add_mod big small
  have e : y.natAbs * big = y.natAbs * (small * (big / small)) + y.natAbs * (big % small) := by rw [← Nat.mul_add, hd]
  rw [e, Nat.add_mul]
  have : big / small * y.natAbs * small = y.natAbs * (small * (big / small)) := by
    rw [Nat.mul_comm (big / small), Nat.mul_assoc, Nat.mul_comm (big / small)]
  omega

theorem egb_bounds {m big small : Nat} {x y : Int} (h : EgB m big small x y) : y.natAbs ≤ m ∧ (0 < small → x.natAbs ≤ m) := by
  obtain ⟨h1, h2, _⟩ := h
  constructor
  · have : y.natAbs * 1 ≤ y.natAbs * big := Nat.mul_le_mul_left _ (by omega)
    omega
  · intro h0
    have : x.natAbs * 1 ≤ x.natAbs * small := Nat.mul_le_mul_left _ h0
    omega

/-- both factors, times the number, are the numbers modulo m -/
def EgC (m a : Nat) (big small : Nat) (x y : Int) : Prop := (m : Int) ∣ (big : Int) - x * a ∧ (m : Int) ∣ (small : Int) - y * a
theorem egc_start (m a : Nat) : EgC m a m a 0 1 := ⟨⟨1, by omega⟩, ⟨0, by omega⟩⟩
theorem egc_step {m a big small : Nat} {x y : Int} (h : EgC m a big small x y) : EgC m a small (big % small) y (x - ((big / small : Nat) : Int) * y) := by
  obtain ⟨⟨u, hu⟩, ⟨v, hv⟩⟩ := h
  refine ⟨⟨v, hv⟩, ⟨u - ((big / small : Nat) : Int) * v, ?_⟩⟩
  have hd := Nat.div_add_mod big small
  have hd' : ((big % small : Nat) : Int) = (big : Int) - (small : Int) * ((big / small : Nat) : Int) := by
    rw [← Int.natCast_mul]; omega
  rw [hd', Int.mul_sub, ← hu, Int.mul_left_comm, ← hv, Int.sub_mul, Int.mul_sub]
  have e1 : ((big / small : Nat) : Int) * y * (a : Int) = ((big / small : Nat) : Int) * (y * (a : Int)) := Int.mul_assoc _ _ _
  rw [e1, Int.mul_comm (small : Int)]
  omega

/-- what comes out at the end -/
theorem eg_end : ∀ (f m a big small : Nat) (x y : Int), small ≤ f → EgC m a big small x y → (eg big small x y).1 = Nat.gcd big small ∧ (m : Int) ∣ ((eg big small x y).1 : Int) - (eg big small x y).2 * a := by
  intro f
  induction f with
  | zero =>
    intro m a big small x y h hc
    have : small = 0 := by omega
    subst this
    rw [eg_zero, Nat.gcd_zero_right]
    exact ⟨rfl, hc.1⟩
  | succ f ih =>
    intro m a big small x y h hc
    by_cases h0 : small = 0
    · subst h0
      rw [eg_zero, Nat.gcd_zero_right]
      exact ⟨rfl, hc.1⟩
    · have hp : 0 < small := by omega
      rw [eg_step x y hp]
      have hm := Nat.mod_lt big hp
      obtain ⟨i1, i2⟩ := ih m a small (big % small) y _ (by omega) (egc_step hc)
      refine ⟨?_, i2⟩
      rw [i1, Nat.gcd_comm big small, Nat.gcd_rec small big, Nat.gcd_comm]

/-- the inverse modulo m; 0 if there is none -/
def invR (a m : Nat) : Nat := ((eg m a 0 1).2 % (m : Int)).toNat
def invB (a m : Nat) : Bool := decide ((eg m a 0 1).1 = 1)
theorem invR_lt {a m : Nat} (hm : 0 < m) : invR a m < m := by
  unfold invR
  have h1 := Int.emod_lt_of_pos (eg m a 0 1).2 (show (0 : Int) < (m : Int) by omega)
  have h2 := Int.emod_nonneg (eg m a 0 1).2 (show (m : Int) ≠ 0 by omega)
  omega
theorem invB_iff (a m : Nat) : invB a m = true ↔ Nat.gcd m a = 1 := by
  unfold invB
  rw [decide_eq_true_iff, (eg_end a m a m a 0 1 (Nat.le_refl _) (egc_start m a)).1]
/-- it is the inverse -/
theorem invR_mul {a m : Nat} (hm : 0 < m) (h : Nat.gcd m a = 1) : (m : Int) ∣ 1 - ((invR a m : Nat) : Int) * a := by
  obtain ⟨e1, k, hk⟩ := eg_end a m a m a 0 1 (Nat.le_refl _) (egc_start m a)
  rw [e1, h] at hk
  have h2 := Int.emod_nonneg (eg m a 0 1).2 (show (m : Int) ≠ 0 by omega)
  have e : ((invR a m : Nat) : Int) = (eg m a 0 1).2 % (m : Int) := by unfold invR; omega
  have hd := Int.emod_add_mul_ediv (eg m a 0 1).2 (m : Int)
  refine ⟨k + (eg m a 0 1).2 / (m : Int) * a, ?_⟩
  rw [e, Int.mul_add, ← hk]
  have e2 : (eg m a 0 1).2 % (m : Int) = (eg m a 0 1).2 - (m : Int) * ((eg m a 0 1).2 / (m : Int)) := by omega
  rw [e2, Int.sub_mul, Int.mul_assoc]
  omega

end Go.Proofs.YtnfehccicnpbpaaGreatDoor

namespace Go.Proofs.YtnfehccicnpbpaaGreatDoor
open Go Go.RowKit

theorem mod_next {m q : Nat} {x y : Int} (hm : 0 < m) (u v p : Nat) (hu : u = (x % (m : Int)).toNat) (hv : v = (y % (m : Int)).toNat) (hp : p = q * v % m) :
    (u + m - p) % m = ((x - (q : Int) * y) % (m : Int)).toNat := by
  have hpm : p < m := by rw [hp]; exact Nat.mod_lt _ hm
  have e1 := Int.emod_add_mul_ediv x (m : Int)
  have e2 := Int.emod_add_mul_ediv y (m : Int)
  have n1 := Int.emod_nonneg x (show (m : Int) ≠ 0 by omega)
  have n2 := Int.emod_nonneg y (show (m : Int) ≠ 0 by omega)
  have e3 := Nat.mod_add_div (q * v) m
  rw [← hp] at e3
  have e3' : (p : Int) + (m : Int) * ((q * v / m : Nat) : Int) = (q : Int) * (v : Int) := by rw [← Int.natCast_mul, ← Int.natCast_mul]; omega
  have hu' : (u : Int) = x % (m : Int) := by omega
  have hv' : (v : Int) = y % (m : Int) := by omega
  rw [← hu'] at e1
  rw [← hv'] at e2
  generalize ((q * v / m : Nat) : Int) = r at *
  generalize x / (m : Int) = s at *
  generalize y / (m : Int) = t at *
  have e4 : (q : Int) * y = (q : Int) * v + (m : Int) * ((q : Int) * t) := by rw [← e2, Int.mul_add, Int.mul_left_comm]
  have e5 : x - (q : Int) * y = ((u + m - p : Nat) : Int) + (m : Int) * (s - r - (q : Int) * t - 1) := by
    rw [e4, ← e3', ← e1]
    have : ((u + m - p : Nat) : Int) = (u : Int) + m - p := by omega
    rw [this, Int.mul_sub, Int.mul_sub, Int.mul_sub]
    omega
  rw [e5, Int.add_mul_emod_self_left]
  omega

/-- the inverse as it is told: 0 if there is none -/
def invO (a m : Nat) : Nat := if invB a m = true then invR a m else 0

/-- the loop of the program's search -/
def InvRel (m a : Nat) (w : World) (l r lf rf : Value) (wr : World) : Prop :=
  ∃ (big small u v : Nat) (x y : Int), l = .int .u64 (big : Int) ∧ r = .int .u64 (small : Int) ∧ lf = .int .u64 (u : Int) ∧ rf = .int .u64 (v : Int) ∧ big ≤ m ∧ EgB m big small x y ∧
    eg big small x y = eg m a 0 1 ∧ u = (x % (m : Int)).toNat ∧ (small = 0 ∨ v = (y % (m : Int)).toNat) ∧ Below w.heap.size w wr

set_option maxRecDepth 100000 in
set_option maxHeartbeats 2000000 in
theorem inverse_any (m a : Nat) (w : World) (ha : a < m) (hm : m ≤ 1000000000000) (R : Ending → World → Prop)
    (hR : ∀ w', Below w.heap.size w w' → R (.returned (.tuple #[.int .u64 ((invO a m : Nat) : Int), .bool (invB a m)])) w') :
    Calls Tryz.prog 82 #[.int .u64 ((m : Nat) : Int), .int .u64 ((a : Nat) : Int)] w R := by
  have HR := Lib.hid hR; clear hR
  have hm0 : 0 < m := by omega
  have HST : Hid (InvRel m a w (.int .u64 (m : Int)) (.int .u64 (a : Int)) (.int .u64 0) (.int .u64 1) w) := Lib.hid (by
    refine ⟨m, a, 0, 1, 0, 1, rfl, rfl, rfl, rfl, Nat.le_refl _, egb_start m a ha, rfl, by simp, ?_, Below.refl _ _⟩
    by_cases h1 : m = 1
    · left; omega
    · right
      rw [Int.emod_eq_of_lt (by omega) (by omega)]; rfl)
  clear ha
  go_enter Tryz.func82, Tryz.ntmps82
  go_wp2
  go_loopw [6, 7, 8, 9] (fun l r lf rf wr => InvRel m a w l r lf rf wr) (fun _ r _ _ _ => (intOf r).toNat)
  case atStart => exact HST.out
  case round =>
    clear HST
    obtain ⟨big, small, u, v, x, y, rfl, rfl, rfl, rfl, hbm, hB, heq, hu, hv, hbel⟩ := hrel
    have hsb := hB.1
    have HB := Lib.hid hB
    have HEQ := Lib.hid heq
    have HU := Lib.hid hu
    have HV := Lib.hid hv
    have HBEL := Lib.hid hbel
    have hul : u < m := by
      have := Int.emod_lt_of_pos x (show (0 : Int) < (m : Int) by omega)
      have := Int.emod_nonneg x (show (m : Int) ≠ 0 by omega)
      omega
    clear hB heq hu hv hbel
    by_cases h0 : small = 0
    · subst h0
      have he := HEQ.out
      rw [eg_zero] at he
      have eR : invR a m = u := by unfold invR; rw [← he]; exact HU.out.symm
      have eB : invB a m = decide (big = 1) := by unfold invB; rw [← he]
      by_cases h1 : big = 1
      · have HF := Lib.hid (show R (.returned (.tuple #[.int .u64 (u : Int), .bool true])) wr by
          have := HR.out wr HBEL.out
          unfold invO at this
          rw [eB, decide_eq_true h1, if_pos rfl, eR] at this; exact this)
        have e1 : ((big : Int) != 1) = false := by rw [h1]; rfl
        clear he eR eB h1 hul hsb
        go_wp2
        first | go_ret | skip
        exact HF.out
      · have HF := Lib.hid (show R (.returned (.tuple #[.int .u64 0, .bool false])) wr by
          have := HR.out wr HBEL.out
          unfold invO at this
          rw [eB, decide_eq_false h1, if_neg (by decide)] at this; exact this)
        have e1 : ((big : Int) != 1) = true := by rw [bne_iff_ne]; omega
        clear he eR eB h1 hul hsb
        go_wp2
        first | go_ret | skip
        exact HF.out
    · have hs0 : 0 < small := by omega
      obtain ⟨q, hq⟩ : ∃ q, q = big / small := ⟨_, rfl⟩
      obtain ⟨r, hr⟩ : ∃ r, r = big % small := ⟨_, rfl⟩
      have hrs : r < small := by rw [hr]; exact Nat.mod_lt _ hs0
      have hqb : q ≤ big := by rw [hq]; exact Nat.div_le_self _ _
      have hvv : v = (y % (m : Int)).toNat := HV.out.resolve_left h0
      have hvl : v < m := by
        have := Int.emod_lt_of_pos y (show (0 : Int) < (m : Int) by omega)
        have := Int.emod_nonneg y (show (m : Int) ≠ 0 by omega)
        omega
      obtain ⟨p, hp⟩ : ∃ p, p = q * v % m := ⟨_, rfl⟩
      have hpm : p < m := by rw [hp]; exact Nat.mod_lt _ hm0
      obtain ⟨v2, hv2⟩ : ∃ v2, v2 = (u + m - p) % m := ⟨_, rfl⟩
      have HP := Lib.hid hp
      have HV2 := Lib.hid hv2
      have hgo := egb_step HB.out hs0
      have hge := eg_step x y hs0 (big := big)
      rw [← hq, ← hr] at hgo hge
      have HNEXT : Hid (∀ wz, Below w.heap.size w wz → InvRel m a w (.int .u64 (small : Int)) (.int .u64 (r : Int)) (.int .u64 (v : Int)) (.int .u64 (v2 : Int)) wz) := Lib.hid fun wz hz =>
        ⟨small, r, v, v2, y, _, rfl, rfl, rfl, rfl, by omega, hgo, by rw [← hge]; exact HEQ.out, hvv, .inr (by rw [hv2]; exact mod_next hm0 u v p HU.out hvv hp), hz⟩
      have HVS := Lib.hid (And.intro hvl (And.intro hpm hul))
      have e1 : (big : Int) / (small : Int) = (q : Int) := by rw [hq]; omega
      have e2 : (big : Int) % (small : Int) = (r : Int) := by rw [hr]; omega
      have e3 : Int.tdiv (big : Int) (small : Int) = (q : Int) := by rw [Int.tdiv_eq_ediv_of_nonneg (by omega)]; exact e1
      have e4 : Int.tmod (big : Int) (small : Int) = (r : Int) := by rw [tmodN, hr]
      have e5 : IntKind.u64.wrap (q : Int) = (q : Int) := wrapu _ (by omega) (by omega)
      have e6 : IntKind.u64.wrap (r : Int) = (r : Int) := wrapu _ (by omega) (by omega)
      have e7 : ((small : Int) == 0) = false := by rw [beq_eq_false_iff_ne]; omega
      have e8 : ¬ ((small : Int) = 0) := by omega
      clear hp hv2 hgo hge hvv hq hr hul hvl hpm h0
      go_wp2
      go_quiet (fail)
      obtain ⟨wq, hwq⟩ : ∃ wq, wq = wr.drewN nq := ⟨_, rfl⟩
      have HBQ : Hid (Below w.heap.size w wq) := Lib.hid (by rw [hwq]; exact below_draws HBEL.out _)
      rw [← hwq]
      clear hwq e1 e2 e3 e4
      go_wp2_with fail
      refine mtimes_any m q v _ (by rw [W64_eq]; omega) (by have := HVS.out.1; rw [W64_eq]; omega) (by rw [W64_eq]; omega) hm0 _ ?_
      intro n1
      rw [← HP.out]
      dsimp only
      go_wp2_with fail
      refine mminus_any m u p _ HVS.out.2.2 HVS.out.2.1 (by omega) _ ?_
      rw [← HV2.out]
      have HN2 := Lib.hid (HNEXT.out (wq.drewN n1) (below_draws HBQ.out _))
      dsimp only
      go_wp2
      go_roundw
      case rel => exact HN2.out
      case measure => simp [intOf]; omega
end Go.Proofs.YtnfehccicnpbpaaGreatDoor

namespace Go.Proofs.YtnfehccicnpbpaaGreatDoor
open Go Go.RowKit

theorem mod_again {m : Nat} {x : Int} (hm : 0 < m) : Int.tmod (Int.tmod x (m : Int) + (m : Int)) (m : Int) = ((x % (m : Int)).toNat : Int) ∧ 0 ≤ Int.tmod x (m : Int) + (m : Int) ∧ Int.tmod x (m : Int) + (m : Int) < 2 * (m : Int) ∧ -(m : Int) < Int.tmod x (m : Int) := by
  have h1 := Int.emod_nonneg x (show (m : Int) ≠ 0 by omega)
  have h2 := Int.emod_lt_of_pos x (show (0 : Int) < (m : Int) by omega)
  have h3 : -(m : Int) < Int.tmod x (m : Int) ∧ Int.tmod x (m : Int) < (m : Int) := by
    have := Int.tmod_lt_of_pos x (show (0 : Int) < (m : Int) by omega)
    have h4 : -(m : Int) < Int.tmod x (m : Int) := by
      have e := Int.natAbs_tmod x (m : Int)
      rw [Int.natAbs_natCast] at e
      have := Nat.mod_lt x.natAbs hm
      omega
    exact ⟨h4, this⟩
  refine ⟨?_, by omega, by omega, h3.1⟩
  rw [Int.tmod_eq_emod_of_nonneg (by omega), Int.add_emod_right]
  have : Int.tmod x (m : Int) % (m : Int) = x % (m : Int) := by
    have hd := Int.tmod_add_mul_tdiv x (m : Int)
    conv => rhs; rw [← hd]
    rw [Int.add_mul_emod_self_left]
  rw [this]
  omega

/-- the loop of the model's search -/
def InvRelS (m a : Nat) (bg sm xv yv : Value) : Prop :=
  ∃ (big small : Nat) (x y : Int), bg = .int .i64 (big : Int) ∧ sm = .int .i64 (small : Int) ∧ xv = .int .i64 x ∧ yv = .int .i64 y ∧ big ≤ m ∧ EgB m big small x y ∧ x.natAbs ≤ m ∧ eg big small x y = eg m a 0 1

set_option maxRecDepth 100000 in
set_option maxHeartbeats 2000000 in
theorem spec_inverse (m a : Nat) (w : World) (ha : a < m) (hm : m ≤ 1000000) (R : Ending → World → Prop)
    (hR : R (.returned (.tuple #[.int .i64 ((invR a m : Nat) : Int), .bool (invB a m)])) w) :
    Calls Tryz.prog 63 #[.int .i64 ((a : Nat) : Int), .int .i64 ((m : Nat) : Int)] w R := by
  have HR := Lib.hid hR; clear hR
  have hm0 : 0 < m := by omega
  have HST : Hid (InvRelS m a (.int .i64 (m : Int)) (.int .i64 (a : Int)) (.int .i64 0) (.int .i64 1)) := Lib.hid
    ⟨m, a, 0, 1, rfl, rfl, rfl, rfl, Nat.le_refl _, egb_start m a ha, by simp, rfl⟩
  clear ha
  go_enter Tryz.func63, Tryz.ntmps63
  go_wp2
  go_loop [6, 7, 8, 9] (fun bg sm xv yv => InvRelS m a bg sm xv yv) (fun _ sm _ _ => (intOf sm).toNat)
  case atStart => exact HST.out
  case round =>
    clear HST
    obtain ⟨big, small, x, y, rfl, rfl, rfl, rfl, hbm, hB, hxm, heq⟩ := hrel
    have hsb := hB.1
    have HB := Lib.hid hB
    have HEQ := Lib.hid heq
    have hym := (egb_bounds hB).1
    clear hB heq
    by_cases h0 : small = 0
    · subst h0
      have he := HEQ.out
      rw [eg_zero] at he
      obtain ⟨m1, m2, m3, m4⟩ := mod_again (x := x) hm0
      obtain ⟨t1, ht1⟩ : ∃ t, t = Int.tmod x (m : Int) := ⟨_, rfl⟩
      rw [← ht1] at m1 m2 m3 m4
      obtain ⟨s, hs⟩ : ∃ s, s = t1 + (m : Int) := ⟨_, rfl⟩
      obtain ⟨z, hz⟩ : ∃ z, z = invR a m := ⟨_, rfl⟩
      have hzz : (z : Int) = ((x % (m : Int)).toNat : Int) := by rw [hz]; unfold invR; rw [← he]
      obtain ⟨B, hBB⟩ : ∃ B, B = invB a m := ⟨_, rfl⟩
      have HF := Lib.hid (show R (.returned (.tuple #[.int .i64 (z : Int), .bool B])) w by rw [hz, hBB]; exact HR.out)
      have eB : ((big : Int) == 1) = B := by
        rw [hBB]; unfold invB; rw [← he]
        by_cases h1 : big = 1
        · rw [decide_eq_true h1, h1]; rfl
        · rw [decide_eq_false h1, beq_eq_false_iff_ne]; omega
      have e1 : Int.tmod x (m : Int) = t1 := ht1.symm
      have e2 : IntKind.i64.wrap t1 = t1 := IntWalk.i64_in _ (by omega)
      have e3 : IntKind.i64.wrap (t1 + (m : Int)) = s := by rw [IntWalk.i64_in _ (by omega)]; exact hs.symm
      have e4 : Int.tmod s (m : Int) = (z : Int) := by rw [hs, m1, hzz]
      have e5 : s % (m : Int) = (z : Int) := by rw [← e4, Int.tmod_eq_emod_of_nonneg (by omega)]
      have hzm : z < m := by rw [hz]; exact invR_lt hm0
      have e6 : IntKind.i64.wrap (z : Int) = (z : Int) := IntWalk.i64_in _ (by omega)
      have e7 : ((m : Int) == 0) = false := by rw [beq_eq_false_iff_ne]; omega
      have e8 : ¬ ((m : Int) = 0) := by omega
      have hs0 : 0 ≤ s := by omega
      have hsm : s < 2 * (m : Int) := by omega
      have hx1 : x ≤ (m : Int) := by omega
      have hx2 : -(m : Int) ≤ x := by omega
      clear he m1 ht1 hs hz hzz hBB hxm hym hzm
      go_wp2
      first | go_ret | skip
      exact HF.out
    · have hs0 : 0 < small := by omega
      obtain ⟨q, hq⟩ : ∃ q, q = big / small := ⟨_, rfl⟩
      obtain ⟨r, hr⟩ : ∃ r, r = big % small := ⟨_, rfl⟩
      have hrs : r < small := by rw [hr]; exact Nat.mod_lt _ hs0
      have hqb : q ≤ big := by rw [hq]; exact Nat.div_le_self _ _
      have hgo := egb_step HB.out hs0
      have hge := eg_step x y hs0 (big := big)
      rw [← hq, ← hr] at hgo hge
      have hdm := Nat.div_add_mod big small
      rw [← hq, ← hr] at hdm
      obtain ⟨z, hz⟩ : ∃ z : Int, z = (q : Int) * y := ⟨_, rfl⟩
      obtain ⟨t, ht⟩ : ∃ t : Int, t = x - z := ⟨_, rfl⟩
      have htb : t.natAbs ≤ m := by rw [ht, hz]; exact (egb_bounds hgo).1
      have HNEXT : Hid (InvRelS m a (.int .i64 (small : Int)) (.int .i64 (r : Int)) (.int .i64 y) (.int .i64 t)) := Lib.hid
        ⟨small, r, y, t, rfl, rfl, rfl, rfl, by omega, by rw [ht, hz]; exact hgo, hym, by rw [ht, hz, ← hge]; exact HEQ.out⟩
      obtain ⟨ps, hps⟩ : ∃ ps, ps = q * small := ⟨_, rfl⟩
      have hps2 : (q : Int) * (small : Int) = (ps : Int) := by rw [hps, Int.natCast_mul]
      have hps3 : ps + r = big := by rw [hps, Nat.mul_comm]; exact hdm
      have e1 : (big : Int) / (small : Int) = (q : Int) := by rw [hq]; omega
      have e3 : Int.tdiv (big : Int) (small : Int) = (q : Int) := by rw [Int.tdiv_eq_ediv_of_nonneg (by omega)]; exact e1
      have e5 : IntKind.i64.wrap (q : Int) = (q : Int) := IntWalk.i64_in _ (by omega)
      have e6 : IntKind.i64.wrap ((q : Int) * (small : Int)) = (ps : Int) := by rw [hps2]; exact IntWalk.i64_in _ (by omega)
      have e9 : IntKind.i64.wrap ((big : Int) - (ps : Int)) = (r : Int) := by rw [IntWalk.i64_in _ (by omega)]; omega
      have e10 : IntKind.i64.wrap ((q : Int) * y) = z := by rw [← hz]; exact IntWalk.i64_in _ (by omega)
      have e11 : IntKind.i64.wrap (x - z) = t := by rw [← ht]; exact IntWalk.i64_in _ (by omega)
      have e7 : ((small : Int) == 0) = false := by rw [beq_eq_false_iff_ne]; omega
      have e8 : ¬ ((small : Int) = 0) := by omega
      have hx1 : x ≤ (m : Int) := by omega
      have hx2 : -(m : Int) ≤ x := by omega
      have hy1 : y ≤ (m : Int) := by omega
      have hy2 : -(m : Int) ≤ y := by omega
      clear hgo hge hdm hq hr hz ht hps hps2 hps3 htb hxm hym h0
      go_wp2
      go_round
      case rel => exact HNEXT.out
      case measure => simp [intOf]; omega
end Go.Proofs.YtnfehccicnpbpaaGreatDoor

namespace Go.Proofs.YtnfehccicnpbpaaGreatDoor
open Go Go.RowKit

set_option maxRecDepth 100000 in
theorem ismod_any (m : Int) (w : World) (R : Ending → World → Prop) (hR : R (.returned (.bool (decide (2 ≤ m ∧ m ≤ 1000000)))) w) :
    Calls Tryz.prog 88 #[.int .i64 m] w R := by
  have HR := Lib.hid hR; clear hR
  by_cases h1 : 2 ≤ m
  · by_cases h2 : m ≤ 1000000
    · rw [decide_eq_true ⟨h1, h2⟩] at HR
      go_enter Tryz.func88, Tryz.ntmps88
      go_wp2
      first | go_ret | skip
      exact HR.out
    · rw [decide_eq_false (fun h => h2 h.2)] at HR
      go_enter Tryz.func88, Tryz.ntmps88
      go_wp2
      first | go_ret | skip
      exact HR.out
  · rw [decide_eq_false (fun h => h1 h.1)] at HR
    go_enter Tryz.func88, Tryz.ntmps88
    go_wp2
    first | go_ret | skip
    exact HR.out

/-- whether a number is a residue of a modulus -/
def resB (a m : Int) : Bool := decide (2 ≤ m ∧ m ≤ 1000000 ∧ 0 ≤ a ∧ a < m)
theorem resB_parts {a m : Int} (h : resB a m = true) : ∃ x k : Nat, a = (x : Int) ∧ m = (k : Int) ∧ 2 ≤ k ∧ k ≤ 1000000 ∧ x < k := by
  unfold resB at h
  have := of_decide_eq_true h
  exact ⟨a.toNat, m.toNat, by omega, by omega, by omega, by omega, by omega⟩

set_option maxRecDepth 100000 in
theorem isres_any (a m : Int) (w : World) (R : Ending → World → Prop) (hR : R (.returned (.bool (resB a m))) w) :
    Calls Tryz.prog 81 #[.int .i64 a, .int .i64 m] w R := by
  have HR := Lib.hid hR; clear hR
  unfold resB at HR
  by_cases h1 : 2 ≤ m ∧ m ≤ 1000000
  · have HD := Lib.hid (decide_eq_true h1)
    by_cases h2 : 0 ≤ a
    · have HF := Lib.hid (show R (.returned (.bool (decide (a < m)))) w by
        have e : decide (2 ≤ m ∧ m ≤ 1000000 ∧ 0 ≤ a ∧ a < m) = decide (a < m) := by
          by_cases h3 : a < m
          · rw [decide_eq_true h3]; exact decide_eq_true ⟨h1.1, h1.2, h2, h3⟩
          · rw [decide_eq_false h3]; exact decide_eq_false (fun h => h3 h.2.2.2)
        have := HR.out; rw [e] at this; exact this)
      clear h1
      go_enter Tryz.func81, Tryz.ntmps81
      go_wp2_with fail
      refine ismod_any m _ _ ?_
      rw [HD.out]
      dsimp only
      go_wp2
      first | go_ret | skip
      exact HF.out
    · rw [decide_eq_false (fun h => h2 h.2.2.1)] at HR
      clear h1
      go_enter Tryz.func81, Tryz.ntmps81
      go_wp2_with fail
      refine ismod_any m _ _ ?_
      rw [HD.out]
      dsimp only
      go_wp2
      first | go_ret | skip
      exact HR.out
  · have HD := Lib.hid (decide_eq_false h1)
    rw [decide_eq_false (fun h => h1 ⟨h.1, h.2.1⟩)] at HR
    clear h1
    go_enter Tryz.func81, Tryz.ntmps81
    go_wp2_with fail
    refine ismod_any m _ _ ?_
    rw [HD.out]
    dsimp only
    go_wp2
    first | go_ret | skip
    exact HR.out

set_option maxRecDepth 100000 in
theorem smod_any (m : Int) (w : World) (R : Ending → World → Prop) (hR : R (.returned (.bool (decide (2 ≤ m ∧ m ≤ 1000000)))) w) :
    Calls Tryz.prog 50 #[.int .i64 m] w R := by
  have HR := Lib.hid hR; clear hR
  go_enter Tryz.func50, Tryz.ntmps50
  go_wp2_with fail
  refine in_any m 2 1000000 _ _ ?_
  obtain ⟨b, hb⟩ : ∃ b, b = decide (2 ≤ m ∧ m ≤ 1000000) := ⟨_, rfl⟩
  rw [← hb] at HR ⊢
  clear hb
  dsimp only
  go_wp2
  first | go_ret | skip
  exact HR.out
end Go.Proofs.YtnfehccicnpbpaaGreatDoor

namespace Go.Proofs.YtnfehccicnpbpaaGreatDoor
open Go Go.RowKit

def ResR (w : World) (m : Nat) (qs : List Rat) (iv : Value) (wr : World) : Prop :=
  ∃ j : Nat, iv = .int .i64 (j : Int) ∧ j ≤ qs.length ∧ Arr .u64 61 wr w.heap.size ((qs.take j).map (resQ m) ++ List.replicate (qs.length - j) 0) ∧ Below w.heap.size w wr

theorem resR_set {m : Nat} {qs : List Rat} {j : Nat} {q : Rat} (h : qs[j]? = some q) : List.set ((qs.take j).map (resQ m) ++ List.replicate (qs.length - j) 0) j (resQ m q) = (qs.take (j + 1)).map (resQ m) ++ List.replicate (qs.length - (j + 1)) 0 := by
  have hj := (List.getElem?_eq_some_iff.1 h).1
  have e : qs.length - j = (qs.length - (j + 1)) + 1 := by omega
  have el : ((qs.take j).map (resQ m)).length = j := by rw [List.length_map, List.length_take]; omega
  rw [e, List.replicate_succ, List.set_append_right _ _ (by rw [el]; exact Nat.le_refl _), el, Nat.sub_self, List.set_cons_zero, List.take_add_one, h]
  simp

set_option maxRecDepth 100000 in
set_option maxHeartbeats 2000000 in
theorem residues_any (m : Nat) (v : Value) (qs : List Rat) (w : World) (h : SlE 3 ER w v qs) (hn : qs.length ≤ 60) (hb : AllBd 60 qs) (hm : 2 ≤ m) (hm2 : m ≤ 1000000) (R : Ending → World → Prop)
    (hR : ∀ w', Arr .u64 61 w' w.heap.size (qs.map (resQ m)) → Below w.heap.size w w' → R (.returned (.slice (some ⟨w.heap.size, 0, none⟩) qs.length qs.length)) w') :
    Calls Tryz.prog 89 #[.int .u64 ((m : Nat) : Int), v] w R := by
  have HR := Lib.hid hR; clear hR
  obtain ⟨ao, n, cap, rfl, hnl, hc, hh⟩ := h.open
  have HH := Lib.hid hh
  have HN := Lib.hid hnl
  have HBD := Lib.hid hb
  rw [← hnl] at hn
  clear h hnl hh hb hc
  go_enter Tryz.func89, Tryz.ntmps89
  go_wp2_with (at_make; go_must (refine wpList_makez _ rfl _ 63 rfl 61 .u64 8 Tryz.underlying63 info_u64' (by omega) .i64 _ n rfl rfl (by omega) ?_))
  intro W hA hbW hsW
  have HST : Hid (ResR w m qs (.int .i64 0) W) := Lib.hid ⟨0, rfl, Nat.zero_le _, by rw [← HN.out]; simpa using hA, hbW⟩
  clear hA hbW hsW
  go_wp2
  go_loopw [13] (fun i wr => ResR w m qs i wr) (fun i _ => n - (intOf i).toNat)
  case atStart => exact HST.out
  case round =>
    clear HST
    obtain ⟨j, rfl, hj, hA, hbel⟩ := hrel
    have HB := Lib.hid hbel
    have HA := Lib.hid hA
    rw [← HN.out] at hj
    by_cases hjn : j = n
    · subst hjn
      have HF := Lib.hid (HR.out wr (by
        have h9 := hA
        rw [HN.out, Nat.sub_self, List.replicate_zero, List.append_nil, List.take_length] at h9
        exact h9) hbel)
      rw [← HN.out] at HF
      have hjj : ¬ ((j : Int) < (j : Int)) := by omega
      clear hA hbel hj
      go_wp2
      first | go_ret | skip
      exact HF.out
    · have hjl : j < n := by omega
      obtain ⟨q, hq⟩ : ∃ q, qs[j]? = some q := ⟨_, List.getElem?_eq_getElem (by rw [← HN.out]; exact hjl)⟩
      have HQ := Lib.hid hq
      have HLQ := Lib.hid ((HBD.out j q hq).len (B := W64) (by rw [W64_eq]; omega))
      obtain ⟨b, off, cs, rfl, hb, hcell, hE⟩ := HH.out.at j q hq
      obtain ⟨x1, y1, z1, x2, y2, z2, hcs, hi1, hi2⟩ := hE
      obtain ⟨ng, hng⟩ : ∃ ng, ng = decide (q.num < 0) := ⟨_, rfl⟩
      rw [← hng] at hcs
      have hd0 : wr.cell? ⟨b, off + j * 3, none⟩ = some (.bool ng) := by rw [hbel.cell (p := ⟨b, off + j * 3, none⟩) hb]; exact hcell 0 _ (by rw [hcs]; rfl)
      have hd1 : wr.cell? ⟨b, off + j * 3 + 1, none⟩ = some (.slice x1 y1 z1) := by rw [hbel.cell (p := ⟨b, off + j * 3 + 1, none⟩) hb]; exact hcell 1 _ (by rw [hcs]; rfl)
      have hd2 : wr.cell? ⟨b, off + j * 3 + 2, none⟩ = some (.slice x2 y2 z2) := by rw [hbel.cell (p := ⟨b, off + j * 3 + 2, none⟩) hb]; exact hcell 2 _ (by rw [hcs]; rfl)
      obtain ⟨V, hV⟩ : ∃ V, V = wr.alloc (.cells #[.bool ng, .slice x1 y1 z1, .slice x2 y2 z2] 100) := ⟨_, rfl⟩
      have hbV : Below wr.heap.size wr V := by rw [hV]; exact (Below.refl _ _).alloc (Nat.le_refl _) _
      have HBV : Hid (Below w.heap.size w V) := Lib.hid (hbel.trans (hbV.mono hbel.size))
      have HND := Lib.hid (hi1.later HBV.out (Nat.le_refl _))
      have HAV := Lib.hid (HA.out.later hbV HA.out.lt)
      have HV := Lib.hid hV
      have hw1 : IntKind.i64.wrap ((j : Int) + 1) = ((j + 1 : Nat) : Int) := by rw [IntWalk.i64_in _ (by omega)]; omega
      have HKL := Lib.hid hjl
      have hj0 : (0 : Int) ≤ (j : Int) := by omega
      have hj1 : (j : Int) < (n : Int) := by omega
      have HNG := Lib.hid hng
      clear hq hcell hcs hi1 hi2 hng hV hbV hbel hjn hA hb
      go_wp2_with fail
      rw [← HV.out]
      clear hd0 hd1 hd2
      refine irem_any ng _ q.num.natAbs m _ HND.out (by omega) (by rw [W64_eq]; omega) (Nat.le_trans HLQ.out.1 (by omega)) _ ?_
      intro w6 hb6
      obtain ⟨x, hx⟩ : ∃ x, x = modN ng q.num.natAbs m := ⟨_, rfl⟩
      rw [← hx]
      have hA6 := HAV.out.later hb6 HAV.out.lt
      have hcl := hA6.cell j (by rw [List.length_append, List.length_map, List.length_take, List.length_replicate, ← HN.out]; have := HKL.out; omega)
      have hfl := hA6.frozen j
      have hA7 := hA6.set j x
      rw [show x = resQ m q from (by rw [hx, HNG.out]; rfl), resR_set HQ.out] at hA7
      have HNX : Hid (ResR w m qs (.int .i64 ((j + 1 : Nat) : Int)) (w6.setCell ⟨w.heap.size, j, none⟩ (.int .u64 ((x : Nat) : Int)))) := Lib.hid
        ⟨j + 1, rfl, by rw [← HN.out]; exact HKL.out, by rw [show x = resQ m q from (by rw [hx, HNG.out]; rfl)]; exact hA7, (HBV.out.trans (hb6.mono HBV.out.size)).setCell (Nat.le_refl _) _⟩
      clear hb6 hx hA6 hA7
      dsimp only
      go_wp2
      go_roundw
      case rel => exact HNX.out
      case measure => simp [intOf]; have := HKL.out; omega

/-- the zero value of the program's type of residue sequences -/
def zeroU : Value := .agg #[.int .u64 0, .slice none 0 0, .slice none 0 0]

theorem nat_modulus {m : Int} (h : decide (2 ≤ m ∧ m ≤ 1000000) = true) : ∃ k : Nat, m = (k : Int) ∧ 2 ≤ k ∧ k ≤ 1000000 := by
  have := of_decide_eq_true h
  exact ⟨m.toNat, by omega, by omega, by omega⟩

set_option maxRecDepth 100000 in
set_option maxHeartbeats 8000000 in
theorem readres_any (v : Value) (L1 L2 : List ByteArray) (m : Int) (w : World) (hE : Env w) (h : IsRec w v L1 L2) (hn1 : L1.length ≤ 1048576) (hn2 : L2.length ≤ 1048576) (R : Ending → World → Prop)
    (hR : ∀ (k : Nat) vs vc w', m = (k : Int) → 2 ≤ k → k ≤ 1000000 → wholeB L1 L2 = true → At w' vs (resL k L1) → At w' vc (resL k L2) → Below w.heap.size w w' → R (.returned (.tuple #[.agg #[.int .u64 m, vs, vc], .nilIface])) w')
    (hR2 : ∀ e w', (wholeB L1 L2 && decide (2 ≤ m ∧ m ≤ 1000000)) = false → ErrV e → Below w.heap.size w w' → R (.returned (.tuple #[zeroU, e])) w') :
    Calls Tryz.prog 54 #[v, .int .i64 m] w R := by
  have HR := Lib.hid hR; clear hR
  have HR2 := Lib.hid hR2; clear hR2
  have h9 := h
  obtain ⟨a1, n1, c1, a2, n2, c2, rfl, e1, e2, h1, h2⟩ := h.parts
  obtain ⟨L, hL⟩ : ∃ L, L = (w.alloc (.cells #[.slice a1 n1 c1, .slice a2 n2 c2] 28)).alloc (.cells #[.int .u64 0, .slice none 0 0, .slice none 0 0] 65) := ⟨_, rfl⟩
  have hb1 : Below (w.heap.size + 1) (w.alloc (.cells #[.slice a1 n1 c1, .slice a2 n2 c2] 28)) L := by rw [hL]; exact (Below.refl _ _).alloc (by simp) _
  have B0 : Hid (Box2 L w.heap.size (.slice a1 n1 c1) (.slice a2 n2 c2) 28) := Lib.hid ((Box2.made w _ _ _).later hb1 (by omega))
  have B1 : Hid (Box3 L (w.heap.size + 1) (.int .u64 0) (.slice none 0 0) (.slice none 0 0) 65) := Lib.hid (by
    have := Box3.made (w.alloc (.cells #[.slice a1 n1 c1, .slice a2 n2 c2] 28)) (.int .u64 0) (.slice none 0 0) (.slice none 0 0) 65
    rw [World.size_alloc, ← hL] at this; exact this)
  have HEXT : Hid (Below w.heap.size w L) := Lib.hid (by rw [hL]; exact ((Below.refl w.heap.size w).alloc (Nat.le_refl _) _).alloc (by simp) _)
  have HLS : Hid (L.heap.size = w.heap.size + 2) := Lib.hid (by rw [hL]; simp)
  have HL := Lib.hid hL
  have HV := Lib.hid (h9.later HEXT.out (Nat.le_refl _))
  have HN := Lib.hid (And.intro hn1 hn2)
  have HE := Lib.hid hE
  have HEL := Lib.hid (hE.later HEXT.out (Nat.le_refl _))
  obtain ⟨hA0, hA1, _, _⟩ := B0.out.cells
  obtain ⟨⟨hR0, hR1, hR2⟩, hF0, hF1, hF2⟩ := B1.out.cells
  have hfi := field_i1
  clear h h9 e1 e2 h1 h2 hn1 hn2 hL hb1 hE
  cases hm : decide (2 ≤ m ∧ m ≤ 1000000) with
  | false =>
    have HNO : Hid ((wholeB L1 L2 && decide (2 ≤ m ∧ m ≤ 1000000)) = false) := Lib.hid (by rw [hm, Bool.and_false])
    have HM := Lib.hid hm
    obtain ⟨_, ⟨pf, hpf⟩, _⟩ := HEL.out
    have hne1 : ¬ 0 = w.heap.size + 1 := by
      obtain ⟨_, ⟨pf2, hpf2⟩, _⟩ := HE.out
      have := lt_of_cell hpf2
      omega
    have hne2 : ¬ w.heap.size + 1 = 0 := fun h => hne1 h.symm
    clear hm
    go_enter Tryz.func54, Tryz.ntmps54
    rw [HL.out] at hA0 hA1
    go_wp2_with fail
    rw [← HL.out]
    refine ismod_any m _ _ ?_
    rw [HM.out]
    dsimp only
    go_wp2
    go_region
    all_goals
      go_wp2
      refine bodyPost_ret_at (by simp [results, Tryz.results54, go_sem, hR0, hR1, hR2, hF0, hF1, hF2] <;> rfl) rfl ?_
      first | exact HR2.out _ _ HNO.out ⟨_, _, rfl⟩ (below_set3 HEXT.out (by omega) _ _ _).drew | exact HR2.out _ _ HNO.out ⟨_, _, rfl⟩ (below_set3 HEXT.out (by omega) _ _ _)
  | true =>
    obtain ⟨M, rfl, hM2, hM3⟩ := nat_modulus hm
    have HM := Lib.hid hm
    have HRB : Hid (∀ w', Below L.heap.size L w' → Box3 w' (w.heap.size + 1) (.int .u64 0) (.slice none 0 0) (.slice none 0 0) 65) := Lib.hid fun w' hb => B1.out.later hb (by have := HLS.out; omega)
    clear hm
    go_enter Tryz.func54, Tryz.ntmps54
    rw [HL.out] at hA0 hA1
    go_wp2_with fail
    rw [← HL.out]
    refine ismod_any _ _ _ ?_
    rw [HM.out]
    clear hA0 hA1
    obtain ⟨hA0, hA1, _, _⟩ := B0.out.cells
    dsimp only
    go_wp2_with fail
    refine readseq_any _ L1 L2 L HEL.out HV.out HN.out.1 HN.out.2 _ ?_ ?_
    rotate_left
    · intro e w2 hrec he hb2
      obtain ⟨t, p, rfl⟩ := he
      have HNO : Hid ((wholeB L1 L2 && decide (2 ≤ (M : Int) ∧ (M : Int) ≤ 1000000)) = false) := Lib.hid (by unfold wholeB; rw [hrec]; rfl)
      have HB2 := Lib.hid (HEXT.out.trans (hb2.mono HEXT.out.size))
      have hbb : Below w2.heap.size w2 (w2.alloc (.cells #[.slice none 0 0, .slice none 0 0] 93)) := (Below.refl _ _).alloc (Nat.le_refl _) _
      have HBB := Lib.hid (HB2.out.trans (hbb.mono HB2.out.size))
      have k2 := HRB.out _ (hb2.trans (hbb.mono hb2.size))
      clear hrec hb2 hbb hA0 hA1 hR0 hR1 hR2 hF0 hF1 hF2
      obtain ⟨⟨hR0, hR1, hR2⟩, hF0, hF1, hF2⟩ := k2.cells
      clear k2
      unfold zeroS
      dsimp only
      go_wp2
      refine bodyPost_ret_at (by simp [results, Tryz.results54, go_sem, hR0, hR1, hR2, hF0, hF1, hF2] <;> rfl) rfl ?_
      exact HR2.out _ _ HNO.out ⟨_, _, rfl⟩ (below_set3 HBB.out (by omega) _ _ _)
    intro x1 x2 w2 hrec hx1 hx2 hb2
    have HREC := Lib.hid hrec
    obtain ⟨b1, m1, d1, rfl, hx1'⟩ := SlE.op hx1
    obtain ⟨b2, m2, d2, rfl, hx2'⟩ := SlE.op hx2
    obtain ⟨V, hV⟩ : ∃ V, V = w2.alloc (.cells #[.slice b1 m1 d1, .slice b2 m2 d2] 93) := ⟨_, rfl⟩
    have hbV : Below w2.heap.size w2 V := by rw [hV]; exact (Below.refl _ _).alloc (Nat.le_refl _) _
    have hb2V : Below L.heap.size L V := hb2.trans (hbV.mono hb2.size)
    have HBV : Hid (Below w.heap.size w V) := Lib.hid (HEXT.out.trans (hb2V.mono HEXT.out.size))
    have HLV := Lib.hid hb2V
    have HX1V := Lib.hid (SlE.later elemR hx1' hbV (Nat.le_refl _))
    have HX2V := Lib.hid (SlE.later elemR hx2' hbV (Nat.le_refl _))
    have HSB : Hid (Box2 V w2.heap.size (.slice b1 m1 d1) (.slice b2 m2 d2) 93) := Lib.hid (by rw [hV]; exact Box2.made _ _ _ _)
    have HV2 := Lib.hid hV
    have HK := Lib.hid (recB_all hrec)
    have HLN : Hid ((L1.map qOf).length = L1.length ∧ (L2.map qOf).length = L2.length) := Lib.hid ⟨List.length_map _, List.length_map _⟩
    have HBDS : Hid (AllBd 60 (L1.map qOf) ∧ AllBd 60 (L2.map qOf)) := Lib.hid ⟨allBd_of HK.out.2.1, allBd_of HK.out.2.2⟩
    have hS := HSB.out.cells
    obtain ⟨hS0, hS1, _, _⟩ := hS
    rw [hV] at hS0 hS1
    clear hrec hx1 hx2 hx1' hx2' hb2 hbV hb2V hV hA0 hA1 hR0 hR1 hR2 hF0 hF1 hF2
    dsimp only
    go_wp2_with fail
    rw [← HV2.out]
    refine seqwhole_any _ _ (L1.map qOf) (L2.map qOf) V HX1V.out HX2V.out (by rw [HLN.out.1]; have := HK.out; omega) (by rw [HLN.out.2]; have := HK.out; omega) HBDS.out.1 HBDS.out.2 _ ?_
    intro w3 hb3
    have hwh : (decide (denL (L1.map qOf) = 1) && decide (denL (L2.map qOf) = 1)) = wholeB L1 L2 := by
      unfold wholeB; rw [HREC.out, Bool.true_and, denL_all, denL_all]
    rw [hwh]
    have HB3 := Lib.hid (HBV.out.trans (hb3.mono HBV.out.size))
    have HL3 := Lib.hid (HLV.out.trans (hb3.mono HLV.out.size))
    have HS3 := Lib.hid (HSB.out.later hb3 (lt_of_block HSB.out))
    have H13 := Lib.hid (HX1V.out.later elemR hb3 (Nat.le_refl _))
    have H23 := Lib.hid (HX2V.out.later elemR hb3 (Nat.le_refl _))
    clear hb3 hwh hS0 hS1
    obtain ⟨⟨hR0, hR1, hR2⟩, hF0, hF1, hF2⟩ := (HRB.out _ HL3.out).cells
    cases hwb : wholeB L1 L2 with
    | false =>
      have HNO : Hid ((wholeB L1 L2 && decide (2 ≤ (M : Int) ∧ (M : Int) ≤ 1000000)) = false) := Lib.hid (by rw [hwb]; rfl)
      have HE3 := Lib.hid (HEL.out.later HL3.out (Nat.le_refl _))
      obtain ⟨⟨pf, hpf⟩, _, _⟩ := HE3.out
      have hne1 : ¬ 1 = w.heap.size + 1 := by
        obtain ⟨⟨pf2, hpf2⟩, _, _⟩ := HE.out
        have := lt_of_cell hpf2
        omega
      have hne2 : ¬ w.heap.size + 1 = 1 := fun h => hne1 h.symm
      clear hwb
      dsimp only
      go_wp2
      go_region
      all_goals
        go_wp2
        refine bodyPost_ret_at (by simp [results, Tryz.results54, go_sem, hR0, hR1, hR2, hF0, hF1, hF2] <;> rfl) rfl ?_
        first | exact HR2.out _ _ HNO.out ⟨_, _, rfl⟩ (below_set3 HB3.out (by omega) _ _ _).drew | exact HR2.out _ _ HNO.out ⟨_, _, rfl⟩ (below_set3 HB3.out (by omega) _ _ _)
    | true =>
      have HW := Lib.hid hwb
      have hwm : IntKind.u64.wrap (M : Int) = (M : Int) := wrapu _ (by omega) (by omega)
      obtain ⟨hS0, hS1, _, _⟩ := HS3.out.cells
      have HLT := Lib.hid (show w2.heap.size < w3.heap.size ∧ w.heap.size + 1 < w3.heap.size from ⟨lt_of_block HS3.out, by have := HL3.out.size; have := HLS.out; omega⟩)
      clear hwb
      dsimp only
      go_wp2
      go_region_law (first
        | (have hguard := HT1; (try go_simp); go_at_call 89; refine residues_any M _ (L2.map qOf) _ (H23.out.later elemR HT1.out (Nat.le_refl _)) (by rw [HLN.out.2]; have := HK.out; omega) HBDS.out.2 hM2 hM3 _ ?_; intro w5 ha5 hb5; have HA5 := Lib.hid ha5; have HA4' := Lib.hid (HA4.out.later hb5 HA4.out.lt); have HT2 := Lib.hid (HT1.out.trans (hb5.mono HT1.out.size)); have k5 := (HRB.out _ (HL3.out.trans (HT2.out.mono HL3.out.size))); obtain ⟨⟨hX0, hX1, hX2⟩, hX3, hX4, hX5⟩ := k5.cells; have g5 := HT1.out.size; have HG5 := Lib.hid g5; clear hguard ha5 hb5 k5 g5; dsimp only)
        | ((try go_simp); go_at_call 89; refine residues_any M _ (L1.map qOf) _ (H13.out.later elemR (by first | exact (Below.refl _ _).drew | exact Below.refl _ _) (Nat.le_refl _)) (by rw [HLN.out.1]; have := HK.out; omega) HBDS.out.1 hM2 hM3 _ ?_; intro w4 ha4 hb4; have HA4 := Lib.hid ha4; have HT1 : Hid (Below w3.heap.size w3 w4) := Lib.hid (by first | exact hb4 | exact below_unDrew hb4); obtain ⟨hY0, hY1, _, _⟩ := (HS3.out.later HT1.out HLT.out.1).cells; clear ha4 hb4; dsimp only))
      all_goals
        go_wp2
        refine bodyPost_ret_at (by simp [results, Tryz.results54, go_sem, hX0, hX1, hX2, hX3, hX4, hX5] <;> rfl) rfl ?_
        have hg4 : w3.heap.size ≠ w.heap.size + 1 := by have := HLT.out.2; omega
        have hg5 : w4.heap.size ≠ w.heap.size + 1 := by have := HLT.out.2; have := HT1.out.size; omega
        exact HR.out M _ _ _ rfl hM2 hM3 HW.out ((((HA4'.out.other hg4 _ _).other hg4 _ _).other hg4 _ _).at _ _ (by simp) (Nat.le_refl _)) ((((HA5.out.other hg5 _ _).other hg5 _ _).other hg5 _ _).at _ _ (by simp) (Nat.le_refl _)) (below_set3 (HB3.out.trans (HT2.out.mono HB3.out.size)) (by omega) _ _ _)
end Go.Proofs.YtnfehccicnpbpaaGreatDoor

namespace Go.Proofs.YtnfehccicnpbpaaGreatDoor
open Go Go.RowKit

def StmR (w : World) (P : List Nat) (u : Nat → Nat) (m k : Nat) (sv iv : Value) (wr : World) : Prop :=
  ∃ i : Nat, iv = .int .i64 (i : Int) ∧ sv = .int .i64 ((lin P u 0 i % m : Nat) : Int) ∧ i ≤ k ∧ Below w.heap.size w wr

set_option maxRecDepth 100000 in
set_option maxHeartbeats 4000000 in
theorem sterm_any (m N : Nat) (vs vc : Value) (ss cs : List Nat) (w : World) (hss : Sl .i64 w vs ss) (hcs : Sl .i64 w vc cs) (hl : ss.length = cs.length) (hS : ∀ x ∈ ss, x < m) (hC : ∀ x ∈ cs, x < m) (hm : 2 ≤ m) (hm2 : m ≤ 1000000) (hk9 : cs.length ≤ 100) (hN : N ≤ 9000000000000000000) (R : Ending → World → Prop)
    (hR : ∀ w', Below w.heap.size w w' → R (.returned (.int .i64 ((trm m cs ss N : Nat) : Int))) w') :
    Calls Tryz.prog 51 #[vs, vc, .int .i64 ((N : Nat) : Int), .int .i64 ((m : Nat) : Int)] w R := by
  have HR := Lib.hid hR; clear hR
  have HSS := Lib.hid hss
  have HCS := Lib.hid hcs
  obtain ⟨as', cs', rfl, _, hsc⟩ := hss
  obtain ⟨ac, cc, rfl, _, hcc⟩ := hcs
  rw [hl] at HSS hsc ⊢
  rcases Nat.eq_zero_or_pos cs.length with h0 | h0
  · have hs0 : ss = [] := List.eq_nil_of_length_eq_zero (by omega)
    have hc0 : cs = [] := List.eq_nil_of_length_eq_zero h0
    rw [hs0, hc0, trm_nil] at HR
    rw [h0]
    clear hsc hcc hs0 hc0 h0
    go_enter Tryz.func51, Tryz.ntmps51
    go_wp2
    first | go_ret | skip
    exact HR.out _ (Below.refl _ _)
  · obtain ⟨k, hk⟩ : ∃ k, k = cs.length := ⟨_, rfl⟩
    have HREC := Lib.hid (rec_all (m := m) hl)
    have HAT := Lib.hid (fun i (hi : i < cs.length) => start_at (m := m) hl hi)
    have HTL := Lib.hid (fun j => trm_lt (cs := cs) (ss := ss) (show 0 < m by omega) hS j)
    rw [← hk] at h0 hk9 HSS hsc HAT ⊢
    have HK := Lib.hid hk
    have HSC := Lib.hid hsc
    have HC := Lib.hid hC
    have hkz : ¬ (k : Int) = 0 := by omega
    have hkz2 : ((k : Int) == 0) = false := by rw [beq_eq_false_iff_ne]; exact hkz
    clear hsc hcc hk hC hS
    go_enter Tryz.func51, Tryz.ntmps51
    go_wp2_with fail
    have HCS' := HCS
    rw [← HK.out] at HCS'
    refine sraise_any m N _ cs _ (trm m cs ss) HCS'.out (by rw [← HK.out]; exact h0) HC.out hm hm2 (by rw [← HK.out]; exact hk9) hN HREC.out _ ?_
    rw [← HK.out]
    intro vp P w1 hp hpl hpm hrp hb1
    obtain ⟨aP, cP, rfl, hcP, hPc⟩ := hp
    rw [hpl] at hPc ⊢
    have HPC := Lib.hid hPc
    have HP := Lib.hid (And.intro hpl (And.intro hpm hrp))
    have HB1 := Lib.hid hb1
    have HST : Hid (StmR w P (trm m cs ss) m k (.int .i64 0) (.int .i64 0) w1) := Lib.hid ⟨0, rfl, by rw [lin, Nat.zero_mod]; rfl, Nat.zero_le _, hb1⟩
    clear hcP hPc hpl hpm hrp hb1 hkz hkz2
    dsimp only
    go_wp2
    go_loopw [10, 11] (fun sv iv wr => StmR w P (trm m cs ss) m k sv iv wr ∧ Below w1.heap.size w1 wr) (fun _ iv _ => k - (intOf iv).toNat)
    case atStart => exact ⟨HST.out, Below.refl _ _⟩
    case round =>
      clear HST
      obtain ⟨⟨i, rfl, rfl, hik, hbel⟩, hbel1⟩ := hrel
      have HB := Lib.hid (And.intro hbel hbel1)
      obtain ⟨s, hs⟩ : ∃ s, s = lin P (trm m cs ss) 0 i % m := ⟨_, rfl⟩
      rw [← hs]
      by_cases hi : i = k
      · subst hi
        have HF := Lib.hid (HR.out wr hbel)
        have e : s = trm m cs ss N := by
          rw [hs, HP.out.2.2 0, Nat.zero_add, Nat.mod_eq_of_lt (HTL.out _)]
        rw [← e] at HF
        have hii : ¬ ((i : Int) < (i : Int)) := by omega
        clear hs e hbel hbel1 hik
        go_wp2
        first | go_ret | skip
        exact HF.out
      · have hil : i < k := by omega
        obtain ⟨b, off, rfl, hb, hc⟩ := HPC.out i hil
        obtain ⟨b2, off2, rfl, hb2, hc2⟩ := HSC.out i hil
        obtain ⟨x, hx⟩ : ∃ x, x = P.getD i 0 := ⟨_, rfl⟩
        obtain ⟨y, hy⟩ : ∃ y, y = ss.getD i 0 := ⟨_, rfl⟩
        have hc1 : wr.cell? ⟨b, off + i, none⟩ = some (.int .i64 ((x : Nat) : Int)) := by rw [hbel1.cell (p := ⟨b, off + i, none⟩) hb, hx]; exact hc
        have hc3 : wr.cell? ⟨b2, off2 + i, none⟩ = some (.int .i64 ((y : Nat) : Int)) := by rw [hbel.cell (p := ⟨b2, off2 + i, none⟩) hb2, hy]; exact hc2
        have hxm : x < m := by rw [hx]; exact getD_lt_of (by omega) HP.out.2.1 _
        have hye : y = trm m cs ss i := by rw [hy]; exact HAT.out i hil
        have hym : y < m := by rw [hye]; exact HTL.out _
        have hsm : s < m := by rw [hs]; exact Nat.mod_lt _ (by omega)
        obtain ⟨p, hp⟩ : ∃ p, p = x * y := ⟨_, rfl⟩
        have hpm : p ≤ 1000000 * 1000000 := by rw [hp]; exact Nat.mul_le_mul (by omega) (by omega)
        obtain ⟨z, hz⟩ : ∃ z, z = (s + p) % m := ⟨_, rfl⟩
        have hzm : z < m := by rw [hz]; exact Nat.mod_lt _ (by omega)
        have HNX : Hid (∀ n, StmR w P (trm m cs ss) m k (.int .i64 ((z : Nat) : Int)) (.int .i64 ((i + 1 : Nat) : Int)) (wr.drewN n) ∧ Below w1.heap.size w1 (wr.drewN n)) := Lib.hid fun n =>
          ⟨⟨i + 1, rfl, by
            rw [hz, hs, hp, hx, hye, lin, Nat.zero_add]
            congr 2
            rw [Nat.add_mod, Nat.mod_mod, ← Nat.add_mod], hil, below_draws HB.out.1 n⟩, below_draws HB.out.2 n⟩
        have hw3 : IntKind.i64.wrap ((i : Int) + 1) = ((i + 1 : Nat) : Int) := by rw [IntWalk.i64_in _ (by omega)]; omega
        have hw4 : IntKind.i64.wrap ((x : Int) * (y : Int)) = (p : Int) := by rw [hp, Int.natCast_mul, IntWalk.i64_in _ (by rw [← Int.natCast_mul, ← hp]; omega)]
        have hw5 : IntKind.i64.wrap ((s : Int) + (p : Int)) = (s : Int) + (p : Int) := IntWalk.i64_in _ (by omega)
        have e1 : ((s : Int) + (p : Int)) % (m : Int) = (z : Int) := by rw [hz, Int.natCast_emod, Int.natCast_add]
        have e2 : Int.tmod ((s : Int) + (p : Int)) (m : Int) = (z : Int) := by rw [Int.tmod_eq_emod_of_nonneg (by omega)]; exact e1
        have hw6 : IntKind.i64.wrap (z : Int) = (z : Int) := IntWalk.i64_in _ (by omega)
        have hm0 : ¬ ((m : Int) = 0) := by omega
        have hm1 : ((m : Int) == 0) = false := by rw [beq_eq_false_iff_ne]; omega
        have hm3 : ¬ m = 0 := by omega
        have hi0 : (0 : Int) ≤ (i : Int) := by omega
        have hi1 : (i : Int) < (k : Int) := by omega
        clear hs hx hy hye hz hp hc hc2 hb hb2 hbel hbel1 hik hi
        go_wp2
        go_quiet (fail)
        go_wp2
        go_roundw
        case rel => exact HNX.out _
        case measure => simp [intOf]; omega

/-- what is asked of an index -/
def idxB (n : Int) : Bool := decide (0 ≤ n ∧ n ≤ 1000000000000000000)
def modB (m : Int) : Bool := decide (2 ≤ m ∧ m ≤ 1000000)
/-- whether there is a residue of a far term -/
noncomputable def farB (L1 L2 : List ByteArray) (n m : Int) : Bool := wholeB L1 L2 && (idxB n && modB m)
/-- the residue -/
noncomputable def farT (L1 L2 : List ByteArray) (n m : Int) : Nat := trm m.toNat (resL m.toNat L2) (resL m.toNat L1) n.toNat
noncomputable def farTermV (L1 L2 : List ByteArray) (n m : Int) : Value := if farB L1 L2 n m = true then .tuple #[.int .i64 ((farT L1 L2 n m : Nat) : Int), .bool true] else .tuple #[.int .i64 0, .bool false]

set_option maxRecDepth 100000 in
theorem sidx_any (n : Int) (w : World) (R : Ending → World → Prop) (hR : R (.returned (.bool (idxB n))) w) :
    Calls Tryz.prog 49 #[.int .i64 n] w R := by
  have HR := Lib.hid hR; clear hR
  go_enter Tryz.func49, Tryz.ntmps49
  go_wp2_with fail
  refine in_any n 0 1000000000000000000 _ _ ?_
  have HR' : Hid (R (.returned (.bool (decide (0 ≤ n ∧ n ≤ 1000000000000000000)))) w) := HR
  obtain ⟨b, hb⟩ : ∃ b, b = decide (0 ≤ n ∧ n ≤ 1000000000000000000) := ⟨_, rfl⟩
  rw [← hb] at HR' ⊢
  clear hb HR
  dsimp only
  go_wp2
  first | go_ret | skip
  exact HR'.out

theorem whole_parts {L1 L2 : List ByteArray} (h : wholeB L1 L2 = true) : L1.length = L2.length ∧ L1.length ≤ 8 ∧ L2.length ≤ 8 ∧ L1.all isNum = true ∧ L2.all isNum = true ∧ L1.all isInt = true ∧ L2.all isInt = true := by
  unfold wholeB at h
  rw [Bool.and_eq_true, Bool.and_eq_true] at h
  obtain ⟨h1, h2, h3⟩ := h
  obtain ⟨⟨k1, k2⟩, k3, k4⟩ := recB_all h1
  unfold recB at h1
  rw [Bool.and_eq_true] at h1
  exact ⟨of_decide_eq_true h1.1, k1, k2, k3, k4, h2, h3⟩

set_option maxRecDepth 100000 in
set_option maxHeartbeats 4000000 in
theorem spec_farTerm (v : Value) (L1 L2 : List ByteArray) (n m : Int) (w : World) (h : IsRec w v L1 L2) (hn1 : L1.length ≤ 1048576) (hs1 : ∀ s ∈ L1, s.size ≤ 1048576) (hn2 : L2.length ≤ 1048576) (hs2 : ∀ s ∈ L2, s.size ≤ 1048576) (R : Ending → World → Prop)
    (hR : ∀ w', Below w.heap.size w w' → R (.returned (farTermV L1 L2 n m)) w') :
    Calls Tryz.prog 16 #[v, .int .i64 n, .int .i64 m] w R := by
  have HR := Lib.hid hR; clear hR
  obtain ⟨a1, n1, c1, a2, n2, c2, rfl, e1, e2, h1, h2⟩ := h.parts
  obtain ⟨L, hL⟩ : ∃ L, L = w.alloc (.cells #[.slice a1 n1 c1, .slice a2 n2 c2] 28) := ⟨_, rfl⟩
  have HBL : Hid (Below w.heap.size w L) := Lib.hid (by rw [hL]; exact (Below.refl _ _).alloc (Nat.le_refl _) _)
  have HBX : Hid (Box2 L w.heap.size (.slice a1 n1 c1) (.slice a2 n2 c2) 28) := Lib.hid (by rw [hL]; exact Box2.made _ _ _ _)
  have HL := Lib.hid hL
  have H1 := Lib.hid (h1.later HBL.out (Nat.le_refl _))
  have H2 := Lib.hid (h2.later HBL.out (Nat.le_refl _))
  have HH := Lib.hid (And.intro hn1 (And.intro hs1 (And.intro hn2 hs2)))
  have HE := Lib.hid (And.intro e1 e2)
  have HNO : Hid (farB L1 L2 n m = false → ∀ w', Below w.heap.size w w' → R (.returned (.tuple #[.int .i64 0, .bool false])) w') := Lib.hid fun hf w' hb => by
    have := HR.out w' hb
    unfold farTermV at this
    rw [if_neg (by rw [hf]; decide)] at this; exact this
  clear h e1 e2 h1 h2 hn1 hs1 hn2 hs2 hL
  go_enter Tryz.func16, Tryz.ntmps16
  go_wp2_with fail
  rw [← HL.out]
  refine l04is_any _ n1 n2 c1 c2 a1 a2 L1 L2 L HBX.out HE.out.1 HE.out.2 H1.out H2.out HH.out.1 HH.out.2.1 HH.out.2.2.1 HH.out.2.2.2 _ ?_
  intro w1 hb1
  have HB := Lib.hid (HBL.out.trans (hb1.mono HBL.out.size))
  have HB1 := Lib.hid hb1
  clear hb1
  cases hx : wholeB L1 L2 with
  | false =>
    have HF := Lib.hid (HNO.out (by unfold farB; rw [hx]; rfl) w1 HB.out)
    clear hx
    dsimp only
    go_wp2
    first | go_ret | skip
    exact HF.out
  | true =>
    have HX := Lib.hid hx
    clear hx
    dsimp only
    go_wp2_with fail
    refine sidx_any n _ _ ?_
    cases hy : idxB n with
    | false =>
      have HF := Lib.hid (HNO.out (by unfold farB; rw [hy]; simp) w1 HB.out)
      clear hy
      dsimp only
      go_wp2
      first | go_ret | skip
      exact HF.out
    | true =>
      have HY := Lib.hid hy
      clear hy
      dsimp only
      go_wp2_with fail
      refine smod_any m _ _ ?_
      cases hz : decide (2 ≤ m ∧ m ≤ 1000000) with
      | false =>
        have HF := Lib.hid (HNO.out (by unfold farB modB; rw [hz]; simp) w1 HB.out)
        clear hz
        dsimp only
        go_wp2
        first | go_ret | skip
        exact HF.out
      | true =>
        have hm := of_decide_eq_true hz
        have hn := of_decide_eq_true (show decide (0 ≤ n ∧ n ≤ 1000000000000000000) = true from HY.out)
        have hOK : farB L1 L2 n m = true := by unfold farB modB; rw [HX.out, HY.out, hz]; rfl
        obtain ⟨M, rfl⟩ : ∃ M : Nat, m = (M : Int) := ⟨m.toNat, by omega⟩
        obtain ⟨K, rfl⟩ : ∃ K : Nat, n = (K : Int) := ⟨n.toNat, by omega⟩
        obtain ⟨t, ht⟩ : ∃ t, t = trm M (resL M L2) (resL M L1) K := ⟨_, rfl⟩
        have HF : Hid (∀ w', Below w.heap.size w w' → R (.returned (.tuple #[.int .i64 ((t : Nat) : Int), .bool true])) w') := Lib.hid fun w' hb => by
          have := HR.out w' hb
          unfold farTermV at this
          rw [if_pos hOK, farT, Int.toNat_natCast, Int.toNat_natCast, ← ht] at this; exact this
        have hM2 : 2 ≤ M := by omega
        have hM3 : M ≤ 1000000 := by omega
        have hK9 : K ≤ 9000000000000000000 := by omega
        have HT := Lib.hid ht
        have HP := Lib.hid (whole_parts HX.out)
        have HBX1 := Lib.hid (HBX.out.later HB1.out (lt_of_block HBX.out))
        have H11 := Lib.hid (H1.out.later HB1.out (Nat.le_refl _))
        have H21 := Lib.hid (H2.out.later HB1.out (Nat.le_refl _))
        obtain ⟨hA0, hA1, _, _⟩ := HBX1.out.cells
        have HSOF : Hid (∀ w', Below w1.heap.size w1 w' → (Below w1.heap.size w1 w' ∧ w'.cell? ⟨w.heap.size, 0, none⟩ = some (.slice a1 n1 c1) ∧ w'.cell? ⟨w.heap.size, 1, none⟩ = some (.slice a2 n2 c2))) :=
          Lib.hid fun w' hb => ⟨hb, (HBX1.out.later hb (lt_of_block HBX1.out)).cells.1, (HBX1.out.later hb (lt_of_block HBX1.out)).cells.2.1⟩
        clear hz hm hn hOK ht
        dsimp only
        go_wp2_with fail
        first
          | (go_region_held3 (fun w' => Below w1.heap.size w1 w' ∧ w'.cell? ⟨w.heap.size, 0, none⟩ = some (.slice a1 n1 c1) ∧ w'.cell? ⟨w.heap.size, 1, none⟩ = some (.slice a2 n2 c2))
              (first
                | exact HSOF.out _ HT3.out
                | exact HSOF.out _ HT2.out
                | exact HSOF.out _ HT1.out
                | exact HSOF.out _ (Below.refl _ _).drew)
              (first
                | (have hguard := HT2; go_at_call 51; refine sterm_any M K _ _ (resL M L1) (resL M L2) _ HV1'.out HV2.out (by rw [resL_len, resL_len]; exact HP.out.1) (resL_lt (by omega) _) (resL_lt (by omega) _) hM2 hM3 (by rw [resL_len]; have := HP.out.2.2.1; omega) hK9 _ ?_; rw [← HT.out]; intro w4 hb4; have HT3 := Lib.hid (HT2.out.trans (hb4.mono HT2.out.size)); clear hguard hb4; dsimp only)
                | (have hguard := HT1; go_at_call 52; refine sresidues_any _ L2 M _ (H21.out.later HT1.out (Nat.le_refl _)) HP.out.2.2.2.2.1 (by have := HP.out.2.2.1; omega) hM2 hM3 _ ?_; intro v3 w3 hv3 hb3; obtain ⟨a5, c5, rfl, hc5, hh5⟩ := hv3.sl; have HV2 : Hid (Sl .i64 w3 (.slice a5 (resL M L2).length c5) (resL M L2)) := Lib.hid ⟨a5, c5, rfl, hc5, hh5⟩; have HV1' := Lib.hid (HV1.out.later hb3 (Nat.le_refl _)); have HT2 := Lib.hid (HT1.out.trans (hb3.mono HT1.out.size)); clear hguard hv3 hb3 hc5 hh5; dsimp only)
                | (go_at_call 52; refine sresidues_any _ L1 M _ (H11.out.later (Below.refl _ _).drew (Nat.le_refl _)) HP.out.2.2.2.1 (by have := HP.out.2.1; omega) hM2 hM3 _ ?_; intro v2 w2 hv2 hb2; obtain ⟨a4, c4, rfl, hc4, hh4⟩ := hv2.sl; have HV1 : Hid (Sl .i64 w2 (.slice a4 (resL M L1).length c4) (resL M L1)) := Lib.hid ⟨a4, c4, rfl, hc4, hh4⟩; have HT1 : Hid (Below w1.heap.size w1 w2) := Lib.hid (below_unDrew hb2); clear hv2 hb2 hc4 hh4; dsimp only)))
          | fail
        all_goals
          go_wp2
          first | go_ret | skip
          exact HF.out _ (HB.out.trans (HT3.out.mono HB.out.size))
end Go.Proofs.YtnfehccicnpbpaaGreatDoor

namespace Go.Proofs.YtnfehccicnpbpaaGreatDoor
open Go Go.RowKit

set_option maxRecDepth 100000 in
theorem iidx_any (n : Int) (w : World) (R : Ending → World → Prop) (hR : R (.returned (.bool (idxB n))) w) :
    Calls Tryz.prog 55 #[.int .i64 n] w R := by
  have HR := Lib.hid hR; clear hR
  unfold idxB at HR
  by_cases h1 : 0 ≤ n
  · by_cases h2 : n ≤ 1000000000000000000
    · rw [decide_eq_true ⟨h1, h2⟩] at HR
      go_enter Tryz.func55, Tryz.ntmps55
      go_wp2
      first | go_ret | skip
      exact HR.out
    · rw [decide_eq_false (fun h => h2 h.2)] at HR
      go_enter Tryz.func55, Tryz.ntmps55
      go_wp2
      first | go_ret | skip
      exact HR.out
  · rw [decide_eq_false (fun h => h1 h.1)] at HR
    go_enter Tryz.func55, Tryz.ntmps55
    go_wp2
    first | go_ret | skip
    exact HR.out

set_option maxRecDepth 100000 in
set_option maxHeartbeats 2000000 in
theorem rterm_any (m N : Nat) (vs vc : Value) (cs ss : List Nat) (w : World) (hs : At w vs ss) (hc : At w vc cs) (hl : ss.length = cs.length) (h8 : cs.length ≤ 10) (hm : 2 ≤ m) (hm2 : m ≤ 1000000)
    (hC : ∀ x ∈ cs, x < m) (hS : ∀ x ∈ ss, x < m) (hN : N < 18446744073709551616) (R : Ending → World → Prop)
    (hR : ∀ w', Below w.heap.size w w' → R (.returned (.int .u64 ((trm m cs ss N : Nat) : Int))) w') :
    Calls Tryz.prog 56 #[.agg #[.int .u64 ((m : Nat) : Int), vs, vc], .int .u64 ((N : Nat) : Int)] w R := by
  have HR := Lib.hid hR; clear hR
  obtain ⟨b1, o1, c1, rfl, hs'⟩ := hs.op
  obtain ⟨b2, o2, c2, rfl, hc'⟩ := hc.op
  obtain ⟨L, hL⟩ : ∃ L, L = w.alloc (.cells #[.int .u64 ((m : Nat) : Int), .slice (some ⟨b1, o1, none⟩) ss.length c1, .slice (some ⟨b2, o2, none⟩) cs.length c2] 65) := ⟨_, rfl⟩
  have HBL : Hid (Below w.heap.size w L) := Lib.hid (by rw [hL]; exact (Below.refl _ _).alloc (Nat.le_refl _) _)
  have HBX : Hid (Box3 L w.heap.size (.int .u64 ((m : Nat) : Int)) (.slice (some ⟨b1, o1, none⟩) ss.length c1) (.slice (some ⟨b2, o2, none⟩) cs.length c2) 65) := Lib.hid (by rw [hL]; exact Box3.made _ _ _ _ _)
  have HL := Lib.hid hL
  have HS := Lib.hid (hs'.later HBL.out (Nat.le_refl _))
  have HC := Lib.hid (hc'.later HBL.out (Nat.le_refl _))
  have HLL := Lib.hid (And.intro hl (And.intro h8 (And.intro hC (And.intro hS hN))))
  obtain ⟨⟨hB0, hB1, hB2⟩, _, _, _⟩ := HBX.out.cells
  rw [hL] at hB0 hB1 hB2
  obtain ⟨n1, hn1⟩ : ∃ n1, n1 = ss.length := ⟨_, rfl⟩
  obtain ⟨k, hk⟩ : ∃ k, k = cs.length := ⟨_, rfl⟩
  rw [← hn1, ← hk] at hB0 hB1 hB2 HL HBX ⊢
  rw [← hn1] at HS
  rw [← hk] at HC
  clear hs hs' hc hc' hL hn1 hk hl h8 hC hS hN
  go_enter Tryz.func56, Tryz.ntmps56
  go_wp2_with fail
  rw [← HL.out]
  refine termsFrom_any m N 1 _ _ cs ss _ HS.out HC.out HLL.out.1 HLL.out.2.1 hm hm2 HLL.out.2.2.1 HLL.out.2.2.2.1 (by omega) HLL.out.2.2.2.2 _ ?_
  intro g w2 hA hg hb2
  have hcl := hA.cell 0 (by rw [tmf_len]; omega)
  obtain ⟨t, ht⟩ : ∃ t, t = trm m cs ss N := ⟨_, rfl⟩
  rw [show (tmf m cs ss N 1).getD 0 0 = t from (by rw [ht]; rfl)] at hcl
  have HF := Lib.hid (HR.out w2 (HBL.out.trans (hb2.mono HBL.out.size)))
  rw [← ht] at HF
  clear hA hg hb2 ht hB0 hB1 hB2
  dsimp only
  go_wp2
  first | go_ret | skip
  exact HF.out

theorem res_le {m : Nat} {L1 L2 : List ByteArray} (h : wholeB L1 L2 = true) : (resL m L1).length = (resL m L2).length ∧ (resL m L2).length ≤ 10 := by
  obtain ⟨h1, _, h3, _⟩ := whole_parts h
  rw [resL_len, resL_len]
  exact ⟨h1, by omega⟩

set_option maxRecDepth 100000 in
set_option maxHeartbeats 4000000 in
theorem impl_farTerm (v : Value) (L1 L2 : List ByteArray) (n m : Int) (w : World) (hE : Env w) (h : IsRec w v L1 L2) (hn1 : L1.length ≤ 1048576) (hn2 : L2.length ≤ 1048576) (R : Ending → World → Prop)
    (hR : ∀ w', Below w.heap.size w w' → R (.returned (farTermV L1 L2 n m)) w') :
    Calls Tryz.prog 18 #[v, .int .i64 n, .int .i64 m] w R := by
  have HR := Lib.hid hR; clear hR
  have HE := Lib.hid hE
  have h9 := h
  obtain ⟨a1, n1, c1, a2, n2, c2, rfl, e1, e2, h1, h2⟩ := h.parts
  obtain ⟨L, hL⟩ : ∃ L, L = w.alloc (.cells #[.slice a1 n1 c1, .slice a2 n2 c2] 28) := ⟨_, rfl⟩
  have HBL : Hid (Below w.heap.size w L) := Lib.hid (by rw [hL]; exact (Below.refl _ _).alloc (Nat.le_refl _) _)
  have HBX : Hid (Box2 L w.heap.size (.slice a1 n1 c1) (.slice a2 n2 c2) 28) := Lib.hid (by rw [hL]; exact Box2.made _ _ _ _)
  have HL := Lib.hid hL
  have HV := Lib.hid (h9.later HBL.out (Nat.le_refl _))
  have HN := Lib.hid (And.intro hn1 hn2)
  obtain ⟨hA0, hA1, _, _⟩ := HBX.out.cells
  have HNO : Hid (farB L1 L2 n m = false → ∀ w', Below w.heap.size w w' → R (.returned (.tuple #[.int .i64 0, .bool false])) w') := Lib.hid fun hf w' hb => by
    have := HR.out w' hb
    unfold farTermV at this
    rw [if_neg (by rw [hf]; decide)] at this; exact this
  clear h h9 e1 e2 h1 h2 hn1 hn2 hL hE
  go_enter Tryz.func18, Tryz.ntmps18
  rw [HL.out] at hA0 hA1
  go_wp2_with fail
  rw [← HL.out]
  refine readres_any _ L1 L2 m L (HE.out.later HBL.out (Nat.le_refl _)) HV.out HN.out.1 HN.out.2 _ ?_ ?_
  rotate_left
  · intro e w2 hno he hb2
    obtain ⟨t, p, rfl⟩ := he
    have HF := Lib.hid (HNO.out (by
      unfold farB modB
      cases hx : wholeB L1 L2
      · rfl
      · rw [hx, Bool.true_and] at hno; rw [hno]; simp) (w2.alloc (.cells #[.int .u64 0, .slice none 0 0, .slice none 0 0] 65)) ((HBL.out.trans (hb2.mono HBL.out.size)).alloc (Nat.le_trans HBL.out.size hb2.size) _))
    clear hno hb2 hA0 hA1
    unfold zeroU
    dsimp only
    go_wp2
    first | go_ret | skip
    exact HF.out
  intro M vs vc w2 hM hM2 hM3 hw hvs hvc hb2
  subst hM
  obtain ⟨b1, o1, d1, rfl, hvs'⟩ := hvs.op
  obtain ⟨b2, o2, d2, rfl, hvc'⟩ := hvc.op
  obtain ⟨k1, hk1⟩ : ∃ k1, k1 = (resL M L1).length := ⟨_, rfl⟩
  obtain ⟨k2, hk2⟩ : ∃ k2, k2 = (resL M L2).length := ⟨_, rfl⟩
  rw [← hk1] at hvs' ⊢
  rw [← hk2] at hvc' ⊢
  obtain ⟨V, hV⟩ : ∃ V, V = w2.alloc (.cells #[.int .u64 (M : Int), .slice (some ⟨b1, o1, none⟩) k1 d1, .slice (some ⟨b2, o2, none⟩) k2 d2] 65) := ⟨_, rfl⟩
  have hbV : Below w2.heap.size w2 V := by rw [hV]; exact (Below.refl _ _).alloc (Nat.le_refl _) _
  have HBV : Hid (Below w.heap.size w V) := Lib.hid ((HBL.out.trans (hb2.mono HBL.out.size)).trans (hbV.mono (by have := HBL.out.size; have := hb2.size; omega)))
  have HVS := Lib.hid (hvs'.later hbV (Nat.le_refl _))
  have HVC := Lib.hid (hvc'.later hbV (Nat.le_refl _))
  have HRB : Hid (Box3 V w2.heap.size (.int .u64 (M : Int)) (.slice (some ⟨b1, o1, none⟩) k1 d1) (.slice (some ⟨b2, o2, none⟩) k2 d2) 65) := Lib.hid (by rw [hV]; exact Box3.made _ _ _ _ _)
  have HV2 := Lib.hid hV
  have HW := Lib.hid hw
  have HLE := Lib.hid (res_le (m := M) hw)
  obtain ⟨⟨hB0, hB1, hB2⟩, _, _, _⟩ := HRB.out.cells
  rw [hV] at hB0 hB1 hB2
  clear hw hvs hvc hvs' hvc' hb2 hbV hV hk1 hk2 hA0 hA1
  dsimp only
  go_wp2_with fail
  rw [← HV2.out]
  refine iidx_any n _ _ ?_
  cases hy : idxB n with
  | false =>
    have HF := Lib.hid (HNO.out (by unfold farB; rw [hy]; simp) V HBV.out)
    clear hy hB0 hB1 hB2
    dsimp only
    go_wp2
    first | go_ret | skip
    exact HF.out
  | true =>
    have hn := of_decide_eq_true (show decide (0 ≤ n ∧ n ≤ 1000000000000000000) = true from hy)
    have hOK : farB L1 L2 n (M : Int) = true := by unfold farB modB; rw [HW.out, hy, decide_eq_true ⟨by omega, by omega⟩]; rfl
    obtain ⟨K, rfl⟩ : ∃ K : Nat, n = (K : Int) := ⟨n.toNat, by omega⟩
    obtain ⟨t, ht⟩ : ∃ t, t = trm M (resL M L2) (resL M L1) K := ⟨_, rfl⟩
    have HT := Lib.hid ht
    have HF : Hid (∀ w', Below w.heap.size w w' → R (.returned (.tuple #[.int .i64 ((t : Nat) : Int), .bool true])) w') := Lib.hid fun w' hb => by
      have := HR.out w' hb
      unfold farTermV at this
      rw [if_pos hOK, farT, Int.toNat_natCast, Int.toNat_natCast, ← ht] at this; exact this
    have htm : t < M := by rw [ht]; exact trm_lt (by omega) (resL_lt (by omega) _) _
    have hwK : IntKind.u64.wrap (K : Int) = (K : Int) := wrapu _ (by omega) (by omega)
    have hwt : IntKind.i64.wrap (t : Int) = (t : Int) := IntWalk.i64_in _ (by omega)
    have HKN := Lib.hid (show K < 18446744073709551616 by omega)
    clear hy hn hOK ht hB0 hB1 hB2
    obtain ⟨⟨hB0, hB1, hB2⟩, _, _, _⟩ := HRB.out.cells
    dsimp only
    go_wp2_with fail
    refine rterm_any M K _ _ (resL M L2) (resL M L1) _ HVS.out HVC.out HLE.out.1 HLE.out.2 hM2 hM3 (resL_lt (by omega) _) (resL_lt (by omega) _) HKN.out _ ?_
    rw [← HT.out]
    intro w3 hb3
    have HFF := Lib.hid (HF.out w3 (HBV.out.trans (hb3.mono HBV.out.size)))
    clear hb3 hB0 hB1 hB2
    dsimp only
    go_wp2
    first | go_ret | skip
    exact HFF.out

theorem farTermV_shape (L1 L2 : List ByteArray) (n m : Int) : ∃ (z : Int) (b : Bool), farTermV L1 L2 n m = .tuple #[.int .i64 z, .bool b] := by
  unfold farTermV
  split
  · exact ⟨_, _, rfl⟩
  · exact ⟨_, _, rfl⟩
end Go.Proofs.YtnfehccicnpbpaaGreatDoor

namespace Go.Proofs.YtnfehccicnpbpaaGreatDoor
open Go Go.RowKit

set_option maxRecDepth 100000 in
set_option maxHeartbeats 8000000 in
theorem law_farTerm (v : Value) (L1 L2 : List ByteArray) (n m : Int) (w : World) (hE : Env w) (h : IsRec w v L1 L2) (hn1 : L1.length ≤ maxLen) (hs1 : ∀ s ∈ L1, s.size ≤ maxLen) (hn2 : L2.length ≤ maxLen) (hs2 : ∀ s ∈ L2, s.size ≤ maxLen) (_hn0 : -9223372036854775807 - 1 ≤ n) (_hn1 : n ≤ 9223372036854775807) (_hm0 : -9223372036854775807 - 1 ≤ m) (_hm1 : m ≤ 9223372036854775807) (R : Ending → World → Prop)
    (hR : ∀ w', Below w.heap.size w w' → R (.returned (.bool true)) w') :
    Calls Tryz.prog 3 #[v, .int .i64 n, .int .i64 m] w R := by
  have HR := Lib.hid hR; clear hR
  have HE := Lib.hid hE; clear hE
  have h9 := h
  obtain ⟨s1, s2, rfl, h1, h2⟩ := h9
  obtain ⟨a1, n1, c1, rfl, h1'⟩ := h1.op
  obtain ⟨a2, n2, c2, rfl, h2'⟩ := h2.op
  obtain ⟨L, hL⟩ : ∃ L, L = w.alloc (.cells #[.slice a1 n1 c1, .slice a2 n2 c2] 24) := ⟨_, rfl⟩
  have HBL : Hid (Below w.heap.size w L) := Lib.hid (by rw [hL]; exact (Below.refl _ _).alloc (Nat.le_refl _) _)
  have HBX : Hid (Box2 L w.heap.size (.slice a1 n1 c1) (.slice a2 n2 c2) 24) := Lib.hid (by rw [hL]; exact Box2.made _ _ _ _)
  have HL := Lib.hid hL
  have HV := Lib.hid (h.later HBL.out (Nat.le_refl _))
  have HN := Lib.hid (And.intro hn1 (And.intro hs1 (And.intro hn2 hs2)))
  obtain ⟨z0, bq, hzq⟩ := farTermV_shape L1 L2 n m
  have HZQ := Lib.hid hzq
  have cz0 : (z0 != z0) = false := by simp
  have cbq : (bq != bq) = false := by cases bq <;> rfl
  obtain ⟨hA0, hA1, _, _⟩ := HBX.out.cells
  clear h h1 h2 h1' h2' hn1 hs1 hn2 hs2 hL hzq _hn0 _hn1 _hm0 _hm1
  go_enter Tryz.func3, Tryz.ntmps3
  rw [HL.out] at hA0 hA1
  go_wp2_with fail
  rw [← HL.out]
  refine szR_any _ L1 L2 L 1048576 HV.out HN.out.1 HN.out.2.1 HN.out.2.2.1 HN.out.2.2.2 (by omega) _ ?_ ?_
  rotate_left
  · intro w1 _ hb1
    have HF := Lib.hid (HR.out w1 (HBL.out.trans (hb1.mono HBL.out.size)))
    clear hb1 hA0 hA1
    dsimp only
    go_wp2
    first | go_ret | skip
    exact HF.out
  intro w1 ht hb1
  obtain ⟨p1, p2⟩ := sizes_each (L := L1) (by omega)
  obtain ⟨p3, p4⟩ := sizes_each (L := L2) (by omega)
  have HP := Lib.hid (And.intro p1 (And.intro p2 (And.intro p3 p4)))
  obtain ⟨mm, hmm⟩ : ∃ mm : Nat, mm = 1048576 - (tot L1 + tot L2) := ⟨_, rfl⟩
  rw [← hmm]
  have hm0 : ¬ ((mm : Int) < 0) := by omega
  have HB1 : Hid (Below L.heap.size L w1) := Lib.hid hb1
  have HX1 := Lib.hid (HBX.out.later hb1 (lt_of_block HBX.out))
  clear hmm ht p1 p2 p3 p4 hb1 hA0 hA1
  obtain ⟨hA0, hA1, _, _⟩ := HX1.out.cells
  dsimp only
  go_wp2_with fail
  refine toR_any _ L1 L2 w1 (HV.out.later HB1.out (Nat.le_refl _)) HP.out.1 HP.out.2.2.1 _ ?_
  intro v2 w2 hv2 hb2
  have HV2 := Lib.hid hv2
  obtain ⟨x1, m1, y1, x2, m2, y2, rfl, q1, q2, q3, q4⟩ := hv2.parts
  have HB2 := Lib.hid (HB1.out.trans (hb2.mono HB1.out.size))
  have HX2 := Lib.hid (HX1.out.later hb2 (lt_of_block HX1.out))
  clear hv2 q1 q2 q3 q4 hb2 hA0 hA1
  obtain ⟨hA0, hA1, _, _⟩ := HX2.out.cells
  dsimp only
  go_wp2_with fail
  refine spec_farTerm _ L1 L2 n m w2 HV2.out HP.out.1 HP.out.2.1 HP.out.2.2.1 HP.out.2.2.2 _ ?_
  intro w3 hb3
  rw [HZQ.out]
  have HB3 := Lib.hid (HB2.out.trans (hb3.mono HB2.out.size))
  have HX3 := Lib.hid (HX2.out.later hb3 (lt_of_block HX2.out))
  clear hb3 hA0 hA1
  obtain ⟨hA0, hA1, _, _⟩ := HX3.out.cells
  dsimp only
  go_wp2_with fail
  refine toR_any _ L1 L2 w3 (HV.out.later HB3.out (Nat.le_refl _)) HP.out.1 HP.out.2.2.1 _ ?_
  intro v4 w4 hv4 hb4
  obtain ⟨x3, m3, y3, x4, m4, y4, rfl, q1, q2, q3, q4⟩ := hv4.parts
  obtain ⟨W, hW⟩ : ∃ W, W = w4.alloc (.cells #[.slice x3 m3 y3, .slice x4 m4 y4] 28) := ⟨_, rfl⟩
  have hbW : Below w4.heap.size w4 W := by rw [hW]; exact (Below.refl _ _).alloc (Nat.le_refl _) _
  have B4 : Hid (Box2 W w4.heap.size (.slice x3 m3 y3) (.slice x4 m4 y4) 28) := Lib.hid (by rw [hW]; exact Box2.made _ _ _ _)
  have HV4 := Lib.hid (hv4.later hbW (Nat.le_refl _))
  have hb4W : Below w3.heap.size w3 W := hb4.trans (hbW.mono hb4.size)
  have HB4 := Lib.hid (HB3.out.trans (hb4W.mono HB3.out.size))
  have HX4 := Lib.hid (HX3.out.later hb4W (lt_of_block HX3.out))
  have HW := Lib.hid hW
  obtain ⟨hC0, hC1, _, _⟩ := B4.out.cells
  clear hv4 q1 q2 q3 q4 hb4 hbW hb4W hW hA0 hA1
  rw [HW.out] at hC0 hC1
  dsimp only
  go_wp2_with fail
  rw [← HW.out]
  refine impl_farTerm _ L1 L2 n m W (HE.out.later (HBL.out.trans (HB4.out.mono HBL.out.size)) (Nat.le_refl _)) HV4.out HP.out.1 HP.out.2.2.1 _ ?_
  intro w5 hb5
  rw [HZQ.out]
  have HB5 := Lib.hid (HB4.out.trans (hb5.mono HB4.out.size))
  have HX5 := Lib.hid (HX4.out.later hb5 (lt_of_block HX4.out))
  have B5 := Lib.hid (B4.out.later hb5 (lt_of_block B4.out))
  have HV5 := Lib.hid (HV4.out.later hb5 (Nat.le_refl _))
  have HSOF : Hid (∀ w', Below w5.heap.size w5 w' → (Below w5.heap.size w5 w' ∧ (w'.cell? ⟨w.heap.size, 0, none⟩ = some (.slice a1 n1 c1) ∧ w'.cell? ⟨w.heap.size, 1, none⟩ = some (.slice a2 n2 c2)) ∧ (w'.cell? ⟨w4.heap.size, 0, none⟩ = some (.slice x3 m3 y3) ∧ w'.cell? ⟨w4.heap.size, 1, none⟩ = some (.slice x4 m4 y4)))) :=
    Lib.hid fun w' hb => ⟨hb, ⟨(HX5.out.later hb (lt_of_block HX5.out)).cells.1, (HX5.out.later hb (lt_of_block HX5.out)).cells.2.1⟩, ⟨(B5.out.later hb (lt_of_block B5.out)).cells.1, (B5.out.later hb (lt_of_block B5.out)).cells.2.1⟩⟩
  have HVL := Lib.hid (HV.out.later HB5.out (Nat.le_refl _))
  have HLEN : Hid (L1.length ≤ 281474976710656 ∧ L2.length ≤ 281474976710656) := Lib.hid (by have := HP.out.1; have := HP.out.2.2.1; omega)
  clear hb5 hC0 hC1
  dsimp only
  go_wp2_with fail
  first
    | (go_region_held3 (fun w' => Below w5.heap.size w5 w' ∧ (w'.cell? ⟨w.heap.size, 0, none⟩ = some (.slice a1 n1 c1) ∧ w'.cell? ⟨w.heap.size, 1, none⟩ = some (.slice a2 n2 c2)) ∧ (w'.cell? ⟨w4.heap.size, 0, none⟩ = some (.slice x3 m3 y3) ∧ w'.cell? ⟨w4.heap.size, 1, none⟩ = some (.slice x4 m4 y4)))
        (first
          | exact HSOF.out _ HQ2.out
          | exact HSOF.out _ HQ1.out
          | exact HSOF.out _ (Below.refl _ _).drew)
        (first
          | (go_at_call 19; refine eqR_any _ _ L1 L2 _ (HV5.out.later HQ1.out (Nat.le_refl _)) HV6.out HLEN.out.1 HLEN.out.2 _ ?_; intro w7 hb7; have HQ2 : Hid (Below w5.heap.size w5 w7) := Lib.hid (HQ1.out.trans (hb7.mono HQ1.out.size)); clear hb7; dsimp only)
          | (go_at_call 17; refine toR_any _ L1 L2 _ (HVL.out.later (Below.refl _ _).drew (Nat.le_refl _)) HP.out.1 HP.out.2.2.1 _ ?_; intro v6 w6 hv6 hb6; have HV6 := Lib.hid hv6; have HQ1 : Hid (Below w5.heap.size w5 w6) := Lib.hid ⟨hb6.os, hb6.tape, hb6.output, hb6.size, hb6.block⟩; clear hv6 hb6; dsimp only)))
    | fail
  all_goals
    go_wp2
    first | go_ret | skip
    exact HR.out _ (HBL.out.trans ((HB5.out.trans (HQ2.out.mono HB5.out.size)).mono HBL.out.size))
end Go.Proofs.YtnfehccicnpbpaaGreatDoor
