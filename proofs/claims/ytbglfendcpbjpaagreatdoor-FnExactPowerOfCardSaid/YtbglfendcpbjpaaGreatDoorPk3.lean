/- Contracts of functions of the program and of the model: Decid, GcdS, GcdN, Add, Sub, Mul, MulWalk, Div, DivWalk. -/
import Derived.Test.YtbglfendcpbjpaaGreatDoorPk2
import Derived.Deep.RegionHeld3
import Derived.Deep.RegionLaw
set_option linter.all false
set_option linter.unusedVariables false
set_option linter.unusedSimpArgs false
set_option linter.unnecessarySimpa false
set_option linter.deprecated false
namespace Go.Proofs.YtbglfendcpbjpaaGreatDoor
open Go Go.RowKit

theorem below_unDrew {B : Nat} {w w' : World} (h : Below B w.drew w') : Below B w w' := ⟨h.os, h.tape, h.output, h.size, h.block⟩

/-- a block of five cells -/
def Box5 (w : World) (b : Nat) (x0 x1 x2 x3 x4 : Value) (t : TypeId) : Prop := w.heap[b]? = some (.cells #[x0, x1, x2, x3, x4] t (0, 0))
theorem Box5.cells {w : World} {b : Nat} {x0 x1 x2 x3 x4 : Value} {t : TypeId} (h : Box5 w b x0 x1 x2 x3 x4 t) :
    (w.cell? ⟨b, 0, none⟩ = some x0 ∧ w.cell? ⟨b, 1, none⟩ = some x1 ∧ w.cell? ⟨b, 2, none⟩ = some x2 ∧ w.cell? ⟨b, 3, none⟩ = some x3 ∧ w.cell? ⟨b, 4, none⟩ = some x4) ∧
    (w.frozen? ⟨b, 0, none⟩ = false ∧ w.frozen? ⟨b, 1, none⟩ = false ∧ w.frozen? ⟨b, 2, none⟩ = false ∧ w.frozen? ⟨b, 3, none⟩ = false ∧ w.frozen? ⟨b, 4, none⟩ = false) := by
  unfold Box5 at h
  simp [World.cell?, World.frozen?, h]
theorem Box5.later {w w' : World} {b : Nat} {x0 x1 x2 x3 x4 : Value} {t : TypeId} {B : Nat} (h : Box5 w b x0 x1 x2 x3 x4 t) (hb : Below B w w') (hB : b < B) : Box5 w' b x0 x1 x2 x3 x4 t := by
  unfold Box5 at *; rw [hb.block b hB]; exact h
theorem Box5.made (w : World) (x0 x1 x2 x3 x4 : Value) (t : TypeId) : Box5 (w.alloc (.cells #[x0, x1, x2, x3, x4] t)) w.heap.size x0 x1 x2 x3 x4 t := by
  show (w.heap.push _)[_]? = _
  simp
theorem Box5.alloc {w : World} {b : Nat} {x0 x1 x2 x3 x4 : Value} {t : TypeId} (h : Box5 w b x0 x1 x2 x3 x4 t) (o : Obj) : Box5 (w.alloc o) b x0 x1 x2 x3 x4 t :=
  h.later ((Below.refl w.heap.size w).alloc (Nat.le_refl _) o) (lt_of_block h)
theorem Box5.drew {w : World} {b : Nat} {x0 x1 x2 x3 x4 : Value} {t : TypeId} (h : Box5 w b x0 x1 x2 x3 x4 t) : Box5 w.drew b x0 x1 x2 x3 x4 t := h
theorem Box5.drewN {w : World} {b : Nat} {x0 x1 x2 x3 x4 : Value} {t : TypeId} (h : Box5 w b x0 x1 x2 x3 x4 t) (n : Nat) : Box5 (w.drewN n) b x0 x1 x2 x3 x4 t := h

/-- five stores into a block -/
def set5 (w : World) (b : Nat) (y0 y1 y2 y3 y4 : Value) : World := ((((w.setCell ⟨b, 0, none⟩ y0).setCell ⟨b, 1, none⟩ y1).setCell ⟨b, 2, none⟩ y2).setCell ⟨b, 3, none⟩ y3).setCell ⟨b, 4, none⟩ y4
theorem Box5.set5 {w : World} {b : Nat} {x0 x1 x2 x3 x4 : Value} {t : TypeId} (h : Box5 w b x0 x1 x2 x3 x4 t) (y0 y1 y2 y3 y4 : Value) : Box5 (set5 w b y0 y1 y2 y3 y4) b y0 y1 y2 y3 y4 t := by
  unfold Box5 Go.Proofs.YtbglfendcpbjpaaGreatDoor.set5 at *
  simp [World.setCell, Array.getElem?_modify, h]
theorem Box5.noSet5 {w : World} {g : Nat} {x0 x1 x2 x3 x4 : Value} {t : TypeId} (h : Box5 w g x0 x1 x2 x3 x4 t) {b : Nat} (hb : g ≠ b) (y0 y1 y2 y3 y4 : Value) : Box5 (Go.Proofs.YtbglfendcpbjpaaGreatDoor.set5 w b y0 y1 y2 y3 y4) g x0 x1 x2 x3 x4 t := by
  unfold Box5 Go.Proofs.YtbglfendcpbjpaaGreatDoor.set5 at *
  simp [World.setCell, Array.getElem?_modify, h, Ne.symm hb]
theorem below_set5 {B : Nat} {a w : World} (h : Below B a w) {b : Nat} (hb : B ≤ b) (y0 y1 y2 y3 y4 : Value) : Below B a (Go.Proofs.YtbglfendcpbjpaaGreatDoor.set5 w b y0 y1 y2 y3 y4) :=
  ((((h.setCell hb _).setCell hb _).setCell hb _).setCell hb _).setCell hb _

theorem parity (k : Nat) : (!(k % 2 == 0)) = ((k + 1) % 2 == 0) := by
  rcases (by omega : k % 2 = 0 ∨ k % 2 = 1) with h | h
  · have h2 : (k + 1) % 2 = 1 := by omega
    rw [h, h2]; rfl
  · have h2 : (k + 1) % 2 = 0 := by omega
    rw [h, h2]; rfl

/-- the value of the program's type of steps -/
def stepsV (k fA fB sA sB : Nat) : Value := .agg #[.int .i64 ((k : Nat) : Int), .int .u64 ((fA : Nat) : Int), .int .u64 ((fB : Nat) : Int), .int .u64 ((sA : Nat) : Int), .int .u64 ((sB : Nat) : Int)]

def StBox (w : World) (b : Nat) (k fA fB sA sB : Nat) : Prop := Box5 w b (.int .i64 ((k : Nat) : Int)) (.int .u64 ((fA : Nat) : Int)) (.int .u64 ((fB : Nat) : Int)) (.int .u64 ((sA : Nat) : Int)) (.int .u64 ((sB : Nat) : Int)) 117

def DecRel (w : World) (g8 g9 a b A H : Nat) (fv sv : Value) (wr : World) : Prop :=
  ∃ (kd : Nat) (evd : Bool) (dA dB dC dD kn : Nat) (evn : Bool) (nA nB nC nD f s : Nat), fv = .int .u64 ((f : Nat) : Int) ∧ sv = .int .u64 ((s : Nat) : Int) ∧ StBox wr g8 kd dA dB dC dD ∧ StBox wr g9 kn nA nB nC nD ∧ StBox wr w.heap.size 0 0 0 0 0 ∧
    Dec a b kd evd dA dB dC dD ∧ Nxt a b A H kn evn nA nB nC nD f s ∧ evd = (kd % 2 == 0) ∧ evn = (kn % 2 == 0) ∧ kd ≤ 1000000000000 ∧ dA < W64 ∧ dB < W64 ∧ dC < W64 ∧ dD < W64 ∧ nA < W64 ∧ nB < W64 ∧ nC < W64 ∧ nD < W64 ∧ f < W64 ∧ Below w.heap.size w wr

set_option maxRecDepth 100000 in
set_option maxHeartbeats 2000000 in
theorem decided_any (va vb : Value) (a b : Nat) (w : World) (ha : IsN w va a) (hb : IsN w vb b) (hla : (dig W64 a).length ≤ 10000000) (hlb : 2 ≤ (dig W64 b).length) (hle : b ≤ a) (R : Ending → World → Prop)
    (hR : ∀ k ev fA fB sA sB w', Dec a b k ev fA fB sA sB → ev = (k % 2 == 0) → k ≤ 1000000000000 → fA < W64 → fB < W64 → sA < W64 → sB < W64 → Below w.heap.size w w' → R (.returned (stepsV k fA fB sA sB)) w') :
    Calls Tryz.prog 109 #[va, vb] w R := by
  have HR := Lib.hid hR; clear hR
  have hnn : (dig W64 b).length ≤ (dig W64 a).length := dig_length_mono' W64_two hle
  obtain ⟨aa, la, ca, rfl, hlae, ha'⟩ := ha.open
  obtain ⟨ab, nb, cb, rfl, hb'⟩ := hb.op
  obtain ⟨i, hi⟩ : ∃ i, la = i + 1 := ⟨la - 1, by omega⟩
  subst hi
  have hi1 : 1 ≤ i := by omega
  have ha0 : a ≠ 0 := by intro h; subst h; rw [dig_zero] at hlae; simp at hlae
  have htop := top_pos (B := W64) (n := a) W64_two ha0
  rw [← hlae, Nat.add_sub_cancel] at htop
  obtain ⟨d, hd⟩ : ∃ d, d = (dig W64 a).getD i 0 := ⟨_, rfl⟩
  rw [← hd] at htop
  have hdw : d < W64 := by rw [hd]; exact getD_lt (by rw [W64_eq]; omega) _ (limb_lt a) _
  obtain ⟨s, hs64, hs, hn1, hn2⟩ := lead_spec d htop hdw
  obtain ⟨T, a0, b0, hpa, hpb, hpa0, hpb0, hAH, hAW, hbt⟩ := hib_parts a b i s hi1 hlae.symm hle hs64 (by rw [← hd]; exact hn2)
  obtain ⟨bk, o, rfl, hbk, hc⟩ := Sl.at ha' i (by omega)
  rw [← hd] at hc
  have hila : i ≤ 10000000 := by omega
  have HA := Lib.hid ha'
  have HB := Lib.hid hb'
  have HLA := Lib.hid hla
  have HLB := Lib.hid (Nat.le_trans hnn hla)
  have HS := Lib.hid hs
  have HT1 := Lib.hid (show (dig W64 a).getD i 0 * 2 ^ s < W64 by rw [← hd]; exact hn2)
  have HT2 := Lib.hid hbt
  have hd1 : (0 : Int) ≤ (d : Int) := by omega
  have hd2 : (d : Int) ≤ 18446744073709551615 := by rw [W64_eq] at hdw; omega
  have hii : (0 : Int) ≤ (i : Int) := by omega
  have hii2 : (i : Int) < (i : Int) + 1 := by omega
  obtain ⟨A, hA⟩ : ∃ A, A = hib a i s := ⟨_, rfl⟩
  obtain ⟨H, hH⟩ : ∃ H, H = hib b i s := ⟨_, rfl⟩
  rw [← hA, ← hH] at hAH
  rw [← hA] at hpa hAW
  rw [← hH] at hpb
  have HAE := Lib.hid hA
  have HHE := Lib.hid hH
  have HPA := Lib.hid hpa
  have HPB := Lib.hid hpb
  have HAW := Lib.hid hAW
  have B0 := Box5.made w (.int .i64 0) (.int .u64 0) (.int .u64 0) (.int .u64 0) (.int .u64 0) 117
  have HB0 := Lib.hid B0
  have hcw : (w.alloc (.cells #[.int .i64 0, .int .u64 0, .int .u64 0, .int .u64 0, .int .u64 0] 117)).cell? ⟨bk, o + i, none⟩ = some (.int .u64 (d : Int)) := by
    rw [World.cell?_alloc_past _ _ _ hbk]; exact hc
  clear ha hb ha' hb' hla hlb hle hnn hlae ha0 htop hd hdw hs hn1 hn2 hpa hpb hAW hbt hc hA hH B0
  go_enter Tryz.func109, Tryz.ntmps109
  go_wp2_with fail
  refine (Tryz.bits_LeadingZeros64 (d : Int) _ hd1 hd2).mono ?_
  rintro e w2 ⟨rfl, hw2⟩
  rw [hw2, HS.out]
  have HEXT : Hid (Below w.heap.size w (w.alloc (.cells #[.int .i64 0, .int .u64 0, .int .u64 0, .int .u64 0, .int .u64 0] 117))) := Lib.hid ((Below.refl _ _).alloc (Nat.le_refl _) _)
  clear hcw hw2
  dsimp only
  go_wp2_with fail
  refine bits_any _ a i s _ (HA.out.later HEXT.out (Nat.le_refl _)) hi1 hila HLA.out hs64 HT1.out _ ?_
  intro n1
  rw [← HAE.out]
  dsimp only
  go_wp2_with fail
  refine bits_any _ b i s _ ((HB.out.later HEXT.out (Nat.le_refl _)).drewN n1) hi1 hila HLB.out hs64 HT2.out _ ?_
  intro n2
  rw [← HHE.out]
  dsimp only
  obtain ⟨W0, hW0⟩ : ∃ W0, W0 = ((w.alloc (.cells #[.int .i64 0, .int .u64 0, .int .u64 0, .int .u64 0, .int .u64 0] 117)).drewN n1).drewN n2 := ⟨_, rfl⟩
  have HW1 : Hid (Below w.heap.size w W0) := Lib.hid (by rw [hW0]; exact below_draws (below_draws HEXT.out _) _)
  have HW2 : Hid (StBox W0 w.heap.size 0 0 0 0 0) := Lib.hid (by rw [hW0]; exact HB0.out)
  rw [← hW0]
  have hst : DecRel w W0.heap.size (W0.heap.size + 1) a b A H (.int .u64 ((A : Nat) : Int)) (.int .u64 ((H : Nat) : Int)) ((W0.alloc (.cells #[.int .i64 0, .int .u64 1, .int .u64 0, .int .u64 0, .int .u64 1] 117)).alloc (.cells #[.int .i64 0, .int .u64 1, .int .u64 0, .int .u64 0, .int .u64 1] 117)) := by
    have h1 : (0 : Nat) < W64 := by rw [W64_eq]; omega
    have h2 : (1 : Nat) < W64 := by rw [W64_eq]; omega
    refine ⟨0, true, 1, 0, 0, 1, 0, true, 1, 0, 0, 1, A, H, rfl, rfl, (Box5.made W0 _ _ _ _ _ _).alloc _, ?_, (HW2.out.alloc _).alloc _, Dec.start a b, Nxt.start a b A H hAH, rfl, rfl, by omega, h2, h1, h1, h2, h2, h1, h1, h2, HAW.out, (HW1.out.alloc HW1.out.size _).alloc (by have := HW1.out.size; simp; omega) _⟩
    have := Box5.made (W0.alloc (.cells #[.int .i64 0, .int .u64 1, .int .u64 0, .int .u64 0, .int .u64 1] 117)) (.int .i64 0) (.int .u64 1) (.int .u64 0) (.int .u64 0) (.int .u64 1) 117
    unfold StBox
    simpa using this
  have HST := Lib.hid hst
  have hg8 : w.heap.size < W0.heap.size := lt_of_block HW2.out
  obtain ⟨g8, hg8e⟩ : ∃ g, g = W0.heap.size := ⟨_, rfl⟩
  rw [← hg8e] at HST hg8
  have HG8 := Lib.hid hg8e
  clear hst hW0 hg8e HB0
  go_wp2
  rw [← HG8.out]
  go_loopw [6, 7] (fun f s wr => DecRel w g8 (g8 + 1) a b A H f s wr) (fun _ s _ => (intOf s).toNat)
  case atStart => exact HST.out
  case round =>
    clear HST
    obtain ⟨kd, evd, dA, dB, dC, dD, kn, evn, nA, nB, nC, nD, f, t, rfl, rfl, b8, b9, b0', hdec, hnxt, hevd, hevn, hkd, hdA, hdB, hdC, hdD, hnA, hnB, hnC, hnD, hf, hbel⟩ := hrel
    obtain ⟨⟨hP0, hP1, hP2, hP3, hP4⟩, hP5, hP6, hP7, hP8, hP9⟩ := Box5.cells b8
    obtain ⟨⟨hN0, hN1, hN2, hN3, hN4⟩, hN5, hN6, hN7, hN8, hN9⟩ := Box5.cells b9
    obtain ⟨⟨hR0, hR1, hR2, hR3, hR4⟩, hR5, hR6, hR7, hR8, hR9⟩ := Box5.cells b0'
    have HLI := Lib.hid hnxt.1
    have HDEC := Lib.hid hdec
    have HNXT := Lib.hid hnxt
    have HEVD := Lib.hid hevd
    have HEVN := Lib.hid hevn
    have HBEL := Lib.hid hbel
    have HDD := Lib.hid (And.intro hkd (And.intro hdA (And.intro hdB (And.intro hdC hdD))))
    have HNN := Lib.hid (And.intro hnA (And.intro hnB (And.intro hnC hnD)))
    have B8 := Lib.hid b8
    have B9 := Lib.hid b9
    have B0 := Lib.hid b0'
    have hfin : R (.returned (stepsV kd dA dB dC dD)) (set5 wr w.heap.size (.int .i64 ((kd : Nat) : Int)) (.int .u64 ((dA : Nat) : Int)) (.int .u64 ((dB : Nat) : Int)) (.int .u64 ((dC : Nat) : Int)) (.int .u64 ((dD : Nat) : Int))) :=
      HR.out _ _ _ _ _ _ _ hdec hevd hkd hdA hdB hdC hdD (below_set5 hbel (Nat.le_refl _) _ _ _ _ _)
    have HFIN := Lib.hid hfin
    have hf2 : (f : Int) ≤ 18446744073709551615 := by rw [W64_eq] at hf; omega
    have HF := Lib.hid hf
    have hpos := HLI.out.sB_pos
    have hsf := HLI.out.2.2.1
    clear b8 b9 b0' hdec hnxt hevd hevn hbel hkd hdA hdB hdC hdD hnA hnB hnC hnD hfin hf
    by_cases hc1 : nD ≤ t
    · obtain ⟨hs1, _, _⟩ := HLI.out.sum_le (by omega)
      have hAWn := HAW.out
      have hs2 : (nB : Int) + (nD : Int) ≤ 18446744073709551615 := by rw [W64_eq] at hAWn; omega
      have hc1i : (nD : Int) ≤ (t : Int) := by omega
      have hsfi : (t : Int) ≤ (f : Int) := by omega
      clear hAWn hs1
      by_cases hc2 : nB + nD ≤ f - t
      · have hc2i : (nB : Int) + (nD : Int) ≤ (f : Int) - (t : Int) := by omega
        have hcnt := HLI.out.count hc1
        obtain ⟨hgo1, hgo2, hgo3, hgo4⟩ := HNXT.out.go hc1 hc2 T a0 b0 HPA.out HPB.out hpa0 hpb0
        obtain ⟨q, hq⟩ : ∃ q, q = f / t := ⟨_, rfl⟩
        obtain ⟨r, hr⟩ : ∃ r, r = f % t := ⟨_, rfl⟩
        rw [← hq] at hgo2 hgo3 hgo4
        rw [← hr] at hgo2
        have hqe : (f : Int) / (t : Int) = (q : Int) := by rw [hq]; exact (Int.natCast_ediv f t).symm
        have hqt : (f : Int).tdiv (t : Int) = (q : Int) := by rw [Int.tdiv_eq_ediv_of_nonneg (by omega)]; exact hqe
        have hre : (f : Int) % (t : Int) = (r : Int) := by rw [hr]; exact (Int.natCast_emod f t).symm
        have hrt : (f : Int).tmod (t : Int) = (r : Int) := by rw [Int.tmod_eq_emod_of_nonneg (by omega)]; exact hre
        have hqf : q ≤ f := by rw [hq]; exact Nat.div_le_self _ _
        have hqw := wrapu (q : Int) (by omega) (by omega)
        have ht0 : ((t : Int) == 0) = false := by simp; omega
        have ht1 : (1 : Int) ≤ (t : Int) := by omega
        have htne : ¬ t = 0 := by omega
        have hrl : r < t := by rw [hr]; exact Nat.mod_lt _ (by omega)
        have hkn : kn ≤ 4294967296 := by
          rcases Nat.lt_or_ge 4294967296 kn with h | h
          · have h1 : 4294967297 * 4294967297 ≤ kn * kn := Nat.mul_le_mul h h
            have h2 := HAW.out
            rw [W64_eq] at h2; omega
          · exact h
        have hm1 : nA + q * nC < W64 := Nat.lt_of_le_of_lt hgo4 HAW.out
        have hm2 : nB + q * nD < W64 := Nat.lt_of_le_of_lt hgo3 HAW.out
        obtain ⟨L, hL⟩ : ∃ L, L = set5 wr g8 (.int .i64 ((kn : Nat) : Int)) (.int .u64 ((nA : Nat) : Int)) (.int .u64 ((nB : Nat) : Int)) (.int .u64 ((nC : Nat) : Int)) (.int .u64 ((nD : Nat) : Int)) := ⟨_, rfl⟩
        have L8 : StBox L g8 kn nA nB nC nD := by rw [hL]; exact Box5.set5 B8.out _ _ _ _ _
        have L9 : StBox L (g8 + 1) kn nA nB nC nD := by rw [hL]; exact Box5.noSet5 B9.out (by omega) _ _ _ _ _
        have L0 : StBox L w.heap.size 0 0 0 0 0 := by rw [hL]; exact Box5.noSet5 B0.out (by omega) _ _ _ _ _
        have LB : Below w.heap.size w L := by rw [hL]; exact below_set5 HBEL.out (by omega) _ _ _ _ _
        have HL8 := Lib.hid L8
        have HL9 := Lib.hid L9
        have HL0 := Lib.hid L0
        have HLB := Lib.hid LB
        have HGO := Lib.hid (And.intro hgo1 hgo2)
        have HKN := Lib.hid hkn
        have HM := Lib.hid (And.intro hm1 hm2)
        have hLs : g8 + 1 < L.heap.size := lt_of_block L9
        unfold set5 at hL
        clear hcnt hgo1 hgo2 hgo3 hgo4 hq hr hkn hm1 hm2 L8 L9 L0 LB hR0 hR1 hR2 hR3 hR4 hR5 hR6 hR7 hR8 hR9 HFIN
        go_upto_region 7 with fail
        rw [← hL]
        clear hL hP0 hP1 hP2 hP3 hP4 hP5 hP6 hP7 hP8 hP9 hN0 hN1 hN2 hN3 hN4 hN5 hN6 hN7 hN8 hN9
        obtain ⟨⟨hN0, hN1, hN2, hN3, hN4⟩, hN5, hN6, hN7, hN8, hN9⟩ := Box5.cells HL9.out
        go_cut [] (fun wx => StBox wx g8 kn nA nB nC nD ∧ StBox wx (g8 + 1) (kn + 1) nC nD (nA + q * nC) (nB + q * nD) ∧ StBox wx w.heap.size 0 0 0 0 0 ∧ Below w.heap.size w wx)
        case first =>
          go_region_law (go_simp; go_at_call 140; refine after_any kn nA nB nC nD q _ (Nat.le_trans HKN.out (by omega)) HM.out.1 HM.out.2 _ ?_; intro w4 hb4; have hb5 : Below L.heap.size L w4 := below_unDrew hb4; have M9 := Box5.later HL9.out hb5 hLs; have M8 := Lib.hid (Box5.later HL8.out hb5 (by omega)); have M0 := Lib.hid (Box5.later HL0.out hb5 (by omega)); have MB := Lib.hid (HLB.out.trans (hb5.mono HLB.out.size)); obtain ⟨⟨hM0, hM1, hM2, hM3, hM4⟩, hM5, hM6, hM7, hM8, hM9⟩ := M9.cells; have H9 := Lib.hid M9; clear M9 hb4 hb5; dsimp only)
          all_goals (go_wp2_with fail; go_meet; exact ⟨Box5.noSet5 M8.out (by omega) _ _ _ _ _, Box5.set5 H9.out _ _ _ _ _, Box5.noSet5 M0.out (by omega) _ _ _ _ _, below_set5 MB.out (by omega) _ _ _ _ _⟩)
        case rest =>
          obtain ⟨c8, c9, c0, cb⟩ := hcut
          have C8 := Lib.hid c8
          have C9 := Lib.hid c9
          have C0 := Lib.hid c0
          have CB := Lib.hid cb
          clear c8 c9 c0 cb hN0 hN1 hN2 hN3 hN4 hN5 hN6 hN7 hN8 hN9 hqe hqt
          go_wp2
          go_quiet (fail)
          go_wp2
          go_roundw
          case rel =>
            exact ⟨kn, evn, nA, nB, nC, nD, kn + 1, !evn, nC, nD, nA + q * nC, nB + q * nD, t, r, rfl, rfl, Box5.drewN C8.out _, Box5.drewN C9.out _, Box5.drewN C0.out _, HGO.out.1, HGO.out.2, HEVN.out, by rw [HEVN.out]; exact parity kn, Nat.le_trans HKN.out (by omega), HNN.out.1, HNN.out.2.1, HNN.out.2.2.1, HNN.out.2.2.2, HNN.out.2.2.1, HNN.out.2.2.2, HM.out.1, HM.out.2, by have := HF.out; omega, below_draws CB.out _⟩
          case measure => simp [intOf]; omega
      · have hc2i : ¬ (nB : Int) + (nD : Int) ≤ (f : Int) - (t : Int) := by omega
        clear hN0 hN1 hN3 hN5 hN6 hN7 hN8 hN9
        go_wp2
        refine bodyPost_ret_at (by simp [results, Tryz.results109, go_sem, hR0, hR1, hR2, hR3, hR4, hR5, hR6, hR7, hR8, hR9] <;> rfl) rfl ?_
        exact HFIN.out
    · have hc1i : ¬ (nD : Int) ≤ (t : Int) := by omega
      clear hN0 hN1 hN2 hN3 hN5 hN6 hN7 hN8 hN9
      go_wp2
      refine bodyPost_ret_at (by simp [results, Tryz.results109, go_sem, hR0, hR1, hR2, hR3, hR4, hR5, hR6, hR7, hR8, hR9] <;> rfl) rfl ?_
      exact HFIN.out
end Go.Proofs.YtbglfendcpbjpaaGreatDoor

namespace Go.Proofs.YtbglfendcpbjpaaGreatDoor
open Go Go.RowKit

set_option maxRecDepth 100000 in
set_option maxHeartbeats 1000000 in
theorem gcds_any (a b : Nat) (w : World) (ha : a < W64) (hb : b < W64) (R : Ending → World → Prop)
    (hR : ∀ w', Below w.heap.size w w' → w'.heap.size = w.heap.size → R (.returned (.int .u64 ((Nat.gcd a b : Nat) : Int))) w') :
    Calls Tryz.prog 112 #[.int .u64 ((a : Nat) : Int), .int .u64 ((b : Nat) : Int)] w R := by
  have HR := Lib.hid hR; clear hR
  go_enter Tryz.func112, Tryz.ntmps112
  have HA := Lib.hid ha
  have HB := Lib.hid hb
  clear ha hb
  go_wp2
  go_loopw [0, 1] (fun av bv wr => ∃ x y : Nat, av = .int .u64 ((x : Nat) : Int) ∧ bv = .int .u64 ((y : Nat) : Int) ∧ Nat.gcd x y = Nat.gcd a b ∧ x < W64 ∧ y < W64 ∧ Below w.heap.size w wr ∧ wr.heap.size = w.heap.size) (fun _ bv _ => (intOf bv).toNat)
  case atStart => exact ⟨a, b, rfl, rfl, rfl, HA.out, HB.out, Below.refl _ _, rfl⟩
  case round =>
    clear HA HB
    obtain ⟨x, y, rfl, rfl, hg, hx, hy, hbel, hsz⟩ := hrel
    have HG := Lib.hid hg
    have HX := Lib.hid hx
    have HY := Lib.hid hy
    have HB := Lib.hid hbel
    have HSZ := Lib.hid hsz
    clear hg hx hy hbel hsz
    by_cases hy0 : y = 0
    · subst hy0
      have hfin := HR.out _ HB.out HSZ.out
      rw [← HG.out, Nat.gcd_zero_right] at hfin
      have HF := Lib.hid hfin
      clear hfin
      go_wp2
      first | go_ret | skip
      exact HF.out
    · have hyp : (0 : Int) < (y : Int) := by omega
      have hy1 : (1 : Int) ≤ (y : Int) := by omega
      have hyn : ((y : Int) == 0) = false := by simp; omega
      obtain ⟨r, hr⟩ : ∃ r, r = x % y := ⟨_, rfl⟩
      have hre : (x : Int) % (y : Int) = (r : Int) := by rw [hr]; exact (Int.natCast_emod x y).symm
      have hrt : (x : Int).tmod (y : Int) = (r : Int) := by rw [Int.tmod_eq_emod_of_nonneg (by omega)]; exact hre
      have hrl : r < y := by rw [hr]; exact Nat.mod_lt _ (by omega)
      have hg2 : Nat.gcd y r = Nat.gcd a b := by rw [← HG.out, hr, Nat.gcd_comm y, ← Nat.gcd_rec, Nat.gcd_comm]
      have HG2 := Lib.hid hg2
      clear hr hg2
      go_wp2
      go_quiet (fail)
      go_wp2
      go_roundw
      case rel => exact ⟨y, r, rfl, rfl, HG2.out, HY.out, Nat.lt_trans hrl HY.out, below_draws HB.out _, HSZ.out⟩
      case measure => simp [intOf]; omega

theorem timesp_0 (v : Value) (a f : Nat) (w : World) (h : IsN w v a) (hf : f < W64) (hlen : (dig W64 a).length ≤ 10000000) (R : Ending → World → Prop)
    (hR : ∀ v' w', IsN w' v' (a * f) → Below w.heap.size w w' → R (.returned v') w') :
    Calls Tryz.prog 141 #[v, .int .u64 ((f : Nat) : Int), .int .u64 0] w R :=
  timesp_any v a f 0 w h hf (by rw [W64_eq]; omega) (by omega) R fun v' w' h1 h2 _ => hR v' w' h1 h2

theorem IsN.drew {w : World} {v : Value} {n : Nat} (h : IsN w v n) : IsN w.drew v n := h

/-- two products -/
def ApRel (L : World) (p q : Nat) (v1 v2 : Value) (wx : World) : Prop := IsN wx v1 p ∧ IsN wx v2 q ∧ Below L.heap.size L wx

theorem Nat_le_of_eq_add {a b c : Nat} (h : a = b + c) : b ≤ a ∧ a - b = c := by omega

set_option maxRecDepth 100000 in
set_option maxHeartbeats 2000000 in
/-- the two numbers with which decided steps end -/
theorem apply_any (k : Nat) (ev : Bool) (fA fB sA sB : Nat) (va vb : Value) (a b : Nat) (w : World) (ha : IsN w va a) (hb : IsN w vb b) (hla : (dig W64 a).length ≤ 10000000) (hlb : (dig W64 b).length ≤ 10000000)
    (hev : ev = (k % 2 == 0)) (hk : k ≤ 1000000000000) (hfA : fA < W64) (hfB : fB < W64) (hsA : sA < W64) (hsB : sB < W64) (tf ts : Nat) (ht : LTrue ev a b fA fB sA sB tf ts) (R : Ending → World → Prop)
    (hR : ∀ v1 v2 w', IsN w' v1 tf → IsN w' v2 ts → Below w.heap.size w w' → R (.returned (.tuple #[v1, v2])) w') :
    Calls Tryz.prog 110 #[stepsV k fA fB sA sB, va, vb] w R := by
  have HR := Lib.hid hR; clear hR
  obtain ⟨aa, na, ca, rfl, ha'⟩ := ha.op
  obtain ⟨ab, nb, cb, rfl, hb'⟩ := hb.op
  have HA := Lib.hid ha'
  have HB := Lib.hid hb'
  have HLA := Lib.hid hla
  have HLB := Lib.hid hlb
  have HW := Lib.hid (And.intro hfA (And.intro hfB (And.intro hsA hsB)))
  have B0 := Lib.hid (Box5.made w (.int .i64 ((k : Nat) : Int)) (.int .u64 ((fA : Nat) : Int)) (.int .u64 ((fB : Nat) : Int)) (.int .u64 ((sA : Nat) : Int)) (.int .u64 ((sB : Nat) : Int)) 117)
  have H0 : Hid ((0 : Nat) < W64) := Lib.hid (by rw [W64_eq]; omega)
  have hlen : ∀ c f : Nat, (dig W64 c).length ≤ 10000000 → f < W64 → (dig W64 (c * f + 0)).length ≤ 100000000 := by
    intro c f hc hf
    have : (dig W64 (c * f + 0)).length ≤ (dig W64 c).length + 1 := by
      apply dig_length_le W64_two
      rw [Nat.add_zero, Nat.pow_succ]
      exact Nat.mul_lt_mul'' (lt_pow_dig W64_two c) hf
    omega
  have HLEN := Lib.hid hlen
  have HT := Lib.hid ht
  have HK := Lib.hid hk
  have HEXT : Hid (Below w.heap.size w (w.alloc (.cells #[.int .i64 ((k : Nat) : Int), .int .u64 ((fA : Nat) : Int), .int .u64 ((fB : Nat) : Int), .int .u64 ((sA : Nat) : Int), .int .u64 ((sB : Nat) : Int)] 117))) := Lib.hid ((Below.refl _ _).alloc (Nat.le_refl _) _)
  obtain ⟨L, hL⟩ : ∃ L, L = w.alloc (.cells #[.int .i64 ((k : Nat) : Int), .int .u64 ((fA : Nat) : Int), .int .u64 ((fB : Nat) : Int), .int .u64 ((sA : Nat) : Int), .int .u64 ((sB : Nat) : Int)] 117) := ⟨_, rfl⟩
  have HL := Lib.hid hL
  have c0 : Box5 L w.heap.size (.int .i64 ((k : Nat) : Int)) (.int .u64 ((fA : Nat) : Int)) (.int .u64 ((fB : Nat) : Int)) (.int .u64 ((sA : Nat) : Int)) (.int .u64 ((sB : Nat) : Int)) 117 := by rw [hL]; exact B0.out
  have hbL : Below w.heap.size w L := by rw [hL]; exact HEXT.out
  have C0 := Lib.hid c0
  have HBL := Lib.hid hbL
  have hAL := Lib.hid (HA.out.later hbL (Nat.le_refl _))
  have hBL := Lib.hid (HB.out.later hbL (Nat.le_refl _))
  obtain ⟨⟨hC0, hC1, hC2, hC3, hC4⟩, _, _, _, _, _⟩ := c0.cells
  have hgL := lt_of_block c0
  clear ha hb ha' hb' hla hlb hfA hfB hsA hsB hlen ht hk B0 HEXT hL c0 hbL
  unfold stepsV
  go_enter Tryz.func110, Tryz.ntmps110
  go_upto_region 1 with fail
  rw [← HL.out]
  go_cut [8, 9] (fun v1 v2 wx => ApRel L (a * fA) (b * fB) v1 v2 wx)
  case first =>
    go_region_law (first
      | (have hguard := hb1; go_simp; go_at_call 141; refine timesp_0 _ b fB _ (hBL.out.later hb1 (Nat.le_refl _)) HW.out.2.1 HLB.out _ ?_; intro v2 w2 hv2 hb2; clear hguard; dsimp only)
      | (go_simp; go_at_call 141; refine timesp_0 _ a fA _ hAL.out.drew HW.out.1 HLA.out _ ?_; intro v1 w1 hv1 hb1'; have hb1 : Below L.heap.size L w1 := below_unDrew hb1'; obtain ⟨⟨hE0, hE1, hE2, hE3, hE4⟩, _, _, _, _, _⟩ := (Box5.later C0.out hb1 hgL).cells; dsimp only))
    all_goals (go_wp2_with fail; go_meet; exact ⟨hv1.later hb2 (Nat.le_refl _), hv2, hb1.trans (hb2.mono hb1.size)⟩)
  case rest =>
    obtain ⟨hp1, hp2, hbx⟩ := hcut
    obtain ⟨a1, n1, c1, rfl, hp1'⟩ := hp1.op
    obtain ⟨a2, n2, c2, rfl, hp2'⟩ := hp2.op
    have HP1 := Lib.hid hp1'
    have HP2 := Lib.hid hp2'
    have HBX := Lib.hid hbx
    obtain ⟨wa, hwa⟩ : ∃ wa, wa = wc := ⟨_, rfl⟩
    have HBL2 := Lib.hid (HBL.out.trans (hbx.mono HBL.out.size))
    have HA2 := Lib.hid (hAL.out.later hbx (Nat.le_refl _))
    have HB2 := Lib.hid (hBL.out.later hbx (Nat.le_refl _))
    have C1 := Lib.hid (Box5.later C0.out hbx hgL)
    have hgx : w.heap.size < wc.heap.size := lt_of_block C1.out
    clear hp1 hp2 hp1' hp2' hbx hwa hC0 hC1 hC2 hC3 hC4
    obtain ⟨⟨hC0, hC1, hC2, hC3, hC4⟩, _, _, _, _, _⟩ := (Box5.cells C1.out)
    go_upto_region 2 with fail
    go_cut [10, 11] (fun v1 v2 wx => ApRel wc (a * sA) (b * sB) v1 v2 wx)
    case first =>
      go_region_law (first
        | (have hguard := hb1; go_simp; go_at_call 141; refine timesp_0 _ b sB _ (HB2.out.later hb1 (Nat.le_refl _)) HW.out.2.2.2 HLB.out _ ?_; intro v2 w2 hv2 hb2; clear hguard; dsimp only)
        | (go_simp; go_at_call 141; refine timesp_0 _ a sA _ HA2.out.drew HW.out.2.2.1 HLA.out _ ?_; intro v1 w1 hv1 hb1'; have hb1 : Below wc.heap.size wc w1 := below_unDrew hb1'; obtain ⟨⟨hE0, hE1, hE2, hE3, hE4⟩, _, _, _, _, _⟩ := (Box5.later C1.out hb1 hgx).cells; dsimp only))
      all_goals (go_wp2_with fail; go_meet; exact ⟨hv1.later hb2 (Nat.le_refl _), hv2, hb1.trans (hb2.mono hb1.size)⟩)
    case rest =>
      obtain ⟨hq1, hq2, hby⟩ := hcut
      obtain ⟨a3, n3, c3, rfl, hq1'⟩ := hq1.op
      obtain ⟨a4, n4, c4, rfl, hq2'⟩ := hq2.op
      have HQ1 := Lib.hid hq1'
      have HQ2 := Lib.hid hq2'
      have HP1b := Lib.hid (HP1.out.later hby (Nat.le_refl _))
      have HP2b := Lib.hid (HP2.out.later hby (Nat.le_refl _))
      have HBY := Lib.hid (HBL2.out.trans (hby.mono HBL2.out.size))
      have C2 := Lib.hid (Box5.later C1.out hby hgx)
      clear hq1 hq2 hq1' hq2' hby hC0 hC1 hC2 hC3 hC4
      obtain ⟨⟨hC0, _, _, _, _⟩, _, _, _, _, _⟩ := (Box5.cells C2.out)
      cases ev
      · have hk2 : (k : Int) % 2 = 1 := by
          have : k % 2 = 1 := by
            rcases (by omega : k % 2 = 0 ∨ k % 2 = 1) with h | h
            · rw [h] at hev; cases hev
            · exact h
          omega
        have hk3 : (k : Int).tmod 2 = 1 := by rw [Int.tmod_eq_emod_of_nonneg (by omega)]; exact hk2
        have ht := HT.out
        simp only [LTrue, Bool.false_eq_true, if_false] at ht
        have e1 := Nat_le_of_eq_add (show b * fB = a * fA + tf by rw [Nat.mul_comm b, Nat.mul_comm a]; exact ht.1)
        have e2 := Nat_le_of_eq_add (show a * sA = b * sB + ts by rw [Nat.mul_comm b, Nat.mul_comm a]; exact ht.2)
        have E1 := Lib.hid e1
        have E2 := Lib.hid e2
        clear hev ht e1 e2
        go_wp2_with fail
        refine minus_any _ _ (b * fB) (a * fA) _ HP2b.out HP1b.out E1.out.1 (HLEN.out b fB HLB.out HW.out.2.1) _ ?_
        intro v1 w5 hv1 hb5
        rw [E1.out.2] at hv1
        obtain ⟨a5, n5, c5, rfl, hv1'⟩ := hv1.op
        have HV1 := Lib.hid hv1'
        have HB5 := Lib.hid hb5
        clear hv1 hv1' hb5 hC0
        dsimp only
        go_wp2_with fail
        refine minus_any _ _ (a * sA) (b * sB) _ (HQ1.out.later HB5.out (Nat.le_refl _)) (HQ2.out.later HB5.out (Nat.le_refl _)) E2.out.1 (HLEN.out a sA HLA.out HW.out.2.2.1) _ ?_
        intro v2 w6 hv2 hb6
        rw [E2.out.2] at hv2
        obtain ⟨a6, n6, c6, rfl, hv2'⟩ := hv2.op
        have HV2 := Lib.hid hv2'
        have HB6 := Lib.hid hb6
        clear hv2 hv2' hb6
        dsimp only
        go_wp2
        first | go_ret | skip
        exact HR.out _ _ _ (HV1.out.later HB6.out (Nat.le_refl _)) HV2.out (HBY.out.trans ((HB5.out.trans (HB6.out.mono HB5.out.size)).mono HBY.out.size))
      · have hk2 : (k : Int) % 2 = 0 := by
          have : k % 2 = 0 := by
            rcases (by omega : k % 2 = 0 ∨ k % 2 = 1) with h | h
            · exact h
            · rw [h] at hev; cases hev
          omega
        have hk3 : (k : Int).tmod 2 = 0 := by rw [Int.tmod_eq_emod_of_nonneg (by omega)]; exact hk2
        have ht := HT.out
        simp only [LTrue, if_true] at ht
        have e1 := Nat_le_of_eq_add (show a * fA = b * fB + tf by rw [Nat.mul_comm b, Nat.mul_comm a]; exact ht.1)
        have e2 := Nat_le_of_eq_add (show b * sB = a * sA + ts by rw [Nat.mul_comm b, Nat.mul_comm a]; exact ht.2)
        have E1 := Lib.hid e1
        have E2 := Lib.hid e2
        clear hev ht e1 e2
        go_wp2_with fail
        refine minus_any _ _ (a * fA) (b * fB) _ HP1b.out HP2b.out E1.out.1 (HLEN.out a fA HLA.out HW.out.1) _ ?_
        intro v1 w5 hv1 hb5
        rw [E1.out.2] at hv1
        obtain ⟨a5, n5, c5, rfl, hv1'⟩ := hv1.op
        have HV1 := Lib.hid hv1'
        have HB5 := Lib.hid hb5
        clear hv1 hv1' hb5 hC0
        dsimp only
        go_wp2_with fail
        refine minus_any _ _ (b * sB) (a * sA) _ (HQ2.out.later HB5.out (Nat.le_refl _)) (HQ1.out.later HB5.out (Nat.le_refl _)) E2.out.1 (HLEN.out b sB HLB.out HW.out.2.2.2) _ ?_
        intro v2 w6 hv2 hb6
        rw [E2.out.2] at hv2
        obtain ⟨a6, n6, c6, rfl, hv2'⟩ := hv2.op
        have HV2 := Lib.hid hv2'
        have HB6 := Lib.hid hb6
        clear hv2 hv2' hb6
        dsimp only
        go_wp2
        first | go_ret | skip
        exact HR.out _ _ _ (HV1.out.later HB6.out (Nat.le_refl _)) HV2.out (HBY.out.trans ((HB5.out.trans (HB6.out.mono HB5.out.size)).mono HBY.out.size))
end Go.Proofs.YtbglfendcpbjpaaGreatDoor

namespace Go.Proofs.YtbglfendcpbjpaaGreatDoor
open Go Go.RowKit

/-- the number in a cell -/
def cellU : Option Value → Nat
  | some (.int _ z) => z.toNat
  | _ => 0
/-- the number that a value of the program's type holds -/
def limbNat (w : World) : Value → Nat
  | .slice (some a) n _ => val W64 ((List.range n).map fun i => cellU (w.cell? ⟨a.block, a.off + i, none⟩))
  | _ => 0

theorem IsN.limbNat {w : World} {v : Value} {n : Nat} (h : IsN w v n) : limbNat w v = n := by
  have hv := val_dig W64_two n
  rcases Sl.cases h with ⟨h0, ao, cap, rfl⟩ | ⟨hl, b, off, cap, rfl, _, _, hc⟩
  · rw [h0] at hv
    simp [val] at hv
    subst hv
    cases ao <;> simp [Go.Proofs.YtbglfendcpbjpaaGreatDoor.limbNat, val]
  · unfold Go.Proofs.YtbglfendcpbjpaaGreatDoor.limbNat
    dsimp only
    have : (List.range (dig W64 n).length).map (fun i => cellU (w.cell? ⟨b, off + i, none⟩)) = dig W64 n := by
      apply List.ext_getElem (by simp)
      intro i h1 h2
      rw [List.getElem_map, List.getElem_range, hc i h2]
      simp [cellU, List.getD, List.getElem?_eq_getElem h2]
    rw [this, hv]

theorem IsN.cast {w : World} {v : Value} {n m : Nat} (h : IsN w v n) (e : n = m) : IsN w v m := e ▸ h

def GRel (w : World) (G : Nat) (v0 v1 : Value) (wr : World) : Prop :=
  ∃ x y, IsN wr v0 x ∧ IsN wr v1 y ∧ y ≤ x ∧ Nat.gcd x y = G ∧ (dig W64 x).length ≤ 10000000 ∧ Below w.heap.size w wr

theorem gcd_mod (x y : Nat) : Nat.gcd y (x % y) = Nat.gcd x y := by
  rw [Nat.gcd_comm y, ← Nat.gcd_rec, Nat.gcd_comm]

set_option maxRecDepth 100000 in
set_option maxHeartbeats 4000000 in
theorem gcdn_any (va vb : Value) (a b : Nat) (w : World) (ha : IsN w va a) (hb : IsN w vb b) (hla : (dig W64 a).length ≤ 10000000) (hlb : (dig W64 b).length ≤ 10000000) (R : Ending → World → Prop)
    (hR : ∀ v w', IsN w' v (Nat.gcd a b) → Below w.heap.size w w' → R (.returned v) w') :
    Calls Tryz.prog 64 #[va, vb] w R := by
  have HR := Lib.hid hR; clear hR
  obtain ⟨aa, na, ca, rfl, ha'⟩ := ha.op
  obtain ⟨ab, nb, cb, rfl, hb'⟩ := hb.op
  have HA := Lib.hid ha'
  have HB := Lib.hid hb'
  have HLA := Lib.hid hla
  have HLB := Lib.hid hlb
  obtain ⟨cm, hcmp⟩ : ∃ cm, cm = cmpN a b := ⟨_, rfl⟩
  obtain ⟨G, hG⟩ : ∃ G, G = Nat.gcd a b := ⟨_, rfl⟩
  rw [← hG] at HR
  have HG := Lib.hid hG
  have HCM := Lib.hid hcmp
  clear ha' hb' hla hlb hcmp hG
  go_enter Tryz.func64, Tryz.ntmps64
  go_wp2_with fail
  refine ncmp_any _ _ a b _ ha hb (by have := HLA.out; omega) (by have := HLB.out; omega) _ ?_
  rw [← HCM.out]
  intro w0 hb0 _
  have HB0 := Lib.hid hb0
  clear ha hb hb0
  dsimp only
  by_cases hlt : a < b
  · have hcm : cm < 0 := by rw [HCM.out, cmpN_lt hlt]; omega
    have hst : GRel w G (.slice ab nb cb) (.slice aa na ca) w0 := ⟨b, a, HB.out.later HB0.out (Nat.le_refl _), HA.out.later HB0.out (Nat.le_refl _), by omega, by rw [Nat.gcd_comm]; exact HG.out.symm, HLB.out, HB0.out⟩
    have HST := Lib.hid hst
    clear hst hlt
    go_wp2
    go_loopw [0, 1] (fun v0 v1 wr => GRel w G v0 v1 wr) (fun _ v1 wr => limbNat wr v1)
    case atStart => exact HST.out
    case round =>
      clear HST
      obtain ⟨x, y, hx, hy, hyx, hg, hlx, hbel⟩ := hrel
      obtain ⟨ax, nx, cx, rfl, hx'⟩ := hx.op
      obtain ⟨ay, ny, cy, rfl, hny, hy'⟩ := hy.open
      have HX := Lib.hid hx'
      have HY := Lib.hid hy'
      have HYX := Lib.hid hyx
      have HGG := Lib.hid hg
      have HLX := Lib.hid hlx
      have HBEL := Lib.hid hbel
      have HNY := Lib.hid hny
      have HLY := Lib.hid (Nat.le_trans (dig_length_mono' W64_two hyx) hlx)
      have HM := Lib.hid hy.limbNat
      clear hx hy hx' hy' hyx hg hlx hbel hny
      by_cases hbig : 1 < ny
      · have hbi : (1 : Int) < (ny : Int) := by omega
        go_wp2_with fail
        refine decided_any _ _ x y _ HX.out HY.out HLX.out (by rw [← HNY.out]; exact hbig) HYX.out _ ?_
        intro k ev fA fB sA sB w1 hdec hev hk hfA hfB hsA hsB hb1
        obtain ⟨tf, ts, ht, hgt, hle⟩ := hdec
        have HT := Lib.hid ht
        have HGT := Lib.hid hgt
        have HLE := Lib.hid hle
        have HEV := Lib.hid hev
        have HK := Lib.hid hk
        have HBD := Lib.hid (And.intro hfA (And.intro hfB (And.intro hsA hsB)))
        have HB1 := Lib.hid hb1
        have HB2 := Lib.hid (HBEL.out.trans (hb1.mono HBEL.out.size))
        clear ht hgt hle hev hk hfA hfB hsA hsB hb1
        unfold stepsV
        dsimp only
        by_cases hk0 : k = 0
        · subst hk0
          have hy0 : y ≠ 0 := by intro h; have := HNY.out; rw [h, dig_zero] at this; simp at this; omega
          have HY0 := Lib.hid hy0
          clear hy0
          go_wp2_with fail
          refine divide_any _ _ x y _ ((HX.out.later HB1.out (Nat.le_refl _)).later ((Below.refl _ _).alloc (Nat.le_refl _) _) (Nat.le_refl _)) ((HY.out.later HB1.out (Nat.le_refl _)).later ((Below.refl _ _).alloc (Nat.le_refl _) _) (Nat.le_refl _)) HLX.out HLY.out HY0.out _ ?_
          intro v1 v2 w3 hv1 hv2 hb3
          obtain ⟨a1, n1, c1, rfl, _⟩ := hv1.op
          obtain ⟨a2, n2, c2, rfl, hv2'⟩ := hv2.op
          have HV2 := Lib.hid hv2'
          have HY3 := Lib.hid ((HY.out.later HB1.out (Nat.le_refl _)).later (((Below.refl _ _).alloc (Nat.le_refl _) _).trans (hb3.mono (by simp))) (Nat.le_refl _))
          have HB3 := Lib.hid ((HB2.out.alloc HB2.out.size _).trans (hb3.mono (by have := HB2.out.size; simp; omega)))
          have HM2 := Lib.hid hv2.limbNat
          have HLT := Lib.hid (Nat.mod_lt x (Nat.pos_of_ne_zero HY0.out))
          clear hv1 hv2 hv2' hb3
          dsimp only
          go_wp2
          go_roundw
          case rel => exact ⟨y, x % y, HY3.out, HV2.out, Nat.le_of_lt HLT.out, by rw [gcd_mod]; exact HGG.out, HLY.out, HB3.out⟩
          case measure => rw [HM2.out, HM.out]; exact HLT.out
        · have hkp : (0 : Int) < (k : Int) := by omega
          have hle := HLE.out (by omega)
          have HLE2 := Lib.hid hle
          clear hle hk0
          go_wp2_with fail
          refine apply_any k ev fA fB sA sB _ _ x y _ ((HX.out.later HB1.out (Nat.le_refl _)).later ((Below.refl _ _).alloc (Nat.le_refl _) _) (Nat.le_refl _)) ((HY.out.later HB1.out (Nat.le_refl _)).later ((Below.refl _ _).alloc (Nat.le_refl _) _) (Nat.le_refl _)) HLX.out HLY.out HEV.out HK.out HBD.out.1 HBD.out.2.1 HBD.out.2.2.1 HBD.out.2.2.2 tf ts HT.out _ ?_
          intro v1 v2 w3 hv1 hv2 hb3
          obtain ⟨a1, n1, c1, rfl, hv1'⟩ := hv1.op
          obtain ⟨a2, n2, c2, rfl, hv2'⟩ := hv2.op
          have HV1 := Lib.hid hv1'
          have HV2 := Lib.hid hv2'
          have HB3 := Lib.hid ((HB2.out.alloc HB2.out.size _).trans (hb3.mono (by have := HB2.out.size; simp; omega)))
          have HM2 := Lib.hid hv2.limbNat
          have HLT := Lib.hid (show ts < y by have := HLE2.out; omega)
          clear hv1 hv2 hv1' hv2' hb3
          dsimp only
          go_wp2
          go_roundw
          case rel => exact ⟨tf, ts, HV1.out, HV2.out, by have := HLE2.out; omega, by rw [HGT.out]; exact HGG.out, Nat.le_trans (dig_length_mono' W64_two HLE2.out.2) HLY.out, HB3.out⟩
          case measure => rw [HM2.out, HM.out]; exact HLT.out
      · have hbi : ¬ (1 : Int) < (ny : Int) := by omega
        go_wp2_with fail
        refine nzero_any _ y _ HY.out _ ?_
        by_cases hy0 : y = 0
        · rw [decide_eq_true hy0]
          have hgx : x = G := by rw [← HGG.out, hy0, Nat.gcd_zero_right]
          have hfin := HR.out _ _ (hgx ▸ HX.out) HBEL.out
          have HF := Lib.hid hfin
          clear hfin hgx hy0
          dsimp only
          go_wp2
          first | go_ret | skip
          exact HF.out
        · rw [decide_eq_false hy0]
          have h3 : (dig W64 y).length ≠ 0 := fun e => hy0 ((dig_eq_nil W64_two).1 (List.length_eq_zero_iff.1 e))
          have hn1 : ny = 1 := by have := HNY.out; omega
          subst hn1
          obtain ⟨d, hd⟩ := List.length_eq_one_iff.1 HNY.out.symm
          have hyd := dig_one W64_two y d hd
          subst hyd
          obtain ⟨bk, o, rfl, hbk, hc⟩ := Sl.at HY.out 0 (by omega)
          rw [hd, Nat.add_zero] at hc
          have hc2 : wr.cell? ⟨bk, o, none⟩ = some (.int .u64 (y : Int)) := hc
          have hyw : y < W64 := limb_lt y y (by rw [hd]; simp)
          have HY0 := Lib.hid hy0
          have HYW := Lib.hid hyw
          have HXW := Lib.hid (Nat.lt_trans (Nat.mod_lt x (Nat.pos_of_ne_zero hy0)) hyw)
          obtain ⟨r, hr⟩ : ∃ r, r = x % y := ⟨_, rfl⟩
          have HRR := Lib.hid hr
          obtain ⟨gg, hgg⟩ : ∃ gg, gg = Nat.gcd y r := ⟨_, rfl⟩
          have hgG : gg = G := by rw [hgg, hr, gcd_mod]; exact HGG.out
          have hgw : gg < W64 := by rw [hgg]; exact Nat.lt_of_le_of_lt (Nat.gcd_le_left _ (Nat.pos_of_ne_zero hy0)) hyw
          have HGE := Lib.hid hgg
          have HGG2 := Lib.hid hgG
          have HGW := Lib.hid hgw
          have hvg : val W64 [gg] = gg := by simp [val]
          have HVG := Lib.hid hvg
          clear hc hd h3 hy0 hyw hr hgg hgG hgw hvg
          dsimp only
          go_upto_region 11 with fail
          go_cut [4] (fun v wx => IsN wx v G ∧ Below w.heap.size w wx)
          case first =>
            go_region_law (first
              | (have hguard := hb2; go_simp; go_at_call 111; refine trimmed_any _ [gg] _ (Own.lit1 .u64 110 w2 0 gg _ rfl (Nat.zero_le _)).sl (by intro d hd; simp at hd; rw [hd]; exact HGW.out) (by simp) _ ?_; intro v3 hv3' _; have hv3 := hv3'.cast (HVG.out.trans HGG2.out); clear hguard; dsimp only)
              | (have hguard := hb1; go_simp; go_at_call 112; refine gcds_any y r _ HYW.out (by rw [HRR.out]; exact HXW.out) _ ?_; rw [← HGE.out]; intro w2 hb2 hzz; clear hzz; have HBZ := Lib.hid (HBEL.out.trans ((hb1.trans (hb2.mono hb1.size)).mono HBEL.out.size)); clear hguard; dsimp only)
              | (go_simp; go_at_call 113; refine rems_any _ x y _ HX.out.drew (Nat.pos_of_ne_zero HY0.out) HYW.out (by have := HLX.out; omega) _ ?_; rw [← HRR.out]; intro w1 hb1' hzz; clear hzz; have hb1 : Below wr.heap.size wr w1 := below_unDrew hb1'; have hc3 := hc2; rw [← hb1.cell (p := ⟨bk, o, none⟩) hbk] at hc3; dsimp only))
            all_goals (go_wp2_with fail; go_meet; exact ⟨hv3, HBZ.out.alloc HBZ.out.size _⟩)
          case rest =>
            obtain ⟨hv, hbz⟩ := hcut
            have HV := Lib.hid hv
            have HBZ := Lib.hid hbz
            clear hv hbz hc2
            go_wp2
            first | go_ret | skip
            exact HR.out _ _ HV.out HBZ.out
  · have hcm : ¬ cm < 0 := by rw [HCM.out]; unfold cmpN; rw [if_neg hlt]; split <;> omega
    have hst : GRel w G (.slice aa na ca) (.slice ab nb cb) w0 := ⟨a, b, HA.out.later HB0.out (Nat.le_refl _), HB.out.later HB0.out (Nat.le_refl _), by omega, HG.out.symm, HLA.out, HB0.out⟩
    have HST := Lib.hid hst
    clear hst hlt
    go_wp2
    go_loopw [0, 1] (fun v0 v1 wr => GRel w G v0 v1 wr) (fun _ v1 wr => limbNat wr v1)
    case atStart => exact HST.out
    case round =>
      clear HST
      obtain ⟨x, y, hx, hy, hyx, hg, hlx, hbel⟩ := hrel
      obtain ⟨ax, nx, cx, rfl, hx'⟩ := hx.op
      obtain ⟨ay, ny, cy, rfl, hny, hy'⟩ := hy.open
      have HX := Lib.hid hx'
      have HY := Lib.hid hy'
      have HYX := Lib.hid hyx
      have HGG := Lib.hid hg
      have HLX := Lib.hid hlx
      have HBEL := Lib.hid hbel
      have HNY := Lib.hid hny
      have HLY := Lib.hid (Nat.le_trans (dig_length_mono' W64_two hyx) hlx)
      have HM := Lib.hid hy.limbNat
      clear hx hy hx' hy' hyx hg hlx hbel hny
      by_cases hbig : 1 < ny
      · have hbi : (1 : Int) < (ny : Int) := by omega
        go_wp2_with fail
        refine decided_any _ _ x y _ HX.out HY.out HLX.out (by rw [← HNY.out]; exact hbig) HYX.out _ ?_
        intro k ev fA fB sA sB w1 hdec hev hk hfA hfB hsA hsB hb1
        obtain ⟨tf, ts, ht, hgt, hle⟩ := hdec
        have HT := Lib.hid ht
        have HGT := Lib.hid hgt
        have HLE := Lib.hid hle
        have HEV := Lib.hid hev
        have HK := Lib.hid hk
        have HBD := Lib.hid (And.intro hfA (And.intro hfB (And.intro hsA hsB)))
        have HB1 := Lib.hid hb1
        have HB2 := Lib.hid (HBEL.out.trans (hb1.mono HBEL.out.size))
        clear ht hgt hle hev hk hfA hfB hsA hsB hb1
        unfold stepsV
        dsimp only
        by_cases hk0 : k = 0
        · subst hk0
          have hy0 : y ≠ 0 := by intro h; have := HNY.out; rw [h, dig_zero] at this; simp at this; omega
          have HY0 := Lib.hid hy0
          clear hy0
          go_wp2_with fail
          refine divide_any _ _ x y _ ((HX.out.later HB1.out (Nat.le_refl _)).later ((Below.refl _ _).alloc (Nat.le_refl _) _) (Nat.le_refl _)) ((HY.out.later HB1.out (Nat.le_refl _)).later ((Below.refl _ _).alloc (Nat.le_refl _) _) (Nat.le_refl _)) HLX.out HLY.out HY0.out _ ?_
          intro v1 v2 w3 hv1 hv2 hb3
          obtain ⟨a1, n1, c1, rfl, _⟩ := hv1.op
          obtain ⟨a2, n2, c2, rfl, hv2'⟩ := hv2.op
          have HV2 := Lib.hid hv2'
          have HY3 := Lib.hid ((HY.out.later HB1.out (Nat.le_refl _)).later (((Below.refl _ _).alloc (Nat.le_refl _) _).trans (hb3.mono (by simp))) (Nat.le_refl _))
          have HB3 := Lib.hid ((HB2.out.alloc HB2.out.size _).trans (hb3.mono (by have := HB2.out.size; simp; omega)))
          have HM2 := Lib.hid hv2.limbNat
          have HLT := Lib.hid (Nat.mod_lt x (Nat.pos_of_ne_zero HY0.out))
          clear hv1 hv2 hv2' hb3
          dsimp only
          go_wp2
          go_roundw
          case rel => exact ⟨y, x % y, HY3.out, HV2.out, Nat.le_of_lt HLT.out, by rw [gcd_mod]; exact HGG.out, HLY.out, HB3.out⟩
          case measure => rw [HM2.out, HM.out]; exact HLT.out
        · have hkp : (0 : Int) < (k : Int) := by omega
          have hle := HLE.out (by omega)
          have HLE2 := Lib.hid hle
          clear hle hk0
          go_wp2_with fail
          refine apply_any k ev fA fB sA sB _ _ x y _ ((HX.out.later HB1.out (Nat.le_refl _)).later ((Below.refl _ _).alloc (Nat.le_refl _) _) (Nat.le_refl _)) ((HY.out.later HB1.out (Nat.le_refl _)).later ((Below.refl _ _).alloc (Nat.le_refl _) _) (Nat.le_refl _)) HLX.out HLY.out HEV.out HK.out HBD.out.1 HBD.out.2.1 HBD.out.2.2.1 HBD.out.2.2.2 tf ts HT.out _ ?_
          intro v1 v2 w3 hv1 hv2 hb3
          obtain ⟨a1, n1, c1, rfl, hv1'⟩ := hv1.op
          obtain ⟨a2, n2, c2, rfl, hv2'⟩ := hv2.op
          have HV1 := Lib.hid hv1'
          have HV2 := Lib.hid hv2'
          have HB3 := Lib.hid ((HB2.out.alloc HB2.out.size _).trans (hb3.mono (by have := HB2.out.size; simp; omega)))
          have HM2 := Lib.hid hv2.limbNat
          have HLT := Lib.hid (show ts < y by have := HLE2.out; omega)
          clear hv1 hv2 hv1' hv2' hb3
          dsimp only
          go_wp2
          go_roundw
          case rel => exact ⟨tf, ts, HV1.out, HV2.out, by have := HLE2.out; omega, by rw [HGT.out]; exact HGG.out, Nat.le_trans (dig_length_mono' W64_two HLE2.out.2) HLY.out, HB3.out⟩
          case measure => rw [HM2.out, HM.out]; exact HLT.out
      · have hbi : ¬ (1 : Int) < (ny : Int) := by omega
        go_wp2_with fail
        refine nzero_any _ y _ HY.out _ ?_
        by_cases hy0 : y = 0
        · rw [decide_eq_true hy0]
          have hgx : x = G := by rw [← HGG.out, hy0, Nat.gcd_zero_right]
          have hfin := HR.out _ _ (hgx ▸ HX.out) HBEL.out
          have HF := Lib.hid hfin
          clear hfin hgx hy0
          dsimp only
          go_wp2
          first | go_ret | skip
          exact HF.out
        · rw [decide_eq_false hy0]
          have h3 : (dig W64 y).length ≠ 0 := fun e => hy0 ((dig_eq_nil W64_two).1 (List.length_eq_zero_iff.1 e))
          have hn1 : ny = 1 := by have := HNY.out; omega
          subst hn1
          obtain ⟨d, hd⟩ := List.length_eq_one_iff.1 HNY.out.symm
          have hyd := dig_one W64_two y d hd
          subst hyd
          obtain ⟨bk, o, rfl, hbk, hc⟩ := Sl.at HY.out 0 (by omega)
          rw [hd, Nat.add_zero] at hc
          have hc2 : wr.cell? ⟨bk, o, none⟩ = some (.int .u64 (y : Int)) := hc
          have hyw : y < W64 := limb_lt y y (by rw [hd]; simp)
          have HY0 := Lib.hid hy0
          have HYW := Lib.hid hyw
          have HXW := Lib.hid (Nat.lt_trans (Nat.mod_lt x (Nat.pos_of_ne_zero hy0)) hyw)
          obtain ⟨r, hr⟩ : ∃ r, r = x % y := ⟨_, rfl⟩
          have HRR := Lib.hid hr
          obtain ⟨gg, hgg⟩ : ∃ gg, gg = Nat.gcd y r := ⟨_, rfl⟩
          have hgG : gg = G := by rw [hgg, hr, gcd_mod]; exact HGG.out
          have hgw : gg < W64 := by rw [hgg]; exact Nat.lt_of_le_of_lt (Nat.gcd_le_left _ (Nat.pos_of_ne_zero hy0)) hyw
          have HGE := Lib.hid hgg
          have HGG2 := Lib.hid hgG
          have HGW := Lib.hid hgw
          have hvg : val W64 [gg] = gg := by simp [val]
          have HVG := Lib.hid hvg
          clear hc hd h3 hy0 hyw hr hgg hgG hgw hvg
          dsimp only
          go_upto_region 11 with fail
          go_cut [4] (fun v wx => IsN wx v G ∧ Below w.heap.size w wx)
          case first =>
            go_region_law (first
              | (have hguard := hb2; go_simp; go_at_call 111; refine trimmed_any _ [gg] _ (Own.lit1 .u64 110 w2 0 gg _ rfl (Nat.zero_le _)).sl (by intro d hd; simp at hd; rw [hd]; exact HGW.out) (by simp) _ ?_; intro v3 hv3' _; have hv3 := hv3'.cast (HVG.out.trans HGG2.out); clear hguard; dsimp only)
              | (have hguard := hb1; go_simp; go_at_call 112; refine gcds_any y r _ HYW.out (by rw [HRR.out]; exact HXW.out) _ ?_; rw [← HGE.out]; intro w2 hb2 hzz; clear hzz; have HBZ := Lib.hid (HBEL.out.trans ((hb1.trans (hb2.mono hb1.size)).mono HBEL.out.size)); clear hguard; dsimp only)
              | (go_simp; go_at_call 113; refine rems_any _ x y _ HX.out.drew (Nat.pos_of_ne_zero HY0.out) HYW.out (by have := HLX.out; omega) _ ?_; rw [← HRR.out]; intro w1 hb1' hzz; clear hzz; have hb1 : Below wr.heap.size wr w1 := below_unDrew hb1'; have hc3 := hc2; rw [← hb1.cell (p := ⟨bk, o, none⟩) hbk] at hc3; dsimp only))
            all_goals (go_wp2_with fail; go_meet; exact ⟨hv3, HBZ.out.alloc HBZ.out.size _⟩)
          case rest =>
            obtain ⟨hv, hbz⟩ := hcut
            have HV := Lib.hid hv
            have HBZ := Lib.hid hbz
            clear hv hbz hc2
            go_wp2
            first | go_ret | skip
            exact HR.out _ _ HV.out HBZ.out
end Go.Proofs.YtbglfendcpbjpaaGreatDoor

namespace Go.Proofs.YtbglfendcpbjpaaGreatDoor
open Go Go.RowKit

set_option maxRecDepth 100000 in
theorem zneg_any (va : Value) (a : Int) (w : World) (ha : IsZ w va a) (hla : (dig 10000 a.natAbs).length ≤ 1000000000) (R : Ending → World → Prop)
    (hR : ∀ v w', IsZ w' v (-a) → Below w.heap.size w w' → R (.returned v) w') :
    Calls Tryz.prog 97 #[va] w R := by
  have HR := Lib.hid hR; clear hR
  obtain ⟨aa, na, ca, rfl, ena, hsa⟩ := ha.open
  obtain ⟨neg, hneg⟩ : ∃ x, x = decide (a < 0) := ⟨_, rfl⟩
  rw [← hneg]
  have hbox0 := Box2.made (w.alloc (.cells #[.bool neg, .slice aa na ca] 39)) (.bool false) (.slice none 0 0) 39
  simp only [World.size_alloc] at hbox0
  have hb0 : Below w.heap.size w ((w.alloc (.cells #[.bool neg, .slice aa na ca] 39)).alloc (.cells #[.bool false, .slice none 0 0] 39)) := ((Below.refl _ _).alloc (Nat.le_refl _) _).alloc (by simp) _
  have HB0 := Lib.hid hb0
  have Hneg := Lib.hid hneg
  clear ena hneg hb0 ha
  go_enter Tryz.func97, Tryz.ntmps97
  go_wp2_with fail
  refine cut_z (!neg) _ (dig 10000 a.natAbs) _ (hsa.later HB0.out (Nat.le_refl _)) (dig_lt (by omega) _) hla (-a) (by rw [Hneg.out, val_dig (by omega)]; by_cases h : a < 0 <;> simp [h] <;> omega) _ ?_
  intro v' w1 hz hb1
  obtain ⟨ao', n', cap', rfl, hn', hs'⟩ := hz.open
  have hbox1 := hbox0.later hb1 (by simp)
  obtain ⟨hA1, hB1, hA1', hB1'⟩ := hbox1.cells
  have hni := hbox1.noInt rfl rfl
  have hbz : Below w.heap.size w w1 := HB0.out.trans (hb1.mono (by simp; omega))
  have HZ := Lib.hid hbz
  have HS := Lib.hid hs'
  clear hn' hbox0 hsa hbz hs' hz hb1
  dsimp only
  go_wp2
  refine bodyPost_ret_at (by simp [results, Tryz.results97, go_sem, hA1, hB1, hA1', hB1'] <;> rfl) rfl ?_
  exact HR.out _ _ ⟨.slice ao' n' cap', by simp, (HS.out.set hni 0 _).set (hni.set 0 _ rfl) 1 _⟩ ((HZ.out.setCell (by simp <;> omega) _).setCell (by simp <;> omega) _)

/-- what holds at the head of the first loop of the sum -/
def AddInv (w : World) (xs ys : List Nat) (na nb : Nat) (u0 v0 u1 v1 u2 v2 : Value) (d c i : Value) (wr : World) : Prop :=
  ∃ (ds : List Nat) (cy k : Nat), i = .int .i64 k ∧ c = .int .i64 cy ∧ cy ≤ 1 ∧ k ≤ max na nb + 1 ∧ (cy = 1 → k ≤ max na nb) ∧ ds.length = k ∧ (∀ x ∈ ds, x < 10000) ∧
    val 10000 ds + 10000 ^ k * (cy + val 10000 (xs.drop k) + val 10000 (ys.drop k)) = val 10000 xs + val 10000 ys ∧
    Own .i64 2 wr (w.heap.size + 3) d ds ∧ Below w.heap.size w wr ∧
    Box2 wr w.heap.size u0 v0 39 ∧ Box2 wr (w.heap.size + 1) u1 v1 39 ∧ Box2 wr (w.heap.size + 2) u2 v2 39

theorem add_step (B : Nat) (ds xs ys : List Nat) (cy k x y T : Nat) (hl : ds.length = k) (hx : val B (xs.drop k) = x + B * val B (xs.drop (k + 1))) (hy : val B (ys.drop k) = y + B * val B (ys.drop (k + 1)))
    (h : val B ds + B ^ k * (cy + val B (xs.drop k) + val B (ys.drop k)) = T) :
    val B (ds ++ [(cy + x + y) % B]) + B ^ (k + 1) * ((cy + x + y) / B + val B (xs.drop (k + 1)) + val B (ys.drop (k + 1))) = T := by
  rw [val_snoc, hl, ← h, hx, hy, Nat.pow_succ, Nat.mul_assoc, Nat.add_assoc, ← Nat.mul_add]
  congr 2
  have := Nat.div_add_mod (cy + x + y) B
  rw [Nat.mul_add, Nat.mul_add]
  generalize B * val B (xs.drop (k + 1)) = p at *
  generalize B * val B (ys.drop (k + 1)) = q at *
  omega

theorem add_rel (w wr w1 : World) (xs ys ds : List Nat) (na nb cy k x y : Nat) (u0 v0 u1 v1 u2 v2 : Value) (v' : Value) (o : Obj) (zc zk : Int)
    (hcy : cy ≤ 1) (hxl : x < 10000) (hyl : y < 10000) (hk : k ≤ max na nb) (hkk : k < max na nb ∨ (x = 0 ∧ y = 0)) (hdl : ds.length = k) (hd : ∀ x ∈ ds, x < 10000)
    (hdx : val 10000 (xs.drop k) = x + 10000 * val 10000 (xs.drop (k + 1))) (hdy : val 10000 (ys.drop k) = y + 10000 * val 10000 (ys.drop (k + 1)))
    (hval : val 10000 ds + 10000 ^ k * (cy + val 10000 (xs.drop k) + val 10000 (ys.drop k)) = val 10000 xs + val 10000 ys)
    (hzc : zc = (((cy + x + y) / 10000 : Nat) : Int)) (hzk : zk = ((k + 1 : Nat) : Int))
    (hown : Own .i64 2 w1 (w.heap.size + 3) v' (ds ++ [(cy + x + y) % 10000])) (hb : Below (w.heap.size + 3) (wr.alloc o) w1) (hbel : Below w.heap.size w wr)
    (h0 : Box2 wr w.heap.size u0 v0 39) (h1 : Box2 wr (w.heap.size + 1) u1 v1 39) (h2 : Box2 wr (w.heap.size + 2) u2 v2 39) :
    AddInv w xs ys na nb u0 v0 u1 v1 u2 v2 v' (.int .i64 zc) (.int .i64 zk) w1 := by
  subst hzc hzk
  refine ⟨_, (cy + x + y) / 10000, k + 1, rfl, rfl, by omega, by omega, fun h => by omega, by simp [hdl], ?_, add_step 10000 ds xs ys cy k x y _ hdl hdx hdy hval, hown, (hbel.alloc hbel.size o).trans (hb.mono (by omega)), (h0.alloc o).later hb (by omega), (h1.alloc o).later hb (by omega), (h2.alloc o).later hb (by omega)⟩
  intro z hz
  rcases List.mem_append.1 hz with hz | hz
  · exact hd z hz
  · simp at hz; omega

set_option maxRecDepth 100000 in
set_option maxHeartbeats 2000000 in
theorem zadd_same (va vb : Value) (a b : Int) (w : World) (ha : IsZ w va a) (hb : IsZ w vb b) (hla : (dig 10000 a.natAbs).length ≤ 10000000) (hlb : (dig 10000 b.natAbs).length ≤ 10000000) (hsame : decide (a < 0) = decide (b < 0)) (R : Ending → World → Prop)
    (hR : ∀ v w', IsZ w' v (a + b) → Below w.heap.size w w' → R (.returned v) w') :
    Calls Tryz.prog 77 #[va, vb] w R := by
  have HR := Lib.hid hR; clear hR
  obtain ⟨aa, na, ca, rfl, ena, hsa⟩ := ha.open
  obtain ⟨ab, nb, cb, rfl, enb, hsb⟩ := hb.open
  obtain ⟨xs, hxs⟩ : ∃ xs, xs = dig 10000 a.natAbs := ⟨_, rfl⟩
  obtain ⟨ys, hys⟩ : ∃ ys, ys = dig 10000 b.natAbs := ⟨_, rfl⟩
  have hx : ∀ d ∈ xs, d < 10000 := by rw [hxs]; exact dig_lt (by omega) _
  have hy : ∀ d ∈ ys, d < 10000 := by rw [hys]; exact dig_lt (by omega) _
  have hvx : val 10000 xs = a.natAbs := by rw [hxs]; exact val_dig (by omega) _
  have hvy : val 10000 ys = b.natAbs := by rw [hys]; exact val_dig (by omega) _
  rw [← ena] at hla
  rw [← enb] at hlb
  rw [← hxs] at hsa ena
  rw [← hys] at hsb enb
  rw [← hsame]
  obtain ⟨neg, hneg⟩ : ∃ x, x = decide (a < 0) := ⟨_, rfl⟩
  have hz : a + b = if neg = true then -((a.natAbs + b.natAbs : Nat) : Int) else ((a.natAbs + b.natAbs : Nat) : Int) := by
    by_cases h : a < 0
    · have h2 : b < 0 := by simpa [h] using hsame
      rw [hneg]; simp [h]; omega
    · have h2 : ¬ b < 0 := by simpa [h] using hsame
      rw [hneg]; simp [h]; omega
  rw [← hneg]
  have Ena := Lib.hid ena
  have Enb := Lib.hid enb
  have Hvx := Lib.hid hvx
  have Hvy := Lib.hid hvy
  have Hx := Lib.hid hx
  have Hy := Lib.hid hy
  have Hz := Lib.hid hz
  clear hsame hneg hxs hys ena enb hvx hvy ha hb hx hy hz
  go_enter Tryz.func77, Tryz.ntmps77
  go_wp2
  go_loopw [5, 6, 7] (fun d c i wr => AddInv w xs ys na nb (.bool neg) (.slice aa na ca) (.bool neg) (.slice ab nb cb) (.bool false) (.slice none 0 0) d c i wr) (fun _ _ i _ => max na nb + 2 - (intOf i).toNat)
  case atStart =>
    have hB0 := (((Box2.made w (.bool neg) (.slice aa na ca) 39).alloc (.cells #[.bool neg, .slice ab nb cb] 39)).alloc (.cells #[.bool false, .slice none 0 0] 39)).alloc (.cells #[] 2)
    have hB1 := ((Box2.made (w.alloc (.cells #[.bool neg, .slice aa na ca] 39)) (.bool neg) (.slice ab nb cb) 39).alloc (.cells #[.bool false, .slice none 0 0] 39)).alloc (.cells #[] 2)
    have hB2 := (Box2.made ((w.alloc (.cells #[.bool neg, .slice aa na ca] 39)).alloc (.cells #[.bool neg, .slice ab nb cb] 39)) (.bool false) (.slice none 0 0) 39).alloc (.cells #[] 2)
    have hOw := Own.lit .i64 2 (((w.alloc (.cells #[.bool neg, .slice aa na ca] 39)).alloc (.cells #[.bool neg, .slice ab nb cb] 39)).alloc (.cells #[.bool false, .slice none 0 0] 39)) (w.heap.size + 3) (by simp)
    simp only [World.size_alloc] at hB0 hB1 hB2 hOw
    exact ⟨[], 0, 0, rfl, rfl, by omega, by omega, by omega, rfl, by simp, by simp [val], hOw, ((((Below.refl _ _).alloc (Nat.le_refl _) _).alloc (by simp) _).alloc (by simp; omega) _).alloc (by simp; omega) _, hB0, hB1, hB2⟩
  case round =>
    obtain ⟨ds, cy, k, rfl, rfl, hcy, hk, hkc, hdl, hd, hval, hown, hbel, hb0, hb1, hb2⟩ := hrel
    have hsz := hbel.size
    have hlt2 := lt_of_block hb2
    obtain ⟨hA0, hA1, _, _⟩ := hb0.cells
    obtain ⟨hB0, hB1, _, _⟩ := hb1.cells
    have Hval := Lib.hid hval
    have Hd := Lib.hid hd
    have Hdl := Lib.hid hdl
    have HBEL := Lib.hid hbel
    have hkb : k ≤ 20000000 := by omega
    have hdlb : ds.length ≤ 20000000 := by omega
    clear hval hd hdl
    by_cases hka : k < na
    · obtain ⟨p1, o1, rfl, hp1, hc1⟩ := hsa.at k hka
      rw [← hbel.cell (p := ⟨p1, o1 + k, none⟩) hp1] at hc1
      obtain ⟨x, hxe⟩ : ∃ x, x = xs.getD k 0 := ⟨_, rfl⟩
      rw [← hxe] at hc1
      have hxl : x < 10000 := by rw [hxe]; exact getD_lt (by omega) _ Hx.out _
      have hdx : val 10000 (xs.drop k) = x + 10000 * val 10000 (xs.drop (k + 1)) := by rw [hxe]; exact val_drop _ _ _ (by rw [← Ena.out]; exact hka)
      have Hdx := Lib.hid hdx
      clear hxe hdx
      by_cases hkb2 : k < nb
      · obtain ⟨p2, o2, rfl, hp2, hc2⟩ := hsb.at k hkb2
        rw [← hbel.cell (p := ⟨p2, o2 + k, none⟩) hp2] at hc2
        obtain ⟨y, hye⟩ : ∃ y, y = ys.getD k 0 := ⟨_, rfl⟩
        rw [← hye] at hc2
        have hyl : y < 10000 := by rw [hye]; exact getD_lt (by omega) _ Hy.out _
        have hdy : val 10000 (ys.drop k) = y + 10000 * val 10000 (ys.drop (k + 1)) := by rw [hye]; exact val_drop _ _ _ (by rw [← Enb.out]; exact hkb2)
        have Hdy := Lib.hid hdy
        clear hye hdy hbel
        go_wp2_with (at_builtin; go_must (refine wpList_pushz rfl (.tmp 60) (.tmp 63) 37 rfl 2 .i64 8 Tryz.underlying37 info_i64 (by omega) (w.heap.size + 3) _ ds ((cy + x + y) % 10000) ((↑cy + ↑x + ↑y) % 10000) (by omega) rfl (hown.alloc _) wr.heap.size rfl (World.cell?_alloc_at _ _ _ _ rfl) (by omega) (by simp; omega) ?_))
        intro v' w1 hown1 hbw
        have HR1 := Lib.hid (add_rel w wr w1 xs ys ds na nb cy k x y _ _ _ _ _ _ v' _ ((↑cy + ↑x + ↑y) / 10000) (↑k + 1) hcy hxl hyl (by omega) (.inl (by omega)) Hdl.out Hd.out Hdx.out Hdy.out Hval.out (by omega) (by omega) hown1 hbw HBEL.out hb0 hb1 hb2)
        clear hown hown1 hbw hb0 hb1 hb2
        go_wp2
        go_roundw
        case rel => exact HR1.out
        case measure => simp [intOf]; omega
      · have Hdy := Lib.hid (show val 10000 (ys.drop k) = 0 + 10000 * val 10000 (ys.drop (k + 1)) by rw [val_drop_all _ _ _ (by rw [← Enb.out]; omega), val_drop_all _ _ _ (by rw [← Enb.out]; omega)])
        clear hbel
        go_wp2_with (at_builtin; go_must (refine wpList_pushz rfl (.tmp 60) (.tmp 63) 37 rfl 2 .i64 8 Tryz.underlying37 info_i64 (by omega) (w.heap.size + 3) _ ds ((cy + x + 0) % 10000) ((↑cy + ↑x) % 10000) (by omega) rfl (hown.alloc _) wr.heap.size rfl (World.cell?_alloc_at _ _ _ _ rfl) (by omega) (by simp; omega) ?_))
        intro v' w1 hown1 hbw
        have HR1 := Lib.hid (add_rel w wr w1 xs ys ds na nb cy k x 0 _ _ _ _ _ _ v' _ ((↑cy + ↑x) / 10000) (↑k + 1) hcy hxl (by omega) (by omega) (.inl (by omega)) Hdl.out Hd.out Hdx.out Hdy.out Hval.out (by omega) (by omega) hown1 hbw HBEL.out hb0 hb1 hb2)
        clear hown hown1 hbw hb0 hb1 hb2
        go_wp2
        go_roundw
        case rel => exact HR1.out
        case measure => simp [intOf]; omega
    · have Hdx := Lib.hid (show val 10000 (xs.drop k) = 0 + 10000 * val 10000 (xs.drop (k + 1)) by rw [val_drop_all _ _ _ (by rw [← Ena.out]; omega), val_drop_all _ _ _ (by rw [← Ena.out]; omega)])
      by_cases hkb2 : k < nb
      · obtain ⟨p2, o2, rfl, hp2, hc2⟩ := hsb.at k hkb2
        rw [← hbel.cell (p := ⟨p2, o2 + k, none⟩) hp2] at hc2
        obtain ⟨y, hye⟩ : ∃ y, y = ys.getD k 0 := ⟨_, rfl⟩
        rw [← hye] at hc2
        have hyl : y < 10000 := by rw [hye]; exact getD_lt (by omega) _ Hy.out _
        have hdy : val 10000 (ys.drop k) = y + 10000 * val 10000 (ys.drop (k + 1)) := by rw [hye]; exact val_drop _ _ _ (by rw [← Enb.out]; exact hkb2)
        have Hdy := Lib.hid hdy
        clear hye hdy hbel
        go_wp2_with (at_builtin; go_must (refine wpList_pushz rfl (.tmp 60) (.tmp 63) 37 rfl 2 .i64 8 Tryz.underlying37 info_i64 (by omega) (w.heap.size + 3) _ ds ((cy + 0 + y) % 10000) ((↑cy + ↑y) % 10000) (by omega) rfl (hown.alloc _) wr.heap.size rfl (World.cell?_alloc_at _ _ _ _ rfl) (by omega) (by simp; omega) ?_))
        intro v' w1 hown1 hbw
        have HR1 := Lib.hid (add_rel w wr w1 xs ys ds na nb cy k 0 y _ _ _ _ _ _ v' _ ((↑cy + ↑y) / 10000) (↑k + 1) hcy (by omega) hyl (by omega) (.inl (by omega)) Hdl.out Hd.out Hdx.out Hdy.out Hval.out (by omega) (by omega) hown1 hbw HBEL.out hb0 hb1 hb2)
        clear hown hown1 hbw hb0 hb1 hb2
        go_wp2
        go_roundw
        case rel => exact HR1.out
        case measure => simp [intOf]; omega
      · have Hdy := Lib.hid (show val 10000 (ys.drop k) = 0 + 10000 * val 10000 (ys.drop (k + 1)) by rw [val_drop_all _ _ _ (by rw [← Enb.out]; omega), val_drop_all _ _ _ (by rw [← Enb.out]; omega)])
        clear hbel
        by_cases hc1 : cy = 1
        · subst hc1
          have hkm := hkc rfl
          go_wp2_with (at_builtin; go_must (refine wpList_pushz rfl (.tmp 60) (.tmp 63) 37 rfl 2 .i64 8 Tryz.underlying37 info_i64 (by omega) (w.heap.size + 3) _ ds ((1 + 0 + 0) % 10000) (1) (by omega) rfl (hown.alloc _) wr.heap.size rfl (World.cell?_alloc_at _ _ _ _ rfl) (by omega) (by simp; omega) ?_))
          intro v' w1 hown1 hbw
          have HR1 := Lib.hid (add_rel w wr w1 xs ys ds na nb 1 k 0 0 _ _ _ _ _ _ v' _ (0) (↑k + 1) hcy (by omega) (by omega) (by omega) (.inr ⟨rfl, rfl⟩) Hdl.out Hd.out Hdx.out Hdy.out Hval.out (by omega) (by omega) hown1 hbw HBEL.out hb0 hb1 hb2)
          clear hown hown1 hbw hb0 hb1 hb2
          go_wp2
          go_roundw
          case rel => exact HR1.out
          case measure => simp [intOf]; omega
        · obtain rfl : cy = 0 := by omega
          have hval2 : val 10000 ds = a.natAbs + b.natAbs := by
            have := Hval.out
            rw [val_drop_all _ _ _ (by rw [← Ena.out]; omega), val_drop_all _ _ _ (by rw [← Enb.out]; omega), Hvx.out, Hvy.out] at this
            simpa using this
          have Hv2 := Lib.hid hval2
          clear hval2
          go_wp2_with fail
          refine cut_z neg _ ds _ hown.sl Hd.out (by omega) (a + b) (by rw [Hv2.out]; exact Hz.out) _ ?_
          intro v' w1 hz hbw
          obtain ⟨ao', n', cap', rfl, hn', hs'⟩ := hz.open
          have hbox1 := hb2.later hbw (by omega)
          obtain ⟨hA2, hB2, hA2', hB2'⟩ := hbox1.cells
          have hni := hbox1.noInt rfl rfl
          have HZ := Lib.hid (HBEL.out.trans (hbw.mono hsz))
          have HS := Lib.hid hs'
          clear hn' hb0 hb1 hb2 hbox1 hs' hz hbw hown hA0 hA1 hB0 hB1
          dsimp only
          go_wp2
          refine bodyPost_ret_at (by simp [results, Tryz.results77, go_sem, hA2, hB2, hA2', hB2'] <;> rfl) rfl ?_
          exact HR.out _ _ ⟨.slice ao' n' cap', by simp, (HS.out.set hni 0 _).set (hni.set 0 _ rfl) 1 _⟩ ((HZ.out.setCell (by simp <;> omega) _).setCell (by simp <;> omega) _)
end Go.Proofs.YtbglfendcpbjpaaGreatDoor

namespace Go.Proofs.YtbglfendcpbjpaaGreatDoor
open Go Go.RowKit

/-- what holds at the head of the second loop of the sum -/
def SubInv (w : World) (xs ys : List Nat) (na : Nat) (u0 v0 u1 v1 u2 v2 : Value) (d c i : Value) (wr : World) : Prop :=
  ∃ (ds : List Nat) (cy k : Nat), i = .int .i64 k ∧ c = .int .i64 cy ∧ cy ≤ 1 ∧ k ≤ na ∧ ds.length = k ∧ (∀ x ∈ ds, x < 10000) ∧
    val 10000 ds + 10000 ^ k * val 10000 (xs.drop k) + val 10000 ys = val 10000 xs + 10000 ^ k * (cy + val 10000 (ys.drop k)) ∧
    Own .i64 2 wr (w.heap.size + 3) d ds ∧ Below w.heap.size w wr ∧
    Box2 wr w.heap.size u0 v0 39 ∧ Box2 wr (w.heap.size + 1) u1 v1 39 ∧ Box2 wr (w.heap.size + 2) u2 v2 39

theorem sub_step (B : Nat) (ds xs ys : List Nat) (cy k x y z cy2 S T : Nat) (hl : ds.length = k) (hx : val B (xs.drop k) = x + B * val B (xs.drop (k + 1))) (hy : val B (ys.drop k) = y + B * val B (ys.drop (k + 1)))
    (hz : z + cy + y = x + B * cy2) (h : val B ds + B ^ k * val B (xs.drop k) + S = T + B ^ k * (cy + val B (ys.drop k))) :
    val B (ds ++ [z]) + B ^ (k + 1) * val B (xs.drop (k + 1)) + S = T + B ^ (k + 1) * (cy2 + val B (ys.drop (k + 1))) := by
  rw [hx, hy] at h
  rw [val_snoc, hl, Nat.pow_succ, Nat.mul_assoc, Nat.mul_assoc]
  have h1 : B ^ k * (z + cy + y) = B ^ k * (x + B * cy2) := by rw [hz]
  simp only [Nat.mul_add] at h h1 ⊢
  generalize B ^ k * (B * val B (xs.drop (k + 1))) = p at *
  generalize B ^ k * (B * val B (ys.drop (k + 1))) = q at *
  generalize B ^ k * (B * cy2) = r at *
  omega

theorem sub_rel (w wr w1 : World) (xs ys ds : List Nat) (na cy k x y z cy2 : Nat) (u0 v0 u1 v1 u2 v2 v' : Value) (o : Obj) (zc zk : Int)
    (hcy : cy2 ≤ 1) (hzl : z < 10000) (hk : k < na) (hdl : ds.length = k) (hd : ∀ x ∈ ds, x < 10000)
    (hdx : val 10000 (xs.drop k) = x + 10000 * val 10000 (xs.drop (k + 1))) (hdy : val 10000 (ys.drop k) = y + 10000 * val 10000 (ys.drop (k + 1)))
    (hz : z + cy + y = x + 10000 * cy2)
    (hval : val 10000 ds + 10000 ^ k * val 10000 (xs.drop k) + val 10000 ys = val 10000 xs + 10000 ^ k * (cy + val 10000 (ys.drop k)))
    (hzc : zc = (cy2 : Int)) (hzk : zk = ((k + 1 : Nat) : Int))
    (hown : Own .i64 2 w1 (w.heap.size + 3) v' (ds ++ [z])) (hb : Below (w.heap.size + 3) (wr.alloc o) w1) (hbel : Below w.heap.size w wr)
    (h0 : Box2 wr w.heap.size u0 v0 39) (h1 : Box2 wr (w.heap.size + 1) u1 v1 39) (h2 : Box2 wr (w.heap.size + 2) u2 v2 39) :
    SubInv w xs ys na u0 v0 u1 v1 u2 v2 v' (.int .i64 zc) (.int .i64 zk) w1 := by
  subst hzc hzk
  refine ⟨_, cy2, k + 1, rfl, rfl, hcy, by omega, by simp [hdl], ?_, sub_step 10000 ds xs ys cy k x y z cy2 _ _ hdl hdx hdy hz hval, hown, (hbel.alloc hbel.size o).trans (hb.mono (by omega)), (h0.alloc o).later hb (by omega), (h1.alloc o).later hb (by omega), (h2.alloc o).later hb (by omega)⟩
  intro q hq
  rcases List.mem_append.1 hq with hq | hq
  · exact hd q hq
  · simp at hq; omega

theorem sub_end (A Y D P cy : Nat) (h : D + Y = A + P * cy) (hD : D < P) (hle : Y ≤ A) (hcy : cy ≤ 1) : D = A - Y := by
  by_cases h1 : cy = 1
  · subst h1; omega
  · obtain rfl : cy = 0 := by omega
    omega

set_option maxRecDepth 100000 in
set_option maxHeartbeats 2000000 in
theorem zadd_diff (va vb : Value) (a b : Int) (w : World) (ha : IsZ w va a) (hb : IsZ w vb b) (hla : (dig 10000 a.natAbs).length ≤ 10000000) (hlb : (dig 10000 b.natAbs).length ≤ 10000000) (hdiff : decide (a < 0) ≠ decide (b < 0)) (hle : b.natAbs ≤ a.natAbs) (R : Ending → World → Prop)
    (hR : ∀ v w', IsZ w' v (a + b) → Below w.heap.size w w' → R (.returned v) w') :
    Calls Tryz.prog 77 #[va, vb] w R := by
  have HR := Lib.hid hR; clear hR
  have HA := Lib.hid ha
  have HB := Lib.hid hb
  obtain ⟨aa, na, ca, rfl, ena, hsa⟩ := ha.open
  obtain ⟨ab, nb, cb, rfl, enb, hsb⟩ := hb.open
  have hnn : nb ≤ na := by
    rcases Nat.lt_or_ge na nb with h | h
    · have := lt_of_dig_length (B := 10000) (by omega) a.natAbs b.natAbs (by omega); omega
    · exact h
  obtain ⟨xs, hxs⟩ : ∃ xs, xs = dig 10000 a.natAbs := ⟨_, rfl⟩
  obtain ⟨ys, hys⟩ : ∃ ys, ys = dig 10000 b.natAbs := ⟨_, rfl⟩
  have hx : ∀ d ∈ xs, d < 10000 := by rw [hxs]; exact dig_lt (by omega) _
  have hy : ∀ d ∈ ys, d < 10000 := by rw [hys]; exact dig_lt (by omega) _
  have hvx : val 10000 xs = a.natAbs := by rw [hxs]; exact val_dig (by omega) _
  have hvy : val 10000 ys = b.natAbs := by rw [hys]; exact val_dig (by omega) _
  have hla9 := Lib.hid (Nat.le_trans hla (by omega : 10000000 ≤ 1000000000))
  have hlb9 := Lib.hid (Nat.le_trans hlb (by omega : 10000000 ≤ 1000000000))
  rw [← ena] at hla
  rw [← enb] at hlb
  rw [← hxs] at hsa ena
  rw [← hys] at hsb enb
  obtain ⟨nega, hnega⟩ : ∃ x, x = decide (a < 0) := ⟨_, rfl⟩
  obtain ⟨negb, hnegb⟩ : ∃ x, x = decide (b < 0) := ⟨_, rfl⟩
  have hz : a + b = if nega = true then -((a.natAbs - b.natAbs : Nat) : Int) else ((a.natAbs - b.natAbs : Nat) : Int) := by
    by_cases h : a < 0
    · have h2 : ¬ b < 0 := by intro h2; exact hdiff (by simp [h, h2])
      rw [hnega]; simp [h]; omega
    · have h2 : b < 0 := by rcases Int.lt_or_le b 0 with h2 | h2
                            · exact h2
                            · exact absurd (by simp [h]; omega) hdiff
      rw [hnega]; simp [h]; omega
  have hcmp : ¬ (cmpN a.natAbs b.natAbs < 0) := by unfold cmpN; rw [if_neg (by omega)]; split <;> omega
  rw [← hnega] at HA hdiff ⊢
  rw [← hnegb] at HB hdiff ⊢
  have hne : (nega == negb) = false := by cases nega <;> cases negb <;> simp_all
  obtain ⟨cm, hcm⟩ : ∃ cm, cm = cmpN a.natAbs b.natAbs := ⟨_, rfl⟩
  rw [← hcm] at hcmp
  have Hcm := Lib.hid hcm
  have Ena := Lib.hid ena
  have Enb := Lib.hid enb
  have Hvx := Lib.hid hvx
  have Hvy := Lib.hid hvy
  have Hx := Lib.hid hx
  have Hy := Lib.hid hy
  have Hz := Lib.hid hz
  have Hle := Lib.hid hle
  have B0 := ((Box2.made w (.bool nega) (.slice aa na ca) 39).alloc (.cells #[.bool negb, .slice ab nb cb] 39)).alloc (.cells #[.bool false, .slice none 0 0] 39)
  have B1 := (Box2.made (w.alloc (.cells #[.bool nega, .slice aa na ca] 39)) (.bool negb) (.slice ab nb cb) 39).alloc (.cells #[.bool false, .slice none 0 0] 39)
  have B2 := Box2.made ((w.alloc (.cells #[.bool nega, .slice aa na ca] 39)).alloc (.cells #[.bool negb, .slice ab nb cb] 39)) (.bool false) (.slice none 0 0) 39
  simp only [World.size_alloc] at B0 B1 B2
  have HEXT := Lib.hid ((((Below.refl w.heap.size w).alloc (Nat.le_refl _) (.cells #[.bool nega, .slice aa na ca] 39)).alloc (by simp) (.cells #[.bool negb, .slice ab nb cb] 39)).alloc (by simp; omega) (.cells #[.bool false, .slice none 0 0] 39))
  clear hdiff hnega hnegb hxs hys ena enb hvx hvy ha hb hx hy hz hle hcm
  go_enter Tryz.func77, Tryz.ntmps77
  go_wp2_with fail
  refine far_any _ _ a b _ (HA.out.later HEXT.out (Nat.le_refl _)) (HB.out.later HEXT.out (Nat.le_refl _)) hla9.out hlb9.out _ ?_
  intro w0 hbw0
  have b0 := B0.later hbw0 (by simp <;> omega)
  have b1 := B1.later hbw0 (by simp <;> omega)
  have b2 := B2.later hbw0 (by simp <;> omega)
  have hbel0 : Below w.heap.size w w0 := HEXT.out.trans (hbw0.mono (by simp; omega))
  rw [← Hcm.out]
  obtain ⟨hA0, hA1, _, _⟩ := b0.cells
  obtain ⟨hB0, hB1, _, _⟩ := b1.cells
  have hlt0 := lt_of_block b2
  clear B0 B1 B2 hbw0
  dsimp only
  go_wp2
  go_loopw [8, 9, 10] (fun d c i wr => SubInv w xs ys na (.bool nega) (.slice aa na ca) (.bool negb) (.slice ab nb cb) (.bool false) (.slice none 0 0) d c i wr) (fun _ _ i _ => na - (intOf i).toNat)
  case atStart =>
    exact ⟨[], 0, 0, rfl, rfl, by omega, by omega, rfl, by simp, by simp [val], Own.lit .i64 2 w0 (w.heap.size + 3) (by omega), hbel0.alloc hbel0.size _, b0.alloc _, b1.alloc _, b2.alloc _⟩
  case round =>
    clear hA0 hA1 hB0 hB1
    obtain ⟨ds, cy, k, rfl, rfl, hcy, hk, hdl, hd, hval, hown, hbel, hb0, hb1, hb2⟩ := hrel
    have hsz := hbel.size
    have hlt2 := lt_of_block hb2
    obtain ⟨hA0, hA1, _, _⟩ := hb0.cells
    obtain ⟨hB0, hB1, _, _⟩ := hb1.cells
    have Hval := Lib.hid hval
    have Hd := Lib.hid hd
    have Hdl := Lib.hid hdl
    have HBEL := Lib.hid hbel
    have hdlb : ds.length ≤ 20000000 := by omega
    clear hval hd hdl b0 b1 b2 hbel0 hlt0
    by_cases hka : k < na
    · obtain ⟨p1, o1, rfl, hp1, hc1⟩ := hsa.at k hka
      rw [← hbel.cell (p := ⟨p1, o1 + k, none⟩) hp1] at hc1
      obtain ⟨x, hxe⟩ : ∃ x, x = xs.getD k 0 := ⟨_, rfl⟩
      rw [← hxe] at hc1
      have hxl : x < 10000 := by rw [hxe]; exact getD_lt (by omega) _ Hx.out _
      have hdx : val 10000 (xs.drop k) = x + 10000 * val 10000 (xs.drop (k + 1)) := by rw [hxe]; exact val_drop _ _ _ (by rw [← Ena.out]; exact hka)
      have Hdx := Lib.hid hdx
      clear hxe hdx
      by_cases hkb2 : k < nb
      · obtain ⟨p2, o2, rfl, hp2, hc2⟩ := hsb.at k hkb2
        rw [← hbel.cell (p := ⟨p2, o2 + k, none⟩) hp2] at hc2
        obtain ⟨y, hye⟩ : ∃ y, y = ys.getD k 0 := ⟨_, rfl⟩
        rw [← hye] at hc2
        have hyl : y < 10000 := by rw [hye]; exact getD_lt (by omega) _ Hy.out _
        have hdy : val 10000 (ys.drop k) = y + 10000 * val 10000 (ys.drop (k + 1)) := by rw [hye]; exact val_drop _ _ _ (by rw [← Enb.out]; exact hkb2)
        have Hdy := Lib.hid hdy
        clear hye hdy hbel
        by_cases hneg : x < cy + y
        · have hneg2 : (x : Int) - (cy : Int) - (y : Int) < 0 := by omega
          go_wp2_with (at_builtin; go_must (refine wpList_pushz rfl (.tmp 109) (.tmp 111) 37 rfl 2 .i64 8 Tryz.underlying37 info_i64 (by omega) (w.heap.size + 3) _ ds (x + 10000 - cy - y) (↑x - ↑cy - ↑y + 10000) (by omega) rfl (hown.alloc _) wr.heap.size rfl (World.cell?_alloc_at _ _ _ _ rfl) (by omega) (by simp; omega) ?_))
          intro v' w1 hown1 hbw
          have HR1 := Lib.hid (sub_rel w wr w1 xs ys ds na cy k x y (x + 10000 - cy - y) 1 _ _ _ _ _ _ v' _ 1 (↑k + 1) (by omega) (by omega) hka Hdl.out Hd.out Hdx.out Hdy.out (by omega) Hval.out (by omega) (by omega) hown1 hbw HBEL.out hb0 hb1 hb2)
          clear hown hown1 hbw hb0 hb1 hb2
          go_wp2
          go_roundw
          case rel => exact HR1.out
          case measure => simp [intOf]; omega
        · have hneg2 : ¬ (x : Int) - (cy : Int) - (y : Int) < 0 := by omega
          go_wp2_with (at_builtin; go_must (refine wpList_pushz rfl (.tmp 109) (.tmp 111) 37 rfl 2 .i64 8 Tryz.underlying37 info_i64 (by omega) (w.heap.size + 3) _ ds (x - cy - y) (↑x - ↑cy - ↑y) (by omega) rfl (hown.alloc _) wr.heap.size rfl (World.cell?_alloc_at _ _ _ _ rfl) (by omega) (by simp; omega) ?_))
          intro v' w1 hown1 hbw
          have HR1 := Lib.hid (sub_rel w wr w1 xs ys ds na cy k x y (x - cy - y) 0 _ _ _ _ _ _ v' _ 0 (↑k + 1) (by omega) (by omega) hka Hdl.out Hd.out Hdx.out Hdy.out (by omega) Hval.out (by omega) (by omega) hown1 hbw HBEL.out hb0 hb1 hb2)
          clear hown hown1 hbw hb0 hb1 hb2
          go_wp2
          go_roundw
          case rel => exact HR1.out
          case measure => simp [intOf]; omega
      · have Hdy := Lib.hid (show val 10000 (ys.drop k) = 0 + 10000 * val 10000 (ys.drop (k + 1)) by rw [val_drop_all _ _ _ (by rw [← Enb.out]; omega), val_drop_all _ _ _ (by rw [← Enb.out]; omega)])
        clear hbel
        by_cases hneg : x < cy
        · have hneg2 : (x : Int) - (cy : Int) < 0 := by omega
          go_wp2_with (at_builtin; go_must (refine wpList_pushz rfl (.tmp 109) (.tmp 111) 37 rfl 2 .i64 8 Tryz.underlying37 info_i64 (by omega) (w.heap.size + 3) _ ds (x + 10000 - cy) (↑x - ↑cy + 10000) (by omega) rfl (hown.alloc _) wr.heap.size rfl (World.cell?_alloc_at _ _ _ _ rfl) (by omega) (by simp; omega) ?_))
          intro v' w1 hown1 hbw
          have HR1 := Lib.hid (sub_rel w wr w1 xs ys ds na cy k x 0 (x + 10000 - cy) 1 _ _ _ _ _ _ v' _ 1 (↑k + 1) (by omega) (by omega) hka Hdl.out Hd.out Hdx.out Hdy.out (by omega) Hval.out (by omega) (by omega) hown1 hbw HBEL.out hb0 hb1 hb2)
          clear hown hown1 hbw hb0 hb1 hb2
          go_wp2
          go_roundw
          case rel => exact HR1.out
          case measure => simp [intOf]; omega
        · have hneg2 : ¬ (x : Int) - (cy : Int) < 0 := by omega
          go_wp2_with (at_builtin; go_must (refine wpList_pushz rfl (.tmp 109) (.tmp 111) 37 rfl 2 .i64 8 Tryz.underlying37 info_i64 (by omega) (w.heap.size + 3) _ ds (x - cy) (↑x - ↑cy) (by omega) rfl (hown.alloc _) wr.heap.size rfl (World.cell?_alloc_at _ _ _ _ rfl) (by omega) (by simp; omega) ?_))
          intro v' w1 hown1 hbw
          have HR1 := Lib.hid (sub_rel w wr w1 xs ys ds na cy k x 0 (x - cy) 0 _ _ _ _ _ _ v' _ 0 (↑k + 1) (by omega) (by omega) hka Hdl.out Hd.out Hdx.out Hdy.out (by omega) Hval.out (by omega) (by omega) hown1 hbw HBEL.out hb0 hb1 hb2)
          clear hown hown1 hbw hb0 hb1 hb2
          go_wp2
          go_roundw
          case rel => exact HR1.out
          case measure => simp [intOf]; omega
    · obtain rfl : k = na := by omega
      have hval2 : val 10000 ds = a.natAbs - b.natAbs := by
        have h := Hval.out
        rw [val_drop_all _ xs _ (by rw [← Ena.out]; omega), val_drop_all _ ys _ (by rw [← Enb.out]; omega), Hvx.out, Hvy.out, Nat.mul_zero, Nat.add_zero, Nat.add_zero] at h
        have h2 := val_lt ds Hd.out
        rw [Hdl.out] at h2
        exact sub_end _ _ _ _ _ h h2 Hle.out hcy
      have Hv2 := Lib.hid hval2
      clear hval2 hbel
      go_wp2_with fail
      refine cut_z nega _ ds _ hown.sl Hd.out (by omega) (a + b) (by rw [Hv2.out]; exact Hz.out) _ ?_
      intro v' w1 hz hbw
      obtain ⟨ao', n', cap', rfl, hn', hs'⟩ := hz.open
      have hbox1 := hb2.later hbw (by omega)
      obtain ⟨hA2, hB2, hA2', hB2'⟩ := hbox1.cells
      have hni := hbox1.noInt rfl rfl
      have HZ := Lib.hid (HBEL.out.trans (hbw.mono hsz))
      have HS := Lib.hid hs'
      clear hn' hb0 hb1 hb2 hbox1 hs' hz hbw hown hA0 hA1 hB0 hB1
      dsimp only
      go_wp2
      refine bodyPost_ret_at (by simp [results, Tryz.results77, go_sem, hA2, hB2, hA2', hB2'] <;> rfl) rfl ?_
      exact HR.out _ _ ⟨.slice ao' n' cap', by simp, (HS.out.set hni 0 _).set (hni.set 0 _ rfl) 1 _⟩ ((HZ.out.setCell (by simp <;> omega) _).setCell (by simp <;> omega) _)

set_option maxRecDepth 100000 in
set_option maxHeartbeats 1000000 in
/-- the sum of two integers of any size -/
theorem zadd_any (va vb : Value) (a b : Int) (w : World) (ha : IsZ w va a) (hb : IsZ w vb b) (hla : (dig 10000 a.natAbs).length ≤ 10000000) (hlb : (dig 10000 b.natAbs).length ≤ 10000000) (R : Ending → World → Prop)
    (hR : ∀ v w', IsZ w' v (a + b) → Below w.heap.size w w' → R (.returned v) w') :
    Calls Tryz.prog 77 #[va, vb] w R := by
  by_cases hsame : decide (a < 0) = decide (b < 0)
  · exact zadd_same va vb a b w ha hb hla hlb hsame R hR
  · by_cases hle : b.natAbs ≤ a.natAbs
    · exact zadd_diff va vb a b w ha hb hla hlb hsame hle R hR
    · have HR := Lib.hid hR; clear hR
      have HA := Lib.hid ha
      have HB := Lib.hid hb
      obtain ⟨aa, na, ca, rfl, ena, hsa⟩ := ha.open
      obtain ⟨ab, nb, cb, rfl, enb, hsb⟩ := hb.open
      obtain ⟨nega, hnega⟩ : ∃ x, x = decide (a < 0) := ⟨_, rfl⟩
      obtain ⟨negb, hnegb⟩ : ∃ x, x = decide (b < 0) := ⟨_, rfl⟩
      have Hdiff := Lib.hid (show decide (b < 0) ≠ decide (a < 0) from fun h => hsame h.symm)
      have Hle := Lib.hid (show a.natAbs ≤ b.natAbs by omega)
      have hcm : cmpN a.natAbs b.natAbs = -1 := cmpN_lt (by omega)
      have Hcm := Lib.hid hcm
      have hla9 := Lib.hid (Nat.le_trans hla (by omega : 10000000 ≤ 1000000000))
      have hlb9 := Lib.hid (Nat.le_trans hlb (by omega : 10000000 ≤ 1000000000))
      have Hla := Lib.hid hla
      have Hlb := Lib.hid hlb
      rw [← hnega] at HA hsame ⊢
      rw [← hnegb] at HB hsame ⊢
      have hne : (nega == negb) = false := by cases nega <;> cases negb <;> simp_all
      have B0 := ((Box2.made w (.bool nega) (.slice aa na ca) 39).alloc (.cells #[.bool negb, .slice ab nb cb] 39)).alloc (.cells #[.bool false, .slice none 0 0] 39)
      have B1 := (Box2.made (w.alloc (.cells #[.bool nega, .slice aa na ca] 39)) (.bool negb) (.slice ab nb cb) 39).alloc (.cells #[.bool false, .slice none 0 0] 39)
      have B2 := Box2.made ((w.alloc (.cells #[.bool nega, .slice aa na ca] 39)).alloc (.cells #[.bool negb, .slice ab nb cb] 39)) (.bool false) (.slice none 0 0) 39
      simp only [World.size_alloc] at B0 B1 B2
      have HEXT := Lib.hid ((((Below.refl w.heap.size w).alloc (Nat.le_refl _) (.cells #[.bool nega, .slice aa na ca] 39)).alloc (by simp) (.cells #[.bool negb, .slice ab nb cb] 39)).alloc (by simp; omega) (.cells #[.bool false, .slice none 0 0] 39))
      clear hnega hnegb ena enb ha hb hle hcm hla hlb hsa hsb hsame
      go_enter Tryz.func77, Tryz.ntmps77
      go_wp2_with fail
      refine far_any _ _ a b _ (HA.out.later HEXT.out (Nat.le_refl _)) (HB.out.later HEXT.out (Nat.le_refl _)) hla9.out hlb9.out _ ?_
      intro w0 hbw0
      have b0 := B0.later hbw0 (by simp <;> omega)
      have b1 := B1.later hbw0 (by simp <;> omega)
      have b2 := B2.later hbw0 (by simp <;> omega)
      have hbel0 := Lib.hid (HEXT.out.trans (hbw0.mono (by simp; omega)))
      rw [Hcm.out]
      obtain ⟨hA0, hA1, _, _⟩ := b0.cells
      obtain ⟨hB0, hB1, _, _⟩ := b1.cells
      clear B0 B1 B2 hbw0
      dsimp only
      go_wp2_with fail
      refine zadd_diff _ _ b a _ (HB.out.later hbel0.out (Nat.le_refl _)) (HA.out.later hbel0.out (Nat.le_refl _)) Hlb.out Hla.out Hdiff.out Hle.out _ ?_
      intro v' w1 hz hbw
      rw [Int.add_comm b a] at hz
      obtain ⟨ao', n', cap', rfl, hn', hs'⟩ := hz.open
      have hbox1 := b2.later hbw (lt_of_block b2)
      obtain ⟨hA2, hB2, hA2', hB2'⟩ := hbox1.cells
      have hni := hbox1.noInt rfl rfl
      have HZ := Lib.hid (hbel0.out.trans (hbw.mono hbel0.out.size))
      have HS := Lib.hid hs'
      clear hn' b0 b1 b2 hbox1 hs' hz hbw hA0 hA1 hB0 hB1
      dsimp only
      go_wp2
      refine bodyPost_ret_at (by simp [results, Tryz.results77, go_sem, hA2, hB2, hA2', hB2'] <;> rfl) rfl ?_
      exact HR.out _ _ ⟨.slice ao' n' cap', by simp, (HS.out.set hni 0 _).set (hni.set 0 _ rfl) 1 _⟩ ((HZ.out.setCell (by simp <;> omega) _).setCell (by simp <;> omega) _)

end Go.Proofs.YtbglfendcpbjpaaGreatDoor

namespace Go.Proofs.YtbglfendcpbjpaaGreatDoor
open Go Go.RowKit

theorem val_set (B : Nat) (D : List Nat) (j z : Nat) (h : j < D.length) : val B (D.set j z) + B ^ j * D.getD j 0 = val B D + B ^ j * z := by
  have h1 : D.set j z = D.take j ++ z :: D.drop (j + 1) := List.set_eq_take_append_cons_drop (l := D) (i := j) (a := z) ▸ by simp [h]
  have h2 : D = D.take j ++ D[j] :: D.drop (j + 1) := by rw [← List.drop_eq_getElem_cons h, List.take_append_drop]
  have e1 : val B (D.set j z) = val B (D.take j) + B ^ j * (z + B * val B (D.drop (j + 1))) := by
    rw [h1, val_append, List.length_take, Nat.min_eq_left (by omega)]; rfl
  have e2 : val B D = val B (D.take j) + B ^ j * (D[j] + B * val B (D.drop (j + 1))) := by
    conv => lhs; rw [h2]
    rw [val_append, List.length_take, Nat.min_eq_left (by omega)]; rfl
  rw [e1, e2, getD_eq h, Nat.mul_add, Nat.mul_add]
  omega

theorem mul_step (B : Nat) (D ys : List Nat) (cy x y k i T : Nat) (hl : i + k < D.length) (hy : val B (ys.drop k) = y + B * val B (ys.drop (k + 1)))
    (h : val B D + B ^ (i + k) * (cy + x * val B (ys.drop k)) = T) :
    val B (D.set (i + k) ((cy + D.getD (i + k) 0 + x * y) % B)) + B ^ (i + (k + 1)) * ((cy + D.getD (i + k) 0 + x * y) / B + x * val B (ys.drop (k + 1))) = T := by
  have hs := val_set B D (i + k) ((cy + D.getD (i + k) 0 + x * y) % B) hl
  have hd := Nat.div_add_mod (cy + D.getD (i + k) 0 + x * y) B
  obtain ⟨q, hq⟩ : ∃ q, q = (cy + D.getD (i + k) 0 + x * y) / B := ⟨_, rfl⟩
  obtain ⟨r, hr⟩ : ∃ r, r = (cy + D.getD (i + k) 0 + x * y) % B := ⟨_, rfl⟩
  rw [← hq, ← hr] at hd
  rw [← hr] at hs
  rw [← hq, ← hr]
  have hd2 : B ^ (i + k) * (B * q + r) = B ^ (i + k) * (cy + D.getD (i + k) 0 + x * y) := by rw [hd]
  rw [hy] at h
  have e : B ^ (i + (k + 1)) = B ^ (i + k) * B := by rw [← Nat.add_assoc, Nat.pow_succ]
  have e2 : x * (B * val B (ys.drop (k + 1))) = B * (x * val B (ys.drop (k + 1))) := by rw [← Nat.mul_assoc, Nat.mul_comm x B, Nat.mul_assoc]
  rw [e, Nat.mul_assoc]
  simp only [Nat.mul_add, e2] at h hd2 ⊢
  generalize B ^ (i + k) * (B * (x * val B (ys.drop (k + 1)))) = p1 at *
  generalize B ^ (i + k) * (B * q) = p2 at *
  generalize B ^ (i + k) * (x * y) = p3 at *
  generalize B ^ (i + k) * cy = p4 at *
  generalize B ^ (i + k) * r = p5 at *
  generalize B ^ (i + k) * D.getD (i + k) 0 = p6 at *
  omega

theorem mul_sign (a b : Int) : a * b = if (decide (a < 0) != decide (b < 0)) = true then -((a.natAbs * b.natAbs : Nat) : Int) else ((a.natAbs * b.natAbs : Nat) : Int) := by
  have e1 : a = if a < 0 then -(a.natAbs : Int) else (a.natAbs : Int) := by split <;> omega
  have e2 : b = if b < 0 then -(b.natAbs : Int) else (b.natAbs : Int) := by split <;> omega
  by_cases h1 : a < 0 <;> by_cases h2 : b < 0
  · rw [if_pos h1] at e1; rw [if_pos h2] at e2; simp [h1, h2]; conv => lhs; rw [e1, e2, Int.neg_mul_neg]
  · rw [if_pos h1] at e1; rw [if_neg h2] at e2; simp [h1, h2]; conv => lhs; rw [e1, e2, Int.neg_mul]
  · rw [if_neg h1] at e1; rw [if_pos h2] at e2; simp [h1, h2]; conv => lhs; rw [e1, e2, Int.mul_neg]
  · rw [if_neg h1] at e1; rw [if_neg h2] at e2; simp [h1, h2]; conv => lhs; rw [e1, e2]

theorem set_lt {B : Nat} (D : List Nat) (j z : Nat) (h : ∀ d ∈ D, d < B) (hz : z < B) : ∀ d ∈ D.set j z, d < B := by
  intro d hd
  rcases List.mem_or_eq_of_mem_set hd with h1 | h1
  · exact h d h1
  · rw [h1]; exact hz

/-- what holds at the head of the outer loop of the product -/
def MulOut (w : World) (xs ys : List Nat) (na nb : Nat) (u0 v0 u1 v1 u2 v2 : Value) (i : Value) (wr : World) : Prop :=
  ∃ (D : List Nat) (k : Nat), i = .int .i64 k ∧ k ≤ na ∧ D.length = na + nb + 1 ∧ (∀ x ∈ D, x < 10000) ∧ val 10000 D = val 10000 (xs.take k) * val 10000 ys ∧
    Arr .i64 2 wr (w.heap.size + 3) D ∧ Below w.heap.size w wr ∧
    Box2 wr w.heap.size u0 v0 39 ∧ Box2 wr (w.heap.size + 1) u1 v1 39 ∧ Box2 wr (w.heap.size + 2) u2 v2 39

/-- what holds at the head of the inner loop -/
def MulIn (w : World) (ys : List Nat) (na nb i x T : Nat) (u0 v0 u1 v1 u2 v2 : Value) (c q : Value) (wr : World) : Prop :=
  ∃ (D : List Nat) (cy k : Nat), c = .int .i64 cy ∧ q = .int .i64 k ∧ cy < 10000 ∧ k ≤ nb + 1 ∧ (k = nb + 1 → cy = 0) ∧ D.length = na + nb + 1 ∧ (∀ x ∈ D, x < 10000) ∧
    val 10000 D + 10000 ^ (i + k) * (cy + x * val 10000 (ys.drop k)) = T ∧
    Arr .i64 2 wr (w.heap.size + 3) D ∧ Below w.heap.size w wr ∧
    Box2 wr w.heap.size u0 v0 39 ∧ Box2 wr (w.heap.size + 1) u1 v1 39 ∧ Box2 wr (w.heap.size + 2) u2 v2 39

theorem Box2.setOther {w : World} {b : Nat} {u v : Value} {t : TypeId} (h : Box2 w b u v t) {g : Nat} (hg : b ≠ g) (i : Nat) (x : Value) : Box2 (w.setCell ⟨g, i, none⟩ x) b u v t := by
  unfold Box2 at *; rw [Below.heap_setCell _ _ _ _ hg]; exact h

theorem mul_rel (w wr : World) (ys D : List Nat) (na nb i x T cy k y dv n : Nat) (u0 v0 u1 v1 u2 v2 : Value) (zc zk z : Int)
    (hxl : x < 10000) (hyl : y < 10000) (hcy : cy < 10000) (hk : k ≤ nb) (hi : i < na) (hdl : D.length = na + nb + 1) (hd : ∀ x ∈ D, x < 10000) (hdv : dv = D.getD (i + k) 0)
    (hys : ys.length = nb) (hdy : val 10000 (ys.drop k) = y + 10000 * val 10000 (ys.drop (k + 1)))
    (hval : val 10000 D + 10000 ^ (i + k) * (cy + x * val 10000 (ys.drop k)) = T) (hT : T < 10000 ^ (i + 1 + nb))
    (hzc : zc = (((cy + dv + x * y) / 10000 : Nat) : Int)) (hzk : zk = ((k + 1 : Nat) : Int)) (hz : z = (((cy + dv + x * y) % 10000 : Nat) : Int))
    (harr : Arr .i64 2 wr (w.heap.size + 3) D) (hbel : Below w.heap.size w wr)
    (h0 : Box2 wr w.heap.size u0 v0 39) (h1 : Box2 wr (w.heap.size + 1) u1 v1 39) (h2 : Box2 wr (w.heap.size + 2) u2 v2 39) :
    MulIn w ys na nb i x T u0 v0 u1 v1 u2 v2 (.int .i64 zc) (.int .i64 zk) ((wr.drewN n).setCell ⟨w.heap.size + 3, i + k, none⟩ (.int .i64 z)) := by
  subst hzc hzk hdv
  have hst := mul_step 10000 D ys cy x y k i T (by omega) hdy hval
  have hdvl : D.getD (i + k) 0 < 10000 := getD_lt (by omega) D hd _
  have hxy : x * y ≤ 9999 * 9999 := Nat.mul_le_mul (by omega) (by omega)
  refine ⟨D.set (i + k) ((cy + D.getD (i + k) 0 + x * y) % 10000), (cy + D.getD (i + k) 0 + x * y) / 10000, k + 1, rfl, rfl, by omega, by omega, fun h => ?_, by simp [hdl], set_lt D _ _ hd (by omega), hst, (harr.drewN n).setz _ _ z hz, (below_draws hbel n).setCell (by simp) _, (h0.drewN n).setOther (by omega) _ _, (h1.drewN n).setOther (by omega) _ _, (h2.drewN n).setOther (by omega) _ _⟩
  obtain rfl : k = nb := by omega
  rcases Nat.eq_zero_or_pos ((cy + D.getD (i + k) 0 + x * y) / 10000) with h0 | h0
  · exact h0
  · exfalso
    have e : i + (k + 1) = i + 1 + k := by omega
    rw [e] at hst
    have : 10000 ^ (i + 1 + k) * 1 ≤ 10000 ^ (i + 1 + k) * ((cy + D.getD (i + k) 0 + x * y) / 10000 + x * val 10000 (ys.drop (k + 1))) := Nat.mul_le_mul_left _ (by omega)
    omega

end Go.Proofs.YtbglfendcpbjpaaGreatDoor

namespace Go.Proofs.YtbglfendcpbjpaaGreatDoor
open Go Go.RowKit

set_option maxRecDepth 100000 in
set_option maxHeartbeats 2000000 in
theorem zmul_any (va vb : Value) (a b : Int) (w : World) (ha : IsZ w va a) (hb : IsZ w vb b) (hla : (dig 10000 a.natAbs).length ≤ 10000000) (hlb : (dig 10000 b.natAbs).length ≤ 10000000) (R : Ending → World → Prop)
    (hR : ∀ v w', IsZ w' v (a * b) → Below w.heap.size w w' → R (.returned v) w') :
    Calls Tryz.prog 78 #[va, vb] w R := by
  have HR := Lib.hid hR; clear hR
  obtain ⟨aa, na, ca, rfl, ena, hsa⟩ := ha.open
  obtain ⟨ab, nb, cb, rfl, enb, hsb⟩ := hb.open
  obtain ⟨xs, hxs⟩ : ∃ xs, xs = dig 10000 a.natAbs := ⟨_, rfl⟩
  obtain ⟨ys, hys⟩ : ∃ ys, ys = dig 10000 b.natAbs := ⟨_, rfl⟩
  have hx : ∀ d ∈ xs, d < 10000 := by rw [hxs]; exact dig_lt (by omega) _
  have hy : ∀ d ∈ ys, d < 10000 := by rw [hys]; exact dig_lt (by omega) _
  have hvx : val 10000 xs = a.natAbs := by rw [hxs]; exact val_dig (by omega) _
  have hvy : val 10000 ys = b.natAbs := by rw [hys]; exact val_dig (by omega) _
  rw [← ena] at hla
  rw [← enb] at hlb
  rw [← hxs] at hsa ena
  rw [← hys] at hsb enb
  obtain ⟨nega, hnega⟩ : ∃ x, x = decide (a < 0) := ⟨_, rfl⟩
  obtain ⟨negb, hnegb⟩ : ∃ x, x = decide (b < 0) := ⟨_, rfl⟩
  have hz : a * b = if (nega != negb) = true then -((a.natAbs * b.natAbs : Nat) : Int) else ((a.natAbs * b.natAbs : Nat) : Int) := by
    rw [hnega, hnegb]; exact mul_sign a b
  rw [← hnega, ← hnegb]
  have Ena := Lib.hid ena
  have Enb := Lib.hid enb
  have Hvx := Lib.hid hvx
  have Hvy := Lib.hid hvy
  have Hx := Lib.hid hx
  have Hy := Lib.hid hy
  have Hz := Lib.hid hz
  have B0 := ((Box2.made w (.bool nega) (.slice aa na ca) 39).alloc (.cells #[.bool negb, .slice ab nb cb] 39)).alloc (.cells #[.bool false, .slice none 0 0] 39)
  have B1 := (Box2.made (w.alloc (.cells #[.bool nega, .slice aa na ca] 39)) (.bool negb) (.slice ab nb cb) 39).alloc (.cells #[.bool false, .slice none 0 0] 39)
  have B2 := Box2.made ((w.alloc (.cells #[.bool nega, .slice aa na ca] 39)).alloc (.cells #[.bool negb, .slice ab nb cb] 39)) (.bool false) (.slice none 0 0) 39
  simp only [World.size_alloc] at B0 B1 B2
  have HEXT := Lib.hid ((((Below.refl w.heap.size w).alloc (Nat.le_refl _) (.cells #[.bool nega, .slice aa na ca] 39)).alloc (by simp) (.cells #[.bool negb, .slice ab nb cb] 39)).alloc (by simp; omega) (.cells #[.bool false, .slice none 0 0] 39))
  clear hnega hnegb hxs hys ena enb hvx hvy ha hb hx hy hz
  go_enter Tryz.func78, Tryz.ntmps78
  go_wp2_with (at_make; go_must (refine wpList_makez _ rfl (.tmp 16) 37 rfl 2 .i64 8 Tryz.underlying37 info_i64 (by omega) .i64 (↑na + ↑nb + 1) (na + nb + 1) rfl (by omega) (by omega) ?_))
  intro w0 harr0 hbw0 hsz0
  have b0 := B0.later hbw0 (by omega)
  have b1 := B1.later hbw0 (by omega)
  have b2 := B2.later hbw0 (by omega)
  have hbel0 : Below w.heap.size w w0 := HEXT.out.trans (hbw0.mono (by omega))
  obtain ⟨hA0, hA1, _, _⟩ := b0.cells
  obtain ⟨hB0, hB1, _, _⟩ := b1.cells
  clear B0 B1 B2 hbw0
  go_wp2
  go_loopw [6] (fun i wr => MulOut w xs ys na nb (.bool nega) (.slice aa na ca) (.bool negb) (.slice ab nb cb) (.bool false) (.slice none 0 0) i wr) (fun i _ => na - (intOf i).toNat)
  case atStart =>
    exact ⟨List.replicate (na + nb + 1) 0, 0, rfl, by omega, by simp, fun x hx => by rw [(List.mem_replicate.1 hx).2]; omega, by
      have : ∀ n, val 10000 (List.replicate n 0) = 0 := fun n => by induction n with
        | zero => rfl
        | succ n ih => rw [List.replicate_succ, val, ih]
      rw [this]; simp [val], harr0, hbel0, b0, b1, b2⟩
  case round =>
    clear hA0 hA1 hB0 hB1
    obtain ⟨D, i, rfl, hi, hdl, hd, hval, harr, hbel, hb0, hb1, hb2⟩ := hrel
    have hsz := hbel.size
    have hlt2 := harr.lt
    obtain ⟨hA0, hA1, _, _⟩ := hb0.cells
    obtain ⟨hB0, hB1, _, _⟩ := hb1.cells
    have Hval := Lib.hid hval
    have Hd := Lib.hid hd
    have Hdl := Lib.hid hdl
    have HBEL := Lib.hid hbel
    clear hval hd hdl b0 b1 b2 hbel0 harr0 hsz0
    by_cases hia : i < na
    · obtain ⟨p1, o1, rfl, hp1, hc1⟩ := hsa.at i hia
      obtain ⟨x, hxe⟩ : ∃ x, x = xs.getD i 0 := ⟨_, rfl⟩
      rw [← hxe] at hc1
      have hxl : x < 10000 := by rw [hxe]; exact getD_lt (by omega) _ Hx.out _
      have htk : val 10000 (xs.take (i + 1)) = val 10000 (xs.take i) + 10000 ^ i * x := by
        rw [List.take_succ_eq_append_getElem (by rw [← Ena.out]; exact hia), val_snoc, List.length_take, Nat.min_eq_left (by rw [← Ena.out]; omega), hxe, getD_eq (by rw [← Ena.out]; exact hia)]
      obtain ⟨T, hT⟩ : ∃ T, T = val 10000 (xs.take (i + 1)) * val 10000 ys := ⟨_, rfl⟩
      have hTlt : T < 10000 ^ (i + 1 + nb) := by
        have l1 := val_lt (xs.take (i + 1)) (fun d hd => Hx.out d (List.mem_of_mem_take hd))
        have l2 := val_lt ys Hy.out
        rw [List.length_take, Nat.min_eq_left (by rw [← Ena.out]; omega)] at l1
        rw [← Enb.out] at l2
        rw [hT, Nat.pow_add]
        exact Nat.mul_lt_mul'' l1 l2
      have hT0 : val 10000 D + 10000 ^ (i + 0) * (0 + x * val 10000 (ys.drop 0)) = T := by
        rw [hT, htk, Hval.out, Nat.add_mul, Nat.add_zero, Nat.zero_add, List.drop_zero, Nat.mul_assoc]
      have HT := Lib.hid hT
      have HTlt := Lib.hid hTlt
      have HT0 := Lib.hid hT0
      clear hxe htk hT hTlt hT0
      obtain ⟨wo, hwo⟩ : ∃ wo : World, wo = wr := ⟨_, rfl⟩
      subst hwo
      go_wp2
      go_loopw [7, 8] (fun c q wq => MulIn w ys na nb i x T (.bool nega) (.slice (some ⟨p1, o1, none⟩) na ca) (.bool negb) (.slice ab nb cb) (.bool false) (.slice none 0 0) c q wq) (fun _ q _ => nb + 2 - (intOf q).toNat)
      case atStart => exact ⟨D, 0, 0, rfl, rfl, by omega, by omega, fun h => by omega, Hdl.out, Hd.out, HT0.out, harr, HBEL.out, hb0, hb1, hb2⟩
      case round =>
        clear hA0 hA1 hB0 hB1 hb0 hb1 hb2 harr hlt2 hbel hsz
        obtain ⟨D, cy, k, rfl, rfl, hcy, hk, hkc, hdl, hd, hval, harr, hbel, hb0, hb1, hb2⟩ := hrel
        have hlt2 := harr.lt
        obtain ⟨hA0, hA1, _, _⟩ := hb0.cells
        obtain ⟨hB0, hB1, _, _⟩ := hb1.cells
        have hcx := hc1
        rw [← hbel.cell (p := ⟨p1, o1 + i, none⟩) hp1] at hcx
        have Hvali := Lib.hid hval
        have Hdi := Lib.hid hd
        have Hdli := Lib.hid hdl
        have HBELi := Lib.hid hbel
        clear hval hd
        by_cases hkb : k < nb
        · obtain ⟨p2, o2, rfl, hp2, hc2⟩ := hsb.at k hkb
          rw [← hbel.cell (p := ⟨p2, o2 + k, none⟩) hp2] at hc2
          obtain ⟨y, hye⟩ : ∃ y, y = ys.getD k 0 := ⟨_, rfl⟩
          rw [← hye] at hc2
          have hyl : y < 10000 := by rw [hye]; exact getD_lt (by omega) _ Hy.out _
          have hdy : val 10000 (ys.drop k) = y + 10000 * val 10000 (ys.drop (k + 1)) := by rw [hye]; exact val_drop _ _ _ (by rw [← Enb.out]; exact hkb)
          have Hdy := Lib.hid hdy
          obtain ⟨dv, hdv⟩ : ∃ dv, dv = D.getD (i + k) 0 := ⟨_, rfl⟩
          have hcd := harr.cell (i + k) (by omega)
          have hfd := harr.frozen (i + k)
          rw [← hdv] at hcd
          have hdvl : dv < 10000 := by rw [hdv]; exact getD_lt (by omega) _ Hdi.out _
          have Hdv := Lib.hid hdv
          have hxy0 : (0 : Int) ≤ (x : Int) * (y : Int) := Int.mul_nonneg (by omega) (by omega)
          have hxy1 : (x : Int) * (y : Int) ≤ 99980001 := by
            have h1 : x * y ≤ 9999 * 9999 := Nat.mul_le_mul (by omega) (by omega)
            have h2 : ((x * y : Nat) : Int) ≤ 99980001 := by omega
            rwa [Int.natCast_mul] at h2
          have hk0 : (0 : Int) ≤ (k : Int) := by omega
          have hk1 : (k : Int) < (nb : Int) := by omega
          have hi0 : (0 : Int) ≤ (i : Int) := by omega
          have hi1 : (i : Int) < (na : Int) := by omega
          clear hye hdy hbel hdv hdl
          have hq1 : (0 : Int) ≤ (cy : Int) + (dv : Int) + (x : Int) * (y : Int) := by omega
          have hw1 : IntKind.i64.wrap ((x : Int) * (y : Int)) = (x : Int) * (y : Int) := IntWalk.i64_in _ (by omega)
          have hw2 : IntKind.i64.wrap ((cy : Int) + (dv : Int) + (x : Int) * (y : Int)) = (cy : Int) + (dv : Int) + (x : Int) * (y : Int) := IntWalk.i64_in _ (by omega)
          have HW1 := Lib.hid hw1
          have HW2 := Lib.hid hw2
          clear hw1 hw2
          go_wp2
          have hw1 := HW1.out
          have hw2 := HW2.out
          go_quiet (fail)
          clear hw1 hw2 HW1 HW2
          go_wp2
          go_roundw
          case rel => exact mul_rel w wr ys D na nb i x T cy k y dv _ _ _ _ _ _ _ _ _ _ hxl hyl hcy (by omega) hia Hdli.out Hdi.out Hdv.out Enb.out.symm Hdy.out Hvali.out HTlt.out (by push_cast; omega) (by omega) (by push_cast; omega) harr HBELi.out hb0 hb1 hb2
          case measure => simp [intOf] <;> omega
        · have hdy0 : val 10000 (ys.drop k) = 0 := val_drop_all _ _ _ (by rw [← Enb.out]; omega)
          have Hdy := Lib.hid (show val 10000 (ys.drop k) = 0 + 10000 * val 10000 (ys.drop (k + 1)) by rw [hdy0, val_drop_all _ _ _ (by rw [← Enb.out]; omega)])
          by_cases hc0 : cy = 0
          · subst hc0
            have hvD : val 10000 D = T := by have := Hvali.out; rw [hdy0] at this; simpa using this
            have HvD := Lib.hid hvD
            clear hdy0 hvD hbel
            go_wp2
            go_roundw
            case rel => exact ⟨D, i + 1, by go_num, by omega, Hdli.out, Hdi.out, by rw [HvD.out, HT.out], harr, HBELi.out, hb0, hb1, hb2⟩
            case measure => simp [intOf] <;> omega
          · obtain rfl : k = nb := by
              rcases Nat.lt_or_ge nb k with h | h
              · exact absurd (hkc (by omega)) hc0
              · omega
            have hc0' : 0 < cy := by omega
            obtain ⟨dv, hdv⟩ : ∃ dv, dv = D.getD (i + k) 0 := ⟨_, rfl⟩
            have hcd := harr.cell (i + k) (by omega)
            have hfd := harr.frozen (i + k)
            rw [← hdv] at hcd
            have hdvl : dv < 10000 := by rw [hdv]; exact getD_lt (by omega) _ Hdi.out _
            have Hdv := Lib.hid hdv
            have hk0 : (0 : Int) ≤ (k : Int) := by omega
            have hi0 : (0 : Int) ≤ (i : Int) := by omega
            have hi1 : (i : Int) < (na : Int) := by omega
            clear hdy0 hbel hdv hdl
            go_wp2
            go_roundw
            case rel => exact mul_rel w wr ys D na k i x T cy k 0 dv 0 _ _ _ _ _ _ _ _ _ hxl (by omega) hcy (by omega) hia Hdli.out Hdi.out Hdv.out Enb.out.symm Hdy.out Hvali.out HTlt.out (by push_cast; omega) (by omega) (by push_cast; omega) harr HBELi.out hb0 hb1 hb2
            case measure => simp [intOf] <;> omega
    · obtain rfl : i = na := by omega
      have hvD : val 10000 D = a.natAbs * b.natAbs := by rw [Hval.out, ← Hvx.out, ← Hvy.out]; congr 2; rw [Ena.out, List.take_length]
      have HvD := Lib.hid hvD
      have Hsl := Lib.hid (harr.sl (i + nb + 1) (i + nb + 1) Hdl.out.symm (Nat.le_refl _))
      clear hvD hbel harr
      go_wp2_with fail
      refine cut_z (nega != negb) _ D _ Hsl.out Hd.out (by rw [Hdl.out]; omega) (a * b) (by rw [HvD.out]; exact Hz.out) _ ?_
      intro v' w1 hz hbw
      obtain ⟨ao', n', cap', rfl, hn', hs'⟩ := hz.open
      have hbox1 := hb2.later hbw (by omega)
      obtain ⟨hA2, hB2, hA2', hB2'⟩ := hbox1.cells
      have hni := hbox1.noInt rfl rfl
      have HZ := Lib.hid (HBEL.out.trans (hbw.mono hsz))
      have HS := Lib.hid hs'
      clear hn' hb0 hb1 hb2 hbox1 hs' hz hbw hA0 hA1 hB0 hB1
      dsimp only
      go_wp2
      refine bodyPost_ret_at (by simp [results, Tryz.results78, go_sem, hA2, hB2, hA2', hB2'] <;> rfl) rfl ?_
      exact HR.out _ _ ⟨.slice ao' n' cap', by simp, (HS.out.set hni 0 _).set (hni.set 0 _ rfl) 1 _⟩ ((HZ.out.setCell (by simp <;> omega) _).setCell (by simp <;> omega) _)
end Go.Proofs.YtbglfendcpbjpaaGreatDoor

namespace Go.Proofs.YtbglfendcpbjpaaGreatDoor
open Go Go.RowKit

/-- numbers are appended to a slice that the call has made: whatever the other slice is -/
theorem run_append_any {P : Program} {w : World} (t ty : TypeId) (e : TypeId) (k : IntKind) (bytes : Nat) (ht : P.underlying t = some (.slice e)) (hi : (P.info? e).map (fun i => (i.zero, i.size, i.bytes)) = some (some (.int k 0), 1, bytes)) (hby : bytes ≤ 16)
    (B : Nat) (v x : Value) (xs ys : List Nat) (hown : Own k e w B v xs) (hx : Sl k w x ys) (hlen : xs.length + ys.length ≤ 100000000) (hB : B ≤ w.heap.size) :
    ∃ v' w', (Builtin.append_ #[t, t] ty #[v, x]).run P w = .ok v' w' ∧ Own k e w' B v' (xs ++ ys) ∧ Below B w w' := by
  obtain ⟨i0, hi0, hz0, hz1, hz2⟩ := info_parts hi
  obtain ⟨ao, cap, rfl, hc, hcell⟩ := hx
  cases ao with
  | none =>
    have h0 : ys.length = 0 := by
      rcases Nat.eq_zero_or_pos ys.length with h | h
      · exact h
      · obtain ⟨_, _, h1, _⟩ := hcell 0 h; cases h1
    have hnil : ys = [] := List.length_eq_zero_iff.1 h0
    subst hnil
    refine ⟨v, w, ?_, by simpa using hown, Below.refl _ _⟩
    rcases hown.2 with ⟨rfl, _⟩ | ⟨g, cap', cur, rfl, _, _, hnc, _⟩
    · simp [Builtin.append_, run_underlying ht, sizeOf, typeInfo, hi0, Builtin.lenOf, Builtin.firstCells]
    · simp [Builtin.append_, run_underlying ht, sizeOf, typeInfo, hi0, Builtin.lenOf, Builtin.firstCells, hnc, storeCells]
  | some ad =>
    obtain ⟨v', w', hr, hown', hg, _⟩ := run_append_own (P := P) w B t ty e i0 (.int k 0) 1 bytes ht hi0 hz0 hz1 hz2 rfl (by decide) v xs.length (nums k xs) hown ad ys.length cap (nums k ys) (by simp [nums]) (by
      intro j u hj
      have hj' : j < ys.length := by
        rcases Nat.lt_or_ge j ys.length with h | h
        · exact h
        · rw [List.getElem?_eq_none (by rw [nums_length]; exact h)] at hj; cases hj
      obtain ⟨b, off, h1, h2, h3⟩ := hcell j hj'
      rw [nums_get k ys j hj'] at hj
      cases h1
      rw [← hj, ← h3]
      unfold Addr.add
      split
      · rename_i h0; subst h0; rfl
      · rfl) (by intro u hu; simp only [nums, List.mem_map] at hu; obtain ⟨y, _, rfl⟩ := hu; rfl) (by simp only [maxLen]; omega) (by
      have : (xs.length + ys.length) * bytes ≤ (xs.length + ys.length) * 16 := Nat.mul_le_mul_left _ hby
      omega) hB
    refine ⟨v', w', hr, ?_, ?_⟩
    · unfold Own; rw [nums_append, List.length_append]; exact hown'
    · exact (Below.refl B w).grown hg hB (fun g' hg' => (Own.ownBlock hown g' hg').1)

theorem Sl.drew {k : IntKind} {w : World} {v : Value} {xs : List Nat} (h : Sl k w v xs) : Sl k w.drew v xs := h
theorem Own.drew {k : IntKind} {e : TypeId} {w : World} {B : Nat} {v : Value} {xs : List Nat} (h : Own k e w B v xs) : Own k e w.drew B v xs := h
theorem Own.shape {k : IntKind} {e : TypeId} {w : World} {B : Nat} {v : Value} {xs : List Nat} (h : Own k e w B v xs) : ∃ ao n c, v = .slice ao n c ∧ n = xs.length := by
  rcases h.2 with ⟨rfl, h0⟩ | ⟨g, cap, cur, rfl, _⟩
  · exact ⟨none, 0, 0, rfl, h0.symm⟩
  · exact ⟨_, _, _, rfl, rfl⟩

/-- the same as a step of a region that draws its order -/
theorem step_append_any {P : Program} {ops : Array Oper} {o : Oper} {a : Act} {w : World} {K : Act → World → Prop} {Q : Exit → Act → World → Prop} {E : Prop} (hgd : o.guard = none) (s x : Operand) (t : TypeId)
    (ho : o.op = .call { callee := .builtin .append, args := #[s, x], argTypes := #[t, t] })
    (e : TypeId) (k : IntKind) (bytes : Nat) (ht : P.underlying t = some (.slice e)) (hi : (P.info? e).map (fun i => (i.zero, i.size, i.bytes)) = some (some (.int k 0), 1, bytes)) (hby : bytes ≤ 16)
    (B : Nat) (xs ys : List Nat) (hown : Own k e w B (a.eval s) xs) (hx : Sl k w (a.eval x) ys) (hlen : xs.length + ys.length ≤ 100000000) (hB : B ≤ w.heap.size)
    (h : ∀ ao n c w', Own k e w' B (.slice ao n c) (xs ++ ys) → n = xs.length + ys.length → Below B w w' → K (a.put o.dst (.slice ao n c)) w') :
    if Region.wanted o (yielded ops a.tmps) = true then Oper.wp P o a w K Q else E := by
  have hw : Region.wanted o (yielded ops a.tmps) = true := by simp [Region.wanted, hgd]
  rw [if_pos hw]
  obtain ⟨v', w', hr, h2, h3⟩ := run_append_any (P := P) (w := w) t o.type e k bytes ht hi hby B _ _ xs ys hown hx hlen hB
  unfold Oper.wp execOp
  simp only [ho, resolve, invoke, builtin, Sem.run_bind, Sem.run_pure, Result.andThen_ok, List.map_toArray, List.map_cons, List.map_nil, hr]
  obtain ⟨ao, n, c, rfl, hn⟩ := h2.shape
  exact h ao n c w' h2 (by simpa using hn) h3

/-- the end of a slice, as one step; where it lies is not told -/
theorem wpList_slice_from {P : Program} {w : World} {ops : Array Oper} {rest : List Oper} {o : Oper} {a : Act} {Q : Exit → Act → World → Prop} (hgd : o.guard = none) (x l : Operand) (t : TypeId)
    (ho : o.op = .slice t x (some l) none none) (e : TypeId) (kk : IntKind) (bytes : Nat) (ht : P.underlying t = some (.slice e)) (hi : (P.info? e).map (fun i => (i.zero, i.size, i.bytes)) = some (some (.int kk 0), 1, bytes))
    (ao : Option Addr) (n c k : Nat) (xs : List Nat) (hx : a.eval x = .slice ao n c) (hl : a.eval l = .int .i64 (k : Int)) (hk : k ≤ n) (hs : Sl kk w (.slice ao n c) xs)
    (h : ∀ ao', Sl kk w (.slice ao' (n - k) (c - k)) (xs.drop k) → wpList P ops Q rest (a.put o.dst (.slice ao' (n - k) (c - k))) w) : wpList P ops Q (o :: rest) a w := by
  obtain ⟨i0, hi0, hz0, hz1, hz2⟩ := info_parts hi
  refine wpList_plain hgd fun K hK => ?_
  have hc := hs.cap
  have hl' := hs.len
  have hrun : (Instr.sliceAt t (.slice ao n c) (some (.int .i64 (k : Int))) none none).run P w = .ok (.slice (if c = k then ao else ao.map (·.add k)) (n - k) (c - k)) w := by
    simp [Instr.sliceAt, Instr.slice, run_underlying ht, Instr.sliceBounds, Instr.sliceBound, asIntOf, Sem.run_bind, Result.andThen, sizeOf, typeInfo, hi0, hz1, hk]
  unfold Oper.wp execOp
  simp only [ho, Option.map_some, Option.map_none, hx, hl, Sem.run_bind, hrun, Result.andThen_ok, Sem.run_pure]
  refine hK _ _ (h _ ?_)
  refine ⟨_, c - k, by rw [List.length_drop, hl'], by rw [List.length_drop]; omega, fun i hi => ?_⟩
  rw [List.length_drop] at hi
  obtain ⟨b, off, rfl, h2, h3⟩ := hs.at (k + i) (by omega)
  have hck : c ≠ k := by omega
  rw [if_neg hck]
  refine ⟨b, off + k, ?_, h2, ?_⟩
  · simp only [Option.map_some, Addr.add]
    split
    · rename_i h0; subst h0; rfl
    · rfl
  · rw [Nat.add_assoc, h3]; simp [List.getD, List.getElem?_drop]

/-- a slice does not lie in a block -/
def Away (ao : Option Addr) (n g : Nat) : Prop := ∀ b off, ao = some ⟨b, off, none⟩ → 0 < n → b ≠ g

/-- a store into a block in which a list of numbers does not lie -/
theorem Sl.setAway {k : IntKind} {w : World} {ao : Option Addr} {n c : Nat} {xs : List Nat} (h : Sl k w (.slice ao n c) xs) {g : Nat} (ha : Away ao n g) (i : Nat) (u : Value) : Sl k (w.setCell ⟨g, i, none⟩ u) (.slice ao n c) xs := by
  have hl := h.len
  refine ⟨ao, c, by rw [hl], by rw [← hl]; exact h.cap, fun j hj => ?_⟩
  obtain ⟨b, off, rfl, h2, h3⟩ := h.at j (by omega)
  refine ⟨b, off, rfl, by rw [heap_size_set]; exact h2, ?_⟩
  rw [cell?_set, if_neg]
  · exact h3
  · rintro ⟨e, _⟩
    exact ha b off rfl (by omega) e

theorem pow_le_dig {B : Nat} (hB : 2 ≤ B) (n l : Nat) (h : l < (dig B n).length) : B ^ l ≤ n := by
  rcases Nat.lt_or_ge n (B ^ l) with h1 | h1
  · exact absurd (dig_length_le hB l n h1) (by omega)
  · exact h1

/-- what holds at the head of the loop of the division: j digits are still to come down, r is the rest so far, D the digits of the quotient -/
def DivOut (w : World) (A M na k pa oa ca pb ob n1 cb g6 g8 g9 : Nat) (nega : Bool) (i : Value) (wr : World) : Prop :=
  ∃ (j : Nat) (D : List Nat) (r : Nat) (ar : Option Addr) (nr cr : Nat), i = .int .i64 ((j : Int) - 1) ∧ j ≤ k ∧ D.length = k ∧ (∀ x ∈ D, x < 10000) ∧ (∀ q, q < j → D.getD q 0 = 0) ∧
    val 10000 ((dig 10000 A).drop j) = M * val 10000 (D.drop j) + r ∧ r < M ∧ Arr .i64 2 wr g8 D ∧ Below w.heap.size w wr ∧
    Box2 wr w.heap.size (.bool nega) (.slice (some ⟨pa, oa, none⟩) na ca) 39 ∧ Box2 wr (w.heap.size + 2) (.bool false) (.slice none 0 0) 39 ∧ Box2 wr (w.heap.size + 3) (.bool false) (.slice none 0 0) 39 ∧
    Box2 wr g6 (.bool false) (.slice (some ⟨pb, ob, none⟩) n1 cb) 39 ∧ Sl .i64 wr (.slice (some ⟨pb, ob, none⟩) n1 cb) (dig 10000 M) ∧
    Box2 wr g9 (.bool false) (.slice ar nr cr) 39 ∧ Sl .i64 wr (.slice ar nr cr) (dig 10000 r)

theorem Box2.set01 {w : World} {b : Nat} {u v : Value} {t : TypeId} (h : Box2 w b u v t) (x y : Value) : Box2 ((w.setCell ⟨b, 0, none⟩ x).setCell ⟨b, 1, none⟩ y) b x y t := by
  unfold Box2 at *
  simp [World.setCell, Array.getElem?_modify, h]

theorem Arr.noSet {k : IntKind} {e : TypeId} {w : World} {g : Nat} {xs : List Nat} (h : Arr k e w g xs) {b : Nat} (hb : g ≠ b) (x y : Value) : Arr k e ((w.setCell ⟨b, 0, none⟩ x).setCell ⟨b, 1, none⟩ y) g xs :=
  (h.other hb 0 x).other hb 1 y

theorem Box2.noSet {w : World} {g : Nat} {u v : Value} {t : TypeId} (h : Box2 w g u v t) {b : Nat} (hb : g ≠ b) (x y : Value) : Box2 ((w.setCell ⟨b, 0, none⟩ x).setCell ⟨b, 1, none⟩ y) g u v t :=
  (h.setOther hb 0 x).setOther hb 1 y

theorem Sl.noSet {k : IntKind} {w : World} {v : Value} {xs : List Nat} (h : Sl k w v xs) {b : Nat} (hb : NoInt w b) (x y : Value) (hx : notInt x = true) : Sl k ((w.setCell ⟨b, 0, none⟩ x).setCell ⟨b, 1, none⟩ y) v xs :=
  (h.set hb 0 x).set (hb.set 0 b hx) 1 y

/-- what the round of the division leaves alone, and the rest -/
def DivMid (w : World) (M na pa oa ca pb ob n1 cb g6 g8 g9 : Nat) (nega : Bool) (D : List Nat) (t : Nat) (wx : World) : Prop :=
  ∃ (ar : Option Addr) (nr cr : Nat), Away ar nr g8 ∧ Arr .i64 2 wx g8 D ∧ Below w.heap.size w wx ∧
    Box2 wx w.heap.size (.bool nega) (.slice (some ⟨pa, oa, none⟩) na ca) 39 ∧ Box2 wx (w.heap.size + 2) (.bool false) (.slice none 0 0) 39 ∧ Box2 wx (w.heap.size + 3) (.bool false) (.slice none 0 0) 39 ∧
    Box2 wx g6 (.bool false) (.slice (some ⟨pb, ob, none⟩) n1 cb) 39 ∧ Sl .i64 wx (.slice (some ⟨pb, ob, none⟩) n1 cb) (dig 10000 M) ∧
    Box2 wx g9 (.bool false) (.slice ar nr cr) 39 ∧ Sl .i64 wx (.slice ar nr cr) (dig 10000 t)

theorem mid_rel (w wr wA wC : World) (M na pa oa ca pb ob n1 cb g6 g8 g9 : Nat) (nega : Bool) (D xs : List Nat) (t : Nat) (o : Obj) (av : Option Addr) (an ac nC : Nat) (ar : Option Addr) (nr cr : Nat)
    (hg6 : w.heap.size + 3 < g6) (hg8 : g6 < g8) (hg9 : g8 < g9)
    (harr : Arr .i64 2 wr g8 D) (hbel : Below w.heap.size w wr)
    (b0 : Box2 wr w.heap.size (.bool nega) (.slice (some ⟨pa, oa, none⟩) na ca) 39) (b2 : Box2 wr (w.heap.size + 2) (.bool false) (.slice none 0 0) 39) (b3 : Box2 wr (w.heap.size + 3) (.bool false) (.slice none 0 0) 39)
    (b6 : Box2 wr g6 (.bool false) (.slice (some ⟨pb, ob, none⟩) n1 cb) 39) (hsby : Sl .i64 wr (.slice (some ⟨pb, ob, none⟩) n1 cb) (dig 10000 M)) (b9 : Box2 wr g9 (.bool false) (.slice ar nr cr) 39)
    (hown : Own .i64 2 wA wr.heap.size (.slice av an ac) xs) (hbA : Below wr.heap.size (wr.alloc o).drew wA) (hbC : Below wA.heap.size wA wC) (hsC : Sl .i64 wC (.slice av nC ac) (dig 10000 t)) :
    DivMid w M na pa oa ca pb ob n1 cb g6 g8 g9 nega D t ((wC.setCell ⟨g9, 0, none⟩ (.bool false)).setCell ⟨g9, 1, none⟩ (.slice av nC ac)) := by
  have hl := lt_of_block b9
  have hA : Below wr.heap.size wr wA := ((Below.refl wr.heap.size wr).alloc (Nat.le_refl _) o).trans ⟨hbA.os, hbA.tape, hbA.output, hbA.size, hbA.block⟩
  have hC : Below wr.heap.size wr wC := hA.trans (hbC.mono hA.size)
  have b9C := b9.later hC hl
  have hni := b9C.noInt rfl rfl
  refine ⟨av, nC, ac, ?_, (harr.later hC harr.lt).noSet (by omega) _ _, ((hbel.trans (hC.mono hbel.size)).setCell (by show w.heap.size ≤ g9; omega) _).setCell (by show w.heap.size ≤ g9; omega) _, (b0.later hC (lt_of_block b0)).noSet (by omega) _ _, (b2.later hC (lt_of_block b2)).noSet (by omega) _ _, (b3.later hC (lt_of_block b3)).noSet (by omega) _ _, (b6.later hC (lt_of_block b6)).noSet (by omega) _ _, (hsby.later hC (Nat.le_refl _)).noSet hni _ _ rfl, b9C.set01 _ _, hsC.noSet hni _ _ rfl⟩
  intro b off he _
  subst he
  have := (Own.ownBlock hown b rfl).1
  have h8 := harr.lt
  omega

theorem div_cont (xs D : List Nat) (M i x r : Nat) (hi : i < xs.length) (hd : i < D.length) (hx : x = xs.getD i 0) (h0 : D.getD i 0 = 0)
    (h : val 10000 (xs.drop (i + 1)) = M * val 10000 (D.drop (i + 1)) + r) : val 10000 (xs.drop i) = M * val 10000 (D.drop i) + (x + 10000 * r) := by
  rw [val_drop _ xs i hi, val_drop _ D i hd, ← hx, h0, h, Nat.zero_add, Nat.mul_add, ← Nat.mul_assoc, ← Nat.mul_assoc, Nat.mul_comm M 10000]
  omega

theorem div_store (xs D : List Nat) (M i x r q t : Nat) (hi : i < xs.length) (hd : i < D.length) (hx : x = xs.getD i 0) (ht : x + 10000 * r = M * q + t)
    (h : val 10000 (xs.drop (i + 1)) = M * val 10000 (D.drop (i + 1)) + r) : val 10000 (xs.drop i) = M * val 10000 ((D.set i q).drop i) + t := by
  rw [val_drop _ xs i hi, val_drop _ (D.set i q) i (by simpa using hd), ← hx, h]
  have e1 : (D.set i q).getD i 0 = q := by simp [List.getD, hd]
  have e2 : (D.set i q).drop (i + 1) = D.drop (i + 1) := by rw [List.drop_set_of_lt (by omega)]
  rw [e1, e2, Nat.mul_add, Nat.mul_add, ← Nat.mul_assoc, ← Nat.mul_assoc, Nat.mul_comm M 10000]
  omega

theorem DivMid.later {w : World} {M na pa oa ca pb ob n1 cb g6 g8 g9 : Nat} {nega : Bool} {D : List Nat} {t : Nat} {wx wy : World} (h : DivMid w M na pa oa ca pb ob n1 cb g6 g8 g9 nega D t wx) (hb : Below wx.heap.size wx wy) : DivMid w M na pa oa ca pb ob n1 cb g6 g8 g9 nega D t wy := by
  obtain ⟨ar, nr, cr, h1, h2, h3, h4, h5, h6, h7, h8, h9, h10⟩ := h
  exact ⟨ar, nr, cr, h1, h2.later hb h2.lt, h3.trans (hb.mono h3.size), h4.later hb (lt_of_block h4), h5.later hb (lt_of_block h5), h6.later hb (lt_of_block h6), h7.later hb (lt_of_block h7), h8.later hb (Nat.le_refl _), h9.later hb (lt_of_block h9), h10.later hb (Nat.le_refl _)⟩

/-- what holds at the head of the search for a digit -/
def DivIn (w : World) (M na pa oa ca pb ob n1 cb g6 g8 g9 : Nat) (nega : Bool) (D : List Nat) (t : Nat) (low high : Value) (wx : World) : Prop :=
  ∃ lo hi : Nat, low = .int .i64 lo ∧ high = .int .i64 hi ∧ 1 ≤ lo ∧ lo ≤ hi ∧ hi ≤ 9999 ∧ M * lo ≤ t ∧ t < M * (hi + 1) ∧ DivMid w M na pa oa ca pb ob n1 cb g6 g8 g9 nega D t wx

theorem below_ofDrew {B : Nat} {w w' : World} (h : Below B w.drew w') : Below B w w' := ⟨h.os, h.tape, h.output, h.size, h.block⟩

theorem cmpN_le (a b : Nat) : decide (cmpN a b ≤ 0) = decide (a ≤ b) := by
  unfold cmpN
  by_cases h1 : a < b
  · rw [if_pos h1, decide_eq_true (by omega), decide_eq_true (by omega)]
  · rw [if_neg h1]
    by_cases h2 : b < a
    · rw [if_pos h2, decide_eq_false (by omega), decide_eq_false (by omega)]
    · rw [if_neg h2, decide_eq_true (by omega), decide_eq_true (by omega)]

theorem DivMid.store {w : World} {M na pa oa ca pb ob n1 cb g6 g8 g9 : Nat} {nega : Bool} {D : List Nat} {t : Nat} {wx : World} (h : DivMid w M na pa oa ca pb ob n1 cb g6 g8 g9 nega D t wx) (i q : Nat)
    (hpb : pb < w.heap.size) (hg6 : w.heap.size + 3 < g6) (hg8 : g6 < g8) (hg9 : g8 < g9) :
    DivMid w M na pa oa ca pb ob n1 cb g6 g8 g9 nega (D.set i q) t (wx.setCell ⟨g8, i, none⟩ (.int .i64 (q : Int))) := by
  obtain ⟨ar, nr, cr, h1, h2, h3, h4, h5, h6, h7, h8, h9, h10⟩ := h
  refine ⟨ar, nr, cr, h1, h2.set i q, h3.setCell (by show w.heap.size ≤ g8; omega) _, h4.setOther (by omega) _ _, h5.setOther (by omega) _ _, h6.setOther (by omega) _ _, h7.setOther (by omega) _ _, h8.setAway ?_ _ _, h9.setOther (by omega) _ _, h10.setAway h1 _ _⟩
  intro b off he _
  cases he
  omega

theorem end_rel (w wr wC : World) (A M na k pa oa ca pb ob n1 cb g6 g8 g9 i : Nat) (nega : Bool) (D : List Nat) (t r : Nat) (av : Option Addr) (nC ac : Nat)
    (hg6 : w.heap.size + 3 < g6) (hg8 : g6 < g8) (hg9 : g8 < g9) (h : DivMid w M na pa oa ca pb ob n1 cb g6 g8 g9 nega D t wr) (hC : Below wr.heap.size wr wC) (hsC : Sl .i64 wC (.slice av nC ac) (dig 10000 r))
    (hik : i ≤ k) (hdl : D.length = k) (hd : ∀ x ∈ D, x < 10000) (hd0 : ∀ q, q < i → D.getD q 0 = 0) (hval : val 10000 ((dig 10000 A).drop i) = M * val 10000 (D.drop i) + r) (hr : r < M) :
    DivOut w A M na k pa oa ca pb ob n1 cb g6 g8 g9 nega (.int .i64 ((i : Int) - 1)) ((wC.setCell ⟨g9, 0, none⟩ (.bool false)).setCell ⟨g9, 1, none⟩ (.slice av nC ac)) := by
  obtain ⟨ar, nr, cr, h1, h2, h3, h4, h5, h6, h7, h8, h9, h10⟩ := h
  have b9C := h9.later hC (lt_of_block h9)
  have hni := b9C.noInt rfl rfl
  exact ⟨i, D, r, av, nC, ac, rfl, hik, hdl, hd, hd0, hval, hr, (h2.later hC h2.lt).noSet (by omega) _ _, ((h3.trans (hC.mono h3.size)).setCell (by show w.heap.size ≤ g9; omega) _).setCell (by show w.heap.size ≤ g9; omega) _, (h4.later hC (lt_of_block h4)).noSet (by omega) _ _, (h5.later hC (lt_of_block h5)).noSet (by omega) _ _, (h6.later hC (lt_of_block h6)).noSet (by omega) _ _, (h7.later hC (lt_of_block h7)).noSet (by omega) _ _, (h8.later hC (Nat.le_refl _)).noSet hni _ _ rfl, b9C.set01 _ _, hsC.noSet hni _ _ rfl⟩

end Go.Proofs.YtbglfendcpbjpaaGreatDoor

namespace Go.Proofs.YtbglfendcpbjpaaGreatDoor
open Go Go.RowKit

/-- the value of the model's type, by its slice alone, of a number that is not negative -/
theorem IsZ.ofNat {w : World} {ao : Option Addr} {n c : Nat} {m : Nat} (h : IsZ w (.agg #[.bool false, .slice ao n c]) (m : Int)) : Sl .i64 w (.slice ao n c) (dig 10000 m) := by
  obtain ⟨s, h1, h2⟩ := h
  simp at h1
  subst h1
  simpa using h2

theorem IsZ.nat {w : World} {v : Value} {m : Nat} (h : IsZ w v (m : Int)) : ∃ ao n c, v = .agg #[.bool false, .slice ao n c] ∧ n = (dig 10000 m).length ∧ Sl .i64 w (.slice ao n c) (dig 10000 m) := by
  obtain ⟨ao, n, c, h1, h2, h3⟩ := h.open
  have e : decide ((m : Int) < 0) = false := by simp
  have e2 : (m : Int).natAbs = m := by simp
  rw [e] at h1
  rw [e2] at h2 h3
  exact ⟨ao, n, c, h1, h2, h3⟩

theorem IsZ.openB {w : World} {v : Value} {z : Int} (h : IsZ w v z) : ∃ bn ao n c, v = .agg #[.bool bn, .slice ao n c] ∧ IsZ w (.agg #[.bool bn, .slice ao n c]) z := by
  obtain ⟨ao, n, c, rfl, _, _⟩ := h.open
  exact ⟨_, ao, n, c, rfl, h⟩

theorem IsZ.mkNat {w : World} {ao : Option Addr} {n c : Nat} {m : Nat} (h : Sl .i64 w (.slice ao n c) (dig 10000 m)) : IsZ w (.agg #[.bool false, .slice ao n c]) (m : Int) :=
  ⟨.slice ao n c, by simp, by simpa using h⟩

set_option maxRecDepth 100000 in
set_option maxHeartbeats 2000000 in
/-- a quotient that is 0, as there are fewer digits -/
theorem zdiv_small (va vb : Value) (a b : Int) (w : World) (ha : IsZ w va a) (hb : IsZ w vb b) (hla : (dig 10000 a.natAbs).length ≤ 1000000) (hlb : (dig 10000 b.natAbs).length ≤ 1000000)
    (hless : (dig 10000 a.natAbs).length < (dig 10000 b.natAbs).length) (R : Ending → World → Prop)
    (hR : ∀ v1 v2 w', IsZ w' v1 ((a.natAbs / b.natAbs : Nat) : Int) → IsZ w' v2 ((a.natAbs % b.natAbs : Nat) : Int) → Below w.heap.size w w' → R (.returned (.tuple #[v1, v2])) w') :
    Calls Tryz.prog 96 #[va, vb] w R := by
  have hlt : a.natAbs < b.natAbs := lt_of_dig_length (B := 10000) (by omega) _ _ hless
  rw [Nat.div_eq_of_lt hlt, Nat.mod_eq_of_lt hlt] at hR
  have HR := Lib.hid hR; clear hR
  have HA := Lib.hid ha
  obtain ⟨aa, na, ca, rfl, ena, hsa⟩ := ha.open
  obtain ⟨ab, nb, cb, rfl, enb, hsb⟩ := hb.open
  rw [← ena] at hless hla
  rw [← enb] at hless hlb
  obtain ⟨nega, hnega⟩ : ∃ x, x = decide (a < 0) := ⟨_, rfl⟩
  obtain ⟨negb, hnegb⟩ : ∃ x, x = decide (b < 0) := ⟨_, rfl⟩
  rw [← hnega, ← hnegb]
  have Ena := Lib.hid ena
  have Enb := Lib.hid enb
  obtain ⟨L, hL⟩ : ∃ L, L = (((w.alloc (.cells #[.bool nega, .slice aa na ca] 39)).alloc (.cells #[.bool negb, .slice ab nb cb] 39)).alloc (.cells #[.bool false, .slice none 0 0] 39)).alloc (.cells #[.bool false, .slice none 0 0] 39) := ⟨_, rfl⟩
  have hLs : L.heap.size = w.heap.size + 4 := by rw [hL]; simp
  have B0 : Box2 L w.heap.size (.bool nega) (.slice aa na ca) 39 := by rw [hL]; exact (((Box2.made w _ _ _).alloc _).alloc _).alloc _
  have B1 : Box2 L (w.heap.size + 1) (.bool negb) (.slice ab nb cb) 39 := by rw [hL]; have := ((Box2.made (w.alloc (.cells #[.bool nega, .slice aa na ca] 39)) (.bool negb) (.slice ab nb cb) 39).alloc (.cells #[.bool false, .slice none 0 0] 39)).alloc (.cells #[.bool false, .slice none 0 0] 39); simpa using this
  have B2 : Box2 L (w.heap.size + 2) (.bool false) (.slice none 0 0) 39 := by rw [hL]; have := (Box2.made ((w.alloc (.cells #[.bool nega, .slice aa na ca] 39)).alloc (.cells #[.bool negb, .slice ab nb cb] 39)) (.bool false) (.slice none 0 0) 39).alloc (.cells #[.bool false, .slice none 0 0] 39); simpa using this
  have B3 : Box2 L (w.heap.size + 3) (.bool false) (.slice none 0 0) 39 := by rw [hL]; have := Box2.made (((w.alloc (.cells #[.bool nega, .slice aa na ca] 39)).alloc (.cells #[.bool negb, .slice ab nb cb] 39)).alloc (.cells #[.bool false, .slice none 0 0] 39)) (.bool false) (.slice none 0 0) 39; simpa using this
  have HEXT : Below w.heap.size w L := by rw [hL]; exact ((((Below.refl w.heap.size w).alloc (Nat.le_refl _) _).alloc (by simp) _).alloc (by simp; omega) _).alloc (by simp; omega) _
  have HEXT := Lib.hid HEXT
  obtain ⟨hA0, hA1, _, _⟩ := B0.cells
  obtain ⟨hB0, hB1, _, _⟩ := B1.cells
  have HL := Lib.hid hL
  clear hnega hnegb ena enb ha hb hlt hL
  go_enter Tryz.func96, Tryz.ntmps96
  go_wp2_with fail
  rw [← HL.out]
  refine cut_z false _ (dig 10000 b.natAbs) L (hsb.later HEXT.out (Nat.le_refl _)) (dig_lt (by omega) _) (by rw [← Enb.out]; omega) (b.natAbs : Int) (by rw [val_dig (by omega)]; rfl) _ ?_
  intro v1 w1 hz1 hb1
  obtain ⟨a1, n1, c1, rfl, e1, hs1⟩ := hz1.nat
  have b0 := B0.later hb1 (by omega)
  have b1 := B1.later hb1 (by omega)
  have b2 := B2.later hb1 (by omega)
  have b3 := B3.later hb1 (by omega)
  have HB1 := Lib.hid (HEXT.out.trans (hb1.mono (by omega)))
  have hsz1 := hb1.size
  clear B0 B1 B2 B3 hA0 hA1 hB0 hB1 e1 hs1 hz1 hb1
  obtain ⟨hA0, hA1, _, _⟩ := b0.cells
  obtain ⟨hB0, hB1, _, _⟩ := b1.cells
  have hk : (na : Int) - (nb : Int) + 1 < 1 := by omega
  have hl3 := lt_of_block b3
  have hl0 : w.heap.size < w1.heap.size := by omega
  have hl1 : w.heap.size + 1 < w1.heap.size := by omega
  dsimp only
  go_wp2_with fail
  obtain ⟨L2, hL2⟩ : ∃ L2, L2 = w1.alloc (.cells #[.bool false, .slice a1 n1 c1] 39) := ⟨_, rfl⟩
  rw [← hL2]
  have hb2 : Below w1.heap.size w1 L2 := by rw [hL2]; exact (Below.refl _ _).alloc (Nat.le_refl _) _
  have c2 := b2.later hb2 (by omega)
  have c3 := b3.later hb2 (by omega)
  have HB2 := Lib.hid (HB1.out.trans (hb2.mono HB1.out.size))
  clear hA0 hA1 hB0 hB1 b0 b1 b2 b3 hL2
  refine cut_z false _ (dig 10000 a.natAbs) L2 (hsa.later HB2.out (Nat.le_refl _)) (dig_lt (by omega) _) (by rw [← Ena.out]; omega) (a.natAbs : Int) (by rw [val_dig (by omega)]; rfl) _ ?_
  intro v2 w2 hz2 hb3
  obtain ⟨a2, n2, c2', rfl, e2, hs2⟩ := hz2.nat
  have hL2s := hb2.size
  have d2 := c2.later hb3 (by omega)
  have d3 := c3.later hb3 (by omega)
  have HB3 := Lib.hid (HB2.out.trans (hb3.mono HB2.out.size))
  have HS2 := Lib.hid hs2
  obtain ⟨hC0, hC1, hC2, hC3⟩ := d2.cells
  obtain ⟨hD0, hD1, hD2, hD3⟩ := d3.cells
  have hn2 := d2.noInt rfl rfl
  have hn3 := d3.noInt rfl rfl
  clear hz2 hs2 e2 c2 c3 d2 d3 hb2 hb3
  dsimp only
  go_wp2
  refine bodyPost_ret_at (by simp [results, Tryz.results96, go_sem, hC0, hC1, hD0, hD1] <;> rfl) rfl ?_
  refine HR.out _ _ _ ⟨.slice none 0 0, by simp, by rw [show ((0 : Nat) : Int).natAbs = 0 from rfl, dig_zero]; exact Sl.nil _ _ _ _⟩ (IsZ.mkNat ((((HS2.out.set hn2 0 _).set (hn2.set 0 _ rfl) 1 _).set ((hn3.set 0 _ rfl).set 1 _ rfl) 0 _).set (((hn3.set 0 _ rfl).set 1 _ rfl).set 0 _ rfl) 1 _)) ((((HB3.out.setCell (by simp <;> omega) _).setCell (by simp <;> omega) _).setCell (by simp <;> omega) _).setCell (by simp <;> omega) _)

end Go.Proofs.YtbglfendcpbjpaaGreatDoor
