/- Contracts of functions of the program and of the model: LawJR. -/
import Derived.Test.YtpblpdcdhgjecaaPj2
import Derived.OpenShut
import Derived.Carry
set_option linter.all false
set_option linter.unusedVariables false
set_option linter.unusedSimpArgs false
set_option linter.unnecessarySimpa false
set_option linter.deprecated false
namespace Go.Proofs.Ytpblpdcdhgjecaa
open Go Go.RowKit

/-- a slice value reads as bytes -/
def ByB (w : World) (v : Value) : Prop := ∃ ao n cap, v = .slice ao n cap ∧ ∀ i, i < n → ∃ (b off : Nat) (x : Int), ao = some ⟨b, off, none⟩ ∧ b < w.heap.size ∧ w.cell? ⟨b, off + i, none⟩ = some (.int .u8 x) ∧ 0 ≤ x ∧ x < 256

theorem ByB.later {w w' : World} {v : Value} (h : ByB w v) (hb : Below w.heap.size w w') : ByB w' v := by
  obtain ⟨ao, n, cap, rfl, hx⟩ := h
  refine ⟨ao, n, cap, rfl, fun i hi => ?_⟩
  obtain ⟨b, off, x, h1, h2, h3, h4⟩ := hx i hi
  exact ⟨b, off, x, h1, Nat.lt_of_lt_of_le h2 hb.size, by rw [hb.cell (p := ⟨b, off + i, none⟩) h2]; exact h3, h4⟩

theorem byte_wf {x : Int} (h : (Lit.int .u8 x).wf = true) : 0 ≤ x ∧ x < 256 := by
  have e1 : IntKind.u8.min = 0 := rfl
  have e2 : IntKind.u8.max = 255 := rfl
  simp [Lit.wf, e1, e2] at h
  omega

/-- bytes that came in -/
theorem open_by {H : Type} {enc : TypeId × Value → H} {W : World} {a0 : Option Addr} {len cap : Nat} {d : DataW H} {ps : List MemPlace}
    (h : DataW.Trod enc Try.prog W 0 (fun _ => true) true 22 (.slice a0 len cap) d ps) : ByB W (.slice a0 len cap) := by
  obtain ⟨fuel, hf⟩ := h
  rcases Go.ChangeShapes.open_ints Try.underlying22 Try.underlying5 (by kernel_rfl) hf with ⟨hcs, _⟩ | ⟨a, len', cap', zs, hcs, _, hl, hm, hz, hx, hcell, hwz⟩
  · simp [Value.cells] at hcs
    obtain ⟨rfl, rfl, rfl⟩ := hcs
    exact ⟨_, _, _, rfl, fun i hi => absurd hi (by omega)⟩
  · simp [Value.cells] at hcs
    obtain ⟨rfl, rfl, rfl⟩ := hcs
    simp only [if_true] at hz
    refine ⟨_, _, _, rfl, fun i hi => ?_⟩
    have hc := hcell i (by omega)
    obtain ⟨b, off, spot⟩ := a
    have hspot : spot = none := by simpa [Addr.add] using World.cell?_spot (hcell 0 (by omega))
    subst hspot
    rw [Addr.add_lit] at hc
    have hlt : b < W.heap.size := by
      rcases Nat.lt_or_ge b W.heap.size with h1 | h1
      · exact h1
      · simp [World.cell?, Array.getElem?_eq_none h1] at hc
    exact ⟨b, off, _, rfl, hlt, hc, byte_wf (hwz _ (by rw [List.getD_eq_getElem?_getD, List.getElem?_eq_getElem (by omega), Option.getD_some]; exact List.getElem_mem _))⟩

set_option maxRecDepth 100000 in
set_option maxHeartbeats 1000000 in
theorem r8at_any (v : Value) (k : Nat) (n : Nat) (w : World) (h : ByB w v) (hn : 2 ≤ n) (hn2 : n ≤ 1000) (hk : k ≤ 10) (R : Ending → World → Prop)
    (hR : ∀ r : Nat, r < n → R (.returned (.int .i64 (r : Int))) w) :
    Calls Try.prog 7 #[v, .int .i64 (k : Int), .int .i64 (n : Int)] w R := by
  have HR := Lib.hid hR; clear hR
  obtain ⟨ao, len, cap, rfl, hx⟩ := h
  have HX := Lib.hid hx
  clear hx
  have t1 : ¬ ((n : Int) ≤ 1) := by omega
  by_cases hlt : k < len
  · obtain ⟨b, off, x, rfl, hb, hc, hx0, hx1⟩ := HX.out k hlt
    have t2 : ¬ ((len : Int) ≤ (k : Int)) := by omega
    have t3 : (0 : Int) ≤ (k : Int) := by omega
    have t4 : (k : Int) < (len : Int) := by omega
    obtain ⟨r, hr⟩ : ∃ r : Nat, r = x.toNat % n := ⟨_, rfl⟩
    have hrn : r < n := by rw [hr]; exact Nat.mod_lt _ (by omega)
    obtain ⟨y, rfl⟩ : ∃ y : Nat, x = (y : Int) := ⟨x.toNat, by omega⟩
    rw [Int.toNat_natCast] at hr
    have e1 : IntKind.i64.wrap (y : Int) = (y : Int) := IntWalk.i64_in _ (by omega)
    have e2 : (y : Int) % (n : Int) = (r : Int) := by rw [hr]; omega
    have e3 : Int.tmod (y : Int) (n : Int) = (r : Int) := by rw [tmodN, hr]
    have e4 : IntKind.i64.wrap (r : Int) = (r : Int) := IntWalk.i64_in _ (by omega)
    have z1 : ((n : Int) == 0) = false := by rw [beq_eq_false_iff_ne]; omega
    have z2 : ¬ ((n : Int) = 0) := by omega
    have HF := Lib.hid (HR.out r hrn)
    clear hr hlt
    go_enter Try.func7, Try.ntmps7
    go_wp2
    first | go_ret | skip
    exact HF.out
  · have t2 : (len : Int) ≤ (k : Int) := by omega
    have HF := Lib.hid (HR.out 0 (by omega))
    clear hlt
    go_enter Try.func7, Try.ntmps7
    go_wp2
    first | go_ret | skip
    exact HF.out

set_option maxRecDepth 100000 in
set_option maxHeartbeats 1000000 in
theorem r8long_any (v1 v2 : Value) (w : World) (h1 : ByB w v1) (h2 : ByB w v2) (R : Ending → World → Prop)
    (hR : ∀ b : Bool, R (.returned (.bool b)) w) :
    Calls Try.prog 6 #[v1, v2] w R := by
  have HR := Lib.hid hR; clear hR
  obtain ⟨a1, n1, c1, rfl, _⟩ := h1
  obtain ⟨a2, n2, c2, rfl, _⟩ := h2
  by_cases hlt : (48 : Int) < (n1 : Int)
  · go_enter Try.func6, Try.ntmps6
    go_wp2
    first | go_ret | skip
    exact HR.out _
  · go_enter Try.func6, Try.ntmps6
    go_wp2
    first | go_ret | skip
    exact HR.out _

/-- what is told of a joined residue -/
theorem join_facts {x k y l : Nat} (hk : 2 ≤ k) (hl : 2 ≤ l) (hx : x < k) (hy : y < l) (hk2 : k ≤ 1000) (hl2 : l ≤ 1000) :
    (∃ C M : Nat, joinV (x : Int) (k : Int) (y : Int) (l : Int) = .tuple #[.int .i64 (C : Int), .int .i64 (M : Int), .bool true] ∧ ((Nat.gcd k l : Nat) : Int) ∣ (x : Int) - (y : Int) ∧ k / Nat.gcd k l * l = M ∧ C < M ∧ C % k = x ∧ C % l = y) ∨
    (joinV (x : Int) (k : Int) (y : Int) (l : Int) = .tuple #[.int .i64 0, .int .i64 0, .bool false] ∧ ¬ ((Nat.gcd k l : Nat) : Int) ∣ (x : Int) - (y : Int)) := by
  have r1 : resB (x : Int) (k : Int) = true := by unfold resB; exact decide_eq_true ⟨by omega, by omega, by omega, by omega⟩
  have r2 : resB (y : Int) (l : Int) = true := by unfold resB; exact decide_eq_true ⟨by omega, by omega, by omega, by omega⟩
  have hOK : joinOK (x : Int) (k : Int) (y : Int) (l : Int) = joinB x k y l := by
    unfold joinOK; rw [r1, r2]; simp only [Int.toNat_natCast, Bool.true_and]
  have hJ := joinB_iff (a := x) (b := y) (m := k) (n := l) (by omega) (by omega) hx
  have hneg : ((Nat.gcd k l : Nat) : Int) ∣ (y : Int) - (x : Int) ↔ ((Nat.gcd k l : Nat) : Int) ∣ (x : Int) - (y : Int) := by
    rw [← Int.dvd_neg, show -((y : Int) - (x : Int)) = (x : Int) - (y : Int) by omega]
  cases hb : joinB x k y l with
  | true =>
    left
    have hd := hJ.1 hb
    rw [hb] at hOK
    have hok := join_ok (a := x) (b := y) (m := k) (n := l) (by omega) (by omega) hx hd
    have hlt := joinBy_lt (a := x) (b := y) (m := k) (n := l) (by omega) (by omega)
    refine ⟨x + k * joinBy x k y l, k / Nat.gcd k l * l, joinV_yes hOK, hneg.1 hd, rfl, ?_, ?_, ?_⟩
    · obtain ⟨g, p, q, hg, hg0, hp0, hq0, ek, el, ep, eq', _⟩ := join_parts (m := k) (n := l) (by omega) (by omega)
      rw [← hg] at hlt ⊢
      rw [eq'] at hlt
      rw [ep]
      have e : p * l = k * q := by rw [ek, el, Nat.mul_comm g p, Nat.mul_assoc]
      rw [e]
      have : k * (joinBy x k y l + 1) ≤ k * q := Nat.mul_le_mul_left _ hlt
      rw [Nat.mul_add, Nat.mul_one] at this
      omega
    · rw [Nat.add_mul_mod_self_left, Nat.mod_eq_of_lt hx]
    · have hc : (((x + k * joinBy x k y l : Nat)) : Int) - (y : Int) = (x : Int) + (k : Int) * ((joinBy x k y l : Nat) : Int) - (y : Int) := by
        rw [Int.natCast_add, Int.natCast_mul]
      rw [← hc] at hok
      generalize x + k * joinBy x k y l = C at *
      have h1 := Int.emod_eq_emod_iff_emod_sub_eq_zero.2 (Int.emod_eq_zero_of_dvd hok)
      have h2 : ((C % l : Nat) : Int) = ((y % l : Nat) : Int) := by rw [Int.natCast_emod, Int.natCast_emod]; exact h1
      have h3 : y % l = y := Nat.mod_eq_of_lt hy
      omega
  | false =>
    right
    rw [hb] at hOK
    refine ⟨joinV_no hOK, fun h => ?_⟩
    have := hJ.2 (hneg.2 h)
    rw [hb] at this; cases this

set_option maxRecDepth 100000 in
set_option maxHeartbeats 1000000 in
theorem law_joinedResidues (v1 v2 : Value) (w : World) (h1 : ByB w v1) (h2 : ByB w v2) (R : Ending → World → Prop)
    (hR : ∀ w', Below w.heap.size w w' → R (.returned (.bool true)) w') :
    Calls Try.prog 3 #[v1, v2] w R := by
  have HR := Lib.hid hR; clear hR
  obtain ⟨a1, n1, c1, rfl, hx1⟩ := h1
  obtain ⟨a2, n2, c2, rfl, hx2⟩ := h2
  have H1 : Hid (ByB w (.slice a1 n1 c1)) := Lib.hid ⟨_, _, _, rfl, hx1⟩
  have H2 : Hid (ByB w (.slice a2 n2 c2)) := Lib.hid ⟨_, _, _, rfl, hx2⟩
  clear hx1 hx2
  go_enter Try.func3, Try.ntmps3
  go_wp2_with fail
  refine r8long_any _ _ _ H1.out H2.out _ ?_
  intro b0
  cases b0
  · dsimp only
    go_wp2_with fail
    refine r8at_any _ 0 90 _ H1.out (by omega) (by omega) (by omega) _ ?_
    intro k0 hk0
    obtain ⟨k, hk⟩ : ∃ k, k = k0 + 2 := ⟨_, rfl⟩
    have e1 : IntKind.i64.wrap (2 + (k0 : Int)) = (k : Int) := by rw [IntWalk.i64_in _ (by omega)]; omega
    have ek : (2 : Int) + (k0 : Int) = (k : Int) := by omega
    have hk2 : 2 ≤ k ∧ k ≤ 100 := by omega
    clear hk hk0
    dsimp only
    go_wp2_with fail
    refine r8at_any _ 1 90 _ H1.out (by omega) (by omega) (by omega) _ ?_
    intro l0 hl0
    obtain ⟨l, hl⟩ : ∃ l, l = l0 + 2 := ⟨_, rfl⟩
    have e2 : IntKind.i64.wrap (2 + (l0 : Int)) = (l : Int) := by rw [IntWalk.i64_in _ (by omega)]; omega
    have el : (2 : Int) + (l0 : Int) = (l : Int) := by omega
    have hl2 : 2 ≤ l ∧ l ≤ 100 := by omega
    clear hl hl0
    dsimp only
    go_wp2_with fail
    refine r8at_any _ 0 k _ H2.out (by omega) (by omega) (by omega) _ ?_
    intro x hx
    dsimp only
    go_wp2_with fail
    refine r8at_any _ 1 l _ H2.out (by omega) (by omega) (by omega) _ ?_
    intro y hy
    dsimp only
    go_wp2_with fail
    clear e1 e2 ek el
    refine impl_join (x : Int) (k : Int) (y : Int) (l : Int) _ _ ?_
    intro w1 hb1
    have HF := Lib.hid (HR.out w1 hb1)
    have HST : Hid (GcdRelS k l (.int .i64 (k : Int)) (.int .i64 (l : Int))) := Lib.hid ⟨k, l, rfl, rfl, rfl, by omega, by omega⟩
    clear hb1
    rcases join_facts hk2.1 hl2.1 hx hy (by omega) (by omega) with ⟨C, M, hV, hd, hM, hCM, hCk, hCl⟩ | ⟨hV, hd⟩
    all_goals
      rw [hV]
      have HD := Lib.hid hd
      first
        | (have HQ := Lib.hid (And.intro hM (And.intro hCk hCl)); clear hV hd hM hCk hCl)
        | (clear hV hd)
      dsimp only
      go_wp2_with fail
      go_loop [12, 13] (fun xv yv => GcdRelS k l xv yv) (fun _ yv => (intOf yv).toNat)
      case atStart => exact HST.out
      case round =>
        clear HST
        obtain ⟨u, v, rfl, rfl, hg, hu, hv⟩ := hrel
        have HG := Lib.hid hg
        clear hg
        by_cases hv0 : v = 0
        · subst hv0
          have hug : u = Nat.gcd k l := by rw [← HG.out, Nat.gcd_zero_right]
          have hu0 : 0 < u := by rw [hug]; exact Nat.gcd_pos_of_pos_left _ (by omega)
          have huk : u ≤ k := by rw [hug]; exact Nat.gcd_le_left _ (by omega)
          obtain ⟨d, hd⟩ : ∃ d : Int, d = (x : Int) - (y : Int) := ⟨_, rfl⟩
          obtain ⟨t, ht⟩ : ∃ t : Int, t = Int.tmod d (u : Int) := ⟨_, rfl⟩
          have htl : t.natAbs < u := by rw [ht, Int.natAbs_tmod, Int.natAbs_natCast]; exact Nat.mod_lt _ hu0
          have c1 : IntKind.i64.wrap ((x : Int) - (y : Int)) = d := by rw [← hd]; exact IntWalk.i64_in _ (by omega)
          have c1' : (x : Int) - (y : Int) = d := hd.symm
          have c2 : Int.tmod d (u : Int) = t := ht.symm
          have c3 : IntKind.i64.wrap t = t := IntWalk.i64_in _ (by omega)
          have z1 : ((u : Int) == 0) = false := by rw [beq_eq_false_iff_ne]; omega
          have z2 : ¬ ((u : Int) = 0) := by omega
          have hdl : d ≤ 1000 := by omega
          have hdg : -1000 ≤ d := by omega
          first
            | (have hQ := HQ.out
               have ht0 : t = 0 := by rw [ht]; exact Int.tmod_eq_zero_of_dvd (by rw [hd, hug]; exact HD.out)
               have t1 : (t == 0) = true := by rw [ht0]; rfl
               obtain ⟨p, hp⟩ : ∃ p, p = k / u := ⟨_, rfl⟩
               have hpl : p * l = M := by rw [hp, hug]; exact hQ.1
               have hpk : p ≤ k := by rw [hp]; exact Nat.div_le_self _ _
               have hMb : p * l ≤ 100 * 100 := Nat.mul_le_mul (by omega) (by omega)
               have d1 : (k : Int) / (u : Int) = (p : Int) := by rw [hp]; omega
               have d2 : Int.tdiv (k : Int) (u : Int) = (p : Int) := by rw [Int.tdiv_eq_ediv_of_nonneg (by omega)]; exact d1
               have d3 : IntKind.i64.wrap (p : Int) = (p : Int) := IntWalk.i64_in _ (by omega)
               have d4 : IntKind.i64.wrap ((p : Int) * (l : Int)) = (M : Int) := by rw [← hpl, Int.natCast_mul, IntWalk.i64_in _ (by rw [← Int.natCast_mul]; omega)]
               have d5 : ((M : Int) == (M : Int)) = true := by simp
               have d6 : (0 : Int) ≤ (C : Int) := by omega
               have d7 : (C : Int) < (M : Int) := by omega
               have d8 : Int.tmod (C : Int) (k : Int) = (x : Int) := by rw [tmodN, hQ.2.1]
               have d9 : (C : Int) % (k : Int) = (x : Int) := by rw [← hQ.2.1]; omega
               have d10 : Int.tmod (C : Int) (l : Int) = (y : Int) := by rw [tmodN, hQ.2.2]
               have d11 : (C : Int) % (l : Int) = (y : Int) := by rw [← hQ.2.2]; omega
               have d12 : ((x : Int) == (x : Int)) = true := by simp
               have d13 : ((y : Int) == (y : Int)) = true := by simp
               have d14 : IntKind.i64.wrap (x : Int) = (x : Int) := IntWalk.i64_in _ (by omega)
               have d15 : IntKind.i64.wrap (y : Int) = (y : Int) := IntWalk.i64_in _ (by omega)
               have z3 : ((k : Int) == 0) = false := by rw [beq_eq_false_iff_ne]; omega
               have z4 : ((l : Int) == 0) = false := by rw [beq_eq_false_iff_ne]; omega
               have z5 : ¬ ((k : Int) = 0) := by omega
               have z6 : ¬ ((l : Int) = 0) := by omega
               clear hQ HQ ht0 hp hpl hug hd ht)
            | (have ht0 : t ≠ 0 := by rw [ht]; exact fun h => HD.out (by rw [← hug, ← hd]; exact Int.dvd_of_tmod_eq_zero h)
               have t1 : (t == 0) = false := by rw [beq_eq_false_iff_ne]; exact ht0
               clear ht0 hug hd ht)
          go_wp2
          first | go_ret | skip
          exact HF.out
        · have hv1 : 0 < v := by omega
          obtain ⟨r, hr⟩ : ∃ r, r = u % v := ⟨_, rfl⟩
          have hrv : r < v := by rw [hr]; exact Nat.mod_lt _ hv1
          have HN : Hid (GcdRelS k l (.int .i64 (v : Int)) (.int .i64 (r : Int))) := Lib.hid ⟨v, r, rfl, rfl, by rw [← HG.out, hr, Nat.gcd_comm v, ← Nat.gcd_rec, Nat.gcd_comm], hv, by omega⟩
          have e1 : (u : Int) % (v : Int) = (r : Int) := by rw [hr]; omega
          have e2 : Int.tmod (u : Int) (v : Int) = (r : Int) := by rw [tmodN, hr]
          have e3 : IntKind.i64.wrap (r : Int) = (r : Int) := IntWalk.i64_in _ (by omega)
          have z1 : ((v : Int) == 0) = false := by rw [beq_eq_false_iff_ne]; omega
          have z2 : ¬ ((v : Int) = 0) := by omega
          clear hr hv0
          go_wp2
          go_round
          case rel => exact HN.out
          case measure => simp [intOf]; omega
  · dsimp only
    go_wp2
    first | go_ret | skip
    exact HR.out _ (Below.refl _ _)
end Go.Proofs.Ytpblpdcdhgjecaa
