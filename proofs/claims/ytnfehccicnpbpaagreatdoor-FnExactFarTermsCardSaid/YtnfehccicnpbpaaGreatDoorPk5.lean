/- Contracts of functions of the program and of the model: Text, Is, ReadD, ReadB, RatioK, FarP, FarR, TimesN, ReadF, As, AsM, AsC, ReadR, ReadS, ReadT, ReadU, ReadN, IsW, NumO, Set2. -/
import Derived.Test.YtnfehccicnpbpaaGreatDoorPk4
import Derived.Deep.RegionLaw
import Derived.WalkKit
import Derived.LaidEql
import Derived.Stop.Asserts
import Derived.RowKitTokens
import Derived.Lib.Strings
set_option linter.all false
set_option linter.unusedVariables false
set_option linter.unusedSimpArgs false
set_option linter.unnecessarySimpa false
set_option linter.deprecated false
namespace Go.Proofs.YtnfehccicnpbpaaGreatDoor
open Go Go.RowKit

set_option maxRecDepth 100000 in
theorem text_any (v : Value) (q : Rat) (w : World) (hq : IsQ w v q) (hl1 : (dig 10000 q.num.natAbs).length ≤ 1000000000) (hl2 : (dig 10000 q.den).length ≤ 1000000000) (R : Ending → World → Prop)
    (hR : ∀ w', Below w.heap.size w w' → R (.returned (.string ⟨(textQ q).toArray⟩)) w') :
    Calls Tryz.prog 144 #[v] w R := by
  have HR := Lib.hid hR; clear hR
  have hd1 := decs_length q.num.natAbs
  have hd2 := decs_length q.den
  obtain ⟨D1, hD1⟩ : ∃ D, D = decs q.num.natAbs := ⟨_, rfl⟩
  obtain ⟨D2, hD2⟩ : ∃ D, D = decs q.den := ⟨_, rfl⟩
  rw [← hD1] at hd1
  rw [← hD2] at hd2
  have hd1' : D1.length ≤ 4000000001 := by omega
  have hd2' : D2.length ≤ 4000000001 := by omega
  have h1 := Lib.hid hD1
  have h2 := Lib.hid hD2
  clear hd1 hd2 hD1 hD2
  obtain ⟨a1, n1, c1, a2, n2, c2, rfl, e1, e2, hs1, hs2⟩ := hq.open
  clear e1 e2
  have HR2 : ∀ w', Below w.heap.size w w' → R (.returned (.string ⟨((if decide (q.num < 0) = true then [45] else []) ++ (D1 ++ if decide (q.den = 1) = true then [] else 47 :: D2)).toArray⟩)) w' := by
    intro w' hw'
    have := HR.out w' hw'
    unfold textQ at this
    rw [← h1.out, ← h2.out] at this
    simpa using this
  obtain ⟨neg, hneg⟩ : ∃ b, b = decide (q.num < 0) := ⟨_, rfl⟩
  rw [← hneg] at hq HR2 ⊢
  have hz1 : IsZ w (.agg #[.bool neg, .slice a1 n1 c1]) q.num := ⟨_, by rw [hneg], hs1⟩
  have hz2 : IsZ w (.agg #[.bool false, .slice a2 n2 c2]) (q.den : Int) := ⟨_, by simp, hs2⟩
  have HZ2 := Lib.hid hz2
  have hbox := Box4.made w (.bool neg) (.slice a1 n1 c1) (.bool false) (.slice a2 n2 c2) 116
  have hext : Below w.heap.size w (w.alloc (.cells #[.bool neg, .slice a1 n1 c1, .bool false, .slice a2 n2 c2] 116)) := (Below.refl _ _).alloc (Nat.le_refl _) _
  have HEXT := Lib.hid hext
  obtain ⟨int, hint⟩ : ∃ b, b = decide (q.den = 1) := ⟨_, rfl⟩
  rw [← hint] at HR2
  have HR := Lib.hid HR2
  have Hint := Lib.hid hint
  clear HR2 hneg hs1 hs2 hz2 hext hint
  go_enter Tryz.func144, Tryz.ntmps144
  go_wp2_with fail
  refine zdigits_any _ q.num _ (hz1.later HEXT.out (Nat.le_refl _)) hl1 _ ?_
  intro w1 hb1
  have hbox1 := hbox.later hb1 (by simp)
  have hb1' : Below w.heap.size w w1 := HEXT.out.trans (hb1.mono (by simp))
  have hq1 := hq.later hb1' (Nat.le_refl _)
  have HB1 := Lib.hid hb1'
  obtain ⟨⟨hA, hB, hC, hD⟩, _, _, _, _⟩ := hbox1.cells
  rw [← h1.out]
  clear hbox hb1 hb1' hz1 hq
  dsimp only
  cases neg
  all_goals
    go_wp2_with fail
    refine integerQ_any _ q _ hq1 hl2 _ ?_
    intro w2 hb2
    have hbox2 := hbox1.later hb2 (lt_of_block hbox1)
    rw [← Hint.out]
    have hz3 := (HZ2.out.later HB1.out (Nat.le_refl _)).later hb2 (Nat.le_refl _)
    have HB2 := Lib.hid (HB1.out.trans (hb2.mono HB1.out.size))
    clear hbox1 hA hB hC hD hb2 hq1
    obtain ⟨⟨hA, hB, hC, hD⟩, _, _, _, _⟩ := hbox2.cells
    dsimp only
    cases int
    · go_wp2_with fail
      refine zdigits_any _ (q.den : Int) _ hz3 (by simpa using hl2) _ ?_
      intro w3 hb3
      have hd2 : decs (q.den : Int).natAbs = D2 := by rw [h2.out]; simp
      rw [hd2]
      have HB3 := Lib.hid (HB2.out.trans (hb3.mono HB2.out.size))
      clear hbox2 hA hB hC hD hb3 hz3 hd2
      dsimp only
      go_wp2
      first | go_ret | skip
      have := HR.out _ HB3.out
      simpa [ByteArray.mk_append_mk] using this
    · go_wp2
      first | go_ret | skip
      have := HR.out _ HB2.out
      simpa [ByteArray.mk_append_mk] using this
end Go.Proofs.YtnfehccicnpbpaaGreatDoor

namespace Go.Proofs.YtnfehccicnpbpaaGreatDoor
open Go Go.RowKit

theorem parts_exist (L : List UInt8) : ∃ neg D r, Parts L neg D r := by
  have key : ∀ t : List UInt8, ∃ D r, t = D ++ r ∧ (∀ c ∈ D, c ≠ 47) ∧ (r = [] ∨ ∃ E, r = 47 :: E) := by
    intro t
    induction t with
    | nil => exact ⟨[], [], rfl, by simp, .inl rfl⟩
    | cons c t ih =>
      by_cases hc : c = 47
      · subst hc; exact ⟨[], 47 :: t, rfl, by simp, .inr ⟨t, rfl⟩⟩
      · obtain ⟨D, r, h1, h2, h3⟩ := ih
        refine ⟨c :: D, r, by rw [h1]; rfl, ?_, h3⟩
        intro x hx
        rcases List.mem_cons.1 hx with rfl | hx
        · exact hc
        · exact h2 x hx
  by_cases h : L.head? = some 45
  · cases L with
    | nil => simp at h
    | cons c t =>
      simp at h
      subst h
      obtain ⟨D, r, h1, h2, h3⟩ := key t
      exact ⟨true, D, r, by rw [h1]; rfl, by simp, h2, h3⟩
  · obtain ⟨D, r, h1, h2, h3⟩ := key L
    exact ⟨false, D, r, h1, fun _ => h, h2, h3⟩

/-- whether a text is a number -/
noncomputable def numB (L : List UInt8) : Bool := @decide (∃ q, L = textQ q ∧ few q) (Classical.propDecidable _)

theorem numB_true {L : List UInt8} : numB L = true ↔ ∃ q, L = textQ q ∧ few q := by unfold numB; exact @decide_eq_true_iff _ (Classical.propDecidable _)

theorem numB_false {L : List UInt8} (h : ∀ q, L = textQ q → few q → False) : numB L = false := by
  cases hb : numB L with
  | false => rfl
  | true => obtain ⟨q, h1, h2⟩ := numB_true.1 hb; exact absurd h2 (h q h1)

theorem numB_parts {L : List UInt8} {neg : Bool} {D r : List UInt8} (hp : Parts L neg D r) (h : ∀ q, ¬ NumIs neg D r q) : numB L = false :=
  numB_false fun q h1 h2 => h q ((num_iff hp q).2 ⟨h1, h2⟩)

theorem dig_length_mono {B a b : Nat} (hB : 2 ≤ B) (h : a ≤ b) : (dig B a).length ≤ (dig B b).length :=
  dig_length_le hB _ a (Nat.lt_of_le_of_lt h (lt_pow_dig hB b))

theorem decs_mono {a b : Nat} (h : a ≤ b) : (decs a).length ≤ (decs b).length := by
  by_cases h0 : a = 0
  · subst h0
    show 1 ≤ _
    exact decs_pos b
  · unfold decs
    rw [if_neg h0, if_neg (by omega), List.length_map, List.length_map, List.length_reverse, List.length_reverse]
    exact dig_length_mono (by omega) h

theorem divInt_le (a : Int) (m : Nat) (hm : m ≠ 0) : (Rat.divInt a (m : Int)).num.natAbs ≤ a.natAbs ∧ (Rat.divInt a (m : Int)).den ≤ m := by
  rw [Rat.divInt_ofNat]
  constructor
  · have hd : ((m.gcd a.natAbs : Nat) : Int) ∣ a := Int.ofNat_dvd_left.2 (Nat.gcd_dvd_right _ _)
    rw [Rat.num_mkRat, if_neg hm, Int.natAbs_ediv_of_dvd hd]
    exact Nat.div_le_self _ _
  · rw [Rat.den_mkRat, if_neg hm]
    exact Nat.div_le_self _ _

/-- what the model makes of a text whose parts are digits is its text only where it is a number -/
theorem numB_of {L : List UInt8} {neg : Bool} {D r : List UInt8} {m : Nat} (hp : Parts L neg D r) (hD : digB D = true)
    (hr : (r = [] ∧ m = 1) ∨ ∃ E, r = 47 :: E ∧ digB E = true ∧ m = rdec E ∧ m ≠ 0) : numB L = decide (textQ (Rat.divInt (sgn neg (rdec D)) (m : Int)) = L) := by
  have hm : m ≠ 0 := by rcases hr with ⟨_, rfl⟩ | ⟨_, _, _, _, h⟩ <;> omega
  have hlen : (decs m).length ≤ 60 := by
    rcases hr with ⟨_, rfl⟩ | ⟨E, _, hE, rfl, _⟩
    · rw [decs, if_neg (by omega), dig_small (by omega) (by omega)]; simp
    · rw [decs_rdec hE]; exact (digB_iff.1 hE).2.2.1
  have hfew : few (Rat.divInt (sgn neg (rdec D)) (m : Int)) := by
    obtain ⟨h1, h2⟩ := divInt_le (sgn neg (rdec D)) m hm
    refine ⟨Nat.le_trans (decs_mono h1) ?_, Nat.le_trans (decs_mono h2) hlen⟩
    rw [sgn_abs, decs_rdec hD]; exact (digB_iff.1 hD).2.2.1
  by_cases h : textQ (Rat.divInt (sgn neg (rdec D)) (m : Int)) = L
  · rw [decide_eq_true h]
    exact numB_true.2 ⟨_, h.symm, hfew⟩
  · rw [decide_eq_false h]
    refine numB_parts hp fun q hq => h ?_
    obtain ⟨e, _⟩ := text_parts hp hq
    rw [e]
    congr 1
    obtain ⟨_, hq⟩ := hq
    rcases hq with ⟨rfl, _, rfl⟩ | ⟨E, rfl, _, _, _, hn, hd⟩
    · rcases hr with ⟨_, rfl⟩ | ⟨E, h, _⟩
      · rw [Rat.divInt_ofNat, Rat.mkRat_one]
      · cases h
    · rcases hr with ⟨h9, _⟩ | ⟨E', h9, _, rfl, _⟩
      · cases h9
      · obtain rfl := (List.cons.inj h9).2
        rw [← hn, ← hd, Rat.num_divInt_den]
end Go.Proofs.YtnfehccicnpbpaaGreatDoor

namespace Go.Proofs.YtnfehccicnpbpaaGreatDoor
open Go Go.RowKit

/-- what the program's variables hold: two errors of the library's plain kind, and the handle of the type error -/
structure Env (w : World) : Prop where
  form : ∃ p, w.cell? ⟨1, 0, none⟩ = some (.iface 286 (.pointer (some p)))
  size : ∃ p, w.cell? ⟨0, 0, none⟩ = some (.iface 286 (.pointer (some p)))
  ty : w.cell? ⟨2, 0, none⟩ = some (.iface 262 (.agg #[.pointer (some ⟨9, 67, none⟩)]))

theorem lt_of_cell {w : World} {b o : Nat} {v : Value} (h : w.cell? ⟨b, o, none⟩ = some v) : b < w.heap.size := by
  rcases Nat.lt_or_ge b w.heap.size with h1 | h1
  · exact h1
  · simp [World.cell?, Array.getElem?_eq_none h1] at h

theorem Env.later {w w' : World} (h : Env w) {B : Nat} (hb : Below B w w') (hB : w.heap.size ≤ B) : Env w' := by
  obtain ⟨⟨p, h1⟩, ⟨q, h2⟩, h3⟩ := h
  exact ⟨⟨p, by rw [hb.cell (p := ⟨1, 0, none⟩) (Nat.lt_of_lt_of_le (lt_of_cell h1) hB)]; exact h1⟩, ⟨q, by rw [hb.cell (p := ⟨0, 0, none⟩) (Nat.lt_of_lt_of_le (lt_of_cell h2) hB)]; exact h2⟩,
    by rw [hb.cell (p := ⟨2, 0, none⟩) (Nat.lt_of_lt_of_le (lt_of_cell h3) hB)]; exact h3⟩

/-- an error of the library's plain kind -/
def Plain (e : Value) : Prop := ∃ p, e = .iface 286 (.pointer (some p))

/-- the first byte that is no digit -/
theorem first_bad (L : List UInt8) (h : L.all isDig = false) : ∃ i, ∃ h : i < L.length, (L.take i).all isDig = true ∧ isDig L[i] = false := by
  induction L with
  | nil => simp at h
  | cons c L ih =>
    by_cases hc : isDig c = true
    · rw [List.all_cons, hc, Bool.true_and] at h
      obtain ⟨i, hi, h1, h2⟩ := ih h
      exact ⟨i + 1, by simp; omega, by simp [hc]; simpa using h1, by simpa using h2⟩
    · exact ⟨0, by simp, rfl, by simpa using hc⟩

set_option maxRecDepth 100000 in
set_option maxHeartbeats 1000000 in
/-- digits -/
theorem readd_digits (s : ByteArray) (w : World) (hE : Env w) (hd : s.data.toList.all isDig = true) (hs : s.size ≤ 100000) (R : Ending → World → Prop)
    (hR : ∀ v w', digB s.data.toList = true → IsN w' v (rdec s.data.toList) → Below w.heap.size w w' → R (.returned (.tuple #[v, .nilIface])) w')
    (hR2 : ∀ e w', digB s.data.toList = false → Plain e → Below w.heap.size w w' → R (.returned (.tuple #[.slice none 0 0, e])) w') :
    Calls Tryz.prog 161 #[.string s] w R := by
  have HR := Lib.hid hR; clear hR
  have HR2 := Lib.hid hR2; clear hR2
  have HD := Lib.hid hd
  have HSZ := Lib.hid (size_list s)
  have HE := Lib.hid hE
  clear hd hE
  go_enter Tryz.func161, Tryz.ntmps161
  go_wp2
  go_loopw [4, 5] (fun _ _ wx => ∃ pos, wx = w.iter s pos ∧ pos ≤ s.size) (fun _ _ wx => s.size - wx.iterPos w.heap.size)
  case atStart => exact ⟨0, rfl, Nat.zero_le _⟩
  case round =>
    obtain ⟨pos, rfl, hps⟩ := hrel
    by_cases hpl : pos < s.size
    · have hp2 : pos < s.data.toList.length := by rw [size_list]; exact hpl
      have hb := dig_at _ HD.out pos hp2
      rw [← byte_at s pos hpl hp2] at hb
      obtain ⟨hb1, hb2⟩ := hb
      have hnx := fun ty => run_next_ascii (P := Tryz.prog) w s pos ty hpl (by omega)
      have hb3 : (48 : Int) ≤ (s[pos].toNat : Int) := by omega
      have hb4 : (s[pos].toNat : Int) ≤ 57 := by omega
      clear hb1 hb2
      go_wp2
      go_roundw
      case rel => exact ⟨pos + 1, rfl, by omega⟩
      case measure => rw [World.iterPos_iter, World.iterPos_iter]; omega
    · obtain rfl : pos = s.size := by omega
      have hnx := fun ty => run_next_end (P := Tryz.prog) w s s.size ty (by omega)
      have hext : Below w.heap.size w (w.iter s s.size) := (Below.refl _ _).alloc (Nat.le_refl _) _
      obtain ⟨⟨p1, he1⟩, ⟨p2, he2⟩, _⟩ := HE.out.later hext (Nat.le_refl _)
      have hd : digB s.data.toList = _ := digB_all HD.out
      rw [HSZ.out] at hd
      have HEX := Lib.hid hext
      clear hext hps
      by_cases h1 : 1 ≤ s.size
      · have h0 : 0 < s.data.toList.length := by rw [HSZ.out]; omega
        have hb := byte_at s 0 (by omega) h0
        have hne : s.toList.isEmpty = false := by
          rw [Lib.toList_data]
          cases h : s.data.toList with
          | nil => rw [h] at h0; simp at h0
          | cons c l => rfl
        have hne2 : s.toList ≠ [] := by intro e; rw [e] at hne; simp at hne
        rw [head_at _ h0, ← hb, decide_eq_true h1, Bool.true_and] at hd
        by_cases hz : s[0] = 48 ∧ 1 < s.size
        · have e1 : ((s[0].toNat : Int) == 48) = true := by rw [hz.1]; rfl
          have hd2 : digB s.data.toList = false := by
            rw [hd, hz.1, decide_eq_false (by omega : ¬ s.size = 1)]
            simp
          have hl1 : (1 : Int) < (s.size : Int) := by omega
          have HD2 := Lib.hid hd2
          clear hd hb hz hd2
          go_wp2
          go_quiet (fail)
          go_wp2
          first | go_ret | skip
          exact HR2.out _ _ HD2.out ⟨_, rfl⟩ (below_draws HEX.out _)
        · by_cases h60 : s.size ≤ 60
          · have hd2 : digB s.data.toList = true := by
              rw [hd, decide_eq_true h60, Bool.true_and, Bool.or_eq_true]
              by_cases h48 : s[0] = 48
              · right; exact decide_eq_true (by have : ¬ 1 < s.size := fun h => hz ⟨h48, h⟩; omega)
              · left; simp [h48]
            have HD2 := Lib.hid hd2
            have h60i : (s.size : Int) ≤ 60 := by omega
            by_cases h48 : s[0] = 48
            · have e1 : ((s[0].toNat : Int) == 48) = true := by rw [h48]; rfl
              have hl1 : ¬ (1 : Int) < (s.size : Int) := by
                have : ¬ 1 < s.size := fun h => hz ⟨h48, h⟩
                omega
              clear hd hb hz hd2 h48
              go_wp2_with fail
              refine ofdig_any s _ HD.out h60 _ ?_
              intro v w1 hv hb1
              obtain ⟨a1, n1, c1, rfl, hv'⟩ := hv.op
              have HV := Lib.hid hv'
              have HB1 := Lib.hid (HEX.out.trans (hb1.mono HEX.out.size))
              clear hv hv' hb1 hnx
              dsimp only
              go_wp2
              first | go_ret | skip
              exact HR.out _ _ HD2.out HV.out HB1.out
            · have h48' : s[0].toNat ≠ 48 := fun h => h48 (UInt8.toNat_inj.1 h)
              have e1 : ((s[0].toNat : Int) == 48) = false := by simp; omega
              clear hd hb hz hd2 h48 h48'
              by_cases hl : 1 < s.size
              · have hl1 : (1 : Int) < (s.size : Int) := by omega
                go_wp2_with fail
                refine ofdig_any s _ HD.out h60 _ ?_
                intro v w1 hv hb1
                obtain ⟨a1, n1, c1, rfl, hv'⟩ := hv.op
                have HV := Lib.hid hv'
                have HB1 := Lib.hid (HEX.out.trans (hb1.mono HEX.out.size))
                clear hv hv' hb1 hnx
                dsimp only
                go_wp2
                first | go_ret | skip
                exact HR.out _ _ HD2.out HV.out HB1.out
              · have hl1 : ¬ (1 : Int) < (s.size : Int) := by omega
                go_wp2_with fail
                refine ofdig_any s _ HD.out h60 _ ?_
                intro v w1 hv hb1
                obtain ⟨a1, n1, c1, rfl, hv'⟩ := hv.op
                have HV := Lib.hid hv'
                have HB1 := Lib.hid (HEX.out.trans (hb1.mono HEX.out.size))
                clear hv hv' hb1 hnx
                dsimp only
                go_wp2
                first | go_ret | skip
                exact HR.out _ _ HD2.out HV.out HB1.out
          · have hd2 : digB s.data.toList = false := by rw [hd, decide_eq_false h60, Bool.false_and]
            have hl1 : (1 : Int) < (s.size : Int) := by omega
            have h48 : s[0] ≠ 48 := fun h => hz ⟨h, by omega⟩
            have h48' : s[0].toNat ≠ 48 := fun h => h48 (UInt8.toNat_inj.1 h)
            have e1 : ((s[0].toNat : Int) == 48) = false := by simp; omega
            have h60i : (60 : Int) < (s.size : Int) := by omega
            have HD2 := Lib.hid hd2
            clear hd hb hz hd2 h48 h48'
            go_wp2
            go_quiet (fail)
            go_wp2
            first | go_ret | skip
            exact HR2.out _ _ HD2.out ⟨_, rfl⟩ (below_draws HEX.out _)
      · have hnil : s.toList = [] := by rw [Lib.toList_data]; exact List.eq_nil_of_length_eq_zero (by rw [HSZ.out]; omega)
        have hnil2 : s.toList.isEmpty = true := by rw [hnil]; rfl
        have hd2 : digB s.data.toList = false := by rw [hd, decide_eq_false h1, Bool.false_and]
        have HD2 := Lib.hid hd2
        clear hd hd2
        go_wp2
        go_quiet (fail)
        go_wp2
        first | go_ret | skip
        exact HR2.out _ _ HD2.out ⟨_, rfl⟩ (below_draws HEX.out _)
end Go.Proofs.YtnfehccicnpbpaaGreatDoor

namespace Go.Proofs.YtnfehccicnpbpaaGreatDoor
open Go Go.RowKit

/-- an error that tells where a rune stands that is no digit -/
def StopAt (w : World) (e : Value) (i : Nat) (slash : Bool) : Prop :=
  ∃ (b : Nat) (r : Int), e = .iface 197 (.pointer (some ⟨b, 0, none⟩)) ∧ Box2 w b (.int .i64 ((i : Nat) : Int)) (.int .i32 r) 201 ∧ slash = decide (r = 47)

set_option maxRecDepth 100000 in
set_option maxHeartbeats 1000000 in
theorem readd_bad (s : ByteArray) (i : Nat) (hi : i < s.data.toList.length) (w : World) (hd : (s.data.toList.take i).all isDig = true) (hb : isDig s.data.toList[i] = false) (hs : s.size ≤ 100000) (R : Ending → World → Prop)
    (hR : ∀ e w', StopAt w' e i (decide (s.data.toList[i] = 47)) → Below w.heap.size w w' → R (.returned (.tuple #[.slice none 0 0, e])) w') :
    Calls Tryz.prog 161 #[.string s] w R := by
  have HR := Lib.hid hR; clear hR
  have HD := Lib.hid hd
  have HSZ := Lib.hid (size_list s)
  have his : i < s.size := by rw [← size_list]; exact hi
  have hbi := byte_at s i his hi
  rw [← hbi] at hb HR
  clear hd hbi
  have hdg : ∀ p (hp : p < s.size), p < i → 48 ≤ s[p].toNat ∧ s[p].toNat ≤ 57 := by
    intro p hp hpi
    have h1 := dig_at (s.data.toList.take i) HD.out p (by rw [List.length_take, HSZ.out]; omega)
    rw [List.getElem_take] at h1
    rw [byte_at s p hp (by rw [HSZ.out]; exact hp)]
    exact h1
  have HDG := Lib.hid hdg
  have hbad : ¬ (48 ≤ s[i].toNat ∧ s[i].toNat ≤ 57) := by
    intro h
    simp [isDig] at hb
    omega
  clear hdg hb
  go_enter Tryz.func161, Tryz.ntmps161
  go_wp2
  go_loopw [4, 5] (fun _ _ wx => ∃ pos, wx = w.iter s pos ∧ pos ≤ i) (fun _ _ wx => i - wx.iterPos w.heap.size)
  case atStart => exact ⟨0, rfl, Nat.zero_le _⟩
  case round =>
    obtain ⟨pos, rfl, hps⟩ := hrel
    have hpl : pos < s.size := by omega
    by_cases hpi : pos < i
    · obtain ⟨hb1, hb2⟩ := HDG.out pos hpl hpi
      have hnx := fun ty => run_next_ascii (P := Tryz.prog) w s pos ty hpl (by omega)
      have hb3 : (48 : Int) ≤ (s[pos].toNat : Int) := by omega
      have hb4 : (s[pos].toNat : Int) ≤ 57 := by omega
      clear hb1 hb2
      go_wp2
      go_roundw
      case rel => exact ⟨pos + 1, rfl, by omega⟩
      case measure => rw [World.iterPos_iter, World.iterPos_iter]; omega
    · obtain rfl : pos = i := by omega
      by_cases hasc : s[pos].toNat < 128
      · have hnx := fun ty => run_next_ascii (P := Tryz.prog) w s pos ty hpl hasc
        have hsl : decide (s[pos] = 47) = decide ((s[pos].toNat : Int) = 47) := by
          apply decide_eq_decide.2
          constructor
          · intro h; rw [h]; rfl
          · intro h; apply UInt8.toNat_inj.1; show s[pos].toNat = 47; omega
        have HSL := Lib.hid hsl
        have hext : Below w.heap.size w (w.iter s (pos + 1)) := (Below.refl _ _).alloc (Nat.le_refl _) _
        have HEX := Lib.hid hext
        clear hsl hext
        by_cases hlo : s[pos].toNat < 48
        · have hlo2 : (s[pos].toNat : Int) < 48 := by omega
          clear hbad
          go_wp2
          first | go_ret | skip
          exact HR.out _ _ ⟨_, _, rfl, Box2.made _ _ _ _, HSL.out⟩ (HEX.out.alloc HEX.out.size _)
        · have hlo2 : ¬ (s[pos].toNat : Int) < 48 := by omega
          have hhi : (57 : Int) < (s[pos].toNat : Int) := by omega
          clear hbad
          go_wp2
          first | go_ret | skip
          exact HR.out _ _ ⟨_, _, rfl, Box2.made _ _ _ _, HSL.out⟩ (HEX.out.alloc HEX.out.size _)
      · have hnx := fun ty => run_next_any (P := Tryz.prog) w s pos ty hpl
        obtain ⟨hr1, _⟩ := decode_high s pos hpl (by omega)
        obtain ⟨rn, hrn⟩ : ∃ rn, rn = (Utf8.decode s pos).1 := ⟨_, rfl⟩
        obtain ⟨wd, hwd⟩ : ∃ wd, wd = (Utf8.decode s pos).2 := ⟨_, rfl⟩
        rw [← hrn] at hr1
        simp only [← hrn, ← hwd] at hnx
        have hsl : decide (s[pos] = 47) = decide ((rn : Int) = 47) := by
          rw [decide_eq_false, decide_eq_false]
          · omega
          · intro h; rw [h] at hasc; exact hasc (by decide)
        have HSL := Lib.hid hsl
        have hext : Below w.heap.size w (w.iter s (pos + wd)) := (Below.refl _ _).alloc (Nat.le_refl _) _
        have HEX := Lib.hid hext
        have hlo2 : ¬ (rn : Int) < 48 := by omega
        have hhi : (57 : Int) < (rn : Int) := by omega
        clear hsl hext hrn hwd hbad
        go_wp2
        first | go_ret | skip
        exact HR.out _ _ ⟨_, _, rfl, Box2.made _ _ _ _, HSL.out⟩ (HEX.out.alloc HEX.out.size _)
end Go.Proofs.YtnfehccicnpbpaaGreatDoor

namespace Go.Proofs.YtnfehccicnpbpaaGreatDoor
open Go Go.RowKit

/-- a value of the program's type of integers -/
def IsI (w : World) (v : Value) (z : Int) : Prop := ∃ s, v = .agg #[.bool (decide (z < 0)), s] ∧ IsN w s z.natAbs
/-- a value of the program's type of fractions -/
def IsR (w : World) (v : Value) (q : Rat) : Prop := ∃ s1 s2, v = .agg #[.bool (decide (q.num < 0)), s1, s2] ∧ IsN w s1 q.num.natAbs ∧ IsN w s2 q.den

theorem IsI.later {w w' : World} {v : Value} {z : Int} {B : Nat} (h : IsI w v z) (hb : Below B w w') (hB : w.heap.size ≤ B) : IsI w' v z := by
  obtain ⟨s, h1, h2⟩ := h; exact ⟨s, h1, h2.later hb hB⟩
theorem IsR.later {w w' : World} {v : Value} {q : Rat} {B : Nat} (h : IsR w v q) (hb : Below B w w') (hB : w.heap.size ≤ B) : IsR w' v q := by
  obtain ⟨s1, s2, h1, h2, h3⟩ := h; exact ⟨s1, s2, h1, h2.later hb hB, h3.later hb hB⟩

set_option maxRecDepth 100000 in
set_option maxHeartbeats 1000000 in
theorem integerOf_any (neg : Bool) (v : Value) (n : Nat) (w : World) (h : IsN w v n) (R : Ending → World → Prop)
    (hR : ∀ w', Below w.heap.size w w' → R (.returned (.agg #[.bool (neg && decide (n ≠ 0)), v])) w') :
    Calls Tryz.prog 153 #[.bool neg, v] w R := by
  have HR := Lib.hid hR; clear hR
  obtain ⟨a1, n1, c1, rfl, h'⟩ := h.op
  have HH := Lib.hid h'
  clear h h'
  cases neg
  · go_enter Tryz.func153, Tryz.ntmps153
    go_wp2
    refine bodyPost_ret_at (by simp [results, Tryz.results153, go_sem] <;> rfl) rfl ?_
    exact HR.out _ ((Below.refl _ _).alloc (Nat.le_refl _) _)
  · by_cases h0 : n = 0
    · subst h0
      go_enter Tryz.func153, Tryz.ntmps153
      go_wp2_with fail
      refine nzero_any _ 0 _ (HH.out.later ((Below.refl _ _).alloc (Nat.le_refl _) _) (Nat.le_refl _)) _ ?_
      rw [decide_eq_true rfl]
      dsimp only
      go_wp2
      refine bodyPost_ret_at (by simp [results, Tryz.results153, go_sem] <;> rfl) rfl ?_
      exact HR.out _ ((Below.refl _ _).alloc (Nat.le_refl _) _)
    · have hd : (true && decide (n ≠ 0)) = true := by simp [h0]
      rw [hd] at HR
      have H0 := Lib.hid h0
      clear hd h0
      go_enter Tryz.func153, Tryz.ntmps153
      go_wp2_with fail
      refine nzero_any _ n _ (HH.out.later ((Below.refl _ _).alloc (Nat.le_refl _) _) (Nat.le_refl _)) _ ?_
      rw [decide_eq_false H0.out]
      dsimp only
      go_wp2
      refine bodyPost_ret_at (by simp [results, Tryz.results153, go_sem] <;> rfl) rfl ?_
      exact HR.out _ ((Below.refl _ _).alloc (Nat.le_refl _) _)

theorem sgn_neg (neg : Bool) (n : Nat) : decide (sgn neg n < 0) = (neg && decide (n ≠ 0)) := by
  cases neg
  · simp [sgn]
  · by_cases h : n = 0
    · subst h; rfl
    · simp only [sgn, if_true, Bool.true_and, decide_eq_true (show n ≠ 0 from h)]
      exact decide_eq_true (by omega)

theorem integerOf_z (neg : Bool) (v : Value) (n : Nat) (w : World) (h : IsN w v n) (R : Ending → World → Prop)
    (hR : ∀ v' w', IsI w' v' (sgn neg n) → Below w.heap.size w w' → R (.returned v') w') :
    Calls Tryz.prog 153 #[.bool neg, v] w R :=
  integerOf_any neg v n w h R fun w' hb => hR _ w' ⟨v, by rw [sgn_neg], by rw [sgn_abs]; exact h.later hb (Nat.le_refl _)⟩ hb

theorem IsN.one (w : World) (B : Nat) (hB : B ≤ w.heap.size) : IsN (w.alloc (.cells #[.int .u64 1] 61)) (.slice (some ⟨w.heap.size, 0, none⟩) 1 1) 1 := by
  show Sl _ _ _ (dig W64 1)
  rw [dig_small (by omega) (by rw [W64_eq]; omega)]
  exact (Own.lit1 .u64 61 w B 1 1 rfl hB).sl

set_option maxRecDepth 100000 in
set_option maxHeartbeats 1000000 in
theorem ratioOf_any (v : Value) (z : Int) (w : World) (h : IsI w v z) (R : Ending → World → Prop)
    (hR : ∀ v' w', IsR w' v' (z : Rat) → Below w.heap.size w w' → R (.returned v') w') :
    Calls Tryz.prog 164 #[v] w R := by
  have HR := Lib.hid hR; clear hR
  obtain ⟨s, rfl, hs⟩ := h
  obtain ⟨a1, n1, c1, rfl, h'⟩ := hs.op
  have HH := Lib.hid h'
  obtain ⟨neg, hneg⟩ : ∃ b, b = decide (z < 0) := ⟨_, rfl⟩
  rw [← hneg]
  have HN := Lib.hid hneg
  clear hs h' hneg
  go_enter Tryz.func164, Tryz.ntmps164
  go_wp2
  refine bodyPost_ret_at (by simp [results, Tryz.results164, go_sem] <;> rfl) rfl ?_
  have hb : Below w.heap.size w (((w.alloc (.cells #[.bool neg, .slice a1 n1 c1] 98)).alloc (.cells #[.bool neg, .slice a1 n1 c1, .slice (some ⟨w.heap.size + 1 + 1, 0, none⟩) 1 1] 100)).alloc (.cells #[.int .u64 1] 61)) :=
    (((Below.refl _ _).alloc (Nat.le_refl _) _).alloc (by simp) _).alloc (by simp; omega) _
  refine HR.out _ _ ⟨.slice a1 n1 c1, .slice (some ⟨w.heap.size + 1 + 1, 0, none⟩) 1 1, ?_, HH.out.later hb (Nat.le_refl _), ?_⟩ hb
  · rw [HN.out]; rfl
  · have := IsN.one ((w.alloc (.cells #[.bool neg, .slice a1 n1 c1] 98)).alloc (.cells #[.bool neg, .slice a1 n1 c1, .slice (some ⟨w.heap.size + 1 + 1, 0, none⟩) 1 1] 100)) 0 (Nat.zero_le _)
    simpa using this

/-- an error that is not nil -/
def ErrV (e : Value) : Prop := ∃ t p, e = .iface t (.pointer (some p))

theorem readd_any (s : ByteArray) (w : World) (hE : Env w) (hs : s.size ≤ 100000) (R : Ending → World → Prop)
    (hR : ∀ v w', digB s.data.toList = true → IsN w' v (rdec s.data.toList) → Below w.heap.size w w' → R (.returned (.tuple #[v, .nilIface])) w')
    (hR2 : ∀ e w', digB s.data.toList = false → ErrV e → Below w.heap.size w w' → R (.returned (.tuple #[.slice none 0 0, e])) w') :
    Calls Tryz.prog 161 #[.string s] w R := by
  by_cases h : s.data.toList.all isDig = true
  · refine readd_digits s w hE h hs R hR fun e w' h1 h2 h3 => hR2 e w' h1 ?_ h3
    obtain ⟨p, rfl⟩ := h2
    exact ⟨_, _, rfl⟩
  · obtain ⟨i, hi, h1, h2⟩ := first_bad s.data.toList (by simpa using h)
    refine readd_bad s i hi w h1 h2 hs R fun e w' h3 h4 => hR2 e w' ?_ ?_ h4
    · unfold digB
      rw [show s.data.toList.all isDig = false by simpa using h]; rfl
    · obtain ⟨b, r, rfl, _⟩ := h3
      exact ⟨_, _, rfl⟩

/-- a block of three cells -/
def Box3 (w : World) (b : Nat) (x0 x1 x2 : Value) (t : TypeId) : Prop := w.heap[b]? = some (.cells #[x0, x1, x2] t (0, 0))
theorem Box3.cells {w : World} {b : Nat} {x0 x1 x2 : Value} {t : TypeId} (h : Box3 w b x0 x1 x2 t) :
    (w.cell? ⟨b, 0, none⟩ = some x0 ∧ w.cell? ⟨b, 1, none⟩ = some x1 ∧ w.cell? ⟨b, 2, none⟩ = some x2) ∧
    (w.frozen? ⟨b, 0, none⟩ = false ∧ w.frozen? ⟨b, 1, none⟩ = false ∧ w.frozen? ⟨b, 2, none⟩ = false) := by
  unfold Box3 at h
  simp [World.cell?, World.frozen?, h]
theorem Box3.later {w w' : World} {b : Nat} {x0 x1 x2 : Value} {t : TypeId} {B : Nat} (h : Box3 w b x0 x1 x2 t) (hb : Below B w w') (hB : b < B) : Box3 w' b x0 x1 x2 t := by
  unfold Box3 at *; rw [hb.block b hB]; exact h
theorem Box3.made (w : World) (x0 x1 x2 : Value) (t : TypeId) : Box3 (w.alloc (.cells #[x0, x1, x2] t)) w.heap.size x0 x1 x2 t := by
  show (w.heap.push _)[_]? = _
  simp
theorem below_set3 {B : Nat} {a w : World} (h : Below B a w) {b : Nat} (hb : B ≤ b) (y0 y1 y2 : Value) : Below B a (((w.setCell ⟨b, 0, none⟩ y0).setCell ⟨b, 1, none⟩ y1).setCell ⟨b, 2, none⟩ y2) :=
  ((h.setCell hb _).setCell hb _).setCell hb _
/-- a store into a block without numbers leaves a natural number as it is -/
theorem Box3.noInt {w : World} {b : Nat} {x0 x1 x2 : Value} {t : TypeId} (h : Box3 w b x0 x1 x2 t) (h0 : notInt x0 = true) (h1 : notInt x1 = true) (h2 : notInt x2 = true) : NoInt w b := by
  intro o x hx
  unfold Box3 at h
  simp only [World.cell?, h, Option.isSome_none, Bool.false_eq_true, if_false] at hx
  match o, hx with
  | 0, hx => simp at hx; subst hx; exact h0
  | 1, hx => simp at hx; subst hx; exact h1
  | 2, hx => simp at hx; subst hx; exact h2
  | (n + 3), hx => simp at hx
theorem IsN.set3 {w : World} {v : Value} {n : Nat} (h : IsN w v n) {b : Nat} (hb : NoInt w b) (y0 y1 y2 : Value) (h0 : notInt y0 = true) (h1 : notInt y1 = true) : IsN (((w.setCell ⟨b, 0, none⟩ y0).setCell ⟨b, 1, none⟩ y1).setCell ⟨b, 2, none⟩ y2) v n :=
  ((Sl.set h hb 0 y0).set (hb.set 0 _ h0) 1 y1).set ((hb.set 0 _ h0).set 1 _ h1) 2 y2

/-- the zero value of the program's type of fractions -/
def zeroR : Value := .agg #[.bool false, .slice none 0 0, .slice none 0 0]
end Go.Proofs.YtnfehccicnpbpaaGreatDoor

namespace Go.Proofs.YtnfehccicnpbpaaGreatDoor
open Go Go.RowKit

theorem But.drewN {g : Nat} {a w : World} (h : But g a w) (n : Nat) : But g a (w.drewN n) := h.trans ⟨rfl, rfl, rfl, Nat.le_refl _, fun _ _ _ => rfl⟩
theorem Box3.but {w w' : World} {b g : Nat} {x0 x1 x2 : Value} {t : TypeId} (h : Box3 w b x0 x1 x2 t) (hb : But g w w') (hne : b ≠ g) : Box3 w' b x0 x1 x2 t := by
  have hl := lt_of_block h
  unfold Box3 at *; rw [hb.block b hl hne]; exact h

set_option maxRecDepth 100000 in
set_option maxHeartbeats 1000000 in
theorem mplus_any (m a b : Nat) (w : World) (ha : a < m) (hb : b < m) (hm : m ≤ 9223372036854775807) (R : Ending → World → Prop)
    (hR : R (.returned (.int .u64 (((a + b) % m : Nat) : Int))) w) :
    Calls Tryz.prog 92 #[.int .u64 ((m : Nat) : Int), .int .u64 ((a : Nat) : Int), .int .u64 ((b : Nat) : Int)] w R := by
  have HR := Lib.hid hR; clear hR
  obtain ⟨s, hs⟩ : ∃ s, s = a + b := ⟨_, rfl⟩
  have e1 : IntKind.u64.wrap ((a : Int) + (b : Int)) = (s : Int) := by rw [wrapu _ (by omega) (by omega)]; omega
  by_cases hlt : m ≤ s
  · obtain ⟨d, hd⟩ : ∃ d, d = s - m := ⟨_, rfl⟩
    have e2 : IntKind.u64.wrap ((s : Int) - (m : Int)) = (d : Int) := by rw [wrapu _ (by omega) (by omega)]; omega
    have e3 : (m : Int) ≤ (s : Int) := by omega
    have HF := Lib.hid (show R (.returned (.int .u64 (d : Int))) w by
      have := HR.out
      rw [← hs, show s = d + m by omega, Nat.add_mod_right, Nat.mod_eq_of_lt (by omega)] at this
      exact this)
    clear hs hd hlt
    go_enter Tryz.func92, Tryz.ntmps92
    go_wp2
    first | go_ret | skip
    exact HF.out
  · have e3 : ¬ (m : Int) ≤ (s : Int) := by omega
    have HF := Lib.hid (show R (.returned (.int .u64 (s : Int))) w by
      have := HR.out
      rw [← hs, Nat.mod_eq_of_lt (by omega)] at this
      exact this)
    clear hs hlt
    go_enter Tryz.func92, Tryz.ntmps92
    go_wp2
    first | go_ret | skip
    exact HF.out
end Go.Proofs.YtnfehccicnpbpaaGreatDoor

namespace Go.Proofs.YtnfehccicnpbpaaGreatDoor
open Go Go.RowKit

def RedOut (L : World) (g n k m : Nat) (D : List Nat) (u : Nat → Nat) (t : Value) (wr : World) : Prop :=
  ∃ (T : Nat) (P : List Nat), t = .int .i64 ((T : Int) - 1) ∧ k ≤ T ∧ T ≤ n ∧ P.length = n ∧ (∀ x ∈ P, x < m) ∧ (∀ s, lin P u s T % m = lin D u s n % m) ∧ Arr .u64 61 wr g P ∧ But g L wr

def RedIn (L : World) (g n k m top x : Nat) (P cs : List Nat) (u : Nat → Nat) (iv : Value) (wr : World) : Prop :=
  ∃ (i : Nat) (Q : List Nat), iv = .int .i64 (i : Int) ∧ i ≤ k ∧ Q.length = n ∧ (∀ y ∈ Q, y < m) ∧ Q.getD top 0 = x ∧ (∀ s, lin Q u s top % m = (lin P u s top + x * csum cs u (s + top) i) % m) ∧ Arr .u64 61 wr g Q ∧ But g L wr

theorem set_all {m : Nat} {Q : List Nat} (h : ∀ y ∈ Q, y < m) {i z : Nat} (hz : z < m) : ∀ y ∈ Q.set i z, y < m := by
  intro y hy
  rcases List.mem_or_eq_of_mem_set hy with h1 | h1
  · exact h y h1
  · rw [h1]; exact hz

set_option maxRecDepth 100000 in
set_option maxHeartbeats 4000000 in
theorem reduce_any (m : Nat) (vs vc : Value) (cs D : List Nat) (g n cap : Nat) (w : World) (u : Nat → Nat)
    (hvs : ∃ a n c, vs = .slice a n c) (hcs : Sl .u64 w vc cs) (hne : 0 < cs.length → blk vc ≠ some g)
    (hA : Arr .u64 61 w g D) (hn : n = D.length) (hle : cs.length ≤ n) (hcap : n ≤ cap) (hD : ∀ x ∈ D, x < m) (hC : ∀ x ∈ cs, x < m) (hm : 2 ≤ m) (hm2 : m ≤ 1000000) (hn9 : n ≤ 1000)
    (hrec : ∀ s top, cs.length ≤ top → csum cs u (s + top) cs.length % m = u (s + top) % m) (R : Ending → World → Prop)
    (hR : ∀ P w', Arr .u64 61 w' g P → P.length = n → (∀ x ∈ P, x < m) → (∀ s, lin P u s cs.length % m = lin D u s n % m) → But g w w' → R (.returned (.slice (some ⟨g, 0, none⟩) cs.length cap)) w') :
    Calls Tryz.prog 127 #[.agg #[.int .u64 ((m : Nat) : Int), vs, vc], .slice (some ⟨g, 0, none⟩) n cap] w R := by
  have HR := Lib.hid hR; clear hR
  obtain ⟨a1, n1, c1, rfl⟩ := hvs
  have hcs' := hcs
  obtain ⟨a2, c2, rfl, hc2, hcell⟩ := hcs
  have HREC := Lib.hid hrec
  have HCELL := Lib.hid hcell
  have HNE := Lib.hid hne
  have HC := Lib.hid hC
  have hgs := hA.lt
  obtain ⟨k, hk⟩ : ∃ k, k = cs.length := ⟨_, rfl⟩
  rw [← hk] at hle HR HREC HNE HCELL hc2 ⊢
  have HK := Lib.hid hk
  obtain ⟨L, hL⟩ : ∃ L, L = w.alloc (.cells #[.int .u64 ((m : Nat) : Int), .slice a1 n1 c1, .slice a2 k c2] 65) := ⟨_, rfl⟩
  have HBL : Hid (Below w.heap.size w L) := Lib.hid (by rw [hL]; exact (Below.refl _ _).alloc (Nat.le_refl _) _)
  have HBX : Hid (Box3 L w.heap.size (.int .u64 ((m : Nat) : Int)) (.slice a1 n1 c1) (.slice a2 k c2) 65) := Lib.hid (by rw [hL]; exact Box3.made _ _ _ _ _)
  have HL := Lib.hid hL
  have HG := Lib.hid (show w.heap.size ≠ g by omega)
  have HST : Hid (RedOut L g n k m D u (.int .i64 ((n : Int) - 1)) L) := Lib.hid
    ⟨n, D, rfl, hle, Nat.le_refl _, hn.symm, hD, fun _ => rfl, hA.later HBL.out hgs, But.refl _ _⟩
  have hwn : IntKind.i64.wrap ((n : Int) - 1) = (n : Int) - 1 := IntWalk.i64_in _ (by omega)
  obtain ⟨⟨hB0, hB1, hB2⟩, _, _, _⟩ := HBX.out.cells
  rw [hL] at hB0 hB1 hB2
  clear hrec hcell hne hC hk hA hn hD hL hcs'
  go_enter Tryz.func127, Tryz.ntmps127
  go_wp2
  rw [← HL.out]
  clear hB0 hB1 hB2 hwn
  go_loopw [6] (fun t wr => RedOut L g n k m D u t wr) (fun t _ => (intOf t + 1).toNat)
  case atStart => exact HST.out
  case round =>
    clear HST
    obtain ⟨T, P, rfl, hkT, hTn, hP, hPm, hlin, hA, hbut⟩ := hrel
    have HP := Lib.hid hP
    have HPM := Lib.hid hPm
    have HLIN := Lib.hid hlin
    have HA := Lib.hid hA
    have HBUT := Lib.hid hbut
    have HBXR := Lib.hid (HBX.out.but hbut HG.out)
    obtain ⟨⟨hB0, hB1, hB2⟩, _, _, _⟩ := HBXR.out.cells
    clear hP hPm hlin hA hbut
    by_cases hTk : T = k
    · have hgt : ¬ (k : Int) ≤ (T : Int) - 1 := by omega
      have HF := Lib.hid (HR.out P wr HA.out HP.out HPM.out (by intro s; have := HLIN.out s; rwa [hTk] at this) ((But.ofBelow HBL.out).trans HBUT.out))
      have hk0 : (0 : Int) ≤ (k : Int) := by omega
      have hkc : (k : Int) ≤ (cap : Int) := by omega
      clear hTk hB0 hB1 hB2
      go_wp2
      first | go_ret | skip
      exact HF.out
    · obtain ⟨top, rfl⟩ : ∃ top, T = top + 1 := ⟨T - 1, by omega⟩
      have et : ((top + 1 : Nat) : Int) - 1 = (top : Int) := by omega
      rw [et]
      have hkt : k ≤ top := by omega
      have hkt2 : (k : Int) ≤ (top : Int) := by omega
      have htn : top < n := by omega
      obtain ⟨x, hx⟩ : ∃ x, x = P.getD top 0 := ⟨_, rfl⟩
      have hxm : x < m := by rw [hx]; exact getD_lt_of (by omega) HPM.out _
      have HX := Lib.hid hx
      have HST2 : Hid (RedIn L g n k m top x P cs u (.int .i64 0) wr) := Lib.hid ⟨0, P, rfl, Nat.zero_le _, HP.out, HPM.out, hx.symm, fun s => by rw [csum, Nat.mul_zero, Nat.add_zero], HA.out, HBUT.out⟩
      obtain ⟨wo, hwo⟩ : ∃ wo : World, wo = wr := ⟨_, rfl⟩
      subst hwo
      clear hTk hx et
      go_wp2
      clear hB0 hB1 hB2
      go_loopw [24] (fun i wq => RedIn L g n k m top x P cs u i wq) (fun i _ => k - (intOf i).toNat)
      case atStart => exact HST2.out
      case round =>
        clear HST2
        obtain ⟨i, Q, rfl, hik, hQ, hQm, hQx, hlin, hA, hbut⟩ := hrel
        have HQ := Lib.hid hQ
        have HQM := Lib.hid hQm
        have HQX := Lib.hid hQx
        have HLI := Lib.hid hlin
        have HAQ := Lib.hid hA
        have HBU := Lib.hid hbut
        have HBXQ := Lib.hid (HBX.out.but hbut HG.out)
        obtain ⟨⟨hB0, hB1, hB2⟩, _, _, _⟩ := HBXQ.out.cells
        have hws : IntKind.i64.wrap ((top : Int) - 1) = (top : Int) - 1 := IntWalk.i64_in _ (by omega)
        by_cases hi : i = k
        · subst hi
          have HNX : Hid (RedOut L g n i m D u (.int .i64 ((top : Int) - 1)) wr) := Lib.hid ⟨top, Q, rfl, hkt, by omega, hQ, hQm, fun s => by
            rw [red_end (P := P) (cs := cs) (fun s => by have := HREC.out s top hkt; rwa [HK.out] at this) (fun s => by rw [hlin s, HX.out, HK.out]) s]; exact HLIN.out s, hA, hbut⟩
          clear hQ hQm hQx hlin hA hbut
          go_wp2
          go_roundw
          case rel => exact HNX.out
          case measure => simp [intOf]
        · have hik2 : i < k := by omega
          obtain ⟨b, off, rfl, hb, hc⟩ := HCELL.out i hik2
          have hbg : b ≠ g := fun e => HNE.out (by omega) (by rw [e]; rfl)
          have hc1 : wr.cell? ⟨b, off + i, none⟩ = some (.int .u64 ((cs.getD i 0 : Nat) : Int)) := by
            rw [hbut.cell (o := off + i) (Nat.lt_of_lt_of_le hb HBL.out.size) hbg, HBL.out.cell (p := ⟨b, off + i, none⟩) hb]; exact hc
          obtain ⟨c, hcc⟩ : ∃ c, c = cs.getD i 0 := ⟨_, rfl⟩
          have hcm : c < m := by rw [hcc]; exact getD_lt_of (by omega) HC.out _
          rw [← hcc] at hc1
          obtain ⟨t1, ht1⟩ : ∃ t1, t1 = top - 1 := ⟨_, rfl⟩
          obtain ⟨j, hj⟩ : ∃ j, j = top - 1 - i := ⟨_, rfl⟩
          obtain ⟨y, hy⟩ : ∃ y, y = Q.getD j 0 := ⟨_, rfl⟩
          have hym : y < m := by rw [hy]; exact getD_lt_of (by omega) hQm _
          have hq1 := hA.cell j (by omega)
          have hq2 := hA.cell top (by omega)
          have hq3 := hA.frozen j
          rw [← hy] at hq1
          rw [hQx] at hq2
          obtain ⟨p, hp⟩ : ∃ p, p = x * c % m := ⟨_, rfl⟩
          have hpm : p < m := by rw [hp]; exact Nat.mod_lt _ (by omega)
          obtain ⟨z, hz⟩ : ∃ z, z = (y + p) % m := ⟨_, rfl⟩
          have hzm : z < m := by rw [hz]; exact Nat.mod_lt _ (by omega)
          have HPE := Lib.hid hp
          have HZE := Lib.hid hz
          have HNX : Hid (∀ N, RedIn L g n k m top x P cs u (.int .i64 ((i + 1 : Nat) : Int)) ((wr.drewN N).setCell ⟨g, j, none⟩ (.int .u64 ((z : Nat) : Int)))) := Lib.hid fun N =>
            ⟨i + 1, Q.set j z, rfl, by omega, by rw [List.length_set]; exact hQ, set_all hQm hzm, (getD_setN Q z (by omega)).trans hQx, by
              rw [hz, hy, hp, hcc]; exact red_step (by omega) hj (by omega) hlin, (hA.drewN N).set _ _, (hbut.drewN N).setCell _ _⟩
          have hw1 : IntKind.i64.wrap ((top : Int) - 1) = (t1 : Int) := by rw [IntWalk.i64_in _ (by omega)]; omega
          have hw2 : IntKind.i64.wrap ((t1 : Int) - (i : Int)) = (j : Int) := by rw [IntWalk.i64_in _ (by omega)]; omega
          have hw3 : IntKind.i64.wrap ((i : Int) + 1) = ((i + 1 : Nat) : Int) := by rw [IntWalk.i64_in _ (by omega)]; omega
          have hi0 : (0 : Int) ≤ (i : Int) := by omega
          have hi1 : (i : Int) < (k : Int) := by omega
          have hj0 : (0 : Int) ≤ (j : Int) := by omega
          have hj1 : (j : Int) < (n : Int) := by omega
          have hto0 : (0 : Int) ≤ (top : Int) := by omega
          have hto1 : (top : Int) < (n : Int) := by omega
          have HMM := Lib.hid (show x < W64 ∧ c < W64 ∧ m < W64 by rw [W64_eq]; omega)
          have HMP := Lib.hid (And.intro hym hpm)
          clear hQ hQm hQx hlin hA hbut hcc hy hz hp ht1 hj hc hb hbg hws hik hi
          go_wp2_with fail
          go_region_law (first
            | (have hguard := HM1; (try go_simp); go_at_call 92; refine mplus_any m y p _ HMP.out.1 HMP.out.2 (by omega) _ ?_; rw [← HZE.out]; clear hguard; dsimp only)
            | ((try go_simp); go_at_call 93; refine mtimes_any m x c _ HMM.out.1 HMM.out.2.1 HMM.out.2.2 (by omega) _ ?_; rw [← HPE.out]; intro N1; have HM1 : Hid True := Lib.hid trivial; dsimp only))
          all_goals
            go_wp2
            go_roundw
            case rel => exact HNX.out _
            case measure => simp [intOf]; omega
end Go.Proofs.YtnfehccicnpbpaaGreatDoor

namespace Go.Proofs.YtnfehccicnpbpaaGreatDoor
open Go Go.RowKit

def TimesRel (w : World) (g na nb : Nat) (xs : List Nat) (b : Nat) (iv : Value) (wr : World) : Prop :=
  ∃ (k : Nat) (zs : List Nat), iv = .int .i64 (k : Int) ∧ k ≤ na ∧ Arr .u64 61 wr g zs ∧ zs.length = na + nb ∧ (∀ d ∈ zs, d < W64) ∧ zs.drop (k + nb) = List.replicate (na - k) 0 ∧
    val W64 zs = val W64 (xs.take k) * b ∧ Below w.heap.size w wr ∧ wr.heap.size = w.heap.size + 1

theorem drop_zero_getD {zs : List Nat} {i m : Nat} (h : zs.drop i = List.replicate m 0) : zs.getD i 0 = 0 := by
  have h1 : (zs.drop i).getD 0 0 = zs.getD i 0 := by simp [List.getD_eq_getElem?_getD, List.getElem?_drop]
  rw [← h1, h]
  exact getD_zeros _ _

theorem times_rel (w wr w1 : World) (g na nb k x b c : Nat) (xs rs zs : List Nat) (zc : Int) (hk : k < na) (hxl : xs.length = na) (hx : x = xs.getD k 0)
    (hrl : rs.length = na + nb) (hrd : rs.drop (k + nb) = List.replicate (na - k) 0) (hrv : val W64 rs = val W64 (xs.take k) * b)
    (hA : Arr .u64 61 w1 g zs) (hzl : zs.length = rs.length) (hz : ∀ d ∈ zs, d < W64) (hzd : zs.drop (k + nb) = rs.drop (k + nb))
    (hzv : val W64 zs + W64 ^ (k + nb) * c = val W64 rs + W64 ^ k * (x * b)) (hc : c < W64) (hb : Below w.heap.size w wr) (hs : wr.heap.size = w.heap.size + 1) (hbut : But g wr w1) (hs1 : w1.heap.size = wr.heap.size) (hg : g = w.heap.size) (hzc : zc = (c : Int)) :
    TimesRel w g na nb xs b (.int .i64 ((k + 1 : Nat) : Int)) (w1.setCell ⟨g, k + nb, none⟩ (.int .u64 zc)) := by
  subst hzc hg
  refine ⟨k + 1, zs.set (k + nb) c, rfl, by omega, hA.set _ _, by simp [hzl, hrl], set_ltN _ _ _ hz hc, ?_, ?_, (hb.trans (hbut.below (Nat.le_refl _) (by omega))).setCell (by simp) _, by simp [hs, hs1]⟩
  · rw [drop_set_out _ _ _ _ (by omega)]
    have h2 := congrArg (List.drop 1) (hzd.trans hrd)
    rw [List.drop_drop, List.drop_replicate] at h2
    rw [show k + 1 + nb = k + nb + 1 by omega, h2]
    congr 1
  · have h1 := val_setN W64 zs (k + nb) c (by omega)
    rw [drop_zero_getD (hzd.trans hrd), Nat.mul_zero, Nat.add_zero] at h1
    rw [h1, hzv, hrv, val_take_succ W64 xs k (by omega), ← hx]
    rw [Nat.add_mul, Nat.mul_assoc]

set_option maxRecDepth 100000 in
set_option maxHeartbeats 1000000 in
theorem ntimes_any (va vb : Value) (a b : Nat) (w : World) (ha : IsN w va a) (hb : IsN w vb b) (hla : (dig W64 a).length ≤ 100000000) (hlb : (dig W64 b).length ≤ 100000000) (R : Ending → World → Prop)
    (hR : ∀ v' w', IsN w' v' (a * b) → Below w.heap.size w w' → R (.returned v') w') :
    Calls Tryz.prog 151 #[va, vb] w R := by
  have HR := Lib.hid hR; clear hR
  obtain ⟨aa, na, ca, rfl, hna, hsa⟩ := ha.open
  obtain ⟨ab, nb, cb, rfl, hnb, hsb⟩ := hb.open
  obtain ⟨xs, hxs⟩ : ∃ xs, xs = dig W64 a := ⟨_, rfl⟩
  have hvx : val W64 xs = a := by rw [hxs]; exact val_dig W64_two _
  have hxd : ∀ d ∈ xs, d < W64 := by rw [hxs]; exact limb_lt _
  unfold IsN at hsa hsb
  rw [← hna] at hla
  rw [← hnb] at hlb
  rw [← hxs] at hsa hna
  have HNA := Lib.hid hna
  have HNB := Lib.hid hnb
  have HVX := Lib.hid hvx
  have HXD := Lib.hid hxd
  have HSA := Lib.hid hsa
  have HSB := Lib.hid hsb
  have HBLK := Lib.hid (Sl.off hsb (Nat.le_refl w.heap.size))
  have hw0 : IntKind.i64.wrap ((na : Int) + (nb : Int)) = ((na + nb : Nat) : Int) := by rw [IntWalk.i64_in _ (by omega)]; omega
  obtain ⟨n, hn⟩ : ∃ n, n = na + nb := ⟨_, rfl⟩
  rw [← hn] at hw0
  have HNN := Lib.hid hn
  have hnle : n ≤ 1000000000 := by omega
  clear ha hb hna hnb hxs hvx hxd hsa hsb hn
  go_enter Tryz.func151, Tryz.ntmps151
  go_wp2_with (at_make; go_must (refine wpList_makez _ rfl (.tmp 12) 63 rfl 61 .u64 8 Tryz.underlying63 info_u64 (by omega) .i64 _ n rfl rfl (by omega) ?_))
  intro W hA hbW hsW
  have HST : Hid (TimesRel w w.heap.size na nb xs b (.int .i64 0) W) := Lib.hid ⟨0, _, rfl, Nat.zero_le _, hA, by simp [HNN.out], zeros_lt W64_two _, by simp [List.drop_replicate, HNN.out], by rw [val_zeros]; simp [val], hbW, hsW⟩
  clear hA hbW hsW hw0
  go_wp2
  go_loopw [16] (fun i wr => TimesRel w w.heap.size na nb xs b i wr) (fun i _ => na - (intOf i).toNat)
  case atStart => exact HST.out
  case round =>
    clear HST
    obtain ⟨k, rs, rfl, hk, hA, hrl, hrs, hrd, hrv, hbel, hsz⟩ := hrel
    have HRL := Lib.hid hrl
    have HRS := Lib.hid hrs
    have HRD := Lib.hid hrd
    have HRV := Lib.hid hrv
    have HB := Lib.hid hbel
    have HSZ := Lib.hid hsz
    clear hrl hrs hrd hrv hsz
    by_cases hkn : k = na
    · subst hkn
      have HF : Hid (val W64 rs = a * b) := Lib.hid (by rw [HRV.out, HNA.out, List.take_length, HVX.out])
      clear hbel
      go_wp2_with fail
      refine trimmed_any _ rs _ (hA.sl _ _ (by rw [HRL.out]; exact HNN.out) (Nat.le_refl _)) HRS.out (by rw [HRL.out, ← HNN.out]; omega) _ ?_
      intro v' hv' _
      rw [HF.out] at hv'
      dsimp only
      go_wp2
      first | go_ret | skip
      exact HR.out _ _ hv' HB.out
    · have hkl : k < na := by omega
      obtain ⟨b1, o1, rfl, hb1, hc1⟩ := Sl.at HSA.out k hkl
      rw [← hbel.cell (p := ⟨b1, o1 + k, none⟩) hb1] at hc1
      obtain ⟨x, hx⟩ : ∃ x, x = xs.getD k 0 := ⟨_, rfl⟩
      rw [← hx] at hc1
      have HX := Lib.hid hx
      have HXL := Lib.hid (show x < W64 by rw [hx]; exact getD_lt (by rw [W64_eq]; omega) _ HXD.out _)
      have hw1 : IntKind.i64.wrap ((k : Int) + (nb : Int)) = ((k + nb : Nat) : Int) := by rw [IntWalk.i64_in _ (by have := HNN.out; omega)]; omega
      have hw2 : IntKind.i64.wrap ((k : Int) + 1) = ((k + 1 : Nat) : Int) := by rw [IntWalk.i64_in _ (by omega)]; omega
      obtain ⟨j, hj⟩ : ∃ j, j = k + nb := ⟨_, rfl⟩
      rw [← hj] at hw1
      have HJ := Lib.hid hj
      have hjn : (j : Int) < (n : Int) := by have := HNN.out; omega
      have hj0 : (0 : Int) ≤ (j : Int) := by omega
      have hkn2 : (k : Int) ≤ (n : Int) := by have := HNN.out; omega
      have hk0 : (0 : Int) ≤ (k : Int) := by omega
      have hkc : ¬ n = k := by have := HNN.out; omega
      have HSBr := Lib.hid (HSB.out.later hbel (Nat.le_refl _))
      have HK := Lib.hid hkl
      clear hx hj hbel
      go_wp2_with fail
      refine addp_any w.heap.size k (n - k) (n - k) rs (dig W64 b) _ x _ hA HSBr.out HBLK.out (by rw [HRL.out, ← HNB.out]; omega) (by rw [← HNB.out]; have := HNN.out; omega) HRS.out (limb_lt _) HXL.out (by rw [HRL.out]; have := HNN.out; omega) _ ?_
      intro zs c w1 hz1 hz2 hz3 hz4 hz5 hz6 hz7 hz8 hz9
      rw [val_dig W64_two, ← HNB.out] at hz6
      rw [← HNB.out] at hz5
      have hREL := times_rel w wr w1 w.heap.size na nb k x b c xs rs zs (c : Int) HK.out HNA.out.symm HX.out HRL.out HRD.out HRV.out hz1 hz2 hz3 hz5 hz6 hz7 HB.out HSZ.out hz8 hz9 rfl rfl
      rw [← HJ.out] at hREL
      have HREL := Lib.hid hREL
      have hcj := hz1.cell j (by rw [hz2, HRL.out, HJ.out]; have := HK.out; omega)
      have hfj := hz1.frozen j
      clear hz1 hz2 hz3 hz4 hz5 hz6 hz7 hz8 hz9 hREL
      dsimp only
      go_wp2
      go_roundw
      case rel => exact HREL.out
      case measure => simp [intOf]; have := HK.out; omega
end Go.Proofs.YtnfehccicnpbpaaGreatDoor

namespace Go.Proofs.YtnfehccicnpbpaaGreatDoor
open Go Go.RowKit

set_option maxRecDepth 100000 in
set_option maxHeartbeats 2000000 in
theorem readf_any (neg : Bool) (s1 s2 : ByteArray) (w : World) (hE : Env w) (hs1 : s1.size ≤ 250) (hs2 : s2.size ≤ 250) (R : Ending → World → Prop)
    (hR : ∀ v q w', digB s1.data.toList = true → digB s2.data.toList = true → 2 ≤ rdec s2.data.toList → Nat.gcd (rdec s1.data.toList) (rdec s2.data.toList) = 1 → q.num = sgn neg (rdec s1.data.toList) → q.den = rdec s2.data.toList →
      IsR w' v q → Below w.heap.size w w' → R (.returned (.tuple #[v, .nilIface])) w')
    (hR2 : ∀ e w', ¬ (digB s1.data.toList = true ∧ digB s2.data.toList = true ∧ 2 ≤ rdec s2.data.toList ∧ Nat.gcd (rdec s1.data.toList) (rdec s2.data.toList) = 1) → ErrV e → Below w.heap.size w w' → R (.returned (.tuple #[zeroR, e])) w') :
    Calls Tryz.prog 163 #[.bool neg, .string s1, .string s2] w R := by
  have HR := Lib.hid hR; clear hR
  have HR2 := Lib.hid hR2; clear hR2
  have hne1 : ¬ 1 = w.heap.size := by
    obtain ⟨⟨pf, hpf⟩, _, _⟩ := hE
    exact Nat.ne_of_lt (lt_of_cell hpf)
  have hne2 : ¬ w.heap.size = 1 := fun h => hne1 h.symm
  have HE := Lib.hid hE; clear hE
  obtain ⟨N1, hN1⟩ : ∃ N, N = rdec s1.data.toList := ⟨_, rfl⟩
  obtain ⟨N2, hN2⟩ : ∃ N, N = rdec s2.data.toList := ⟨_, rfl⟩
  obtain ⟨L, hL⟩ : ∃ L, L = w.alloc (.cells #[.bool false, .slice none 0 0, .slice none 0 0] 100) := ⟨_, rfl⟩
  have hbL : Below w.heap.size w L := by rw [hL]; exact (Below.refl _ _).alloc (Nat.le_refl _) _
  have hLs : L.heap.size = w.heap.size + 1 := by rw [hL]; simp
  have HL := Lib.hid hL
  have HBL := Lib.hid hbL
  have HLS := Lib.hid hLs
  have HBX : Hid (Box3 L w.heap.size (.bool false) (.slice none 0 0) (.slice none 0 0) 100) := Lib.hid (by rw [hL]; exact Box3.made _ _ _ _ _)
  have HN1 := Lib.hid hN1
  have HN2 := Lib.hid hN2
  clear hL hbL hLs hN1 hN2
  go_enter Tryz.func163, Tryz.ntmps163
  go_wp2_with fail
  rw [← HL.out]
  refine readd_any s1 L (HE.out.later HBL.out (Nat.le_refl _)) (by omega) _ ?_ ?_
  · intro v1 w1 hd1 hv1 hb1
    obtain ⟨a1, n1, c1, rfl, hv1'⟩ := hv1.op
    have HV1 := Lib.hid hv1'
    have HD1 := Lib.hid hd1
    have HB1 := Lib.hid (HBL.out.trans (hb1.mono (by have := HLS.out; omega)))
    have HX1 := Lib.hid (HBX.out.later hb1 (by have := HLS.out; omega))
    have HE1 := Lib.hid ((HE.out.later HBL.out (Nat.le_refl _)).later hb1 (Nat.le_refl _))
    clear hv1 hv1' hb1 hd1
    dsimp only
    go_wp2_with fail
    refine readd_any s2 w1 HE1.out (by omega) _ ?_ ?_
    · intro v2 w2 hd2 hv2 hb2
      obtain ⟨a2, n2, c2, rfl, hv2'⟩ := hv2.op
      have HV2 := Lib.hid hv2'
      have HV1b := Lib.hid (HV1.out.later hb2 (Nat.le_refl _))
      have HD2 := Lib.hid hd2
      have HB2 := Lib.hid (HB1.out.trans (hb2.mono HB1.out.size))
      have HX2 := Lib.hid (HX1.out.later hb2 (lt_of_block HX1.out))
      have HE2 := Lib.hid (HE1.out.later hb2 (Nat.le_refl _))
      obtain ⟨⟨hR0, hR1, hR2⟩, hF0, hF1, hF2⟩ := Box3.cells HX2.out
      obtain ⟨⟨pf, hpf⟩, _, _⟩ := HE2.out
      have hla : ∀ z : ByteArray, z.size ≤ 250 → z.data.toList.all isDig = true → (dig W64 (rdec z.data.toList)).length ≤ 250 := by
        intro z hz hall
        exact dig_length_ten (e := 250) (by rw [W64_eq]; omega) (Nat.lt_of_lt_of_le (rdec_lt _ hall) (Nat.pow_le_pow_right (by omega) (by rw [size_list]; exact hz)))
      have HLA1 := Lib.hid (hla s1 hs1 (digB_iff.1 HD1.out).1)
      have HLA2 := Lib.hid (hla s2 hs2 (digB_iff.1 HD2.out).1)
      clear hv2 hv2' hb2 hd2 hla
      dsimp only
      go_wp2_with fail
      refine nzero_any _ _ _ HV2.out _ ?_
      rw [← HN2.out]
      by_cases h0 : N2 = 0
      · rw [decide_eq_true h0]
        have HW := Lib.hid (show ¬ (digB s1.data.toList = true ∧ digB s2.data.toList = true ∧ 2 ≤ rdec s2.data.toList ∧ Nat.gcd (rdec s1.data.toList) (rdec s2.data.toList) = 1) by rw [← HN2.out]; omega)
        clear h0
        dsimp only
        go_wp2
        go_region
        all_goals
          go_wp2
          refine bodyPost_ret_at (by simp [results, Tryz.results163, go_sem, hR0, hR1, hR2, hF0, hF1, hF2] <;> rfl) rfl ?_
          first | exact HR2.out _ _ HW.out ⟨_, _, rfl⟩ (below_set3 HB2.out (Nat.le_refl _) _ _ _).drew | exact HR2.out _ _ HW.out ⟨_, _, rfl⟩ (below_set3 HB2.out (Nat.le_refl _) _ _ _)
      · rw [decide_eq_false h0]
        dsimp only
        go_wp2_with fail
        refine none_any _ _ _ HV2.out _ ?_
        rw [← HN2.out]
        by_cases h1 : N2 = 1
        · rw [decide_eq_true h1]
          have HW := Lib.hid (show ¬ (digB s1.data.toList = true ∧ digB s2.data.toList = true ∧ 2 ≤ rdec s2.data.toList ∧ Nat.gcd (rdec s1.data.toList) (rdec s2.data.toList) = 1) by rw [← HN2.out]; omega)
          clear h0 h1
          dsimp only
          go_wp2
          go_region
          all_goals
            go_wp2
            refine bodyPost_ret_at (by simp [results, Tryz.results163, go_sem, hR0, hR1, hR2, hF0, hF1, hF2] <;> rfl) rfl ?_
            first | exact HR2.out _ _ HW.out ⟨_, _, rfl⟩ (below_set3 HB2.out (Nat.le_refl _) _ _ _).drew | exact HR2.out _ _ HW.out ⟨_, _, rfl⟩ (below_set3 HB2.out (Nat.le_refl _) _ _ _)
        · rw [decide_eq_false h1]
          have H2 := Lib.hid (show 2 ≤ N2 by omega)
          clear h0 h1
          dsimp only
          go_wp2_with fail
          refine gcdn_any _ _ _ _ _ HV1b.out HV2.out (Nat.le_trans HLA1.out (by omega)) (Nat.le_trans HLA2.out (by omega)) _ ?_
          intro vg w3 hvg hb3
          obtain ⟨a3, n3, c3, rfl, hvg'⟩ := hvg.op
          have HVG := Lib.hid hvg'
          have HB3 := Lib.hid (HB2.out.trans (hb3.mono HB2.out.size))
          have HX3 := Lib.hid (HX2.out.later hb3 (lt_of_block HX2.out))
          have HV1c := Lib.hid (HV1b.out.later hb3 (Nat.le_refl _))
          have HV2c := Lib.hid (HV2.out.later hb3 (Nat.le_refl _))
          rw [← hb3.cell (p := ⟨1, 0, none⟩) (lt_of_cell hpf)] at hpf
          clear hvg hvg' hb3 hR0 hR1 hR2 hF0 hF1 hF2
          obtain ⟨⟨hR0, hR1, hR2⟩, hF0, hF1, hF2⟩ := Box3.cells HX3.out
          dsimp only
          go_wp2_with fail
          refine none_any _ _ _ HVG.out _ ?_
          by_cases hg : Nat.gcd (rdec s1.data.toList) (rdec s2.data.toList) = 1
          · rw [decide_eq_true hg]
            have HG := Lib.hid hg
            clear hg hpf
            dsimp only
            go_wp2_with fail
            refine integerOf_z neg _ _ _ HV1c.out _ ?_
            intro v4 w4 hz4 hb4
            obtain ⟨sz, rfl, hsz⟩ := hz4
            obtain ⟨a4, n4, c4, rfl, hsz'⟩ := hsz.op
            obtain ⟨ng, hng⟩ : ∃ ng, ng = decide (sgn neg (rdec s1.data.toList) < 0) := ⟨_, rfl⟩
            rw [← hng]
            have HNG := Lib.hid hng
            have HSZ := Lib.hid hsz'
            have HV2d := Lib.hid (HV2c.out.later hb4 (Nat.le_refl _))
            have HB4 := Lib.hid (HB3.out.trans (hb4.mono HB3.out.size))
            have HX4 := Lib.hid (HX3.out.later hb4 (lt_of_block HX3.out))
            clear hsz hsz' hb4 hng hR0 hR1 hR2 hF0 hF1 hF2
            obtain ⟨⟨hR0, hR1, hR2⟩, hF0, hF1, hF2⟩ := Box3.cells HX4.out
            have HNI := Lib.hid (HX4.out.noInt rfl rfl rfl)
            dsimp only
            go_wp2
            refine bodyPost_ret_at (by simp [results, Tryz.results163, go_sem, hR0, hR1, hR2, hF0, hF1, hF2] <;> rfl) rfl ?_
            have h2 := H2.out
            rw [HN2.out] at h2
            let q : Rat := ⟨sgn neg (rdec s1.data.toList), rdec s2.data.toList, by omega, by rw [sgn_abs]; exact HG.out⟩
            refine HR.out _ q _ HD1.out HD2.out h2 HG.out rfl rfl ⟨.slice a4 n4 c4, .slice a2 n2 c2, by rw [HNG.out], ?_, ?_⟩ (below_set3 HB4.out (Nat.le_refl _) _ _ _)
            · exact HSZ.out.set3 HNI.out _ _ _ rfl rfl
            · exact HV2d.out.set3 HNI.out _ _ _ rfl rfl
          · rw [decide_eq_false hg]
            have HW := Lib.hid (show ¬ (digB s1.data.toList = true ∧ digB s2.data.toList = true ∧ 2 ≤ rdec s2.data.toList ∧ Nat.gcd (rdec s1.data.toList) (rdec s2.data.toList) = 1) from fun h => hg h.2.2.2)
            clear hg
            dsimp only
            go_wp2
            go_region
            all_goals
              go_wp2
              refine bodyPost_ret_at (by simp [results, Tryz.results163, go_sem, hR0, hR1, hR2, hF0, hF1, hF2] <;> rfl) rfl ?_
              first | exact HR2.out _ _ HW.out ⟨_, _, rfl⟩ (below_set3 HB3.out (Nat.le_refl _) _ _ _).drew | exact HR2.out _ _ HW.out ⟨_, _, rfl⟩ (below_set3 HB3.out (Nat.le_refl _) _ _ _)
    · intro e w2 hd2 he hb2
      obtain ⟨t, p, rfl⟩ := he
      have HW := Lib.hid (show ¬ (digB s1.data.toList = true ∧ digB s2.data.toList = true ∧ 2 ≤ rdec s2.data.toList ∧ Nat.gcd (rdec s1.data.toList) (rdec s2.data.toList) = 1) from fun h => by rw [hd2] at h; exact absurd h.2.1 (by simp))
      have HB2 := Lib.hid (HB1.out.trans (hb2.mono HB1.out.size))
      have HX2 := Lib.hid (HX1.out.later hb2 (lt_of_block HX1.out))
      obtain ⟨⟨hR0, hR1, hR2⟩, hF0, hF1, hF2⟩ := Box3.cells HX2.out
      clear hd2 hb2
      dsimp only
      go_wp2
      refine bodyPost_ret_at (by simp [results, Tryz.results163, go_sem, hR0, hR1, hR2, hF0, hF1, hF2] <;> rfl) rfl ?_
      first | exact HR2.out _ _ HW.out ⟨_, _, rfl⟩ (below_set3 HB2.out (Nat.le_refl _) _ _ _).drew | exact HR2.out _ _ HW.out ⟨_, _, rfl⟩ (below_set3 HB2.out (Nat.le_refl _) _ _ _)
  · intro e w1 hd1 he hb1
    obtain ⟨t, p, rfl⟩ := he
    have HW := Lib.hid (show ¬ (digB s1.data.toList = true ∧ digB s2.data.toList = true ∧ 2 ≤ rdec s2.data.toList ∧ Nat.gcd (rdec s1.data.toList) (rdec s2.data.toList) = 1) from fun h => by rw [hd1] at h; exact absurd h.1 (by simp))
    have HB1 := Lib.hid (HBL.out.trans (hb1.mono (by have := HLS.out; omega)))
    have HX1 := Lib.hid (HBX.out.later hb1 (by have := HLS.out; omega))
    obtain ⟨⟨hR0, hR1, hR2⟩, hF0, hF1, hF2⟩ := Box3.cells HX1.out
    clear hd1 hb1
    dsimp only
    go_wp2
    refine bodyPost_ret_at (by simp [results, Tryz.results163, go_sem, hR0, hR1, hR2, hF0, hF1, hF2] <;> rfl) rfl ?_
    exact HR2.out _ _ HW.out ⟨_, _, rfl⟩ (below_set3 (by first | exact HB1.out | exact HB1.out.drew) (Nat.le_refl _) _ _ _)
end Go.Proofs.YtnfehccicnpbpaaGreatDoor

namespace Go.Proofs.YtnfehccicnpbpaaGreatDoor
open Go Go.RowKit Go.Extern.Stop Go.Stop Go.Extern

/-- errors.As(nil, target). -/
theorem as_nil (t : Value) (w : World) :
    Calls Tryz.prog 162 #[.nilIface, t] w fun e w' => e = .returned (.bool false) ∧ w' = w := by
  go_enter Tryz.func162, Tryz.ntmps162
  go_wp2
  go_ret
  exact ⟨rfl, rfl⟩

theorem as_valueOf27 (t : Addr) (w : World) : (ReflectliteValue.unpack (.iface 199 (.pointer (some t)))).run Tryz.prog w
    = .ok (.agg #[.pointer (some ⟨9, 199, none⟩), .pointer (some ⟨w.heap.size, 0, none⟩), .int .u64 150]) (w.alloc (.cells #[.pointer (some t)] 199)) := by kernel_rfl
theorem as_type27 (a : Addr) (w : World) : (ReflectliteValue.methodAny (ReflectliteValue.valueError "reflectlite.Value.Type" 0) (fun t _ _ _ => ReflectliteType.toType t) #[.agg #[.pointer (some ⟨9, 199, none⟩), .pointer (some a), .int .u64 150]]).run Tryz.prog w
    = .ok (.iface 262 (.agg #[.pointer (some ⟨9, 199, none⟩)])) w := by kernel_rfl
theorem as_methodKind (h : Value) (w : World) : (Go.method 417 262 (.agg #[h]) "Kind").run Tryz.prog w = .ok (254, h) w := by kernel_rfl
theorem as_kind27 (w : World) : ((ReflectliteType.abiMethod fun t => (fun a : Nat => Value.int IntKind.u8 (a : Int)) <$> Rtype.kind t) #[.pointer (some ⟨9, 199, none⟩)]).run Tryz.prog w = .ok (.int .u8 22) w := by kernel_rfl
theorem as_kind25 (w : World) : ((ReflectliteType.abiMethod fun t => (fun a : Nat => Value.int IntKind.u8 (a : Int)) <$> Rtype.kind t) #[.pointer (some ⟨9, 197, none⟩)]).run Tryz.prog w = .ok (.int .u8 22) w := by kernel_rfl

theorem as_rlm (z : Sem Value) (f : TypeId → Addr → Nat → Nat → Sem Value) (v : Value) :
    ReflectliteValue.method z f #[v] = (do match ← ReflectliteValue.parts v with | none => z | some (t, a, fl) => f t a fl (fl % 32)) := rfl
theorem as_parts27 (a : Addr) (w : World) : (ReflectliteValue.parts (.agg #[.pointer (some ⟨9, 199, none⟩), .pointer (some a), .int .u64 150])).run Tryz.prog w = .ok (some (199, a, 150)) w := by kernel_rfl
/-- (Value).IsNil at the Value of a **p.E that is not nil. -/
theorem as_isNil27 (a p : Addr) (W : World) (ha : W.cell? a = some (.pointer (some p))) :
    (ReflectliteValue.method (ReflectliteValue.valueError "reflectlite.Value.IsNil" 0) ReflectliteValue.isNil #[.agg #[.pointer (some ⟨9, 199, none⟩), .pointer (some a), .int .u64 150]]).run Tryz.prog W = .ok (.bool false) W := by
  rw [as_rlm]
  simp only [Sem.run_bind, as_parts27, Result.andThen]
  simp [ReflectliteValue.isNil, loadVar, isAgg, underlying, Tryz.underlying199, ha, Result.andThen]

theorem as_methodElem (h : Value) (w : World) : (Go.method 417 262 (.agg #[h]) "Elem").run Tryz.prog w = .ok (270, .agg #[h]) w := by kernel_rfl
theorem as_methodImplements (h : Value) (w : World) : (Go.method 417 262 (.agg #[h]) "Implements").run Tryz.prog w = .ok (271, .agg #[h]) w := by kernel_rfl
theorem as_methodAssignableTo (h : Value) (w : World) : (Go.method 417 262 (.agg #[h]) "AssignableTo").run Tryz.prog w = .ok (268, .agg #[h]) w := by kernel_rfl
theorem as_elem27 (w : World) : (ReflectliteType.method ReflectliteType.elem #[.agg #[.pointer (some ⟨9, 199, none⟩)]]).run Tryz.prog w = .ok (.iface 262 (.agg #[.pointer (some ⟨9, 197, none⟩)])) w := by kernel_rfl
theorem as_implements25 (w : World) : (ReflectliteType.relation "Implements" ReflectliteType.implements_ #[.agg #[.pointer (some ⟨9, 197, none⟩)], .iface 262 (.agg #[.pointer (some ⟨9, 67, none⟩)])]).run Tryz.prog w = .ok (.bool true) w := by kernel_rfl
theorem as_typeOf25 (v : Value) (w : World) : (ReflectliteType.typeOf #[.iface 197 v]).run Tryz.prog w = .ok (.iface 262 (.agg #[.pointer (some ⟨9, 197, none⟩)])) w := by kernel_rfl
theorem as_assignable25 (w : World) : (ReflectliteType.relation "AssignableTo" ReflectliteType.assignableTo #[.agg #[.pointer (some ⟨9, 197, none⟩)], .iface 262 (.agg #[.pointer (some ⟨9, 197, none⟩)])]).run Tryz.prog w = .ok (.bool true) w := by kernel_rfl
theorem as_valueOf25 (e : Addr) (w : World) : (ReflectliteValue.unpack (.iface 197 (.pointer (some e)))).run Tryz.prog w
    = .ok (.agg #[.pointer (some ⟨9, 197, none⟩), .pointer (some ⟨w.heap.size, 0, none⟩), .int .u64 150]) (w.alloc (.cells #[.pointer (some e)] 197)) := by kernel_rfl

theorem as_elemOf27 (w : World) : (Rtype.elem? 199).run Tryz.prog w = .ok (some 197) w := by kernel_rfl
theorem as_mk25 (p : Addr) (w : World) : (ReflectliteValue.mk 197 p ReflectliteValue.flagAddr).run Tryz.prog w = .ok (.agg #[.pointer (some ⟨9, 197, none⟩), .pointer (some p), .int .u64 406]) w := by kernel_rfl
/-- (Value).Elem at the Value of a **p.E that is not nil: the Value of the *p.E variable that it points to, addressable. -/
theorem as_elemV27 (a p : Addr) (W : World) (ha : W.cell? a = some (.pointer (some p))) :
    (ReflectliteValue.method (ReflectliteValue.valueError "reflectlite.Value.Elem" 0) ReflectliteValue.elem #[.agg #[.pointer (some ⟨9, 199, none⟩), .pointer (some a), .int .u64 150]]).run Tryz.prog W
      = .ok (.agg #[.pointer (some ⟨9, 197, none⟩), .pointer (some p), .int .u64 406]) W := by
  rw [as_rlm]
  simp only [Sem.run_bind, as_parts27, Result.andThen]
  simp [ReflectliteValue.elem, loadVar, isAgg, underlying, Tryz.underlying199, ha, Result.andThen, as_elemOf27, as_mk25]
theorem as_rls (v x : Value) : ReflectliteValue.set #[v, x] = (do
    let (some (dst, a, fl), some (src, b, _)) := (← ReflectliteValue.parts v, ← ReflectliteValue.parts x)
      | unsupported (.noEntry "extern/(internal/reflectlite.Value).Set.zeroValue")
    if fl / ReflectliteValue.flagAddr % 2 == 0 then unsupported (.noEntry "extern/(internal/reflectlite.Value).Set.unaddressable")
    let val ← loadVar src b
    if ← Rtype.directlyAssignable dst src then storeVar dst a val
    else if ← Rtype.implements dst src then
      if (← Rtype.kind src) == 20 then
        match val with
        | .nilIface => unsupported (.noEntry "extern/reflectlite: a nil value of one interface type handed on as a value of another")
        | _ => storeVar dst a val
      else storeVar dst a (.iface src val)
    else panicString ("reflectlite.Set: value of type " ++ (← Rtype.spelt src) ++ " is not assignable to type " ++ (← Rtype.spelt dst))
    pure (.tuple #[])) := rfl
theorem as_parts25a (a : Addr) (w : World) : (ReflectliteValue.parts (.agg #[.pointer (some ⟨9, 197, none⟩), .pointer (some a), .int .u64 406])).run Tryz.prog w = .ok (some (197, a, 406)) w := by kernel_rfl
theorem as_parts25 (a : Addr) (w : World) : (ReflectliteValue.parts (.agg #[.pointer (some ⟨9, 197, none⟩), .pointer (some a), .int .u64 150])).run Tryz.prog w = .ok (some (197, a, 150)) w := by kernel_rfl
theorem as_direct25 (w : World) : (Rtype.directlyAssignable 197 197).run Tryz.prog w = .ok true w := by kernel_rfl
theorem as_size25 (w : World) : (sizeOf 197).run Tryz.prog w = .ok 1 w := by kernel_rfl
/-- (Value).Set: the *p.E variable at 'ta' gets what the Value's own variable 'b' holds. -/
theorem as_set25 (ta b e : Addr) (old : Value) (W : World) (hb : W.cell? b = some (.pointer (some e))) (ht : W.cell? ta = some old) (hf : W.frozen? ta = false) :
    (ReflectliteValue.set #[.agg #[.pointer (some ⟨9, 197, none⟩), .pointer (some ta), .int .u64 406], .agg #[.pointer (some ⟨9, 197, none⟩), .pointer (some b), .int .u64 150]]).run Tryz.prog W
      = .ok (.tuple #[]) (W.setCell ta (.pointer (some e))) := by
  rw [as_rls]
  simp only [Sem.run_bind, as_parts25a, as_parts25, Result.andThen]
  simp [ReflectliteValue.flagAddr, loadVar, isAgg, underlying, Tryz.underlying197, hb, Result.andThen, as_direct25, storeVar, Value.cells, storeCells, Addr.add]
  rw [run_store Tryz.prog W ta _ _ (by rfl)]
  simp [ht, hf]

set_option maxHeartbeats 4000000 in
theorem as_hit (e t : Addr) (old : Value) (w : World) (hg : w.cell? ⟨2, 0, none⟩ = some (.iface 262 (.agg #[.pointer (some ⟨9, 67, none⟩)]))) (ht0 : w.cell? t = some old) (hf0 : w.frozen? t = false) :
    Calls Tryz.prog 162 #[.iface 197 (.pointer (some e)), .iface 199 (.pointer (some t))] w fun ev w' => ev = .returned (.bool true) ∧ w' = ((((w.alloc (.cells #[.pointer (some t)] 199)).alloc (.cells #[.pointer (some ⟨9, 199, none⟩), .pointer (some ⟨w.heap.size, 0, none⟩), .int .u64 150] 234)).alloc (.cells #[.pointer (some ⟨9, 199, none⟩), .pointer (some ⟨w.heap.size, 0, none⟩), .int .u64 150] 234)).alloc (.cells #[.pointer (some e)] 197)).setCell t (.pointer (some e)) := by
  have h6 := @run_callFunc_extern Tryz.prog 200 _ (fun args => ReflectliteValue.unpack (args.getD 0 (.tuple #[]))) Tryz.func200 (by kernel_rfl) (by kernel_rfl) (by kernel_rfl) (by kernel_rfl)
  have h7 := @run_callFunc_extern Tryz.prog 201 _ (ReflectliteValue.methodAny (ReflectliteValue.valueError "reflectlite.Value.Type" 0) (fun t _ _ _ => ReflectliteType.toType t)) Tryz.func201 (by kernel_rfl) (by kernel_rfl) (by kernel_rfl) (by kernel_rfl)
  have h8 := @run_callFunc_extern Tryz.prog 202 _ (ReflectliteValue.method (ReflectliteValue.valueError "reflectlite.Value.IsNil" 0) ReflectliteValue.isNil) Tryz.func202 (by kernel_rfl) (by kernel_rfl) (by kernel_rfl) (by kernel_rfl)
  have h27 := @run_callFunc_extern Tryz.prog 254 _ (ReflectliteType.abiMethod fun t => do pure (.int .u8 (← Rtype.kind t))) Tryz.func254 (by kernel_rfl) (by kernel_rfl) (by kernel_rfl) (by kernel_rfl)
  have h37 := @run_callFunc_extern Tryz.prog 270 _ (ReflectliteType.method ReflectliteType.elem) Tryz.func270 (by kernel_rfl) (by kernel_rfl) (by kernel_rfl) (by kernel_rfl)
  have h38 := @run_callFunc_extern Tryz.prog 271 _ (ReflectliteType.relation "Implements" ReflectliteType.implements_) Tryz.func271 (by kernel_rfl) (by kernel_rfl) (by kernel_rfl) (by kernel_rfl)
  have h10 := @run_callFunc_extern Tryz.prog 226 _ ReflectliteType.typeOf Tryz.func226 (by kernel_rfl) (by kernel_rfl) (by kernel_rfl) (by kernel_rfl)
  have h35 := @run_callFunc_extern Tryz.prog 268 _ (ReflectliteType.relation "AssignableTo" ReflectliteType.assignableTo) Tryz.func268 (by kernel_rfl) (by kernel_rfl) (by kernel_rfl) (by kernel_rfl)
  have h11 := @run_callFunc_extern Tryz.prog 227 _ (ReflectliteValue.method (ReflectliteValue.valueError "reflectlite.Value.Elem" 0) ReflectliteValue.elem) Tryz.func227 (by kernel_rfl) (by kernel_rfl) (by kernel_rfl) (by kernel_rfl)
  have h12 := @run_callFunc_extern Tryz.prog 228 _ ReflectliteValue.set Tryz.func228 (by kernel_rfl) (by kernel_rfl) (by kernel_rfl) (by kernel_rfl)
  have tO := as_typeOf25
  have mA := as_methodAssignableTo
  have a25 := as_assignable25
  have v25 := as_valueOf25
  have f6 := as_valueOf27
  have f7 := as_type27
  have mK := as_methodKind
  have mE := as_methodElem
  have mI := as_methodImplements
  have k27 := as_kind27
  have k25 := as_kind25
  have e27 := as_elem27
  have i25 := as_implements25
  have n8 := as_isNil27 ⟨w.heap.size, 0, none⟩ t ((w.alloc (.cells #[.pointer (some t)] 199)).alloc (.cells #[.pointer (some ⟨9, 199, none⟩), .pointer (some ⟨w.heap.size, 0, none⟩), .int .u64 150] 234)) (by simp)
  have hlt : 2 < w.heap.size := by
    exact lt_of_cell hg
  have hg2 : ((w.alloc (.cells #[.pointer (some t)] 199)).alloc (.cells #[.pointer (some ⟨9, 199, none⟩), .pointer (some ⟨w.heap.size, 0, none⟩), .int .u64 150] 234)).cell? ⟨2, 0, none⟩ = some (.iface 262 (.agg #[.pointer (some ⟨9, 67, none⟩)])) := by
    rw [World.cell?_alloc_lt _ _ ⟨2, 0, none⟩ (by simp; omega), World.cell?_alloc_lt _ _ ⟨2, 0, none⟩ hlt]; exact hg
  have htl : t.block < w.heap.size := by
    rcases Nat.lt_or_ge t.block w.heap.size with h | h
    · exact h
    · simp [World.cell?, Array.getElem?_eq_none h] at ht0
  have el := as_elemV27 ⟨w.heap.size, 0, none⟩ t (((w.alloc (.cells #[.pointer (some t)] 199)).alloc (.cells #[.pointer (some ⟨9, 199, none⟩), .pointer (some ⟨w.heap.size, 0, none⟩), .int .u64 150] 234)).alloc (.cells #[.pointer (some ⟨9, 199, none⟩), .pointer (some ⟨w.heap.size, 0, none⟩), .int .u64 150] 234)) (by rw [World.cell?_alloc_lt _ _ ⟨w.heap.size, 0, none⟩ (by simp; omega)]; simp)
  have st := as_set25 t ⟨w.heap.size + 1 + 1 + 1, 0, none⟩ e old ((((w.alloc (.cells #[.pointer (some t)] 199)).alloc (.cells #[.pointer (some ⟨9, 199, none⟩), .pointer (some ⟨w.heap.size, 0, none⟩), .int .u64 150] 234)).alloc (.cells #[.pointer (some ⟨9, 199, none⟩), .pointer (some ⟨w.heap.size, 0, none⟩), .int .u64 150] 234)).alloc (.cells #[.pointer (some e)] 197))
    (by rw [World.cell?_alloc_at _ _ _ _ (by simp)]; rfl)
    (by rw [World.cell?_alloc_lt _ _ t (by simp; omega), World.cell?_alloc_lt _ _ t (by simp; omega), World.cell?_alloc_lt _ _ t (by simp; omega), World.cell?_alloc_lt _ _ t htl]; exact ht0)
    (by rw [World.frozen?_alloc_old _ _ t (by simp; omega), World.frozen?_alloc_old _ _ t (by simp; omega), World.frozen?_alloc_old _ _ t (by simp; omega), World.frozen?_alloc_old _ _ t (Nat.ne_of_lt htl)]; exact hf0)
  go_enter Tryz.func162, Tryz.ntmps162
  go_wp2
  refine wp_loop_rounds 1 ?_
  rw [rounds_succ]
  go_wp2
  go_ret
  exact ⟨rfl, rfl⟩
end Go.Proofs.YtnfehccicnpbpaaGreatDoor

namespace Go.Proofs.YtnfehccicnpbpaaGreatDoor
open Go Go.RowKit Go.Extern.Stop Go.Stop Go.Extern

theorem as_typeOfS (v : Value) (w : World) : (ReflectliteType.typeOf #[.iface 286 v]).run Tryz.prog w = .ok (.iface 262 (.agg #[.pointer (some ⟨9, 286, none⟩)])) w := by kernel_rfl
theorem as_assignableS (w : World) : (ReflectliteType.relation "AssignableTo" ReflectliteType.assignableTo #[.agg #[.pointer (some ⟨9, 286, none⟩)], .iface 262 (.agg #[.pointer (some ⟨9, 197, none⟩)])]).run Tryz.prog w = .ok (.bool false) w := by kernel_rfl

theorem as_no1 (v : Value) (xT : TypeId) (w : World) : (Instr.typeAssert (.iface 286 v) xT 267 true).run Tryz.prog w = .ok (.tuple #[.nilIface, .bool false]) w := run_typeAssert_lacksB Tryz.underlying267 (by kernel_rfl) (by kernel_rfl) v xT w
theorem as_no2 (v : Value) (xT : TypeId) (w : World) : (Instr.typeAssert (.iface 286 v) xT 270 true).run Tryz.prog w = .ok (.tuple #[.nilIface, .bool false]) w := run_typeAssert_lacksB Tryz.underlying270 (by kernel_rfl) (by kernel_rfl) v xT w
theorem as_no3 (v : Value) (xT : TypeId) (w : World) : (Instr.typeAssert (.iface 286 v) xT 272 true).run Tryz.prog w = .ok (.tuple #[.nilIface, .bool false]) w := run_typeAssert_lacksB Tryz.underlying272 (by kernel_rfl) (by kernel_rfl) v xT w

set_option maxRecDepth 100000 in
set_option maxHeartbeats 4000000 in
theorem as_miss (e t : Addr) (old : Value) (w : World) (hg : w.cell? ⟨2, 0, none⟩ = some (.iface 262 (.agg #[.pointer (some ⟨9, 67, none⟩)]))) (ht0 : w.cell? t = some old) (hf0 : w.frozen? t = false) :
    Calls Tryz.prog 162 #[.iface 286 (.pointer (some e)), .iface 199 (.pointer (some t))] w fun ev w' => ev = .returned (.bool false) ∧ w' = (((w.alloc (.cells #[.pointer (some t)] 199)).alloc (.cells #[.pointer (some ⟨9, 199, none⟩), .pointer (some ⟨w.heap.size, 0, none⟩), .int .u64 150] 234)).alloc (.cells #[.pointer (some ⟨9, 199, none⟩), .pointer (some ⟨w.heap.size, 0, none⟩), .int .u64 150] 234)) := by
  have h6 := @run_callFunc_extern Tryz.prog 200 _ (fun args => ReflectliteValue.unpack (args.getD 0 (.tuple #[]))) Tryz.func200 (by kernel_rfl) (by kernel_rfl) (by kernel_rfl) (by kernel_rfl)
  have h7 := @run_callFunc_extern Tryz.prog 201 _ (ReflectliteValue.methodAny (ReflectliteValue.valueError "reflectlite.Value.Type" 0) (fun t _ _ _ => ReflectliteType.toType t)) Tryz.func201 (by kernel_rfl) (by kernel_rfl) (by kernel_rfl) (by kernel_rfl)
  have h8 := @run_callFunc_extern Tryz.prog 202 _ (ReflectliteValue.method (ReflectliteValue.valueError "reflectlite.Value.IsNil" 0) ReflectliteValue.isNil) Tryz.func202 (by kernel_rfl) (by kernel_rfl) (by kernel_rfl) (by kernel_rfl)
  have h27 := @run_callFunc_extern Tryz.prog 254 _ (ReflectliteType.abiMethod fun t => do pure (.int .u8 (← Rtype.kind t))) Tryz.func254 (by kernel_rfl) (by kernel_rfl) (by kernel_rfl) (by kernel_rfl)
  have h37 := @run_callFunc_extern Tryz.prog 270 _ (ReflectliteType.method ReflectliteType.elem) Tryz.func270 (by kernel_rfl) (by kernel_rfl) (by kernel_rfl) (by kernel_rfl)
  have h38 := @run_callFunc_extern Tryz.prog 271 _ (ReflectliteType.relation "Implements" ReflectliteType.implements_) Tryz.func271 (by kernel_rfl) (by kernel_rfl) (by kernel_rfl) (by kernel_rfl)
  have h10 := @run_callFunc_extern Tryz.prog 226 _ ReflectliteType.typeOf Tryz.func226 (by kernel_rfl) (by kernel_rfl) (by kernel_rfl) (by kernel_rfl)
  have h35 := @run_callFunc_extern Tryz.prog 268 _ (ReflectliteType.relation "AssignableTo" ReflectliteType.assignableTo) Tryz.func268 (by kernel_rfl) (by kernel_rfl) (by kernel_rfl) (by kernel_rfl)
  have no1 := as_no1
  have no2 := as_no2
  have no3 := as_no3
  have tO := as_typeOfS
  have mA := as_methodAssignableTo
  have a25 := as_assignableS
  have f6 := as_valueOf27
  have f7 := as_type27
  have mK := as_methodKind
  have mE := as_methodElem
  have mI := as_methodImplements
  have k27 := as_kind27
  have k25 := as_kind25
  have e27 := as_elem27
  have i25 := as_implements25
  have n8 := as_isNil27 ⟨w.heap.size, 0, none⟩ t ((w.alloc (.cells #[.pointer (some t)] 199)).alloc (.cells #[.pointer (some ⟨9, 199, none⟩), .pointer (some ⟨w.heap.size, 0, none⟩), .int .u64 150] 234)) (by simp)
  have hlt : 2 < w.heap.size := by
    exact lt_of_cell hg
  have hg2 : ((w.alloc (.cells #[.pointer (some t)] 199)).alloc (.cells #[.pointer (some ⟨9, 199, none⟩), .pointer (some ⟨w.heap.size, 0, none⟩), .int .u64 150] 234)).cell? ⟨2, 0, none⟩ = some (.iface 262 (.agg #[.pointer (some ⟨9, 67, none⟩)])) := by
    rw [World.cell?_alloc_lt _ _ ⟨2, 0, none⟩ (by simp; omega), World.cell?_alloc_lt _ _ ⟨2, 0, none⟩ hlt]; exact hg
  have htl : t.block < w.heap.size := by
    rcases Nat.lt_or_ge t.block w.heap.size with h | h
    · exact h
    · simp [World.cell?, Array.getElem?_eq_none h] at ht0
  go_enter Tryz.func162, Tryz.ntmps162
  go_wp2
  refine wp_loop_rounds 1 ?_
  rw [rounds_succ]
  go_wp2
  go_ret
  exact ⟨rfl, rfl⟩
end Go.Proofs.YtnfehccicnpbpaaGreatDoor

namespace Go.Proofs.YtnfehccicnpbpaaGreatDoor
open Go Go.RowKit

theorem as_hitR (e : Addr) (b : Nat) (old : Value) (w : World) (hE : Env w) (ht0 : w.cell? ⟨b, 0, none⟩ = some old) (hf0 : w.frozen? ⟨b, 0, none⟩ = false) (R : Ending → World → Prop)
    (hR : ∀ w', Below b w w' → w'.cell? ⟨b, 0, none⟩ = some (.pointer (some e)) → R (.returned (.bool true)) w') :
    Calls Tryz.prog 162 #[.iface 197 (.pointer (some e)), .iface 199 (.pointer (some ⟨b, 0, none⟩))] w R := by
  have hlt := lt_of_cell ht0
  refine (as_hit e ⟨b, 0, none⟩ old w hE.ty ht0 hf0).mono ?_
  rintro ev w' ⟨rfl, rfl⟩
  have hb : ∀ B, B ≤ w.heap.size → Below B w ((((w.alloc (.cells #[.pointer (some ⟨b, 0, none⟩)] 199)).alloc (.cells #[.pointer (some ⟨9, 199, none⟩), .pointer (some ⟨w.heap.size, 0, none⟩), .int .u64 150] 234)).alloc (.cells #[.pointer (some ⟨9, 199, none⟩), .pointer (some ⟨w.heap.size, 0, none⟩), .int .u64 150] 234)).alloc (.cells #[.pointer (some e)] 197)) := fun B hB =>
    ((((Below.refl _ _).alloc hB _).alloc (by simp; omega) _).alloc (by simp; omega) _).alloc (by simp; omega) _
  refine hR _ ((hb b (by omega)).setCell (Nat.le_refl _) _) ?_
  refine World.cell?_setCell_same (u := old) _ _ _ ?_
  rw [(hb _ (Nat.le_refl _)).cell (p := ⟨b, 0, none⟩) hlt]
  exact ht0

theorem as_missR (e : Addr) (b : Nat) (old : Value) (w : World) (hE : Env w) (ht0 : w.cell? ⟨b, 0, none⟩ = some old) (hf0 : w.frozen? ⟨b, 0, none⟩ = false) (R : Ending → World → Prop)
    (hR : ∀ w', Below w.heap.size w w' → R (.returned (.bool false)) w') :
    Calls Tryz.prog 162 #[.iface 286 (.pointer (some e)), .iface 199 (.pointer (some ⟨b, 0, none⟩))] w R := by
  refine (as_miss e ⟨b, 0, none⟩ old w hE.ty ht0 hf0).mono ?_
  rintro ev w' ⟨rfl, rfl⟩
  exact hR _ ((((Below.refl _ _).alloc (Nat.le_refl _) _).alloc (by simp) _).alloc (by simp; omega) _)

theorem as_nilR (t : Value) (w : World) (R : Ending → World → Prop) (hR : R (.returned (.bool false)) w) :
    Calls Tryz.prog 162 #[.nilIface, t] w R := by
  refine (as_nil t w).mono ?_
  rintro ev w' ⟨rfl, rfl⟩
  exact hR

/-- what strings.CutPrefix makes of a text that may begin with '-' -/
theorem cutp_any (s : ByteArray) (neg : Bool) (D r : List UInt8) (hp : Parts s.data.toList neg D r) (w : World) (R : Ending → World → Prop)
    (hR : ∀ T : ByteArray, T.data.toList = D ++ r → R (.returned (.tuple #[.string T, .bool neg])) w) :
    Calls Tryz.prog 160 #[.string s, .string { data := #[45] }] w R := by
  have h1 : Lib.hasPrefix s.data.toList [45] = neg := by
    obtain ⟨h1, h2, _⟩ := hp
    unfold Lib.hasPrefix
    cases neg
    · have h2 := h2 rfl
      generalize s.data.toList = L at *
      cases L with
      | nil => rfl
      | cons c t =>
        simp at h2
        simp [List.isPrefixOf, Ne.symm h2]
    · rw [h1]; simp [List.isPrefixOf]
  have h2 : Lib.trimPrefix s.data.toList [45] = D ++ r := by
    unfold Lib.trimPrefix
    rw [h1, hp.1]
    cases neg <;> simp
  refine (Tryz.strings_CutPrefix s { data := #[45] } w).mono ?_
  rintro ev w' ⟨rfl, rfl⟩
  have h3 : ({ data := #[45] } : ByteArray).data.toList = [45] := rfl
  rw [h3, h1, h2]
  exact hR ⟨(D ++ r).toArray⟩ (by simp)

/-- a text of a number has at most 122 bytes -/
theorem numB_len {L : List UInt8} (h : 122 < L.length) : numB L = false := by
  obtain ⟨neg, D, r, hp⟩ := parts_exist L
  refine numB_parts hp fun q hq => ?_
  obtain ⟨hD, hq⟩ := hq
  have hl := (digB_iff.1 hD).2.2.1
  have hL := congrArg List.length hp.1
  have hn : (if neg = true then [45] else ([] : List UInt8)).length ≤ 1 := by cases neg <;> simp
  rw [List.length_append, List.length_append] at hL
  rcases hq with ⟨rfl, _⟩ | ⟨E, rfl, hE, _⟩
  · simp at hL; omega
  · have hlE := (digB_iff.1 hE).2.2.1
    simp at hL; omega
end Go.Proofs.YtnfehccicnpbpaaGreatDoor

namespace Go.Proofs.YtnfehccicnpbpaaGreatDoor
open Go Go.RowKit

set_option maxRecDepth 100000 in
set_option maxHeartbeats 1000000 in
theorem readr_long (s : ByteArray) (w : World) (hE : Env w) (hs : 122 < s.size) (R : Ending → World → Prop)
    (hR2 : ∀ e w', ErrV e → Below w.heap.size w w' → R (.returned (.tuple #[zeroR, e])) w') :
    Calls Tryz.prog 117 #[.string s] w R := by
  have HR2 := Lib.hid hR2; clear hR2
  have hsi : (122 : Int) < (s.size : Int) := by omega
  have hne1 : ¬ 0 = w.heap.size := by
    obtain ⟨_, ⟨pf, hpf⟩, _⟩ := hE
    exact Nat.ne_of_lt (lt_of_cell hpf)
  have hne2 : ¬ w.heap.size = 0 := fun h => hne1 h.symm
  obtain ⟨L, hL⟩ : ∃ L, L = w.alloc (.cells #[.bool false, .slice none 0 0, .slice none 0 0] 100) := ⟨_, rfl⟩
  have hbL : Below w.heap.size w L := by rw [hL]; exact (Below.refl _ _).alloc (Nat.le_refl _) _
  have HBX : Box3 L w.heap.size (.bool false) (.slice none 0 0) (.slice none 0 0) 100 := by rw [hL]; exact Box3.made _ _ _ _ _
  obtain ⟨_, ⟨pf, hpf⟩, _⟩ := hE.later hbL (Nat.le_refl _)
  obtain ⟨⟨hR0, hR1, hR2⟩, hF0, hF1, hF2⟩ := Box3.cells HBX
  have HL := Lib.hid hL
  have HBL := Lib.hid hbL
  clear hL hbL HBX hE hs
  go_enter Tryz.func117, Tryz.ntmps117
  go_upto_region 2 with fail
  rw [← HL.out]
  go_region
  all_goals
    go_wp2
    refine bodyPost_ret_at (by simp [results, Tryz.results117, go_sem, hR0, hR1, hR2, hF0, hF1, hF2] <;> rfl) rfl ?_
    first | exact HR2.out _ _ ⟨_, _, rfl⟩ (below_set3 HBL.out (Nat.le_refl _) _ _ _).drew | exact HR2.out _ _ ⟨_, _, rfl⟩ (below_set3 HBL.out (Nat.le_refl _) _ _ _)
end Go.Proofs.YtnfehccicnpbpaaGreatDoor

namespace Go.Proofs.YtnfehccicnpbpaaGreatDoor
open Go Go.RowKit

set_option maxRecDepth 100000 in
set_option maxHeartbeats 2000000 in
theorem readr_digits (s : ByteArray) (neg : Bool) (D : List UInt8) (hp : Parts s.data.toList neg D []) (hD : D.all isDig = true) (w : World) (hE : Env w) (hs : s.size ≤ 122) (R : Ending → World → Prop)
    (hR : ∀ v w', digB D = true → ¬ (neg = true ∧ rdec D = 0) → IsR w' v ((sgn neg (rdec D) : Int) : Rat) → Below w.heap.size w w' → R (.returned (.tuple #[v, .nilIface])) w')
    (hR2 : ∀ e w', ¬ (digB D = true ∧ ¬ (neg = true ∧ rdec D = 0)) → ErrV e → Below w.heap.size w w' → R (.returned (.tuple #[zeroR, e])) w') :
    Calls Tryz.prog 117 #[.string s] w R := by
  have HR := Lib.hid hR; clear hR
  have HR2 := Lib.hid hR2; clear hR2
  have hsi : ¬ (122 : Int) < (s.size : Int) := by omega
  have hne1 : ¬ 1 = w.heap.size := by
    obtain ⟨⟨pf, hpf⟩, _, _⟩ := hE
    exact Nat.ne_of_lt (lt_of_cell hpf)
  have hne2 : ¬ w.heap.size = 1 := fun h => hne1 h.symm
  have hDs : D.length ≤ 122 := by
    have h1 := congrArg List.length hp.1
    rw [List.length_append, List.length_append, size_list] at h1
    simp at h1; omega
  have HE := Lib.hid hE
  have HDS := Lib.hid hDs
  have HDD := Lib.hid hD
  have HP := Lib.hid hp
  obtain ⟨L, hL⟩ : ∃ L, L = w.alloc (.cells #[.bool false, .slice none 0 0, .slice none 0 0] 100) := ⟨_, rfl⟩
  have hbL : Below w.heap.size w L := by rw [hL]; exact (Below.refl _ _).alloc (Nat.le_refl _) _
  have hLs : L.heap.size = w.heap.size + 1 := by rw [hL]; simp
  have HL := Lib.hid hL
  have HBL := Lib.hid hbL
  have HLS := Lib.hid hLs
  have HBX : Hid (Box3 L w.heap.size (.bool false) (.slice none 0 0) (.slice none 0 0) 100) := Lib.hid (by rw [hL]; exact Box3.made _ _ _ _ _)
  clear hL hbL hLs hE hs hDs hD hp
  go_enter Tryz.func117, Tryz.ntmps117
  go_wp2_with fail
  refine cutp_any s neg D [] HP.out _ _ ?_
  intro T hT
  rw [List.append_nil] at hT
  have HT := Lib.hid hT
  clear hT
  dsimp only
  go_wp2_with fail
  rw [← HL.out]
  refine readd_digits T L (HE.out.later HBL.out (Nat.le_refl _)) (by rw [HT.out]; exact HDD.out) (by rw [← size_list, HT.out]; have := HDS.out; omega) _ ?_ ?_
  · intro v1 w1 hd1 hv1 hb1
    rw [HT.out] at hd1 hv1
    obtain ⟨a1, n1, c1, rfl, hv1'⟩ := hv1.op
    have hB1 := HBL.out.trans (hb1.mono (by have := HLS.out; omega))
    have hX1 := HBX.out.later hb1 (by have := HLS.out; omega)
    have hbs : Below w1.heap.size w1 (w1.alloc (.cells #[.pointer none] 197)) := (Below.refl _ _).alloc (Nat.le_refl _) _
    have HV1 := Lib.hid (hv1'.later hbs (Nat.le_refl _))
    have HD1 := Lib.hid hd1
    have HB1 := Lib.hid (hB1.trans (hbs.mono hB1.size))
    have HX1 := Lib.hid (hX1.later hbs (lt_of_block hX1))
    have HE1 := Lib.hid (((HE.out.later HBL.out (Nat.le_refl _)).later hb1 (Nat.le_refl _)).later hbs (Nat.le_refl _))
    obtain ⟨W1, hW1⟩ : ∃ W1, W1 = w1.alloc (.cells #[.pointer none] 197) := ⟨_, rfl⟩
    rw [← hW1] at HV1 HB1 HX1 HE1
    have HW1 := Lib.hid hW1
    clear hv1 hv1' hb1 hd1 hB1 hX1 hbs hW1
    dsimp only
    go_wp2_with fail
    refine as_nilR _ _ _ ?_
    dsimp only
    rw [← HW1.out]
    obtain ⟨⟨hR0, hR1, hR2⟩, hF0, hF1, hF2⟩ := Box3.cells HX1.out
    have last : ∀ (R' : Prop), R' → R' := fun _ h => h
    have fin : ¬ (neg = true ∧ rdec D = 0) → True := fun _ => trivial
    cases neg
    · have HN := Lib.hid (show ¬ (false = true ∧ rdec D = 0) by simp)
      go_wp2_with fail
      refine integerOf_z false _ _ _ HV1.out _ ?_
      intro v4 w4 hz4 hb4
      have HB4 := Lib.hid (HB1.out.trans (hb4.mono HB1.out.size))
      have HX4 := Lib.hid (HX1.out.later hb4 (lt_of_block HX1.out))
      have HZ4 := Lib.hid hz4
      clear hz4 hb4 hR0 hR1 hR2 hF0 hF1 hF2
      dsimp only
      go_wp2_with fail
      refine ratioOf_any _ _ _ HZ4.out _ ?_
      intro v5 w5 hq5 hb5
      have HB5 := Lib.hid (HB4.out.trans (hb5.mono HB4.out.size))
      have HX5 := Lib.hid (HX4.out.later hb5 (lt_of_block HX4.out))
      obtain ⟨s1, s2, rfl, hn1, hn2⟩ := hq5
      obtain ⟨x1, y1, z1, rfl, hn1'⟩ := hn1.op
      obtain ⟨x2, y2, z2, rfl, hn2'⟩ := hn2.op
      obtain ⟨ng, hng⟩ : ∃ ng, ng = decide ((((sgn false (rdec D)) : Int) : Rat).num < 0) := ⟨_, rfl⟩
      rw [← hng]
      have HNG := Lib.hid hng
      have HS1 := Lib.hid hn1'
      have HS2 := Lib.hid hn2'
      clear hn1 hn2 hn1' hn2' hb5 hng
      obtain ⟨⟨hR0, hR1, hR2⟩, hF0, hF1, hF2⟩ := Box3.cells HX5.out
      have HNI := Lib.hid (HX5.out.noInt rfl rfl rfl)
      dsimp only
      go_wp2
      refine bodyPost_ret_at (by simp [results, Tryz.results117, go_sem, hR0, hR1, hR2, hF0, hF1, hF2] <;> rfl) rfl ?_
      refine HR.out _ _ HD1.out HN.out ⟨.slice x1 y1 z1, .slice x2 y2 z2, by rw [HNG.out], ?_, ?_⟩ (below_set3 HB5.out (Nat.le_refl _) _ _ _)
      · exact HS1.out.set3 HNI.out _ _ _ rfl rfl
      · exact HS2.out.set3 HNI.out _ _ _ rfl rfl
    · obtain ⟨⟨pf, hpf⟩, _, _⟩ := HE1.out
      go_wp2_with fail
      refine nzero_any _ _ _ HV1.out _ ?_
      by_cases h0 : rdec D = 0
      · rw [decide_eq_true h0]
        have HW := Lib.hid (show ¬ (digB D = true ∧ ¬ (true = true ∧ rdec D = 0)) from fun h => h.2 ⟨rfl, h0⟩)
        clear h0
        dsimp only
        go_wp2
        go_region
        all_goals
          go_wp2
          refine bodyPost_ret_at (by simp [results, Tryz.results117, go_sem, hR0, hR1, hR2, hF0, hF1, hF2] <;> rfl) rfl ?_
          first | exact HR2.out _ _ HW.out ⟨_, _, rfl⟩ (below_set3 HB1.out (Nat.le_refl _) _ _ _).drew | exact HR2.out _ _ HW.out ⟨_, _, rfl⟩ (below_set3 HB1.out (Nat.le_refl _) _ _ _)
      · rw [decide_eq_false h0]
        have HN := Lib.hid (show ¬ (true = true ∧ rdec D = 0) from fun h => h0 h.2)
        clear h0 hpf
        dsimp only
        go_wp2_with fail
        refine integerOf_z true _ _ _ HV1.out _ ?_
        intro v4 w4 hz4 hb4
        have HB4 := Lib.hid (HB1.out.trans (hb4.mono HB1.out.size))
        have HX4 := Lib.hid (HX1.out.later hb4 (lt_of_block HX1.out))
        have HZ4 := Lib.hid hz4
        clear hz4 hb4 hR0 hR1 hR2 hF0 hF1 hF2
        dsimp only
        go_wp2_with fail
        refine ratioOf_any _ _ _ HZ4.out _ ?_
        intro v5 w5 hq5 hb5
        have HB5 := Lib.hid (HB4.out.trans (hb5.mono HB4.out.size))
        have HX5 := Lib.hid (HX4.out.later hb5 (lt_of_block HX4.out))
        obtain ⟨s1, s2, rfl, hn1, hn2⟩ := hq5
        obtain ⟨x1, y1, z1, rfl, hn1'⟩ := hn1.op
        obtain ⟨x2, y2, z2, rfl, hn2'⟩ := hn2.op
        obtain ⟨ng, hng⟩ : ∃ ng, ng = decide ((((sgn true (rdec D)) : Int) : Rat).num < 0) := ⟨_, rfl⟩
        rw [← hng]
        have HNG := Lib.hid hng
        have HS1 := Lib.hid hn1'
        have HS2 := Lib.hid hn2'
        clear hn1 hn2 hn1' hn2' hb5 hng
        obtain ⟨⟨hR0, hR1, hR2⟩, hF0, hF1, hF2⟩ := Box3.cells HX5.out
        have HNI := Lib.hid (HX5.out.noInt rfl rfl rfl)
        dsimp only
        go_wp2
        refine bodyPost_ret_at (by simp [results, Tryz.results117, go_sem, hR0, hR1, hR2, hF0, hF1, hF2] <;> rfl) rfl ?_
        refine HR.out _ _ HD1.out HN.out ⟨.slice x1 y1 z1, .slice x2 y2 z2, by rw [HNG.out], ?_, ?_⟩ (below_set3 HB5.out (Nat.le_refl _) _ _ _)
        · exact HS1.out.set3 HNI.out _ _ _ rfl rfl
        · exact HS2.out.set3 HNI.out _ _ _ rfl rfl
  · intro e w1 hd1 he hb1
    rw [HT.out] at hd1
    obtain ⟨p, rfl⟩ := he
    have HW := Lib.hid (show ¬ (digB D = true ∧ ¬ (neg = true ∧ rdec D = 0)) from fun h => by rw [hd1] at h; exact absurd h.1 (by simp))
    have hB1 := HBL.out.trans (hb1.mono (by have := HLS.out; omega))
    have hX1 := HBX.out.later hb1 (by have := HLS.out; omega)
    have hbs : Below w1.heap.size w1 (w1.alloc (.cells #[.pointer none] 197)) := (Below.refl _ _).alloc (Nat.le_refl _) _
    have HB1 := Lib.hid (hB1.trans (hbs.mono hB1.size))
    have HX1 := Lib.hid (hX1.later hbs (lt_of_block hX1))
    have HE1 := Lib.hid (((HE.out.later HBL.out (Nat.le_refl _)).later hb1 (Nat.le_refl _)).later hbs (Nat.le_refl _))
    clear hb1 hd1 hB1 hX1 hbs
    dsimp only
    go_wp2_with fail
    refine as_missR _ w1.heap.size (.pointer none) _ HE1.out (by simp) (by simp) _ ?_
    intro w2 hb2
    have HB2 := Lib.hid (HB1.out.trans (hb2.mono HB1.out.size))
    have HX2 := Lib.hid (HX1.out.later hb2 (lt_of_block HX1.out))
    obtain ⟨⟨hR0, hR1, hR2⟩, hF0, hF1, hF2⟩ := Box3.cells HX2.out
    clear hb2
    dsimp only
    go_wp2
    refine bodyPost_ret_at (by simp [results, Tryz.results117, go_sem, hR0, hR1, hR2, hF0, hF1, hF2] <;> rfl) rfl ?_
    first | exact HR2.out _ _ HW.out ⟨_, _, rfl⟩ (below_set3 HB2.out (Nat.le_refl _) _ _ _).drew | exact HR2.out _ _ HW.out ⟨_, _, rfl⟩ (below_set3 HB2.out (Nat.le_refl _) _ _ _)
end Go.Proofs.YtnfehccicnpbpaaGreatDoor

namespace Go.Proofs.YtnfehccicnpbpaaGreatDoor
open Go Go.RowKit

set_option maxRecDepth 100000 in
set_option maxHeartbeats 2000000 in
theorem readr_bad (s : ByteArray) (neg : Bool) (D r : List UInt8) (hp : Parts s.data.toList neg D r) (i : Nat) (hi : i < (D ++ r).length) (h1 : ((D ++ r).take i).all isDig = true) (h2 : isDig (D ++ r)[i] = false) (h47 : (D ++ r)[i] ≠ 47)
    (w : World) (hE : Env w) (hs : s.size ≤ 122) (R : Ending → World → Prop)
    (hR2 : ∀ e w', ErrV e → Below w.heap.size w w' → R (.returned (.tuple #[zeroR, e])) w') :
    Calls Tryz.prog 117 #[.string s] w R := by
  have HR2 := Lib.hid hR2; clear hR2
  have hsi : ¬ (122 : Int) < (s.size : Int) := by omega
  have hDs : (D ++ r).length ≤ 122 := by
    have h1 := congrArg List.length hp.1
    rw [List.length_append, size_list] at h1
    omega
  have HE := Lib.hid hE
  have HDS := Lib.hid hDs
  have HP := Lib.hid hp
  have HI := Lib.hid hi
  have HH := Lib.hid (show _ ∧ _ ∧ _ from ⟨h1, h2, h47⟩)
  obtain ⟨L, hL⟩ : ∃ L, L = w.alloc (.cells #[.bool false, .slice none 0 0, .slice none 0 0] 100) := ⟨_, rfl⟩
  have hbL : Below w.heap.size w L := by rw [hL]; exact (Below.refl _ _).alloc (Nat.le_refl _) _
  have hLs : L.heap.size = w.heap.size + 1 := by rw [hL]; simp
  have HL := Lib.hid hL
  have HBL := Lib.hid hbL
  have HLS := Lib.hid hLs
  have HBX : Hid (Box3 L w.heap.size (.bool false) (.slice none 0 0) (.slice none 0 0) 100) := Lib.hid (by rw [hL]; exact Box3.made _ _ _ _ _)
  clear hL hbL hLs hE hs hDs hp h1 h2 h47
  go_enter Tryz.func117, Tryz.ntmps117
  go_wp2_with fail
  refine cutp_any s neg D r HP.out _ _ ?_
  intro T hT
  have HT := Lib.hid hT
  have hit : i < T.data.toList.length := by rw [hT]; exact hi
  have HB2 : Hid (isDig T.data.toList[i] = false ∧ T.data.toList[i] ≠ 47) := Lib.hid (by simp only [hT]; exact ⟨HH.out.2.1, HH.out.2.2⟩)
  clear hT
  dsimp only
  go_wp2_with fail
  rw [← HL.out]
  refine readd_bad T i hit L (by rw [HT.out]; exact HH.out.1) HB2.out.1 (by rw [← size_list, HT.out]; have := HDS.out; omega) _ ?_
  intro e w1 he hb1
  rw [decide_eq_false HB2.out.2] at he
  obtain ⟨b, rr, rfl, hbx, hrr⟩ := he
  have hrne : ¬ rr = 47 := by simpa using hrr.symm
  have hB1 := HBL.out.trans (hb1.mono (by have := HLS.out; omega))
  have hX1 := HBX.out.later hb1 (by have := HLS.out; omega)
  have hbs : Below w1.heap.size w1 (w1.alloc (.cells #[.pointer none] 197)) := (Below.refl _ _).alloc (Nat.le_refl _) _
  have HB1 := Lib.hid (hB1.trans (hbs.mono hB1.size))
  have HX1 := Lib.hid (hX1.later hbs (lt_of_block hX1))
  have HE1 := Lib.hid (((HE.out.later HBL.out (Nat.le_refl _)).later hb1 (Nat.le_refl _)).later hbs (Nat.le_refl _))
  have hble := lt_of_block hbx
  have HBE := Lib.hid (Box2.later hbx hbs hble)
  have HBL1 := Lib.hid hble
  have HX0 := Lib.hid (lt_of_block hX1)
  clear hb1 hB1 hX1 hbs hbx hrr hble
  dsimp only
  go_wp2_with fail
  refine as_hitR _ w1.heap.size (.pointer none) _ HE1.out (by simp) (by simp) _ ?_
  intro w2 hb2 hc2
  have HB2b := Lib.hid (HB1.out.trans (hb2.mono (by have := HX0.out; omega)))
  have HX2 := Lib.hid (HX1.out.later hb2 HX0.out)
  obtain ⟨hP0, hP1, hP2, hP3⟩ := Box2.cells (Box2.later HBE.out hb2 HBL1.out)
  obtain ⟨⟨hR0, hR1, hR2⟩, hF0, hF1, hF2⟩ := Box3.cells HX2.out
  clear hb2
  dsimp only
  go_wp2
  refine bodyPost_ret_at (by simp [results, Tryz.results117, go_sem, hR0, hR1, hR2, hF0, hF1, hF2] <;> rfl) rfl ?_
  first | exact HR2.out _ _ ⟨_, _, rfl⟩ (below_set3 HB2b.out (Nat.le_refl _) _ _ _).drew | exact HR2.out _ _ ⟨_, _, rfl⟩ (below_set3 HB2b.out (Nat.le_refl _) _ _ _)
end Go.Proofs.YtnfehccicnpbpaaGreatDoor

namespace Go.Proofs.YtnfehccicnpbpaaGreatDoor
open Go Go.RowKit

/-- what the reading of a fraction comes to -/
def FracOk (neg : Bool) (D E : List UInt8) (q : Rat) : Prop := digB D = true ∧ digB E = true ∧ 2 ≤ rdec E ∧ Nat.gcd (rdec D) (rdec E) = 1 ∧ q.num = sgn neg (rdec D) ∧ q.den = rdec E
def FracOut (w : World) (neg : Bool) (D E : List UInt8) (v e : Value) : Prop :=
  (e = .nilIface ∧ ∃ q, FracOk neg D E q ∧ IsR w v q) ∨ (ErrV e ∧ v = zeroR ∧ ¬ (digB D = true ∧ digB E = true ∧ 2 ≤ rdec E ∧ Nat.gcd (rdec D) (rdec E) = 1))

theorem readf_one (neg : Bool) (s1 s2 : ByteArray) (w : World) (hE : Env w) (hs1 : s1.size ≤ 250) (hs2 : s2.size ≤ 250) (R : Ending → World → Prop)
    (hR : ∀ b a1 n1 c1 a2 n2 c2 e w', Below w.heap.size w w' → FracOut w' neg s1.data.toList s2.data.toList (.agg #[.bool b, .slice a1 n1 c1, .slice a2 n2 c2]) e → R (.returned (.tuple #[.agg #[.bool b, .slice a1 n1 c1, .slice a2 n2 c2], e])) w') :
    Calls Tryz.prog 163 #[.bool neg, .string s1, .string s2] w R := by
  refine readf_any neg s1 s2 w hE hs1 hs2 R ?_ ?_
  · intro v q w' h1 h2 h3 h4 h5 h6 hv hb
    obtain ⟨x1, x2, rfl, hn1, hn2⟩ := hv
    obtain ⟨a1, n1, c1, rfl, hn1'⟩ := hn1.op
    obtain ⟨a2, n2, c2, rfl, hn2'⟩ := hn2.op
    exact hR _ _ _ _ _ _ _ _ _ hb (.inl ⟨rfl, q, ⟨h1, h2, h3, h4, h5, h6⟩, ⟨_, _, rfl, hn1', hn2'⟩⟩)
  · intro e w' h he hb
    exact hR _ _ _ _ _ _ _ _ _ hb (.inr ⟨he, rfl, h⟩)

theorem fracOut_set {w : World} {b : Nat} (hb : NoInt w b) {neg : Bool} {D E : List UInt8} {x : Bool} {a1 a2 : Option Addr} {n1 c1 n2 c2 : Nat} {e : Value} (h : FracOut w neg D E (.agg #[.bool x, .slice a1 n1 c1, .slice a2 n2 c2]) e) :
    FracOut (((w.setCell ⟨b, 0, none⟩ (.bool x)).setCell ⟨b, 1, none⟩ (.slice a1 n1 c1)).setCell ⟨b, 2, none⟩ (.slice a2 n2 c2)) neg D E (.agg #[.bool x, .slice a1 n1 c1, .slice a2 n2 c2]) e := by
  rcases h with ⟨h1, q, h2, s1, s2, h3, h4, h5⟩ | h
  · exact .inl ⟨h1, q, h2, s1, s2, h3, h4.set3 hb _ _ _ rfl rfl, h5.set3 hb _ _ _ rfl rfl⟩
  · exact .inr h

set_option maxRecDepth 100000 in
set_option maxHeartbeats 2000000 in
theorem readr_slash (s : ByteArray) (neg : Bool) (D E : List UInt8) (hp : Parts s.data.toList neg D (47 :: E)) (hD : D.all isDig = true)
    (w : World) (hE : Env w) (hs : s.size ≤ 122) (R : Ending → World → Prop)
    (hR : ∀ v e w', FracOut w' neg D E v e → Below w.heap.size w w' → R (.returned (.tuple #[v, e])) w') :
    Calls Tryz.prog 117 #[.string s] w R := by
  have HR2 := Lib.hid hR; clear hR
  have hsi : ¬ (122 : Int) < (s.size : Int) := by omega
  have hDs : (D ++ 47 :: E).length ≤ 122 := by
    have h1 := congrArg List.length hp.1
    rw [List.length_append, size_list] at h1
    omega
  have HE := Lib.hid hE
  have HDS := Lib.hid hDs
  have HP := Lib.hid hp
  have HDD := Lib.hid hD
  obtain ⟨L, hL⟩ : ∃ L, L = w.alloc (.cells #[.bool false, .slice none 0 0, .slice none 0 0] 100) := ⟨_, rfl⟩
  have hbL : Below w.heap.size w L := by rw [hL]; exact (Below.refl _ _).alloc (Nat.le_refl _) _
  have hLs : L.heap.size = w.heap.size + 1 := by rw [hL]; simp
  have HL := Lib.hid hL
  have HBL := Lib.hid hbL
  have HLS := Lib.hid hLs
  have HBX : Hid (Box3 L w.heap.size (.bool false) (.slice none 0 0) (.slice none 0 0) 100) := Lib.hid (by rw [hL]; exact Box3.made _ _ _ _ _)
  clear hL hbL hLs hE hs hDs hp hD
  go_enter Tryz.func117, Tryz.ntmps117
  go_wp2_with fail
  refine cutp_any s neg D (47 :: E) HP.out _ _ ?_
  intro T hT
  have HT := Lib.hid hT
  have hTl : T.data.toList.length = D.length + 1 + E.length := by rw [hT]; simp; omega
  obtain ⟨i, hiD⟩ : ∃ i, i = D.length := ⟨_, rfl⟩
  have HID := Lib.hid hiD
  have hit : i < T.data.toList.length := by omega
  have HB2 : Hid (isDig T.data.toList[i] = false ∧ T.data.toList[i] = 47) := Lib.hid (by subst hiD; simp [hT, isDig])
  have HTK : Hid ((T.data.toList.take i).all isDig = true) := Lib.hid (by subst hiD; rw [hT, List.take_left]; exact HDD.out)
  have hsz : i + 1 ≤ T.size := by rw [← size_list]; omega
  have hs1 : ((i : Nat) : Int) ≤ (T.size : Int) := by omega
  have hs2 : ((i : Nat) : Int) + 1 ≤ (T.size : Int) := by omega
  have hs3 : (0 : Int) ≤ ((i : Nat) : Int) := by omega
  have hs4 : (0 : Int) ≤ ((i : Nat) : Int) + 1 := by omega
  have hTz : T.size ≤ 122 := by rw [← size_list, hT]; have := HDS.out; omega
  have hw1 : IntKind.i64.wrap (((i : Nat) : Int) + 1) = (((i + 1 : Nat)) : Int) := IntWalk.i64_in _ (by omega)
  have HSD : Hid ((T.extract 0 i).data.toList = D ∧ (T.extract (i + 1) T.size).data.toList = E) := Lib.hid (by
    constructor
    · rw [ByteArray.data_extract, Array.toList_extract, hT, hiD]
      simp [List.extract]
    · have : T.size = D.length + 1 + E.length := by rw [← size_list]; omega
      rw [ByteArray.data_extract, Array.toList_extract, hT, hiD, this]
      simp [List.extract])
  have HZ : Hid ((T.extract 0 i).size ≤ 250 ∧ (T.extract (i + 1) T.size).size ≤ 250) := Lib.hid (by
    constructor
    · rw [← size_list, HSD.out.1]; have := HDS.out; simp at this; omega
    · rw [← size_list, HSD.out.2]; have := HDS.out; simp at this; omega)
  clear hTl hiD
  clear hT
  dsimp only
  go_wp2_with fail
  rw [← HL.out]
  refine readd_bad T i hit L HTK.out HB2.out.1 (by rw [← size_list, HT.out]; have := HDS.out; omega) _ ?_
  intro e w1 he hb1
  rw [decide_eq_true HB2.out.2] at he
  obtain ⟨b, rr, rfl, hbx, hrr⟩ := he
  have hreq : rr = 47 := by simpa using hrr.symm
  subst hreq
  have hB1 := HBL.out.trans (hb1.mono (by have := HLS.out; omega))
  have hX1 := HBX.out.later hb1 (by have := HLS.out; omega)
  have hbs : Below w1.heap.size w1 (w1.alloc (.cells #[.pointer none] 197)) := (Below.refl _ _).alloc (Nat.le_refl _) _
  have HB1 := Lib.hid (hB1.trans (hbs.mono hB1.size))
  have HX1 := Lib.hid (hX1.later hbs (lt_of_block hX1))
  have HE1 := Lib.hid (((HE.out.later HBL.out (Nat.le_refl _)).later hb1 (Nat.le_refl _)).later hbs (Nat.le_refl _))
  have hble := lt_of_block hbx
  have HBE := Lib.hid (Box2.later hbx hbs hble)
  have HBL1 := Lib.hid hble
  have HX0 := Lib.hid (lt_of_block hX1)
  clear hb1 hB1 hX1 hbs hbx hrr hble
  dsimp only
  go_wp2_with fail
  refine as_hitR _ w1.heap.size (.pointer none) _ HE1.out (by simp) (by simp) _ ?_
  intro w2 hb2 hc2
  have HB2b := Lib.hid (HB1.out.trans (hb2.mono (by have := HX0.out; omega)))
  have HX2 := Lib.hid (HX1.out.later hb2 HX0.out)
  obtain ⟨hP0, hP1, hP2, hP3⟩ := Box2.cells (Box2.later HBE.out hb2 HBL1.out)
  obtain ⟨⟨hR0, hR1, hR2⟩, hF0, hF1, hF2⟩ := Box3.cells HX2.out
  clear hb2
  have HE2 := Lib.hid (HE.out.later HB2b.out (Nat.le_refl _))
  dsimp only
  go_upto_region 7 with fail
  go_region_law (go_simp; go_at_call 163; refine readf_one neg _ _ _ (HE2.out.later (Below.refl _ _).drew (Nat.le_refl _)) HZ.out.1 HZ.out.2 _ ?_; intro bb a1 n1 c1 a2 n2 c2 e3 w3 hb3' ho3; have hb3 : Below w2.heap.size w2 w3 := below_unDrew hb3'; have HO3 := Lib.hid ho3; have HX3 := Lib.hid (HX2.out.later hb3 (lt_of_block HX2.out)); have HB3 := Lib.hid (HB2b.out.trans (hb3.mono HB2b.out.size)); clear hb3 hb3' ho3 hR0 hR1 hR2 hF0 hF1 hF2; obtain ⟨⟨hR0, hR1, hR2⟩, hF0, hF1, hF2⟩ := Box3.cells HX3.out; dsimp only)
  all_goals
    have HNI := Lib.hid (HX3.out.noInt rfl rfl rfl)
    go_wp2
    refine bodyPost_ret_at (by simp [results, Tryz.results117, go_sem, hR0, hR1, hR2, hF0, hF1, hF2] <;> rfl) rfl ?_
    have ho := HO3.out
    rw [HSD.out.1, HSD.out.2] at ho
    refine HR2.out _ _ _ ?_ ?_
    · first | exact fracOut_set HNI.out ho | exact (fracOut_set HNI.out ho)
    · first | exact (below_set3 HB3.out (Nat.le_refl _) _ _ _).drew | exact (below_set3 HB3.out (Nat.le_refl _) _ _ _)
end Go.Proofs.YtnfehccicnpbpaaGreatDoor

namespace Go.Proofs.YtnfehccicnpbpaaGreatDoor
open Go Go.RowKit

theorem not_dig47 : isDig 47 = false := rfl

theorem readr_any (s : ByteArray) (w : World) (hE : Env w) (R : Ending → World → Prop)
    (hR : ∀ v q w', s.data.toList = textQ q → few q → IsR w' v q → Below w.heap.size w w' → R (.returned (.tuple #[v, .nilIface])) w')
    (hR2 : ∀ e w', numB s.data.toList = false → ErrV e → Below w.heap.size w w' → R (.returned (.tuple #[zeroR, e])) w') :
    Calls Tryz.prog 117 #[.string s] w R := by
  by_cases hs : s.size ≤ 122
  · obtain ⟨neg, D, r, hp⟩ := parts_exist s.data.toList
    by_cases hall : (D ++ r).all isDig = true
    · have hr : r = [] := by
        rcases hp.2.2.2 with h | ⟨E, rfl⟩
        · exact h
        · rw [List.all_append, List.all_cons, not_dig47] at hall; simp at hall
      subst hr
      rw [List.append_nil] at hall
      refine readr_digits s neg D hp hall w hE hs R ?_ ?_
      · intro v w' h1 h2 hv hb
        obtain ⟨h3, h4⟩ := (num_iff hp _).1 ⟨h1, .inl ⟨rfl, h2, rfl⟩⟩
        exact hR v _ w' h3 h4 hv hb
      · intro e w' h he hb
        refine hR2 e w' (numB_parts hp fun q hq => h ?_) he hb
        obtain ⟨h1, ⟨_, h2, _⟩ | ⟨E, h2, _⟩⟩ := hq
        · exact ⟨h1, h2⟩
        · cases h2
    · obtain ⟨i, hi, h1, h2⟩ := first_bad (D ++ r) (by simpa using hall)
      have htk : D.length ≤ i → (D ++ r).take i = D ++ r.take (i - D.length) := fun h => by
        rw [List.take_append, List.take_of_length_le h]
      by_cases h47 : (D ++ r)[i] = 47
      · have hDi : D.length ≤ i := by
          refine Nat.le_of_not_lt fun h => ?_
          rw [List.getElem_append_left h] at h47
          exact hp.2.2.1 _ (List.getElem_mem h) h47
        have hD : D.all isDig = true := by
          rw [htk hDi, List.all_append, Bool.and_eq_true] at h1
          exact h1.1
        rcases hp.2.2.2 with rfl | ⟨E, rfl⟩
        · simp at hi; omega
        · refine readr_slash s neg D E hp hD w hE hs R ?_
          intro v e w' ho hb
          rcases ho with ⟨rfl, q, ⟨g1, g2, g3, g4, g5, g6⟩, hv⟩ | ⟨he, rfl, hn⟩
          · obtain ⟨h3, h4⟩ := (num_iff hp q).1 ⟨g1, .inr ⟨E, rfl, g2, g3, g4, g5, g6⟩⟩
            exact hR v q w' h3 h4 hv hb
          · refine hR2 e w' (numB_parts hp fun q hq => hn ?_) he hb
            obtain ⟨g1, ⟨g2, _⟩ | ⟨E', g2, g3, g4, g5, _⟩⟩ := hq
            · cases g2
            · obtain rfl := (List.cons.inj g2).2
              exact ⟨g1, g3, g4, g5⟩
      · refine readr_bad s neg D r hp i hi h1 h2 h47 w hE hs R fun e w' he hb => hR2 e w' (numB_parts hp fun q hq => ?_) he hb
        have hD := (digB_iff.1 hq.1).1
        have hDi : D.length ≤ i := by
          refine Nat.le_of_not_lt fun h => ?_
          rw [List.getElem_append_left h] at h2
          rw [List.all_eq_true.1 hD _ (List.getElem_mem h)] at h2
          cases h2
        rcases hp.2.2.2 with rfl | ⟨E, rfl⟩
        · simp at hi; omega
        · rw [htk hDi, List.all_append, Bool.and_eq_true] at h1
          rw [List.getElem_append_right hDi] at h47
          rcases Nat.eq_or_lt_of_le hDi with h | h
          · subst h; simp at h47
          · obtain ⟨k, hk⟩ : ∃ k, i - D.length = k + 1 := ⟨i - D.length - 1, by omega⟩
            rw [hk, List.take_succ_cons, List.all_cons, not_dig47] at h1
            simp at h1
  · exact readr_long s w hE (by omega) R fun e w' he hb => hR2 e w' (numB_len (by rw [size_list]; omega)) he hb
end Go.Proofs.YtnfehccicnpbpaaGreatDoor

namespace Go.Proofs.YtnfehccicnpbpaaGreatDoor
open Go Go.RowKit

theorem str_eq {s : ByteArray} {L : List UInt8} (h : L = s.data.toList) : s = ⟨L.toArray⟩ := by rw [h]

theorem size_parts1 {s : ByteArray} {neg : Bool} {D r : List UInt8} (hp : Parts s.data.toList neg D r) (hr : r = []) (h : digB D = true) : s.size ≤ 100000 := by
  have h1 := congrArg List.length hp.1
  have h2 := (digB_iff.1 h).2.2.1
  subst hr
  rw [List.length_append, List.length_append, size_list] at h1
  have hn : (if neg = true then [45] else ([] : List UInt8)).length ≤ 1 := by cases neg <;> simp
  simp at h1; omega
theorem size_parts2 {s : ByteArray} {neg : Bool} {D r E : List UInt8} (hp : Parts s.data.toList neg D r) (hr : r = 47 :: E) (h : digB D = true) (h' : digB E = true) : s.size ≤ 100000 := by
  have h1 := congrArg List.length hp.1
  have h2 := (digB_iff.1 h).2.2.1
  have h3 := (digB_iff.1 h').2.2.1
  subst hr
  rw [List.length_append, List.length_append, size_list] at h1
  have hn : (if neg = true then [45] else ([] : List UInt8)).length ≤ 1 := by cases neg <;> simp
  simp at h1; omega

set_option maxRecDepth 100000 in
set_option maxHeartbeats 4000000 in
theorem is_any (s : ByteArray) (w : World) (hs : s.size ≤ 1100000)
    (R : Ending → World → Prop) (hR : ∀ w', Below w.heap.size w w' → R (.returned (.bool (numB s.data.toList))) w') :
    Calls Tryz.prog 168 #[.string s] w R := by
  have HR := Lib.hid hR; clear hR
  obtain ⟨neg, D, r, hp⟩ := parts_exist s.data.toList
  have HP := Lib.hid hp
  obtain ⟨h1, h2, h3, h4⟩ := hp
  have H3 := Lib.hid h3
  have H4 := Lib.hid h4
  obtain ⟨t, Ht, Hn, Hts⟩ : ∃ t : ByteArray, Hid (t.data.toList = D ++ r) ∧ Hid (t = if neg then s.extract 1 s.size else s) ∧ t.size ≤ 1100000 := by
    cases neg
    · refine ⟨s, Lib.hid (by simpa using h1), Lib.hid rfl, hs⟩
    · refine ⟨s.extract 1 s.size, Lib.hid (sign_rest (by simpa using h1)), Lib.hid rfl, by rw [ext_size _ _ _ (Nat.le_refl _)]; omega⟩
  have hst2 : t.size = D.length + r.length := by rw [← size_list, Ht.out, List.length_append]
  obtain ⟨dl, hdl⟩ : ∃ dl, dl = D.length := ⟨_, rfl⟩
  rw [← hdl] at hst2
  have HDL := Lib.hid hdl
  have hdlt : dl ≤ t.size := by omega
  have hlast : dl < t.size → ∃ E, r = 47 :: E := by
    intro h
    rcases h4 with rfl | h'
    · simp at hst2; omega
    · exact h'
  have hend : ¬ dl < t.size → r = [] := by
    intro h
    rcases h4 with rfl | ⟨E, rfl⟩
    · rfl
    · simp at hst2; omega
  have HLAST := Lib.hid hlast
  have HEND := Lib.hid hend
  clear hst2 hdl hlast hend h3 h4
  have hm45 : (neg = true → ∃ h : 0 < s.size, s[0] = 45) ∧ (neg = false → ∀ h : 0 < s.size, s[0] ≠ 45) := by
    constructor
    · rintro rfl
      have hpos : 0 < s.size := by rw [← size_list, h1]; simp
      refine ⟨hpos, ?_⟩
      rw [byte_at s 0 hpos (by rw [size_list]; exact hpos)]; simp [h1]
    · intro hn hpos e
      have := h2 hn
      rw [head_at _ (by rw [size_list]; exact hpos), ← byte_at s 0 hpos (by rw [size_list]; exact hpos), e] at this
      exact this rfl
  clear h1 h2
  have hgo : ∀ (W : World), Below w.heap.size w W → True := fun _ _ => trivial
  clear hgo
  cases neg
  · have ht : t = s := Hn.out
    subst ht
    have key : True := trivial
    by_cases hpos : 0 < t.size
    · have e45 : ((t[0].toNat : Int) == 45) = false := by
        have := hm45.2 rfl hpos
        have : t[0].toNat ≠ 45 := fun h => this (UInt8.toNat_inj.1 h)
        simp; omega
      clear hm45
      go_enter Tryz.func168, Tryz.ntmps168
      go_wp2
      clear e45
      go_loop [4] (fun i => ∃ k : Nat, i = .int .i64 k ∧ k ≤ dl) (fun i => dl - (intOf i).toNat)
      case atStart => exact ⟨0, rfl, Nat.zero_le _⟩
      case round =>
        obtain ⟨k, rfl, hk⟩ := hrel
        by_cases hkd : k < dl
        · have hkt : k < t.size := by omega
          have hkD : k < D.length := by rw [← HDL.out]; exact hkd
          have hne : t[k].toNat ≠ 47 := by
            rw [at_D Ht.out k hkD hkt]
            intro h
            exact H3.out D[k] (List.getElem_mem hkD) (UInt8.toNat_inj.1 h)
          have e47 : ((t[k].toNat : Int) != 47) = true := by rw [bne_iff_ne]; omega
          clear hne
          go_wp2
          go_round
          case rel => exact ⟨k + 1, by go_num, by omega⟩
          case measure => simp [intOf]; omega
        · obtain rfl : k = dl := by omega
          clear hkd hk
          have HX : Hid ((t.extract 0 k).data.toList = D) := Lib.hid (by rw [HDL.out, part_D Ht.out])
          by_cases hkt : k < t.size
          · obtain ⟨E, hE⟩ := HLAST.out hkt
            have HE := Lib.hid hE
            clear hE
            have e47 : ((t[k].toNat : Int) != 47) = false := by
              have := at_slash (t := t) (D := D) (E := E) (by rw [Ht.out, HE.out]) (by rw [← HDL.out]; exact hkt)
              have h2 : t[k] = 47 := by rw [← this]; congr 1
              rw [h2]; rfl
            have HX2 : Hid ((t.extract (k + 1) t.size).data.toList = E) := Lib.hid (by rw [HDL.out, part_E (t := t) (D := D) (E := E) (by rw [Ht.out, HE.out])])
            have hsz2 : (t.extract (k + 1) t.size).size ≤ 1100000 := by rw [ext_size _ _ _ (by omega)]; omega
            go_wp2_with fail
            refine digB_any _ _ (by rw [ext_size _ _ _ (by omega)]; omega) _ ?_
            have HDB := Lib.hid (congrArg digB HX.out)
            obtain ⟨bD, hbD⟩ : ∃ b, b = digB (t.extract 0 k).data.toList := ⟨_, rfl⟩
            rw [← hbD]
            have HBD := Lib.hid (hbD.trans HDB.out)
            clear hbD
            cases bD
            · have hnb : numB t.data.toList = false := numB_parts HP.out fun q hq => by have := hq.1; rw [← HBD.out] at this; cases this
              rw [hnb] at HR
              clear hnb
              dsimp only
              go_wp2
              first | go_ret | skip
              exact HR.out _ (Below.refl _ _)
            · dsimp only
              go_wp2_with fail
              refine digB_any _ _ (by omega) _ ?_
              have HEB := Lib.hid (congrArg digB HX2.out)
              obtain ⟨bE, hbE⟩ : ∃ b, b = digB (t.extract (k + 1) t.size).data.toList := ⟨_, rfl⟩
              rw [← hbE]
              have HBE := Lib.hid (hbE.trans HEB.out)
              clear hbE
              cases bE
              · have hnb : numB t.data.toList = false := numB_parts HP.out fun q hq => by
                  rcases hq.2 with ⟨h, _⟩ | ⟨E', h, hE', _⟩
                  · rw [HE.out] at h; cases h
                  · rw [HE.out] at h
                    obtain rfl := (List.cons.inj h).2
                    rw [← HBE.out] at hE'; cases hE'
                rw [hnb] at HR
                clear hnb
                dsimp only
                go_wp2
                first | go_ret | skip
                exact HR.out _ (Below.refl _ _)
              · by_cases hz : E = [48]
                · have hnb : numB t.data.toList = false := numB_parts HP.out fun q hq => by
                    rcases hq.2 with ⟨h, _⟩ | ⟨E', h, hE', h2, _⟩
                    · rw [HE.out] at h; cases h
                    · rw [HE.out] at h
                      obtain rfl := (List.cons.inj h).2
                      rw [hz] at h2
                      simp [rdec] at h2
                  rw [hnb] at HR
                  clear hnb
                  have hx : ((t.extract (k + 1) t.size).toList == [48]) = true := by rw [Lib.toList_data, HX2.out, hz]; rfl
                  clear hz
                  dsimp only
                  go_wp2
                  first | go_ret | skip
                  exact HR.out _ (Below.refl _ _)
                · have hx : ((t.extract (k + 1) t.size).toList == [48]) = false := by rw [Lib.toList_data, HX2.out, beq_eq_false_iff_ne]; exact hz
                  have hm0 : rdec E ≠ 0 := fun h => hz (by have := decs_rdec HBE.out.symm; rw [h] at this; rw [← this]; rfl)
                  have HM0 := Lib.hid hm0
                  clear hz hm0
                  dsimp only
                  go_wp2_with fail
                  refine of_any t false D r (rdec E) _ HP.out (digB_iff.1 HBD.out.symm).1 (digB_iff.1 HBD.out.symm).2.1 (.inr ⟨E, HE.out, (digB_iff.1 HBE.out.symm).1, rfl, HM0.out⟩) (size_parts2 HP.out HE.out HBD.out.symm HBE.out.symm) _ ?_
                  have hnb : numB t.data.toList = _ := numB_of HP.out HBD.out.symm (.inr ⟨E, HE.out, HBE.out.symm, rfl, HM0.out⟩)
                  have hdl := divInt_le (sgn false (rdec D)) (rdec E) HM0.out
                  rw [sgn_abs] at hdl
                  have hl1 := Nat.le_trans (dig_length_mono (B := 10000) (by omega) hdl.1) (rdec_len D (digB_iff.1 HBD.out.symm).1 60 (digB_iff.1 HBD.out.symm).2.2.1)
                  have hl2 := Nat.le_trans (dig_length_mono (B := 10000) (by omega) hdl.2) (rdec_len E (digB_iff.1 HBE.out.symm).1 60 (digB_iff.1 HBE.out.symm).2.2.1)
                  obtain ⟨q, hq⟩ : ∃ q, q = Rat.divInt (sgn false (rdec D)) (rdec E : Int) := ⟨_, rfl⟩
                  rw [← hq] at hnb hl1 hl2 ⊢
                  have HNB := Lib.hid hnb
                  clear hnb hq hdl
                  intro v1 w1 hq1 hb1
                  obtain ⟨ng, a1, n1, c1, a2, n2, c2, rfl, _, _⟩ := hq1.parts
                  dsimp only
                  go_wp2_with fail
                  refine text_any _ q _ hq1 (by omega) (by omega) _ ?_
                  intro w2 hb2
                  have HB := Lib.hid (hb1.trans (hb2.mono hb1.size))
                  clear hb1 hb2 hq1
                  dsimp only
                  obtain ⟨T, hT⟩ : ∃ T, T = textQ q := ⟨_, rfl⟩
                  rw [← hT] at HNB ⊢
                  clear hT
                  by_cases hTs : T = t.data.toList
                  · have e9 : (T == t.toList) = true := by rw [Lib.toList_data, hTs]; exact beq_self_eq_true _
                    rw [HNB.out, decide_eq_true hTs] at HR
                    clear hTs
                    go_wp2
                    first | go_ret | skip
                    exact HR.out _ HB.out
                  · have e9 : (T == t.toList) = false := by rw [Lib.toList_data, beq_eq_false_iff_ne]; exact hTs
                    rw [HNB.out, decide_eq_false hTs] at HR
                    clear hTs
                    go_wp2
                    first | go_ret | skip
                    exact HR.out _ HB.out
          · have hr0 := HEND.out hkt
            have HR0 := Lib.hid hr0
            clear hr0
            go_wp2_with fail
            refine digB_any _ _ (by rw [ext_size _ _ _ (by omega)]; omega) _ ?_
            have HDB := Lib.hid (congrArg digB HX.out)
            obtain ⟨bD, hbD⟩ : ∃ b, b = digB (t.extract 0 k).data.toList := ⟨_, rfl⟩
            rw [← hbD]
            have HBD := Lib.hid (hbD.trans HDB.out)
            clear hbD
            cases bD
            · have hnb : numB t.data.toList = false := numB_parts HP.out fun q hq => by have := hq.1; rw [← HBD.out] at this; cases this
              rw [hnb] at HR
              clear hnb
              dsimp only
              go_wp2
              first | go_ret | skip
              exact HR.out _ (Below.refl _ _)
            · dsimp only
              go_wp2_with fail
              refine of_any t false D r 1 _ HP.out (digB_iff.1 HBD.out.symm).1 (digB_iff.1 HBD.out.symm).2.1 (.inl ⟨HR0.out, rfl⟩) (size_parts1 HP.out HR0.out HBD.out.symm) _ ?_
              have hnb : numB t.data.toList = _ := numB_of HP.out HBD.out.symm (.inl ⟨HR0.out, rfl⟩)
              have hdl := divInt_le (sgn false (rdec D)) 1 (by omega)
              rw [sgn_abs] at hdl
              have hl1 := Nat.le_trans (dig_length_mono (B := 10000) (by omega) hdl.1) (rdec_len D (digB_iff.1 HBD.out.symm).1 60 (digB_iff.1 HBD.out.symm).2.2.1)
              have hl2 := Nat.le_trans (dig_length_mono (B := 10000) (by omega) hdl.2) (show _ ≤ 60 by rw [dig_small (by omega) (by omega)]; simp)
              obtain ⟨q, hq⟩ : ∃ q, q = Rat.divInt (sgn false (rdec D)) ((1 : Nat) : Int) := ⟨_, rfl⟩
              rw [← hq] at hnb hl1 hl2 ⊢
              have HNB := Lib.hid hnb
              clear hnb hq hdl
              intro v1 w1 hq1 hb1
              obtain ⟨ng, a1, n1, c1, a2, n2, c2, rfl, _, _⟩ := hq1.parts
              dsimp only
              go_wp2_with fail
              refine text_any _ q _ hq1 (by omega) (by omega) _ ?_
              intro w2 hb2
              have HB := Lib.hid (hb1.trans (hb2.mono hb1.size))
              clear hb1 hb2 hq1
              dsimp only
              obtain ⟨T, hT⟩ : ∃ T, T = textQ q := ⟨_, rfl⟩
              rw [← hT] at HNB ⊢
              clear hT
              by_cases hTs : T = t.data.toList
              · have e9 : (T == t.toList) = true := by rw [Lib.toList_data, hTs]; exact beq_self_eq_true _
                rw [HNB.out, decide_eq_true hTs] at HR
                clear hTs
                go_wp2
                first | go_ret | skip
                exact HR.out _ HB.out
              · have e9 : (T == t.toList) = false := by rw [Lib.toList_data, beq_eq_false_iff_ne]; exact hTs
                rw [HNB.out, decide_eq_false hTs] at HR
                clear hTs
                go_wp2
                first | go_ret | skip
                exact HR.out _ HB.out
    · clear hm45
      go_enter Tryz.func168, Tryz.ntmps168
      go_wp2
      go_loop [4] (fun i => ∃ k : Nat, i = .int .i64 k ∧ k ≤ dl) (fun i => dl - (intOf i).toNat)
      case atStart => exact ⟨0, rfl, Nat.zero_le _⟩
      case round =>
        obtain ⟨k, rfl, hk⟩ := hrel
        by_cases hkd : k < dl
        · have hkt : k < t.size := by omega
          have hkD : k < D.length := by rw [← HDL.out]; exact hkd
          have hne : t[k].toNat ≠ 47 := by
            rw [at_D Ht.out k hkD hkt]
            intro h
            exact H3.out D[k] (List.getElem_mem hkD) (UInt8.toNat_inj.1 h)
          have e47 : ((t[k].toNat : Int) != 47) = true := by rw [bne_iff_ne]; omega
          clear hne
          go_wp2
          go_round
          case rel => exact ⟨k + 1, by go_num, by omega⟩
          case measure => simp [intOf]; omega
        · obtain rfl : k = dl := by omega
          clear hkd hk
          have HX : Hid ((t.extract 0 k).data.toList = D) := Lib.hid (by rw [HDL.out, part_D Ht.out])
          by_cases hkt : k < t.size
          · obtain ⟨E, hE⟩ := HLAST.out hkt
            have HE := Lib.hid hE
            clear hE
            have e47 : ((t[k].toNat : Int) != 47) = false := by
              have := at_slash (t := t) (D := D) (E := E) (by rw [Ht.out, HE.out]) (by rw [← HDL.out]; exact hkt)
              have h2 : t[k] = 47 := by rw [← this]; congr 1
              rw [h2]; rfl
            have HX2 : Hid ((t.extract (k + 1) t.size).data.toList = E) := Lib.hid (by rw [HDL.out, part_E (t := t) (D := D) (E := E) (by rw [Ht.out, HE.out])])
            have hsz2 : (t.extract (k + 1) t.size).size ≤ 1100000 := by rw [ext_size _ _ _ (by omega)]; omega
            go_wp2_with fail
            refine digB_any _ _ (by rw [ext_size _ _ _ (by omega)]; omega) _ ?_
            have HDB := Lib.hid (congrArg digB HX.out)
            obtain ⟨bD, hbD⟩ : ∃ b, b = digB (t.extract 0 k).data.toList := ⟨_, rfl⟩
            rw [← hbD]
            have HBD := Lib.hid (hbD.trans HDB.out)
            clear hbD
            cases bD
            · have hnb : numB t.data.toList = false := numB_parts HP.out fun q hq => by have := hq.1; rw [← HBD.out] at this; cases this
              rw [hnb] at HR
              clear hnb
              dsimp only
              go_wp2
              first | go_ret | skip
              exact HR.out _ (Below.refl _ _)
            · dsimp only
              go_wp2_with fail
              refine digB_any _ _ (by omega) _ ?_
              have HEB := Lib.hid (congrArg digB HX2.out)
              obtain ⟨bE, hbE⟩ : ∃ b, b = digB (t.extract (k + 1) t.size).data.toList := ⟨_, rfl⟩
              rw [← hbE]
              have HBE := Lib.hid (hbE.trans HEB.out)
              clear hbE
              cases bE
              · have hnb : numB t.data.toList = false := numB_parts HP.out fun q hq => by
                  rcases hq.2 with ⟨h, _⟩ | ⟨E', h, hE', _⟩
                  · rw [HE.out] at h; cases h
                  · rw [HE.out] at h
                    obtain rfl := (List.cons.inj h).2
                    rw [← HBE.out] at hE'; cases hE'
                rw [hnb] at HR
                clear hnb
                dsimp only
                go_wp2
                first | go_ret | skip
                exact HR.out _ (Below.refl _ _)
              · by_cases hz : E = [48]
                · have hnb : numB t.data.toList = false := numB_parts HP.out fun q hq => by
                    rcases hq.2 with ⟨h, _⟩ | ⟨E', h, hE', h2, _⟩
                    · rw [HE.out] at h; cases h
                    · rw [HE.out] at h
                      obtain rfl := (List.cons.inj h).2
                      rw [hz] at h2
                      simp [rdec] at h2
                  rw [hnb] at HR
                  clear hnb
                  have hx : ((t.extract (k + 1) t.size).toList == [48]) = true := by rw [Lib.toList_data, HX2.out, hz]; rfl
                  clear hz
                  dsimp only
                  go_wp2
                  first | go_ret | skip
                  exact HR.out _ (Below.refl _ _)
                · have hx : ((t.extract (k + 1) t.size).toList == [48]) = false := by rw [Lib.toList_data, HX2.out, beq_eq_false_iff_ne]; exact hz
                  have hm0 : rdec E ≠ 0 := fun h => hz (by have := decs_rdec HBE.out.symm; rw [h] at this; rw [← this]; rfl)
                  have HM0 := Lib.hid hm0
                  clear hz hm0
                  dsimp only
                  go_wp2_with fail
                  refine of_any t false D r (rdec E) _ HP.out (digB_iff.1 HBD.out.symm).1 (digB_iff.1 HBD.out.symm).2.1 (.inr ⟨E, HE.out, (digB_iff.1 HBE.out.symm).1, rfl, HM0.out⟩) (size_parts2 HP.out HE.out HBD.out.symm HBE.out.symm) _ ?_
                  have hnb : numB t.data.toList = _ := numB_of HP.out HBD.out.symm (.inr ⟨E, HE.out, HBE.out.symm, rfl, HM0.out⟩)
                  have hdl := divInt_le (sgn false (rdec D)) (rdec E) HM0.out
                  rw [sgn_abs] at hdl
                  have hl1 := Nat.le_trans (dig_length_mono (B := 10000) (by omega) hdl.1) (rdec_len D (digB_iff.1 HBD.out.symm).1 60 (digB_iff.1 HBD.out.symm).2.2.1)
                  have hl2 := Nat.le_trans (dig_length_mono (B := 10000) (by omega) hdl.2) (rdec_len E (digB_iff.1 HBE.out.symm).1 60 (digB_iff.1 HBE.out.symm).2.2.1)
                  obtain ⟨q, hq⟩ : ∃ q, q = Rat.divInt (sgn false (rdec D)) (rdec E : Int) := ⟨_, rfl⟩
                  rw [← hq] at hnb hl1 hl2 ⊢
                  have HNB := Lib.hid hnb
                  clear hnb hq hdl
                  intro v1 w1 hq1 hb1
                  obtain ⟨ng, a1, n1, c1, a2, n2, c2, rfl, _, _⟩ := hq1.parts
                  dsimp only
                  go_wp2_with fail
                  refine text_any _ q _ hq1 (by omega) (by omega) _ ?_
                  intro w2 hb2
                  have HB := Lib.hid (hb1.trans (hb2.mono hb1.size))
                  clear hb1 hb2 hq1
                  dsimp only
                  obtain ⟨T, hT⟩ : ∃ T, T = textQ q := ⟨_, rfl⟩
                  rw [← hT] at HNB ⊢
                  clear hT
                  by_cases hTs : T = t.data.toList
                  · have e9 : (T == t.toList) = true := by rw [Lib.toList_data, hTs]; exact beq_self_eq_true _
                    rw [HNB.out, decide_eq_true hTs] at HR
                    clear hTs
                    go_wp2
                    first | go_ret | skip
                    exact HR.out _ HB.out
                  · have e9 : (T == t.toList) = false := by rw [Lib.toList_data, beq_eq_false_iff_ne]; exact hTs
                    rw [HNB.out, decide_eq_false hTs] at HR
                    clear hTs
                    go_wp2
                    first | go_ret | skip
                    exact HR.out _ HB.out
          · have hr0 := HEND.out hkt
            have HR0 := Lib.hid hr0
            clear hr0
            go_wp2_with fail
            refine digB_any _ _ (by rw [ext_size _ _ _ (by omega)]; omega) _ ?_
            have HDB := Lib.hid (congrArg digB HX.out)
            obtain ⟨bD, hbD⟩ : ∃ b, b = digB (t.extract 0 k).data.toList := ⟨_, rfl⟩
            rw [← hbD]
            have HBD := Lib.hid (hbD.trans HDB.out)
            clear hbD
            cases bD
            · have hnb : numB t.data.toList = false := numB_parts HP.out fun q hq => by have := hq.1; rw [← HBD.out] at this; cases this
              rw [hnb] at HR
              clear hnb
              dsimp only
              go_wp2
              first | go_ret | skip
              exact HR.out _ (Below.refl _ _)
            · dsimp only
              go_wp2_with fail
              refine of_any t false D r 1 _ HP.out (digB_iff.1 HBD.out.symm).1 (digB_iff.1 HBD.out.symm).2.1 (.inl ⟨HR0.out, rfl⟩) (size_parts1 HP.out HR0.out HBD.out.symm) _ ?_
              have hnb : numB t.data.toList = _ := numB_of HP.out HBD.out.symm (.inl ⟨HR0.out, rfl⟩)
              have hdl := divInt_le (sgn false (rdec D)) 1 (by omega)
              rw [sgn_abs] at hdl
              have hl1 := Nat.le_trans (dig_length_mono (B := 10000) (by omega) hdl.1) (rdec_len D (digB_iff.1 HBD.out.symm).1 60 (digB_iff.1 HBD.out.symm).2.2.1)
              have hl2 := Nat.le_trans (dig_length_mono (B := 10000) (by omega) hdl.2) (show _ ≤ 60 by rw [dig_small (by omega) (by omega)]; simp)
              obtain ⟨q, hq⟩ : ∃ q, q = Rat.divInt (sgn false (rdec D)) ((1 : Nat) : Int) := ⟨_, rfl⟩
              rw [← hq] at hnb hl1 hl2 ⊢
              have HNB := Lib.hid hnb
              clear hnb hq hdl
              intro v1 w1 hq1 hb1
              obtain ⟨ng, a1, n1, c1, a2, n2, c2, rfl, _, _⟩ := hq1.parts
              dsimp only
              go_wp2_with fail
              refine text_any _ q _ hq1 (by omega) (by omega) _ ?_
              intro w2 hb2
              have HB := Lib.hid (hb1.trans (hb2.mono hb1.size))
              clear hb1 hb2 hq1
              dsimp only
              obtain ⟨T, hT⟩ : ∃ T, T = textQ q := ⟨_, rfl⟩
              rw [← hT] at HNB ⊢
              clear hT
              by_cases hTs : T = t.data.toList
              · have e9 : (T == t.toList) = true := by rw [Lib.toList_data, hTs]; exact beq_self_eq_true _
                rw [HNB.out, decide_eq_true hTs] at HR
                clear hTs
                go_wp2
                first | go_ret | skip
                exact HR.out _ HB.out
              · have e9 : (T == t.toList) = false := by rw [Lib.toList_data, beq_eq_false_iff_ne]; exact hTs
                rw [HNB.out, decide_eq_false hTs] at HR
                clear hTs
                go_wp2
                first | go_ret | skip
                exact HR.out _ HB.out
  · obtain ⟨hpos, h45⟩ := hm45.1 rfl
    have e45 : ((s[0].toNat : Int) == 45) = true := by
      rw [h45]; rfl
    clear hm45 h45
    go_enter Tryz.func168, Tryz.ntmps168
    go_wp2
    have ht : t = s.extract 1 s.size := Hn.out
    rw [← ht]
    clear ht
    go_loop [4] (fun i => ∃ k : Nat, i = .int .i64 k ∧ k ≤ dl) (fun i => dl - (intOf i).toNat)
    case atStart => exact ⟨0, rfl, Nat.zero_le _⟩
    case round =>
      obtain ⟨k, rfl, hk⟩ := hrel
      by_cases hkd : k < dl
      · have hkt : k < t.size := by omega
        have hkD : k < D.length := by rw [← HDL.out]; exact hkd
        have hne : t[k].toNat ≠ 47 := by
          rw [at_D Ht.out k hkD hkt]
          intro h
          exact H3.out D[k] (List.getElem_mem hkD) (UInt8.toNat_inj.1 h)
        have e47 : ((t[k].toNat : Int) != 47) = true := by rw [bne_iff_ne]; omega
        clear hne
        go_wp2
        go_round
        case rel => exact ⟨k + 1, by go_num, by omega⟩
        case measure => simp [intOf]; omega
      · obtain rfl : k = dl := by omega
        clear hkd hk
        have HX : Hid ((t.extract 0 k).data.toList = D) := Lib.hid (by rw [HDL.out, part_D Ht.out])
        by_cases hkt : k < t.size
        · obtain ⟨E, hE⟩ := HLAST.out hkt
          have HE := Lib.hid hE
          clear hE
          have e47 : ((t[k].toNat : Int) != 47) = false := by
            have := at_slash (t := t) (D := D) (E := E) (by rw [Ht.out, HE.out]) (by rw [← HDL.out]; exact hkt)
            have h2 : t[k] = 47 := by rw [← this]; congr 1
            rw [h2]; rfl
          have HX2 : Hid ((t.extract (k + 1) t.size).data.toList = E) := Lib.hid (by rw [HDL.out, part_E (t := t) (D := D) (E := E) (by rw [Ht.out, HE.out])])
          have hsz2 : (t.extract (k + 1) t.size).size ≤ 1100000 := by rw [ext_size _ _ _ (by omega)]; omega
          go_wp2_with fail
          refine digB_any _ _ (by rw [ext_size _ _ _ (by omega)]; omega) _ ?_
          have HDB := Lib.hid (congrArg digB HX.out)
          obtain ⟨bD, hbD⟩ : ∃ b, b = digB (t.extract 0 k).data.toList := ⟨_, rfl⟩
          rw [← hbD]
          have HBD := Lib.hid (hbD.trans HDB.out)
          clear hbD
          cases bD
          · have hnb : numB s.data.toList = false := numB_parts HP.out fun q hq => by have := hq.1; rw [← HBD.out] at this; cases this
            rw [hnb] at HR
            clear hnb
            dsimp only
            go_wp2
            first | go_ret | skip
            exact HR.out _ (Below.refl _ _)
          · dsimp only
            go_wp2_with fail
            refine digB_any _ _ (by omega) _ ?_
            have HEB := Lib.hid (congrArg digB HX2.out)
            obtain ⟨bE, hbE⟩ : ∃ b, b = digB (t.extract (k + 1) t.size).data.toList := ⟨_, rfl⟩
            rw [← hbE]
            have HBE := Lib.hid (hbE.trans HEB.out)
            clear hbE
            cases bE
            · have hnb : numB s.data.toList = false := numB_parts HP.out fun q hq => by
                rcases hq.2 with ⟨h, _⟩ | ⟨E', h, hE', _⟩
                · rw [HE.out] at h; cases h
                · rw [HE.out] at h
                  obtain rfl := (List.cons.inj h).2
                  rw [← HBE.out] at hE'; cases hE'
              rw [hnb] at HR
              clear hnb
              dsimp only
              go_wp2
              first | go_ret | skip
              exact HR.out _ (Below.refl _ _)
            · by_cases hz : E = [48]
              · have hnb : numB s.data.toList = false := numB_parts HP.out fun q hq => by
                  rcases hq.2 with ⟨h, _⟩ | ⟨E', h, hE', h2, _⟩
                  · rw [HE.out] at h; cases h
                  · rw [HE.out] at h
                    obtain rfl := (List.cons.inj h).2
                    rw [hz] at h2
                    simp [rdec] at h2
                rw [hnb] at HR
                clear hnb
                have hx : ((t.extract (k + 1) t.size).toList == [48]) = true := by rw [Lib.toList_data, HX2.out, hz]; rfl
                clear hz
                dsimp only
                go_wp2
                first | go_ret | skip
                exact HR.out _ (Below.refl _ _)
              · have hx : ((t.extract (k + 1) t.size).toList == [48]) = false := by rw [Lib.toList_data, HX2.out, beq_eq_false_iff_ne]; exact hz
                have hm0 : rdec E ≠ 0 := fun h => hz (by have := decs_rdec HBE.out.symm; rw [h] at this; rw [← this]; rfl)
                have HM0 := Lib.hid hm0
                clear hz hm0
                dsimp only
                go_wp2_with fail
                refine of_any s true D r (rdec E) _ HP.out (digB_iff.1 HBD.out.symm).1 (digB_iff.1 HBD.out.symm).2.1 (.inr ⟨E, HE.out, (digB_iff.1 HBE.out.symm).1, rfl, HM0.out⟩) (size_parts2 HP.out HE.out HBD.out.symm HBE.out.symm) _ ?_
                have hnb : numB s.data.toList = _ := numB_of HP.out HBD.out.symm (.inr ⟨E, HE.out, HBE.out.symm, rfl, HM0.out⟩)
                have hdl := divInt_le (sgn true (rdec D)) (rdec E) HM0.out
                rw [sgn_abs] at hdl
                have hl1 := Nat.le_trans (dig_length_mono (B := 10000) (by omega) hdl.1) (rdec_len D (digB_iff.1 HBD.out.symm).1 60 (digB_iff.1 HBD.out.symm).2.2.1)
                have hl2 := Nat.le_trans (dig_length_mono (B := 10000) (by omega) hdl.2) (rdec_len E (digB_iff.1 HBE.out.symm).1 60 (digB_iff.1 HBE.out.symm).2.2.1)
                obtain ⟨q, hq⟩ : ∃ q, q = Rat.divInt (sgn true (rdec D)) (rdec E : Int) := ⟨_, rfl⟩
                rw [← hq] at hnb hl1 hl2 ⊢
                have HNB := Lib.hid hnb
                clear hnb hq hdl
                intro v1 w1 hq1 hb1
                obtain ⟨ng, a1, n1, c1, a2, n2, c2, rfl, _, _⟩ := hq1.parts
                dsimp only
                go_wp2_with fail
                refine text_any _ q _ hq1 (by omega) (by omega) _ ?_
                intro w2 hb2
                have HB := Lib.hid (hb1.trans (hb2.mono hb1.size))
                clear hb1 hb2 hq1
                dsimp only
                obtain ⟨T, hT⟩ : ∃ T, T = textQ q := ⟨_, rfl⟩
                rw [← hT] at HNB ⊢
                clear hT
                by_cases hTs : T = s.data.toList
                · have e9 : (T == s.toList) = true := by rw [Lib.toList_data, hTs]; exact beq_self_eq_true _
                  rw [HNB.out, decide_eq_true hTs] at HR
                  clear hTs
                  go_wp2
                  first | go_ret | skip
                  exact HR.out _ HB.out
                · have e9 : (T == s.toList) = false := by rw [Lib.toList_data, beq_eq_false_iff_ne]; exact hTs
                  rw [HNB.out, decide_eq_false hTs] at HR
                  clear hTs
                  go_wp2
                  first | go_ret | skip
                  exact HR.out _ HB.out
        · have hr0 := HEND.out hkt
          have HR0 := Lib.hid hr0
          clear hr0
          go_wp2_with fail
          refine digB_any _ _ (by rw [ext_size _ _ _ (by omega)]; omega) _ ?_
          have HDB := Lib.hid (congrArg digB HX.out)
          obtain ⟨bD, hbD⟩ : ∃ b, b = digB (t.extract 0 k).data.toList := ⟨_, rfl⟩
          rw [← hbD]
          have HBD := Lib.hid (hbD.trans HDB.out)
          clear hbD
          cases bD
          · have hnb : numB s.data.toList = false := numB_parts HP.out fun q hq => by have := hq.1; rw [← HBD.out] at this; cases this
            rw [hnb] at HR
            clear hnb
            dsimp only
            go_wp2
            first | go_ret | skip
            exact HR.out _ (Below.refl _ _)
          · dsimp only
            go_wp2_with fail
            refine of_any s true D r 1 _ HP.out (digB_iff.1 HBD.out.symm).1 (digB_iff.1 HBD.out.symm).2.1 (.inl ⟨HR0.out, rfl⟩) (size_parts1 HP.out HR0.out HBD.out.symm) _ ?_
            have hnb : numB s.data.toList = _ := numB_of HP.out HBD.out.symm (.inl ⟨HR0.out, rfl⟩)
            have hdl := divInt_le (sgn true (rdec D)) 1 (by omega)
            rw [sgn_abs] at hdl
            have hl1 := Nat.le_trans (dig_length_mono (B := 10000) (by omega) hdl.1) (rdec_len D (digB_iff.1 HBD.out.symm).1 60 (digB_iff.1 HBD.out.symm).2.2.1)
            have hl2 := Nat.le_trans (dig_length_mono (B := 10000) (by omega) hdl.2) (show _ ≤ 60 by rw [dig_small (by omega) (by omega)]; simp)
            obtain ⟨q, hq⟩ : ∃ q, q = Rat.divInt (sgn true (rdec D)) ((1 : Nat) : Int) := ⟨_, rfl⟩
            rw [← hq] at hnb hl1 hl2 ⊢
            have HNB := Lib.hid hnb
            clear hnb hq hdl
            intro v1 w1 hq1 hb1
            obtain ⟨ng, a1, n1, c1, a2, n2, c2, rfl, _, _⟩ := hq1.parts
            dsimp only
            go_wp2_with fail
            refine text_any _ q _ hq1 (by omega) (by omega) _ ?_
            intro w2 hb2
            have HB := Lib.hid (hb1.trans (hb2.mono hb1.size))
            clear hb1 hb2 hq1
            dsimp only
            obtain ⟨T, hT⟩ : ∃ T, T = textQ q := ⟨_, rfl⟩
            rw [← hT] at HNB ⊢
            clear hT
            by_cases hTs : T = s.data.toList
            · have e9 : (T == s.toList) = true := by rw [Lib.toList_data, hTs]; exact beq_self_eq_true _
              rw [HNB.out, decide_eq_true hTs] at HR
              clear hTs
              go_wp2
              first | go_ret | skip
              exact HR.out _ HB.out
            · have e9 : (T == s.toList) = false := by rw [Lib.toList_data, beq_eq_false_iff_ne]; exact hTs
              rw [HNB.out, decide_eq_false hTs] at HR
              clear hTs
              go_wp2
              first | go_ret | skip
              exact HR.out _ HB.out
end Go.Proofs.YtnfehccicnpbpaaGreatDoor

namespace Go.Proofs.YtnfehccicnpbpaaGreatDoor
open Go Go.RowKit

theorem numIs_det {neg : Bool} {D r : List UInt8} {q q' : Rat} (h : NumIs neg D r q) (h' : NumIs neg D r q') : q = q' := by
  rcases h.2 with ⟨h1, _, h3⟩ | ⟨E, h1, _, _, _, h5, h6⟩
  · rcases h'.2 with ⟨_, _, h3'⟩ | ⟨E', h1', _⟩
    · rw [h3, h3']
    · rw [h1] at h1'; cases h1'
  · rcases h'.2 with ⟨h1', _⟩ | ⟨E', h1', _, _, _, h5', h6'⟩
    · rw [h1] at h1'; cases h1'
    · rw [h1] at h1'
      obtain rfl := (List.cons.inj h1').2
      exact Rat.ext (h5.trans h5'.symm) (h6.trans h6'.symm)

theorem textQ_inj {q q' : Rat} (h : few q) (h' : few q') (e : textQ q = textQ q') : q = q' := by
  obtain ⟨neg, D, r, hp, hn⟩ := parts_text q h
  exact numIs_det hn ((num_iff hp q').2 ⟨e, h'⟩)

/-- the number that a text is -/
noncomputable def numO (L : List UInt8) : Option Rat := @dite _ (∃ q, L = textQ q ∧ few q) (Classical.propDecidable _) (fun h => some h.choose) (fun _ => none)

theorem numO_some {L : List UInt8} {q : Rat} : numO L = some q ↔ L = textQ q ∧ few q := by
  unfold numO
  split
  · rename_i h
    constructor
    · intro e
      obtain rfl := Option.some.inj e
      exact h.choose_spec
    · rintro ⟨h1, h2⟩
      have := h.choose_spec
      exact congrArg some (textQ_inj this.2 h2 (this.1.symm.trans h1))
  · rename_i h
    constructor
    · intro e; cases e
    · rintro ⟨h1, h2⟩; exact absurd ⟨q, h1, h2⟩ h

theorem numB_numO (L : List UInt8) : numB L = (numO L).isSome := by
  cases h : numO L with
  | some q => exact numB_true.2 ⟨q, numO_some.1 h⟩
  | none =>
    refine numB_false fun q h1 h2 => ?_
    rw [numO_some.2 ⟨h1, h2⟩] at h; cases h

theorem numO_few {L : List UInt8} {q : Rat} (h : numO L = some q) : few q := (numO_some.1 h).2
theorem numO_text {L : List UInt8} {q : Rat} (h : numO L = some q) : L = textQ q := (numO_some.1 h).1

theorem decs_lt (n k : Nat) (h : (decs n).length ≤ k) (hk : 1 ≤ k) : n < 10 ^ k := by
  by_cases h0 : n = 0
  · subst h0; exact Nat.pow_pos (by omega)
  · unfold decs at h
    rw [if_neg h0, List.length_map, List.length_reverse] at h
    exact Nat.lt_of_lt_of_le (lt_pow_dig (by omega) n) (Nat.pow_le_pow_right (by omega) h)

theorem few_lt {q : Rat} (h : few q) : q.num.natAbs < 10 ^ 60 ∧ q.den < 10 ^ 60 := ⟨decs_lt _ _ h.1 (by omega), decs_lt _ _ h.2 (by omega)⟩

/-- a number with few digits has few digits to whatever base -/
theorem few_len {q : Rat} (h : few q) {B : Nat} (hB : 10 ≤ B) : (dig B q.num.natAbs).length ≤ 60 ∧ (dig B q.den).length ≤ 60 := by
  obtain ⟨h1, h2⟩ := few_lt h
  exact ⟨dig_length_ten hB h1, dig_length_ten hB h2⟩

theorem numO_size {s : ByteArray} {q : Rat} (h : numO s.data.toList = some q) : s.size ≤ 122 := by
  refine Nat.le_of_not_lt fun h9 => ?_
  have : numB s.data.toList = false := numB_len (by rw [size_list]; omega)
  rw [numB_numO, h] at this; cases this

/-- the model's fraction of a text that is a number -/
theorem ofq_any (s : ByteArray) (q : Rat) (w : World) (h : numO s.data.toList = some q) (R : Ending → World → Prop)
    (hR : ∀ v w', IsQ w' v q → Below w.heap.size w w' → R (.returned v) w') :
    Calls Tryz.prog 87 #[.string s] w R := by
  have hsz := numO_size h
  obtain ⟨h1, h2⟩ := numO_some.1 h
  obtain ⟨neg, D, r, hp, hn⟩ := parts_text q h2
  rw [← h1] at hp
  obtain ⟨hD, hn⟩ := hn
  obtain ⟨hD1, hD2, _, _⟩ := digB_iff.1 hD
  rcases hn with ⟨hr, _, e⟩ | ⟨E, hr, hE, hE2, _, e1, e2⟩
  · refine of_any s neg D r 1 w hp hD1 hD2 (.inl ⟨hr, rfl⟩) (by omega) R fun v w' hq hb => hR v w' ?_ hb
    have e9 : q = Rat.divInt (sgn neg (rdec D)) ((1 : Nat) : Int) := by
      rw [e, Rat.divInt_ofNat, Rat.mkRat_one]
    rw [e9]; exact hq
  · refine of_any s neg D r (rdec E) w hp hD1 hD2 (.inr ⟨E, hr, (digB_iff.1 hE).1, rfl, by omega⟩) (by omega) R fun v w' hq hb => hR v w' ?_ hb
    have e9 : q = Rat.divInt (sgn neg (rdec D)) ((rdec E : Nat) : Int) := by
      rw [← e1, ← e2, Rat.num_divInt_den]
    rw [e9]; exact hq

/-- the model's test of a text -/
theorem isq_any (s : ByteArray) (w : World) (hs : s.size ≤ 1100000) (R : Ending → World → Prop)
    (hR : ∀ w', Below w.heap.size w w' → R (.returned (.bool (numO s.data.toList).isSome)) w') :
    Calls Tryz.prog 168 #[.string s] w R :=
  is_any s w hs R fun w' hb => by rw [numB_numO]; exact hR w' hb

/-- the program's reading of a text -/
theorem readq_any (s : ByteArray) (w : World) (hE : Env w) (R : Ending → World → Prop)
    (hR : ∀ v q w', numO s.data.toList = some q → IsR w' v q → Below w.heap.size w w' → R (.returned (.tuple #[v, .nilIface])) w')
    (hR2 : ∀ e w', numO s.data.toList = none → ErrV e → Below w.heap.size w w' → R (.returned (.tuple #[zeroR, e])) w') :
    Calls Tryz.prog 117 #[.string s] w R :=
  readr_any s w hE R (fun v q w' h1 h2 hv hb => hR v q w' (numO_some.2 ⟨h1, h2⟩) hv hb)
    (fun e w' h he hb => hR2 e w' (by rw [numB_numO] at h; cases hn : numO s.data.toList with
      | none => rfl
      | some q => rw [hn] at h; cases h) he hb)
end Go.Proofs.YtnfehccicnpbpaaGreatDoor

namespace Go.Proofs.YtnfehccicnpbpaaGreatDoor
open Go Go.RowKit

/-- the zero value of the program's type of integers -/
def zeroI : Value := .agg #[.bool false, .slice none 0 0]

theorem below_set2 {B : Nat} {a w : World} (h : Below B a w) {b : Nat} (hb : B ≤ b) (y0 y1 : Value) : Below B a ((w.setCell ⟨b, 0, none⟩ y0).setCell ⟨b, 1, none⟩ y1) :=
  (h.setCell hb _).setCell hb _
theorem IsN.set2 {w : World} {v : Value} {n : Nat} (h : IsN w v n) {b : Nat} (hb : NoInt w b) (y0 y1 : Value) (h0 : notInt y0 = true) : IsN ((w.setCell ⟨b, 0, none⟩ y0).setCell ⟨b, 1, none⟩ y1) v n :=
  (Sl.set h hb 0 y0).set (hb.set 0 _ h0) 1 y1

end Go.Proofs.YtnfehccicnpbpaaGreatDoor
