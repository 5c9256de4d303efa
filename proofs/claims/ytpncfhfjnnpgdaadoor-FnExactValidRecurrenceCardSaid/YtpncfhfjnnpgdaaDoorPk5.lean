/- Contracts of functions of the program and of the model: ReadF, As, AsM, AsC, ReadR, ReadS, ReadT, ReadU, ReadN, IsW, NumO, LawIsNumber, EnvLaid, Lst, Tx, RowKit. -/
import Derived.Test.YtpncfhfjnnpgdaaDoorPk4
import Derived.WalkKit
import Derived.LaidEql
import Derived.Stop.Asserts
import Derived.RowKitTokens
import Derived.Lib.Strings
import Derived.Test.YtpncfhfjnnpgdaaDoorTie
import Derived.Test.YtpncfhfjnnpgdaaDoorCards
import Derived.ProofKit
import Derived.LaidMore
import Derived.LaidHandle
import Derived.OpenShut
import Derived.ChangeVars
import Derived.ChangeMaps5
import Derived.Stop.Joined
import Derived.Stop.JoinedAt
import Derived.Stop.Texts
import Derived.Stop.ErrReads
import Derived.Stop.LaidErr
import Derived.SevenTiedAt
import Derived.SliceStrings
import Derived.Carry
set_option linter.all false
set_option linter.unusedVariables false
set_option linter.unusedSimpArgs false
set_option linter.unnecessarySimpa false
set_option linter.deprecated false
namespace Go.Proofs.YtpncfhfjnnpgdaaDoor
open Go Go.RowKit

set_option maxRecDepth 100000 in
set_option maxHeartbeats 2000000 in
theorem readf_any (neg : Bool) (s1 s2 : ByteArray) (w : World) (hE : Env w) (hs1 : s1.size ≤ 250) (hs2 : s2.size ≤ 250) (R : Ending → World → Prop)
    (hR : ∀ v q w', digB s1.data.toList = true → digB s2.data.toList = true → 2 ≤ rdec s2.data.toList → Nat.gcd (rdec s1.data.toList) (rdec s2.data.toList) = 1 → q.num = sgn neg (rdec s1.data.toList) → q.den = rdec s2.data.toList →
      IsR w' v q → Below w.heap.size w w' → R (.returned (.tuple #[v, .nilIface])) w')
    (hR2 : ∀ e w', ¬ (digB s1.data.toList = true ∧ digB s2.data.toList = true ∧ 2 ≤ rdec s2.data.toList ∧ Nat.gcd (rdec s1.data.toList) (rdec s2.data.toList) = 1) → ErrV e → Below w.heap.size w w' → R (.returned (.tuple #[zeroR, e])) w') :
    Calls Tryd.prog 63 #[.bool neg, .string s1, .string s2] w R := by
  have HR := Lib.hid hR; clear hR
  have HR2 := Lib.hid hR2; clear hR2
  have hne1 : ¬ 1 = w.heap.size := by
    obtain ⟨⟨pf, hpf⟩, _, _⟩ := hE
    exact Nat.ne_of_lt (lt_of_cell hpf)
  have hne2 : ¬ w.heap.size = 1 := fun h => hne1 h.symm
  have HE := Lib.hid hE; clear hE
  obtain ⟨N1, hN1⟩ : ∃ N, N = rdec s1.data.toList := ⟨_, rfl⟩
  obtain ⟨N2, hN2⟩ : ∃ N, N = rdec s2.data.toList := ⟨_, rfl⟩
  obtain ⟨L, hL⟩ : ∃ L, L = w.alloc (.cells #[.bool false, .slice none 0 0, .slice none 0 0] 49) := ⟨_, rfl⟩
  have hbL : Below w.heap.size w L := by rw [hL]; exact (Below.refl _ _).alloc (Nat.le_refl _) _
  have hLs : L.heap.size = w.heap.size + 1 := by rw [hL]; simp
  have HL := Lib.hid hL
  have HBL := Lib.hid hbL
  have HLS := Lib.hid hLs
  have HBX : Hid (Box3 L w.heap.size (.bool false) (.slice none 0 0) (.slice none 0 0) 49) := Lib.hid (by rw [hL]; exact Box3.made _ _ _ _ _)
  have HN1 := Lib.hid hN1
  have HN2 := Lib.hid hN2
  clear hL hbL hLs hN1 hN2
  go_enter Tryd.func63, Tryd.ntmps63
  go_wp2_with fail
  rw [← HL.out]
  refine readd_any s1 L (HE.out.later HBL.out (Nat.le_refl _)) (by omega) _ ?_ ?_
  · intro v1 w1 hd1 hv1 hb1
    obtain ⟨a1, n1, c1, rfl, hv1'⟩ := hv1.op
    have HV1 := Lib.hid hv1'
    have HD1 := Lib.hid hd1
    have HB1 := Lib.hid (HBL.out.trans (hb1.mono (by have := HLS.out; omega)))
    have HX1 := Lib.hid (HBX.out.later hb1 (by have := HLS.out; omega))
    have HE1 := Lib.hid ((HE.out.later HBL.out (Nat.le_refl _)).later hb1 (Nat.le_refl _))
    clear hv1 hv1' hb1 hd1
    dsimp only
    go_wp2_with fail
    refine readd_any s2 w1 HE1.out (by omega) _ ?_ ?_
    · intro v2 w2 hd2 hv2 hb2
      obtain ⟨a2, n2, c2, rfl, hv2'⟩ := hv2.op
      have HV2 := Lib.hid hv2'
      have HV1b := Lib.hid (HV1.out.later hb2 (Nat.le_refl _))
      have HD2 := Lib.hid hd2
      have HB2 := Lib.hid (HB1.out.trans (hb2.mono HB1.out.size))
      have HX2 := Lib.hid (HX1.out.later hb2 (lt_of_block HX1.out))
      have HE2 := Lib.hid (HE1.out.later hb2 (Nat.le_refl _))
      obtain ⟨⟨hR0, hR1, hR2⟩, hF0, hF1, hF2⟩ := Box3.cells HX2.out
      obtain ⟨⟨pf, hpf⟩, _, _⟩ := HE2.out
      have hla : ∀ z : ByteArray, z.size ≤ 250 → z.data.toList.all isDig = true → (dig W64 (rdec z.data.toList)).length ≤ 250 := by
        intro z hz hall
        exact dig_length_ten (e := 250) (by rw [W64_eq]; omega) (Nat.lt_of_lt_of_le (rdec_lt _ hall) (Nat.pow_le_pow_right (by omega) (by rw [size_list]; exact hz)))
      have HLA1 := Lib.hid (hla s1 hs1 (digB_iff.1 HD1.out).1)
      have HLA2 := Lib.hid (hla s2 hs2 (digB_iff.1 HD2.out).1)
      clear hv2 hv2' hb2 hd2 hla
      dsimp only
      go_wp2_with fail
      refine nzero_any _ _ _ HV2.out _ ?_
      rw [← HN2.out]
      by_cases h0 : N2 = 0
      · rw [decide_eq_true h0]
        have HW := Lib.hid (show ¬ (digB s1.data.toList = true ∧ digB s2.data.toList = true ∧ 2 ≤ rdec s2.data.toList ∧ Nat.gcd (rdec s1.data.toList) (rdec s2.data.toList) = 1) by rw [← HN2.out]; omega)
        clear h0
        dsimp only
        go_wp2
        go_region
        all_goals
          go_wp2
          refine bodyPost_ret_at (by simp [results, Tryd.results63, go_sem, hR0, hR1, hR2, hF0, hF1, hF2] <;> rfl) rfl ?_
          first | exact HR2.out _ _ HW.out ⟨_, _, rfl⟩ (below_set3 HB2.out (Nat.le_refl _) _ _ _).drew | exact HR2.out _ _ HW.out ⟨_, _, rfl⟩ (below_set3 HB2.out (Nat.le_refl _) _ _ _)
      · rw [decide_eq_false h0]
        dsimp only
        go_wp2_with fail
        refine none_any _ _ _ HV2.out _ ?_
        rw [← HN2.out]
        by_cases h1 : N2 = 1
        · rw [decide_eq_true h1]
          have HW := Lib.hid (show ¬ (digB s1.data.toList = true ∧ digB s2.data.toList = true ∧ 2 ≤ rdec s2.data.toList ∧ Nat.gcd (rdec s1.data.toList) (rdec s2.data.toList) = 1) by rw [← HN2.out]; omega)
          clear h0 h1
          dsimp only
          go_wp2
          go_region
          all_goals
            go_wp2
            refine bodyPost_ret_at (by simp [results, Tryd.results63, go_sem, hR0, hR1, hR2, hF0, hF1, hF2] <;> rfl) rfl ?_
            first | exact HR2.out _ _ HW.out ⟨_, _, rfl⟩ (below_set3 HB2.out (Nat.le_refl _) _ _ _).drew | exact HR2.out _ _ HW.out ⟨_, _, rfl⟩ (below_set3 HB2.out (Nat.le_refl _) _ _ _)
        · rw [decide_eq_false h1]
          have H2 := Lib.hid (show 2 ≤ N2 by omega)
          clear h0 h1
          dsimp only
          go_wp2_with fail
          refine gcdn_any _ _ _ _ _ HV1b.out HV2.out (Nat.le_trans HLA1.out (by omega)) (Nat.le_trans HLA2.out (by omega)) _ ?_
          intro vg w3 hvg hb3
          obtain ⟨a3, n3, c3, rfl, hvg'⟩ := hvg.op
          have HVG := Lib.hid hvg'
          have HB3 := Lib.hid (HB2.out.trans (hb3.mono HB2.out.size))
          have HX3 := Lib.hid (HX2.out.later hb3 (lt_of_block HX2.out))
          have HV1c := Lib.hid (HV1b.out.later hb3 (Nat.le_refl _))
          have HV2c := Lib.hid (HV2.out.later hb3 (Nat.le_refl _))
          rw [← hb3.cell (p := ⟨1, 0, none⟩) (lt_of_cell hpf)] at hpf
          clear hvg hvg' hb3 hR0 hR1 hR2 hF0 hF1 hF2
          obtain ⟨⟨hR0, hR1, hR2⟩, hF0, hF1, hF2⟩ := Box3.cells HX3.out
          dsimp only
          go_wp2_with fail
          refine none_any _ _ _ HVG.out _ ?_
          by_cases hg : Nat.gcd (rdec s1.data.toList) (rdec s2.data.toList) = 1
          · rw [decide_eq_true hg]
            have HG := Lib.hid hg
            clear hg hpf
            dsimp only
            go_wp2_with fail
            refine integerOf_z neg _ _ _ HV1c.out _ ?_
            intro v4 w4 hz4 hb4
            obtain ⟨sz, rfl, hsz⟩ := hz4
            obtain ⟨a4, n4, c4, rfl, hsz'⟩ := hsz.op
            obtain ⟨ng, hng⟩ : ∃ ng, ng = decide (sgn neg (rdec s1.data.toList) < 0) := ⟨_, rfl⟩
            rw [← hng]
            have HNG := Lib.hid hng
            have HSZ := Lib.hid hsz'
            have HV2d := Lib.hid (HV2c.out.later hb4 (Nat.le_refl _))
            have HB4 := Lib.hid (HB3.out.trans (hb4.mono HB3.out.size))
            have HX4 := Lib.hid (HX3.out.later hb4 (lt_of_block HX3.out))
            clear hsz hsz' hb4 hng hR0 hR1 hR2 hF0 hF1 hF2
            obtain ⟨⟨hR0, hR1, hR2⟩, hF0, hF1, hF2⟩ := Box3.cells HX4.out
            have HNI := Lib.hid (HX4.out.noInt rfl rfl rfl)
            dsimp only
            go_wp2
            refine bodyPost_ret_at (by simp [results, Tryd.results63, go_sem, hR0, hR1, hR2, hF0, hF1, hF2] <;> rfl) rfl ?_
            have h2 := H2.out
            rw [HN2.out] at h2
            let q : Rat := ⟨sgn neg (rdec s1.data.toList), rdec s2.data.toList, by omega, by rw [sgn_abs]; exact HG.out⟩
            refine HR.out _ q _ HD1.out HD2.out h2 HG.out rfl rfl ⟨.slice a4 n4 c4, .slice a2 n2 c2, by rw [HNG.out], ?_, ?_⟩ (below_set3 HB4.out (Nat.le_refl _) _ _ _)
            · exact HSZ.out.set3 HNI.out _ _ _ rfl rfl
            · exact HV2d.out.set3 HNI.out _ _ _ rfl rfl
          · rw [decide_eq_false hg]
            have HW := Lib.hid (show ¬ (digB s1.data.toList = true ∧ digB s2.data.toList = true ∧ 2 ≤ rdec s2.data.toList ∧ Nat.gcd (rdec s1.data.toList) (rdec s2.data.toList) = 1) from fun h => hg h.2.2.2)
            clear hg
            dsimp only
            go_wp2
            go_region
            all_goals
              go_wp2
              refine bodyPost_ret_at (by simp [results, Tryd.results63, go_sem, hR0, hR1, hR2, hF0, hF1, hF2] <;> rfl) rfl ?_
              first | exact HR2.out _ _ HW.out ⟨_, _, rfl⟩ (below_set3 HB3.out (Nat.le_refl _) _ _ _).drew | exact HR2.out _ _ HW.out ⟨_, _, rfl⟩ (below_set3 HB3.out (Nat.le_refl _) _ _ _)
    · intro e w2 hd2 he hb2
      obtain ⟨t, p, rfl⟩ := he
      have HW := Lib.hid (show ¬ (digB s1.data.toList = true ∧ digB s2.data.toList = true ∧ 2 ≤ rdec s2.data.toList ∧ Nat.gcd (rdec s1.data.toList) (rdec s2.data.toList) = 1) from fun h => by rw [hd2] at h; exact absurd h.2.1 (by simp))
      have HB2 := Lib.hid (HB1.out.trans (hb2.mono HB1.out.size))
      have HX2 := Lib.hid (HX1.out.later hb2 (lt_of_block HX1.out))
      obtain ⟨⟨hR0, hR1, hR2⟩, hF0, hF1, hF2⟩ := Box3.cells HX2.out
      clear hd2 hb2
      dsimp only
      go_wp2
      refine bodyPost_ret_at (by simp [results, Tryd.results63, go_sem, hR0, hR1, hR2, hF0, hF1, hF2] <;> rfl) rfl ?_
      first | exact HR2.out _ _ HW.out ⟨_, _, rfl⟩ (below_set3 HB2.out (Nat.le_refl _) _ _ _).drew | exact HR2.out _ _ HW.out ⟨_, _, rfl⟩ (below_set3 HB2.out (Nat.le_refl _) _ _ _)
  · intro e w1 hd1 he hb1
    obtain ⟨t, p, rfl⟩ := he
    have HW := Lib.hid (show ¬ (digB s1.data.toList = true ∧ digB s2.data.toList = true ∧ 2 ≤ rdec s2.data.toList ∧ Nat.gcd (rdec s1.data.toList) (rdec s2.data.toList) = 1) from fun h => by rw [hd1] at h; exact absurd h.1 (by simp))
    have HB1 := Lib.hid (HBL.out.trans (hb1.mono (by have := HLS.out; omega)))
    have HX1 := Lib.hid (HBX.out.later hb1 (by have := HLS.out; omega))
    obtain ⟨⟨hR0, hR1, hR2⟩, hF0, hF1, hF2⟩ := Box3.cells HX1.out
    clear hd1 hb1
    dsimp only
    go_wp2
    refine bodyPost_ret_at (by simp [results, Tryd.results63, go_sem, hR0, hR1, hR2, hF0, hF1, hF2] <;> rfl) rfl ?_
    exact HR2.out _ _ HW.out ⟨_, _, rfl⟩ (below_set3 (by first | exact HB1.out | exact HB1.out.drew) (Nat.le_refl _) _ _ _)
end Go.Proofs.YtpncfhfjnnpgdaaDoor

namespace Go.Proofs.YtpncfhfjnnpgdaaDoor
open Go Go.RowKit Go.Extern.Stop Go.Stop Go.Extern

/-- errors.As(nil, target). -/
theorem as_nil (t : Value) (w : World) :
    Calls Tryd.prog 62 #[.nilIface, t] w fun e w' => e = .returned (.bool false) ∧ w' = w := by
  go_enter Tryd.func62, Tryd.ntmps62
  go_wp2
  go_ret
  exact ⟨rfl, rfl⟩

theorem as_valueOf27 (t : Addr) (w : World) : (ReflectliteValue.unpack (.iface 95 (.pointer (some t)))).run Tryd.prog w
    = .ok (.agg #[.pointer (some ⟨8, 95, none⟩), .pointer (some ⟨w.heap.size, 0, none⟩), .int .u64 150]) (w.alloc (.cells #[.pointer (some t)] 95)) := by kernel_rfl
theorem as_type27 (a : Addr) (w : World) : (ReflectliteValue.methodAny (ReflectliteValue.valueError "reflectlite.Value.Type" 0) (fun t _ _ _ => ReflectliteType.toType t) #[.agg #[.pointer (some ⟨8, 95, none⟩), .pointer (some a), .int .u64 150]]).run Tryd.prog w
    = .ok (.iface 145 (.agg #[.pointer (some ⟨8, 95, none⟩)])) w := by kernel_rfl
theorem as_methodKind (h : Value) (w : World) : (Go.method 321 145 (.agg #[h]) "Kind").run Tryd.prog w = .ok (152, h) w := by kernel_rfl
theorem as_kind27 (w : World) : ((ReflectliteType.abiMethod fun t => (fun a : Nat => Value.int IntKind.u8 (a : Int)) <$> Rtype.kind t) #[.pointer (some ⟨8, 95, none⟩)]).run Tryd.prog w = .ok (.int .u8 22) w := by kernel_rfl
theorem as_kind25 (w : World) : ((ReflectliteType.abiMethod fun t => (fun a : Nat => Value.int IntKind.u8 (a : Int)) <$> Rtype.kind t) #[.pointer (some ⟨8, 93, none⟩)]).run Tryd.prog w = .ok (.int .u8 22) w := by kernel_rfl

theorem as_rlm (z : Sem Value) (f : TypeId → Addr → Nat → Nat → Sem Value) (v : Value) :
    ReflectliteValue.method z f #[v] = (do match ← ReflectliteValue.parts v with | none => z | some (t, a, fl) => f t a fl (fl % 32)) := rfl
theorem as_parts27 (a : Addr) (w : World) : (ReflectliteValue.parts (.agg #[.pointer (some ⟨8, 95, none⟩), .pointer (some a), .int .u64 150])).run Tryd.prog w = .ok (some (95, a, 150)) w := by kernel_rfl
/-- (Value).IsNil at the Value of a **p.E that is not nil. -/
theorem as_isNil27 (a p : Addr) (W : World) (ha : W.cell? a = some (.pointer (some p))) :
    (ReflectliteValue.method (ReflectliteValue.valueError "reflectlite.Value.IsNil" 0) ReflectliteValue.isNil #[.agg #[.pointer (some ⟨8, 95, none⟩), .pointer (some a), .int .u64 150]]).run Tryd.prog W = .ok (.bool false) W := by
  rw [as_rlm]
  simp only [Sem.run_bind, as_parts27, Result.andThen]
  simp [ReflectliteValue.isNil, loadVar, isAgg, underlying, Tryd.underlying95, ha, Result.andThen]

theorem as_methodElem (h : Value) (w : World) : (Go.method 321 145 (.agg #[h]) "Elem").run Tryd.prog w = .ok (164, .agg #[h]) w := by kernel_rfl
theorem as_methodImplements (h : Value) (w : World) : (Go.method 321 145 (.agg #[h]) "Implements").run Tryd.prog w = .ok (165, .agg #[h]) w := by kernel_rfl
theorem as_methodAssignableTo (h : Value) (w : World) : (Go.method 321 145 (.agg #[h]) "AssignableTo").run Tryd.prog w = .ok (162, .agg #[h]) w := by kernel_rfl
theorem as_elem27 (w : World) : (ReflectliteType.method ReflectliteType.elem #[.agg #[.pointer (some ⟨8, 95, none⟩)]]).run Tryd.prog w = .ok (.iface 145 (.agg #[.pointer (some ⟨8, 93, none⟩)])) w := by kernel_rfl
theorem as_implements25 (w : World) : (ReflectliteType.relation "Implements" ReflectliteType.implements_ #[.agg #[.pointer (some ⟨8, 93, none⟩)], .iface 145 (.agg #[.pointer (some ⟨8, 51, none⟩)])]).run Tryd.prog w = .ok (.bool true) w := by kernel_rfl
theorem as_typeOf25 (v : Value) (w : World) : (ReflectliteType.typeOf #[.iface 93 v]).run Tryd.prog w = .ok (.iface 145 (.agg #[.pointer (some ⟨8, 93, none⟩)])) w := by kernel_rfl
theorem as_assignable25 (w : World) : (ReflectliteType.relation "AssignableTo" ReflectliteType.assignableTo #[.agg #[.pointer (some ⟨8, 93, none⟩)], .iface 145 (.agg #[.pointer (some ⟨8, 93, none⟩)])]).run Tryd.prog w = .ok (.bool true) w := by kernel_rfl
theorem as_valueOf25 (e : Addr) (w : World) : (ReflectliteValue.unpack (.iface 93 (.pointer (some e)))).run Tryd.prog w
    = .ok (.agg #[.pointer (some ⟨8, 93, none⟩), .pointer (some ⟨w.heap.size, 0, none⟩), .int .u64 150]) (w.alloc (.cells #[.pointer (some e)] 93)) := by kernel_rfl

theorem as_elemOf27 (w : World) : (Rtype.elem? 95).run Tryd.prog w = .ok (some 93) w := by kernel_rfl
theorem as_mk25 (p : Addr) (w : World) : (ReflectliteValue.mk 93 p ReflectliteValue.flagAddr).run Tryd.prog w = .ok (.agg #[.pointer (some ⟨8, 93, none⟩), .pointer (some p), .int .u64 406]) w := by kernel_rfl
/-- (Value).Elem at the Value of a **p.E that is not nil: the Value of the *p.E variable that it points to, addressable. -/
theorem as_elemV27 (a p : Addr) (W : World) (ha : W.cell? a = some (.pointer (some p))) :
    (ReflectliteValue.method (ReflectliteValue.valueError "reflectlite.Value.Elem" 0) ReflectliteValue.elem #[.agg #[.pointer (some ⟨8, 95, none⟩), .pointer (some a), .int .u64 150]]).run Tryd.prog W
      = .ok (.agg #[.pointer (some ⟨8, 93, none⟩), .pointer (some p), .int .u64 406]) W := by
  rw [as_rlm]
  simp only [Sem.run_bind, as_parts27, Result.andThen]
  simp [ReflectliteValue.elem, loadVar, isAgg, underlying, Tryd.underlying95, ha, Result.andThen, as_elemOf27, as_mk25]
theorem as_rls (v x : Value) : ReflectliteValue.set #[v, x] = (do
    let (some (dst, a, fl), some (src, b, _)) := (← ReflectliteValue.parts v, ← ReflectliteValue.parts x)
      | unsupported (.noEntry "extern/(internal/reflectlite.Value).Set.zeroValue")
    if fl / ReflectliteValue.flagAddr % 2 == 0 then unsupported (.noEntry "extern/(internal/reflectlite.Value).Set.unaddressable")
    let val ← loadVar src b
    if ← Rtype.directlyAssignable dst src then storeVar dst a val
    else if ← Rtype.implements dst src then
      if (← Rtype.kind src) == 20 then
        match val with
        | .nilIface => unsupported (.noEntry "extern/reflectlite: a nil value of one interface type handed on as a value of another")
        | _ => storeVar dst a val
      else storeVar dst a (.iface src val)
    else panicString ("reflectlite.Set: value of type " ++ (← Rtype.spelt src) ++ " is not assignable to type " ++ (← Rtype.spelt dst))
    pure (.tuple #[])) := rfl
theorem as_parts25a (a : Addr) (w : World) : (ReflectliteValue.parts (.agg #[.pointer (some ⟨8, 93, none⟩), .pointer (some a), .int .u64 406])).run Tryd.prog w = .ok (some (93, a, 406)) w := by kernel_rfl
theorem as_parts25 (a : Addr) (w : World) : (ReflectliteValue.parts (.agg #[.pointer (some ⟨8, 93, none⟩), .pointer (some a), .int .u64 150])).run Tryd.prog w = .ok (some (93, a, 150)) w := by kernel_rfl
theorem as_direct25 (w : World) : (Rtype.directlyAssignable 93 93).run Tryd.prog w = .ok true w := by kernel_rfl
theorem as_size25 (w : World) : (sizeOf 93).run Tryd.prog w = .ok 1 w := by kernel_rfl
/-- (Value).Set: the *p.E variable at 'ta' gets what the Value's own variable 'b' holds. -/
theorem as_set25 (ta b e : Addr) (old : Value) (W : World) (hb : W.cell? b = some (.pointer (some e))) (ht : W.cell? ta = some old) (hf : W.frozen? ta = false) :
    (ReflectliteValue.set #[.agg #[.pointer (some ⟨8, 93, none⟩), .pointer (some ta), .int .u64 406], .agg #[.pointer (some ⟨8, 93, none⟩), .pointer (some b), .int .u64 150]]).run Tryd.prog W
      = .ok (.tuple #[]) (W.setCell ta (.pointer (some e))) := by
  rw [as_rls]
  simp only [Sem.run_bind, as_parts25a, as_parts25, Result.andThen]
  simp [ReflectliteValue.flagAddr, loadVar, isAgg, underlying, Tryd.underlying93, hb, Result.andThen, as_direct25, storeVar, Value.cells, storeCells, Addr.add]
  rw [run_store Tryd.prog W ta _ _ (by rfl)]
  simp [ht, hf]

set_option maxHeartbeats 4000000 in
theorem as_hit (e t : Addr) (old : Value) (w : World) (hg : w.cell? ⟨2, 0, none⟩ = some (.iface 145 (.agg #[.pointer (some ⟨8, 51, none⟩)]))) (ht0 : w.cell? t = some old) (hf0 : w.frozen? t = false) :
    Calls Tryd.prog 62 #[.iface 93 (.pointer (some e)), .iface 95 (.pointer (some t))] w fun ev w' => ev = .returned (.bool true) ∧ w' = ((((w.alloc (.cells #[.pointer (some t)] 95)).alloc (.cells #[.pointer (some ⟨8, 95, none⟩), .pointer (some ⟨w.heap.size, 0, none⟩), .int .u64 150] 117)).alloc (.cells #[.pointer (some ⟨8, 95, none⟩), .pointer (some ⟨w.heap.size, 0, none⟩), .int .u64 150] 117)).alloc (.cells #[.pointer (some e)] 93)).setCell t (.pointer (some e)) := by
  have h6 := @run_callFunc_extern Tryd.prog 86 _ (fun args => ReflectliteValue.unpack (args.getD 0 (.tuple #[]))) Tryd.func86 (by kernel_rfl) (by kernel_rfl) (by kernel_rfl) (by kernel_rfl)
  have h7 := @run_callFunc_extern Tryd.prog 87 _ (ReflectliteValue.methodAny (ReflectliteValue.valueError "reflectlite.Value.Type" 0) (fun t _ _ _ => ReflectliteType.toType t)) Tryd.func87 (by kernel_rfl) (by kernel_rfl) (by kernel_rfl) (by kernel_rfl)
  have h8 := @run_callFunc_extern Tryd.prog 88 _ (ReflectliteValue.method (ReflectliteValue.valueError "reflectlite.Value.IsNil" 0) ReflectliteValue.isNil) Tryd.func88 (by kernel_rfl) (by kernel_rfl) (by kernel_rfl) (by kernel_rfl)
  have h27 := @run_callFunc_extern Tryd.prog 152 _ (ReflectliteType.abiMethod fun t => do pure (.int .u8 (← Rtype.kind t))) Tryd.func152 (by kernel_rfl) (by kernel_rfl) (by kernel_rfl) (by kernel_rfl)
  have h37 := @run_callFunc_extern Tryd.prog 164 _ (ReflectliteType.method ReflectliteType.elem) Tryd.func164 (by kernel_rfl) (by kernel_rfl) (by kernel_rfl) (by kernel_rfl)
  have h38 := @run_callFunc_extern Tryd.prog 165 _ (ReflectliteType.relation "Implements" ReflectliteType.implements_) Tryd.func165 (by kernel_rfl) (by kernel_rfl) (by kernel_rfl) (by kernel_rfl)
  have h10 := @run_callFunc_extern Tryd.prog 106 _ ReflectliteType.typeOf Tryd.func106 (by kernel_rfl) (by kernel_rfl) (by kernel_rfl) (by kernel_rfl)
  have h35 := @run_callFunc_extern Tryd.prog 162 _ (ReflectliteType.relation "AssignableTo" ReflectliteType.assignableTo) Tryd.func162 (by kernel_rfl) (by kernel_rfl) (by kernel_rfl) (by kernel_rfl)
  have h11 := @run_callFunc_extern Tryd.prog 107 _ (ReflectliteValue.method (ReflectliteValue.valueError "reflectlite.Value.Elem" 0) ReflectliteValue.elem) Tryd.func107 (by kernel_rfl) (by kernel_rfl) (by kernel_rfl) (by kernel_rfl)
  have h12 := @run_callFunc_extern Tryd.prog 108 _ ReflectliteValue.set Tryd.func108 (by kernel_rfl) (by kernel_rfl) (by kernel_rfl) (by kernel_rfl)
  have tO := as_typeOf25
  have mA := as_methodAssignableTo
  have a25 := as_assignable25
  have v25 := as_valueOf25
  have f6 := as_valueOf27
  have f7 := as_type27
  have mK := as_methodKind
  have mE := as_methodElem
  have mI := as_methodImplements
  have k27 := as_kind27
  have k25 := as_kind25
  have e27 := as_elem27
  have i25 := as_implements25
  have n8 := as_isNil27 ⟨w.heap.size, 0, none⟩ t ((w.alloc (.cells #[.pointer (some t)] 95)).alloc (.cells #[.pointer (some ⟨8, 95, none⟩), .pointer (some ⟨w.heap.size, 0, none⟩), .int .u64 150] 117)) (by simp)
  have hlt : 2 < w.heap.size := by
    exact lt_of_cell hg
  have hg2 : ((w.alloc (.cells #[.pointer (some t)] 95)).alloc (.cells #[.pointer (some ⟨8, 95, none⟩), .pointer (some ⟨w.heap.size, 0, none⟩), .int .u64 150] 117)).cell? ⟨2, 0, none⟩ = some (.iface 145 (.agg #[.pointer (some ⟨8, 51, none⟩)])) := by
    rw [World.cell?_alloc_lt _ _ ⟨2, 0, none⟩ (by simp; omega), World.cell?_alloc_lt _ _ ⟨2, 0, none⟩ hlt]; exact hg
  have htl : t.block < w.heap.size := by
    rcases Nat.lt_or_ge t.block w.heap.size with h | h
    · exact h
    · simp [World.cell?, Array.getElem?_eq_none h] at ht0
  have el := as_elemV27 ⟨w.heap.size, 0, none⟩ t (((w.alloc (.cells #[.pointer (some t)] 95)).alloc (.cells #[.pointer (some ⟨8, 95, none⟩), .pointer (some ⟨w.heap.size, 0, none⟩), .int .u64 150] 117)).alloc (.cells #[.pointer (some ⟨8, 95, none⟩), .pointer (some ⟨w.heap.size, 0, none⟩), .int .u64 150] 117)) (by rw [World.cell?_alloc_lt _ _ ⟨w.heap.size, 0, none⟩ (by simp; omega)]; simp)
  have st := as_set25 t ⟨w.heap.size + 1 + 1 + 1, 0, none⟩ e old ((((w.alloc (.cells #[.pointer (some t)] 95)).alloc (.cells #[.pointer (some ⟨8, 95, none⟩), .pointer (some ⟨w.heap.size, 0, none⟩), .int .u64 150] 117)).alloc (.cells #[.pointer (some ⟨8, 95, none⟩), .pointer (some ⟨w.heap.size, 0, none⟩), .int .u64 150] 117)).alloc (.cells #[.pointer (some e)] 93))
    (by rw [World.cell?_alloc_at _ _ _ _ (by simp)]; rfl)
    (by rw [World.cell?_alloc_lt _ _ t (by simp; omega), World.cell?_alloc_lt _ _ t (by simp; omega), World.cell?_alloc_lt _ _ t (by simp; omega), World.cell?_alloc_lt _ _ t htl]; exact ht0)
    (by rw [World.frozen?_alloc_old _ _ t (by simp; omega), World.frozen?_alloc_old _ _ t (by simp; omega), World.frozen?_alloc_old _ _ t (by simp; omega), World.frozen?_alloc_old _ _ t (Nat.ne_of_lt htl)]; exact hf0)
  go_enter Tryd.func62, Tryd.ntmps62
  go_wp2
  refine wp_loop_rounds 1 ?_
  rw [rounds_succ]
  go_wp2
  go_ret
  exact ⟨rfl, rfl⟩
end Go.Proofs.YtpncfhfjnnpgdaaDoor

namespace Go.Proofs.YtpncfhfjnnpgdaaDoor
open Go Go.RowKit Go.Extern.Stop Go.Stop Go.Extern

theorem as_typeOfS (v : Value) (w : World) : (ReflectliteType.typeOf #[.iface 187 v]).run Tryd.prog w = .ok (.iface 145 (.agg #[.pointer (some ⟨8, 187, none⟩)])) w := by kernel_rfl
theorem as_assignableS (w : World) : (ReflectliteType.relation "AssignableTo" ReflectliteType.assignableTo #[.agg #[.pointer (some ⟨8, 187, none⟩)], .iface 145 (.agg #[.pointer (some ⟨8, 93, none⟩)])]).run Tryd.prog w = .ok (.bool false) w := by kernel_rfl

theorem as_no1 (v : Value) (xT : TypeId) (w : World) : (Instr.typeAssert (.iface 187 v) xT 150 true).run Tryd.prog w = .ok (.tuple #[.nilIface, .bool false]) w := run_typeAssert_lacksB Tryd.underlying150 (by kernel_rfl) (by kernel_rfl) v xT w
theorem as_no2 (v : Value) (xT : TypeId) (w : World) : (Instr.typeAssert (.iface 187 v) xT 153 true).run Tryd.prog w = .ok (.tuple #[.nilIface, .bool false]) w := run_typeAssert_lacksB Tryd.underlying153 (by kernel_rfl) (by kernel_rfl) v xT w
theorem as_no3 (v : Value) (xT : TypeId) (w : World) : (Instr.typeAssert (.iface 187 v) xT 155 true).run Tryd.prog w = .ok (.tuple #[.nilIface, .bool false]) w := run_typeAssert_lacksB Tryd.underlying155 (by kernel_rfl) (by kernel_rfl) v xT w

set_option maxRecDepth 100000 in
set_option maxHeartbeats 4000000 in
theorem as_miss (e t : Addr) (old : Value) (w : World) (hg : w.cell? ⟨2, 0, none⟩ = some (.iface 145 (.agg #[.pointer (some ⟨8, 51, none⟩)]))) (ht0 : w.cell? t = some old) (hf0 : w.frozen? t = false) :
    Calls Tryd.prog 62 #[.iface 187 (.pointer (some e)), .iface 95 (.pointer (some t))] w fun ev w' => ev = .returned (.bool false) ∧ w' = (((w.alloc (.cells #[.pointer (some t)] 95)).alloc (.cells #[.pointer (some ⟨8, 95, none⟩), .pointer (some ⟨w.heap.size, 0, none⟩), .int .u64 150] 117)).alloc (.cells #[.pointer (some ⟨8, 95, none⟩), .pointer (some ⟨w.heap.size, 0, none⟩), .int .u64 150] 117)) := by
  have h6 := @run_callFunc_extern Tryd.prog 86 _ (fun args => ReflectliteValue.unpack (args.getD 0 (.tuple #[]))) Tryd.func86 (by kernel_rfl) (by kernel_rfl) (by kernel_rfl) (by kernel_rfl)
  have h7 := @run_callFunc_extern Tryd.prog 87 _ (ReflectliteValue.methodAny (ReflectliteValue.valueError "reflectlite.Value.Type" 0) (fun t _ _ _ => ReflectliteType.toType t)) Tryd.func87 (by kernel_rfl) (by kernel_rfl) (by kernel_rfl) (by kernel_rfl)
  have h8 := @run_callFunc_extern Tryd.prog 88 _ (ReflectliteValue.method (ReflectliteValue.valueError "reflectlite.Value.IsNil" 0) ReflectliteValue.isNil) Tryd.func88 (by kernel_rfl) (by kernel_rfl) (by kernel_rfl) (by kernel_rfl)
  have h27 := @run_callFunc_extern Tryd.prog 152 _ (ReflectliteType.abiMethod fun t => do pure (.int .u8 (← Rtype.kind t))) Tryd.func152 (by kernel_rfl) (by kernel_rfl) (by kernel_rfl) (by kernel_rfl)
  have h37 := @run_callFunc_extern Tryd.prog 164 _ (ReflectliteType.method ReflectliteType.elem) Tryd.func164 (by kernel_rfl) (by kernel_rfl) (by kernel_rfl) (by kernel_rfl)
  have h38 := @run_callFunc_extern Tryd.prog 165 _ (ReflectliteType.relation "Implements" ReflectliteType.implements_) Tryd.func165 (by kernel_rfl) (by kernel_rfl) (by kernel_rfl) (by kernel_rfl)
  have h10 := @run_callFunc_extern Tryd.prog 106 _ ReflectliteType.typeOf Tryd.func106 (by kernel_rfl) (by kernel_rfl) (by kernel_rfl) (by kernel_rfl)
  have h35 := @run_callFunc_extern Tryd.prog 162 _ (ReflectliteType.relation "AssignableTo" ReflectliteType.assignableTo) Tryd.func162 (by kernel_rfl) (by kernel_rfl) (by kernel_rfl) (by kernel_rfl)
  have no1 := as_no1
  have no2 := as_no2
  have no3 := as_no3
  have tO := as_typeOfS
  have mA := as_methodAssignableTo
  have a25 := as_assignableS
  have f6 := as_valueOf27
  have f7 := as_type27
  have mK := as_methodKind
  have mE := as_methodElem
  have mI := as_methodImplements
  have k27 := as_kind27
  have k25 := as_kind25
  have e27 := as_elem27
  have i25 := as_implements25
  have n8 := as_isNil27 ⟨w.heap.size, 0, none⟩ t ((w.alloc (.cells #[.pointer (some t)] 95)).alloc (.cells #[.pointer (some ⟨8, 95, none⟩), .pointer (some ⟨w.heap.size, 0, none⟩), .int .u64 150] 117)) (by simp)
  have hlt : 2 < w.heap.size := by
    exact lt_of_cell hg
  have hg2 : ((w.alloc (.cells #[.pointer (some t)] 95)).alloc (.cells #[.pointer (some ⟨8, 95, none⟩), .pointer (some ⟨w.heap.size, 0, none⟩), .int .u64 150] 117)).cell? ⟨2, 0, none⟩ = some (.iface 145 (.agg #[.pointer (some ⟨8, 51, none⟩)])) := by
    rw [World.cell?_alloc_lt _ _ ⟨2, 0, none⟩ (by simp; omega), World.cell?_alloc_lt _ _ ⟨2, 0, none⟩ hlt]; exact hg
  have htl : t.block < w.heap.size := by
    rcases Nat.lt_or_ge t.block w.heap.size with h | h
    · exact h
    · simp [World.cell?, Array.getElem?_eq_none h] at ht0
  go_enter Tryd.func62, Tryd.ntmps62
  go_wp2
  refine wp_loop_rounds 1 ?_
  rw [rounds_succ]
  go_wp2
  go_ret
  exact ⟨rfl, rfl⟩
end Go.Proofs.YtpncfhfjnnpgdaaDoor

namespace Go.Proofs.YtpncfhfjnnpgdaaDoor
open Go Go.RowKit

theorem as_hitR (e : Addr) (b : Nat) (old : Value) (w : World) (hE : Env w) (ht0 : w.cell? ⟨b, 0, none⟩ = some old) (hf0 : w.frozen? ⟨b, 0, none⟩ = false) (R : Ending → World → Prop)
    (hR : ∀ w', Below b w w' → w'.cell? ⟨b, 0, none⟩ = some (.pointer (some e)) → R (.returned (.bool true)) w') :
    Calls Tryd.prog 62 #[.iface 93 (.pointer (some e)), .iface 95 (.pointer (some ⟨b, 0, none⟩))] w R := by
  have hlt := lt_of_cell ht0
  refine (as_hit e ⟨b, 0, none⟩ old w hE.ty ht0 hf0).mono ?_
  rintro ev w' ⟨rfl, rfl⟩
  have hb : ∀ B, B ≤ w.heap.size → Below B w ((((w.alloc (.cells #[.pointer (some ⟨b, 0, none⟩)] 95)).alloc (.cells #[.pointer (some ⟨8, 95, none⟩), .pointer (some ⟨w.heap.size, 0, none⟩), .int .u64 150] 117)).alloc (.cells #[.pointer (some ⟨8, 95, none⟩), .pointer (some ⟨w.heap.size, 0, none⟩), .int .u64 150] 117)).alloc (.cells #[.pointer (some e)] 93)) := fun B hB =>
    ((((Below.refl _ _).alloc hB _).alloc (by simp; omega) _).alloc (by simp; omega) _).alloc (by simp; omega) _
  refine hR _ ((hb b (by omega)).setCell (Nat.le_refl _) _) ?_
  refine World.cell?_setCell_same (u := old) _ _ _ ?_
  rw [(hb _ (Nat.le_refl _)).cell (p := ⟨b, 0, none⟩) hlt]
  exact ht0

theorem as_missR (e : Addr) (b : Nat) (old : Value) (w : World) (hE : Env w) (ht0 : w.cell? ⟨b, 0, none⟩ = some old) (hf0 : w.frozen? ⟨b, 0, none⟩ = false) (R : Ending → World → Prop)
    (hR : ∀ w', Below w.heap.size w w' → R (.returned (.bool false)) w') :
    Calls Tryd.prog 62 #[.iface 187 (.pointer (some e)), .iface 95 (.pointer (some ⟨b, 0, none⟩))] w R := by
  refine (as_miss e ⟨b, 0, none⟩ old w hE.ty ht0 hf0).mono ?_
  rintro ev w' ⟨rfl, rfl⟩
  exact hR _ ((((Below.refl _ _).alloc (Nat.le_refl _) _).alloc (by simp) _).alloc (by simp; omega) _)

theorem as_nilR (t : Value) (w : World) (R : Ending → World → Prop) (hR : R (.returned (.bool false)) w) :
    Calls Tryd.prog 62 #[.nilIface, t] w R := by
  refine (as_nil t w).mono ?_
  rintro ev w' ⟨rfl, rfl⟩
  exact hR

/-- what strings.CutPrefix makes of a text that may begin with '-' -/
theorem cutp_any (s : ByteArray) (neg : Bool) (D r : List UInt8) (hp : Parts s.data.toList neg D r) (w : World) (R : Ending → World → Prop)
    (hR : ∀ T : ByteArray, T.data.toList = D ++ r → R (.returned (.tuple #[.string T, .bool neg])) w) :
    Calls Tryd.prog 60 #[.string s, .string { data := #[45] }] w R := by
  have h1 : Lib.hasPrefix s.data.toList [45] = neg := by
    obtain ⟨h1, h2, _⟩ := hp
    unfold Lib.hasPrefix
    cases neg
    · have h2 := h2 rfl
      generalize s.data.toList = L at *
      cases L with
      | nil => rfl
      | cons c t =>
        simp at h2
        simp [List.isPrefixOf, Ne.symm h2]
    · rw [h1]; simp [List.isPrefixOf]
  have h2 : Lib.trimPrefix s.data.toList [45] = D ++ r := by
    unfold Lib.trimPrefix
    rw [h1, hp.1]
    cases neg <;> simp
  refine (Tryd.strings_CutPrefix s { data := #[45] } w).mono ?_
  rintro ev w' ⟨rfl, rfl⟩
  have h3 : ({ data := #[45] } : ByteArray).data.toList = [45] := rfl
  rw [h3, h1, h2]
  exact hR ⟨(D ++ r).toArray⟩ (by simp)

/-- a text of a number has at most 122 bytes -/
theorem numB_len {L : List UInt8} (h : 122 < L.length) : numB L = false := by
  obtain ⟨neg, D, r, hp⟩ := parts_exist L
  refine numB_parts hp fun q hq => ?_
  obtain ⟨hD, hq⟩ := hq
  have hl := (digB_iff.1 hD).2.2.1
  have hL := congrArg List.length hp.1
  have hn : (if neg = true then [45] else ([] : List UInt8)).length ≤ 1 := by cases neg <;> simp
  rw [List.length_append, List.length_append] at hL
  rcases hq with ⟨rfl, _⟩ | ⟨E, rfl, hE, _⟩
  · simp at hL; omega
  · have hlE := (digB_iff.1 hE).2.2.1
    simp at hL; omega
end Go.Proofs.YtpncfhfjnnpgdaaDoor

namespace Go.Proofs.YtpncfhfjnnpgdaaDoor
open Go Go.RowKit

set_option maxRecDepth 100000 in
set_option maxHeartbeats 1000000 in
theorem readr_long (s : ByteArray) (w : World) (hE : Env w) (hs : 122 < s.size) (R : Ending → World → Prop)
    (hR2 : ∀ e w', ErrV e → Below w.heap.size w w' → R (.returned (.tuple #[zeroR, e])) w') :
    Calls Tryd.prog 37 #[.string s] w R := by
  have HR2 := Lib.hid hR2; clear hR2
  have hsi : (122 : Int) < (s.size : Int) := by omega
  have hne1 : ¬ 0 = w.heap.size := by
    obtain ⟨_, ⟨pf, hpf⟩, _⟩ := hE
    exact Nat.ne_of_lt (lt_of_cell hpf)
  have hne2 : ¬ w.heap.size = 0 := fun h => hne1 h.symm
  obtain ⟨L, hL⟩ : ∃ L, L = w.alloc (.cells #[.bool false, .slice none 0 0, .slice none 0 0] 49) := ⟨_, rfl⟩
  have hbL : Below w.heap.size w L := by rw [hL]; exact (Below.refl _ _).alloc (Nat.le_refl _) _
  have HBX : Box3 L w.heap.size (.bool false) (.slice none 0 0) (.slice none 0 0) 49 := by rw [hL]; exact Box3.made _ _ _ _ _
  obtain ⟨_, ⟨pf, hpf⟩, _⟩ := hE.later hbL (Nat.le_refl _)
  obtain ⟨⟨hR0, hR1, hR2⟩, hF0, hF1, hF2⟩ := Box3.cells HBX
  have HL := Lib.hid hL
  have HBL := Lib.hid hbL
  clear hL hbL HBX hE hs
  go_enter Tryd.func37, Tryd.ntmps37
  go_upto_region 2 with fail
  rw [← HL.out]
  go_region
  all_goals
    go_wp2
    refine bodyPost_ret_at (by simp [results, Tryd.results37, go_sem, hR0, hR1, hR2, hF0, hF1, hF2] <;> rfl) rfl ?_
    first | exact HR2.out _ _ ⟨_, _, rfl⟩ (below_set3 HBL.out (Nat.le_refl _) _ _ _).drew | exact HR2.out _ _ ⟨_, _, rfl⟩ (below_set3 HBL.out (Nat.le_refl _) _ _ _)
end Go.Proofs.YtpncfhfjnnpgdaaDoor

namespace Go.Proofs.YtpncfhfjnnpgdaaDoor
open Go Go.RowKit

set_option maxRecDepth 100000 in
set_option maxHeartbeats 2000000 in
theorem readr_digits (s : ByteArray) (neg : Bool) (D : List UInt8) (hp : Parts s.data.toList neg D []) (hD : D.all isDig = true) (w : World) (hE : Env w) (hs : s.size ≤ 122) (R : Ending → World → Prop)
    (hR : ∀ v w', digB D = true → ¬ (neg = true ∧ rdec D = 0) → IsR w' v ((sgn neg (rdec D) : Int) : Rat) → Below w.heap.size w w' → R (.returned (.tuple #[v, .nilIface])) w')
    (hR2 : ∀ e w', ¬ (digB D = true ∧ ¬ (neg = true ∧ rdec D = 0)) → ErrV e → Below w.heap.size w w' → R (.returned (.tuple #[zeroR, e])) w') :
    Calls Tryd.prog 37 #[.string s] w R := by
  have HR := Lib.hid hR; clear hR
  have HR2 := Lib.hid hR2; clear hR2
  have hsi : ¬ (122 : Int) < (s.size : Int) := by omega
  have hne1 : ¬ 1 = w.heap.size := by
    obtain ⟨⟨pf, hpf⟩, _, _⟩ := hE
    exact Nat.ne_of_lt (lt_of_cell hpf)
  have hne2 : ¬ w.heap.size = 1 := fun h => hne1 h.symm
  have hDs : D.length ≤ 122 := by
    have h1 := congrArg List.length hp.1
    rw [List.length_append, List.length_append, size_list] at h1
    simp at h1; omega
  have HE := Lib.hid hE
  have HDS := Lib.hid hDs
  have HDD := Lib.hid hD
  have HP := Lib.hid hp
  obtain ⟨L, hL⟩ : ∃ L, L = w.alloc (.cells #[.bool false, .slice none 0 0, .slice none 0 0] 49) := ⟨_, rfl⟩
  have hbL : Below w.heap.size w L := by rw [hL]; exact (Below.refl _ _).alloc (Nat.le_refl _) _
  have hLs : L.heap.size = w.heap.size + 1 := by rw [hL]; simp
  have HL := Lib.hid hL
  have HBL := Lib.hid hbL
  have HLS := Lib.hid hLs
  have HBX : Hid (Box3 L w.heap.size (.bool false) (.slice none 0 0) (.slice none 0 0) 49) := Lib.hid (by rw [hL]; exact Box3.made _ _ _ _ _)
  clear hL hbL hLs hE hs hDs hD hp
  go_enter Tryd.func37, Tryd.ntmps37
  go_wp2_with fail
  refine cutp_any s neg D [] HP.out _ _ ?_
  intro T hT
  rw [List.append_nil] at hT
  have HT := Lib.hid hT
  clear hT
  dsimp only
  go_wp2_with fail
  rw [← HL.out]
  refine readd_digits T L (HE.out.later HBL.out (Nat.le_refl _)) (by rw [HT.out]; exact HDD.out) (by rw [← size_list, HT.out]; have := HDS.out; omega) _ ?_ ?_
  · intro v1 w1 hd1 hv1 hb1
    rw [HT.out] at hd1 hv1
    obtain ⟨a1, n1, c1, rfl, hv1'⟩ := hv1.op
    have hB1 := HBL.out.trans (hb1.mono (by have := HLS.out; omega))
    have hX1 := HBX.out.later hb1 (by have := HLS.out; omega)
    have hbs : Below w1.heap.size w1 (w1.alloc (.cells #[.pointer none] 93)) := (Below.refl _ _).alloc (Nat.le_refl _) _
    have HV1 := Lib.hid (hv1'.later hbs (Nat.le_refl _))
    have HD1 := Lib.hid hd1
    have HB1 := Lib.hid (hB1.trans (hbs.mono hB1.size))
    have HX1 := Lib.hid (hX1.later hbs (lt_of_block hX1))
    have HE1 := Lib.hid (((HE.out.later HBL.out (Nat.le_refl _)).later hb1 (Nat.le_refl _)).later hbs (Nat.le_refl _))
    obtain ⟨W1, hW1⟩ : ∃ W1, W1 = w1.alloc (.cells #[.pointer none] 93) := ⟨_, rfl⟩
    rw [← hW1] at HV1 HB1 HX1 HE1
    have HW1 := Lib.hid hW1
    clear hv1 hv1' hb1 hd1 hB1 hX1 hbs hW1
    dsimp only
    go_wp2_with fail
    refine as_nilR _ _ _ ?_
    dsimp only
    rw [← HW1.out]
    obtain ⟨⟨hR0, hR1, hR2⟩, hF0, hF1, hF2⟩ := Box3.cells HX1.out
    have last : ∀ (R' : Prop), R' → R' := fun _ h => h
    have fin : ¬ (neg = true ∧ rdec D = 0) → True := fun _ => trivial
    cases neg
    · have HN := Lib.hid (show ¬ (false = true ∧ rdec D = 0) by simp)
      go_wp2_with fail
      refine integerOf_z false _ _ _ HV1.out _ ?_
      intro v4 w4 hz4 hb4
      have HB4 := Lib.hid (HB1.out.trans (hb4.mono HB1.out.size))
      have HX4 := Lib.hid (HX1.out.later hb4 (lt_of_block HX1.out))
      have HZ4 := Lib.hid hz4
      clear hz4 hb4 hR0 hR1 hR2 hF0 hF1 hF2
      dsimp only
      go_wp2_with fail
      refine ratioOf_any _ _ _ HZ4.out _ ?_
      intro v5 w5 hq5 hb5
      have HB5 := Lib.hid (HB4.out.trans (hb5.mono HB4.out.size))
      have HX5 := Lib.hid (HX4.out.later hb5 (lt_of_block HX4.out))
      obtain ⟨s1, s2, rfl, hn1, hn2⟩ := hq5
      obtain ⟨x1, y1, z1, rfl, hn1'⟩ := hn1.op
      obtain ⟨x2, y2, z2, rfl, hn2'⟩ := hn2.op
      obtain ⟨ng, hng⟩ : ∃ ng, ng = decide ((((sgn false (rdec D)) : Int) : Rat).num < 0) := ⟨_, rfl⟩
      rw [← hng]
      have HNG := Lib.hid hng
      have HS1 := Lib.hid hn1'
      have HS2 := Lib.hid hn2'
      clear hn1 hn2 hn1' hn2' hb5 hng
      obtain ⟨⟨hR0, hR1, hR2⟩, hF0, hF1, hF2⟩ := Box3.cells HX5.out
      have HNI := Lib.hid (HX5.out.noInt rfl rfl rfl)
      dsimp only
      go_wp2
      refine bodyPost_ret_at (by simp [results, Tryd.results37, go_sem, hR0, hR1, hR2, hF0, hF1, hF2] <;> rfl) rfl ?_
      refine HR.out _ _ HD1.out HN.out ⟨.slice x1 y1 z1, .slice x2 y2 z2, by rw [HNG.out], ?_, ?_⟩ (below_set3 HB5.out (Nat.le_refl _) _ _ _)
      · exact HS1.out.set3 HNI.out _ _ _ rfl rfl
      · exact HS2.out.set3 HNI.out _ _ _ rfl rfl
    · obtain ⟨⟨pf, hpf⟩, _, _⟩ := HE1.out
      go_wp2_with fail
      refine nzero_any _ _ _ HV1.out _ ?_
      by_cases h0 : rdec D = 0
      · rw [decide_eq_true h0]
        have HW := Lib.hid (show ¬ (digB D = true ∧ ¬ (true = true ∧ rdec D = 0)) from fun h => h.2 ⟨rfl, h0⟩)
        clear h0
        dsimp only
        go_wp2
        go_region
        all_goals
          go_wp2
          refine bodyPost_ret_at (by simp [results, Tryd.results37, go_sem, hR0, hR1, hR2, hF0, hF1, hF2] <;> rfl) rfl ?_
          first | exact HR2.out _ _ HW.out ⟨_, _, rfl⟩ (below_set3 HB1.out (Nat.le_refl _) _ _ _).drew | exact HR2.out _ _ HW.out ⟨_, _, rfl⟩ (below_set3 HB1.out (Nat.le_refl _) _ _ _)
      · rw [decide_eq_false h0]
        have HN := Lib.hid (show ¬ (true = true ∧ rdec D = 0) from fun h => h0 h.2)
        clear h0 hpf
        dsimp only
        go_wp2_with fail
        refine integerOf_z true _ _ _ HV1.out _ ?_
        intro v4 w4 hz4 hb4
        have HB4 := Lib.hid (HB1.out.trans (hb4.mono HB1.out.size))
        have HX4 := Lib.hid (HX1.out.later hb4 (lt_of_block HX1.out))
        have HZ4 := Lib.hid hz4
        clear hz4 hb4 hR0 hR1 hR2 hF0 hF1 hF2
        dsimp only
        go_wp2_with fail
        refine ratioOf_any _ _ _ HZ4.out _ ?_
        intro v5 w5 hq5 hb5
        have HB5 := Lib.hid (HB4.out.trans (hb5.mono HB4.out.size))
        have HX5 := Lib.hid (HX4.out.later hb5 (lt_of_block HX4.out))
        obtain ⟨s1, s2, rfl, hn1, hn2⟩ := hq5
        obtain ⟨x1, y1, z1, rfl, hn1'⟩ := hn1.op
        obtain ⟨x2, y2, z2, rfl, hn2'⟩ := hn2.op
        obtain ⟨ng, hng⟩ : ∃ ng, ng = decide ((((sgn true (rdec D)) : Int) : Rat).num < 0) := ⟨_, rfl⟩
        rw [← hng]
        have HNG := Lib.hid hng
        have HS1 := Lib.hid hn1'
        have HS2 := Lib.hid hn2'
        clear hn1 hn2 hn1' hn2' hb5 hng
        obtain ⟨⟨hR0, hR1, hR2⟩, hF0, hF1, hF2⟩ := Box3.cells HX5.out
        have HNI := Lib.hid (HX5.out.noInt rfl rfl rfl)
        dsimp only
        go_wp2
        refine bodyPost_ret_at (by simp [results, Tryd.results37, go_sem, hR0, hR1, hR2, hF0, hF1, hF2] <;> rfl) rfl ?_
        refine HR.out _ _ HD1.out HN.out ⟨.slice x1 y1 z1, .slice x2 y2 z2, by rw [HNG.out], ?_, ?_⟩ (below_set3 HB5.out (Nat.le_refl _) _ _ _)
        · exact HS1.out.set3 HNI.out _ _ _ rfl rfl
        · exact HS2.out.set3 HNI.out _ _ _ rfl rfl
  · intro e w1 hd1 he hb1
    rw [HT.out] at hd1
    obtain ⟨p, rfl⟩ := he
    have HW := Lib.hid (show ¬ (digB D = true ∧ ¬ (neg = true ∧ rdec D = 0)) from fun h => by rw [hd1] at h; exact absurd h.1 (by simp))
    have hB1 := HBL.out.trans (hb1.mono (by have := HLS.out; omega))
    have hX1 := HBX.out.later hb1 (by have := HLS.out; omega)
    have hbs : Below w1.heap.size w1 (w1.alloc (.cells #[.pointer none] 93)) := (Below.refl _ _).alloc (Nat.le_refl _) _
    have HB1 := Lib.hid (hB1.trans (hbs.mono hB1.size))
    have HX1 := Lib.hid (hX1.later hbs (lt_of_block hX1))
    have HE1 := Lib.hid (((HE.out.later HBL.out (Nat.le_refl _)).later hb1 (Nat.le_refl _)).later hbs (Nat.le_refl _))
    clear hb1 hd1 hB1 hX1 hbs
    dsimp only
    go_wp2_with fail
    refine as_missR _ w1.heap.size (.pointer none) _ HE1.out (by simp) (by simp) _ ?_
    intro w2 hb2
    have HB2 := Lib.hid (HB1.out.trans (hb2.mono HB1.out.size))
    have HX2 := Lib.hid (HX1.out.later hb2 (lt_of_block HX1.out))
    obtain ⟨⟨hR0, hR1, hR2⟩, hF0, hF1, hF2⟩ := Box3.cells HX2.out
    clear hb2
    dsimp only
    go_wp2
    refine bodyPost_ret_at (by simp [results, Tryd.results37, go_sem, hR0, hR1, hR2, hF0, hF1, hF2] <;> rfl) rfl ?_
    first | exact HR2.out _ _ HW.out ⟨_, _, rfl⟩ (below_set3 HB2.out (Nat.le_refl _) _ _ _).drew | exact HR2.out _ _ HW.out ⟨_, _, rfl⟩ (below_set3 HB2.out (Nat.le_refl _) _ _ _)
end Go.Proofs.YtpncfhfjnnpgdaaDoor

namespace Go.Proofs.YtpncfhfjnnpgdaaDoor
open Go Go.RowKit

set_option maxRecDepth 100000 in
set_option maxHeartbeats 2000000 in
theorem readr_bad (s : ByteArray) (neg : Bool) (D r : List UInt8) (hp : Parts s.data.toList neg D r) (i : Nat) (hi : i < (D ++ r).length) (h1 : ((D ++ r).take i).all isDig = true) (h2 : isDig (D ++ r)[i] = false) (h47 : (D ++ r)[i] ≠ 47)
    (w : World) (hE : Env w) (hs : s.size ≤ 122) (R : Ending → World → Prop)
    (hR2 : ∀ e w', ErrV e → Below w.heap.size w w' → R (.returned (.tuple #[zeroR, e])) w') :
    Calls Tryd.prog 37 #[.string s] w R := by
  have HR2 := Lib.hid hR2; clear hR2
  have hsi : ¬ (122 : Int) < (s.size : Int) := by omega
  have hDs : (D ++ r).length ≤ 122 := by
    have h1 := congrArg List.length hp.1
    rw [List.length_append, size_list] at h1
    omega
  have HE := Lib.hid hE
  have HDS := Lib.hid hDs
  have HP := Lib.hid hp
  have HI := Lib.hid hi
  have HH := Lib.hid (show _ ∧ _ ∧ _ from ⟨h1, h2, h47⟩)
  obtain ⟨L, hL⟩ : ∃ L, L = w.alloc (.cells #[.bool false, .slice none 0 0, .slice none 0 0] 49) := ⟨_, rfl⟩
  have hbL : Below w.heap.size w L := by rw [hL]; exact (Below.refl _ _).alloc (Nat.le_refl _) _
  have hLs : L.heap.size = w.heap.size + 1 := by rw [hL]; simp
  have HL := Lib.hid hL
  have HBL := Lib.hid hbL
  have HLS := Lib.hid hLs
  have HBX : Hid (Box3 L w.heap.size (.bool false) (.slice none 0 0) (.slice none 0 0) 49) := Lib.hid (by rw [hL]; exact Box3.made _ _ _ _ _)
  clear hL hbL hLs hE hs hDs hp h1 h2 h47
  go_enter Tryd.func37, Tryd.ntmps37
  go_wp2_with fail
  refine cutp_any s neg D r HP.out _ _ ?_
  intro T hT
  have HT := Lib.hid hT
  have hit : i < T.data.toList.length := by rw [hT]; exact hi
  have HB2 : Hid (isDig T.data.toList[i] = false ∧ T.data.toList[i] ≠ 47) := Lib.hid (by simp only [hT]; exact ⟨HH.out.2.1, HH.out.2.2⟩)
  clear hT
  dsimp only
  go_wp2_with fail
  rw [← HL.out]
  refine readd_bad T i hit L (by rw [HT.out]; exact HH.out.1) HB2.out.1 (by rw [← size_list, HT.out]; have := HDS.out; omega) _ ?_
  intro e w1 he hb1
  rw [decide_eq_false HB2.out.2] at he
  obtain ⟨b, rr, rfl, hbx, hrr⟩ := he
  have hrne : ¬ rr = 47 := by simpa using hrr.symm
  have hB1 := HBL.out.trans (hb1.mono (by have := HLS.out; omega))
  have hX1 := HBX.out.later hb1 (by have := HLS.out; omega)
  have hbs : Below w1.heap.size w1 (w1.alloc (.cells #[.pointer none] 93)) := (Below.refl _ _).alloc (Nat.le_refl _) _
  have HB1 := Lib.hid (hB1.trans (hbs.mono hB1.size))
  have HX1 := Lib.hid (hX1.later hbs (lt_of_block hX1))
  have HE1 := Lib.hid (((HE.out.later HBL.out (Nat.le_refl _)).later hb1 (Nat.le_refl _)).later hbs (Nat.le_refl _))
  have hble := lt_of_block hbx
  have HBE := Lib.hid (Box2.later hbx hbs hble)
  have HBL1 := Lib.hid hble
  have HX0 := Lib.hid (lt_of_block hX1)
  clear hb1 hB1 hX1 hbs hbx hrr hble
  dsimp only
  go_wp2_with fail
  refine as_hitR _ w1.heap.size (.pointer none) _ HE1.out (by simp) (by simp) _ ?_
  intro w2 hb2 hc2
  have HB2b := Lib.hid (HB1.out.trans (hb2.mono (by have := HX0.out; omega)))
  have HX2 := Lib.hid (HX1.out.later hb2 HX0.out)
  obtain ⟨hP0, hP1, hP2, hP3⟩ := Box2.cells (Box2.later HBE.out hb2 HBL1.out)
  obtain ⟨⟨hR0, hR1, hR2⟩, hF0, hF1, hF2⟩ := Box3.cells HX2.out
  clear hb2
  dsimp only
  go_wp2
  refine bodyPost_ret_at (by simp [results, Tryd.results37, go_sem, hR0, hR1, hR2, hF0, hF1, hF2] <;> rfl) rfl ?_
  first | exact HR2.out _ _ ⟨_, _, rfl⟩ (below_set3 HB2b.out (Nat.le_refl _) _ _ _).drew | exact HR2.out _ _ ⟨_, _, rfl⟩ (below_set3 HB2b.out (Nat.le_refl _) _ _ _)
end Go.Proofs.YtpncfhfjnnpgdaaDoor

namespace Go.Proofs.YtpncfhfjnnpgdaaDoor
open Go Go.RowKit

/-- what the reading of a fraction comes to -/
def FracOk (neg : Bool) (D E : List UInt8) (q : Rat) : Prop := digB D = true ∧ digB E = true ∧ 2 ≤ rdec E ∧ Nat.gcd (rdec D) (rdec E) = 1 ∧ q.num = sgn neg (rdec D) ∧ q.den = rdec E
def FracOut (w : World) (neg : Bool) (D E : List UInt8) (v e : Value) : Prop :=
  (e = .nilIface ∧ ∃ q, FracOk neg D E q ∧ IsR w v q) ∨ (ErrV e ∧ v = zeroR ∧ ¬ (digB D = true ∧ digB E = true ∧ 2 ≤ rdec E ∧ Nat.gcd (rdec D) (rdec E) = 1))

theorem readf_one (neg : Bool) (s1 s2 : ByteArray) (w : World) (hE : Env w) (hs1 : s1.size ≤ 250) (hs2 : s2.size ≤ 250) (R : Ending → World → Prop)
    (hR : ∀ b a1 n1 c1 a2 n2 c2 e w', Below w.heap.size w w' → FracOut w' neg s1.data.toList s2.data.toList (.agg #[.bool b, .slice a1 n1 c1, .slice a2 n2 c2]) e → R (.returned (.tuple #[.agg #[.bool b, .slice a1 n1 c1, .slice a2 n2 c2], e])) w') :
    Calls Tryd.prog 63 #[.bool neg, .string s1, .string s2] w R := by
  refine readf_any neg s1 s2 w hE hs1 hs2 R ?_ ?_
  · intro v q w' h1 h2 h3 h4 h5 h6 hv hb
    obtain ⟨x1, x2, rfl, hn1, hn2⟩ := hv
    obtain ⟨a1, n1, c1, rfl, hn1'⟩ := hn1.op
    obtain ⟨a2, n2, c2, rfl, hn2'⟩ := hn2.op
    exact hR _ _ _ _ _ _ _ _ _ hb (.inl ⟨rfl, q, ⟨h1, h2, h3, h4, h5, h6⟩, ⟨_, _, rfl, hn1', hn2'⟩⟩)
  · intro e w' h he hb
    exact hR _ _ _ _ _ _ _ _ _ hb (.inr ⟨he, rfl, h⟩)

theorem fracOut_set {w : World} {b : Nat} (hb : NoInt w b) {neg : Bool} {D E : List UInt8} {x : Bool} {a1 a2 : Option Addr} {n1 c1 n2 c2 : Nat} {e : Value} (h : FracOut w neg D E (.agg #[.bool x, .slice a1 n1 c1, .slice a2 n2 c2]) e) :
    FracOut (((w.setCell ⟨b, 0, none⟩ (.bool x)).setCell ⟨b, 1, none⟩ (.slice a1 n1 c1)).setCell ⟨b, 2, none⟩ (.slice a2 n2 c2)) neg D E (.agg #[.bool x, .slice a1 n1 c1, .slice a2 n2 c2]) e := by
  rcases h with ⟨h1, q, h2, s1, s2, h3, h4, h5⟩ | h
  · exact .inl ⟨h1, q, h2, s1, s2, h3, h4.set3 hb _ _ _ rfl rfl, h5.set3 hb _ _ _ rfl rfl⟩
  · exact .inr h

set_option maxRecDepth 100000 in
set_option maxHeartbeats 2000000 in
theorem readr_slash (s : ByteArray) (neg : Bool) (D E : List UInt8) (hp : Parts s.data.toList neg D (47 :: E)) (hD : D.all isDig = true)
    (w : World) (hE : Env w) (hs : s.size ≤ 122) (R : Ending → World → Prop)
    (hR : ∀ v e w', FracOut w' neg D E v e → Below w.heap.size w w' → R (.returned (.tuple #[v, e])) w') :
    Calls Tryd.prog 37 #[.string s] w R := by
  have HR2 := Lib.hid hR; clear hR
  have hsi : ¬ (122 : Int) < (s.size : Int) := by omega
  have hDs : (D ++ 47 :: E).length ≤ 122 := by
    have h1 := congrArg List.length hp.1
    rw [List.length_append, size_list] at h1
    omega
  have HE := Lib.hid hE
  have HDS := Lib.hid hDs
  have HP := Lib.hid hp
  have HDD := Lib.hid hD
  obtain ⟨L, hL⟩ : ∃ L, L = w.alloc (.cells #[.bool false, .slice none 0 0, .slice none 0 0] 49) := ⟨_, rfl⟩
  have hbL : Below w.heap.size w L := by rw [hL]; exact (Below.refl _ _).alloc (Nat.le_refl _) _
  have hLs : L.heap.size = w.heap.size + 1 := by rw [hL]; simp
  have HL := Lib.hid hL
  have HBL := Lib.hid hbL
  have HLS := Lib.hid hLs
  have HBX : Hid (Box3 L w.heap.size (.bool false) (.slice none 0 0) (.slice none 0 0) 49) := Lib.hid (by rw [hL]; exact Box3.made _ _ _ _ _)
  clear hL hbL hLs hE hs hDs hp hD
  go_enter Tryd.func37, Tryd.ntmps37
  go_wp2_with fail
  refine cutp_any s neg D (47 :: E) HP.out _ _ ?_
  intro T hT
  have HT := Lib.hid hT
  have hTl : T.data.toList.length = D.length + 1 + E.length := by rw [hT]; simp; omega
  obtain ⟨i, hiD⟩ : ∃ i, i = D.length := ⟨_, rfl⟩
  have HID := Lib.hid hiD
  have hit : i < T.data.toList.length := by omega
  have HB2 : Hid (isDig T.data.toList[i] = false ∧ T.data.toList[i] = 47) := Lib.hid (by subst hiD; simp [hT, isDig])
  have HTK : Hid ((T.data.toList.take i).all isDig = true) := Lib.hid (by subst hiD; rw [hT, List.take_left]; exact HDD.out)
  have hsz : i + 1 ≤ T.size := by rw [← size_list]; omega
  have hs1 : ((i : Nat) : Int) ≤ (T.size : Int) := by omega
  have hs2 : ((i : Nat) : Int) + 1 ≤ (T.size : Int) := by omega
  have hs3 : (0 : Int) ≤ ((i : Nat) : Int) := by omega
  have hs4 : (0 : Int) ≤ ((i : Nat) : Int) + 1 := by omega
  have hTz : T.size ≤ 122 := by rw [← size_list, hT]; have := HDS.out; omega
  have hw1 : IntKind.i64.wrap (((i : Nat) : Int) + 1) = (((i + 1 : Nat)) : Int) := IntWalk.i64_in _ (by omega)
  have HSD : Hid ((T.extract 0 i).data.toList = D ∧ (T.extract (i + 1) T.size).data.toList = E) := Lib.hid (by
    constructor
    · rw [ByteArray.data_extract, Array.toList_extract, hT, hiD]
      simp [List.extract]
    · have : T.size = D.length + 1 + E.length := by rw [← size_list]; omega
      rw [ByteArray.data_extract, Array.toList_extract, hT, hiD, this]
      simp [List.extract])
  have HZ : Hid ((T.extract 0 i).size ≤ 250 ∧ (T.extract (i + 1) T.size).size ≤ 250) := Lib.hid (by
    constructor
    · rw [← size_list, HSD.out.1]; have := HDS.out; simp at this; omega
    · rw [← size_list, HSD.out.2]; have := HDS.out; simp at this; omega)
  clear hTl hiD
  clear hT
  dsimp only
  go_wp2_with fail
  rw [← HL.out]
  refine readd_bad T i hit L HTK.out HB2.out.1 (by rw [← size_list, HT.out]; have := HDS.out; omega) _ ?_
  intro e w1 he hb1
  rw [decide_eq_true HB2.out.2] at he
  obtain ⟨b, rr, rfl, hbx, hrr⟩ := he
  have hreq : rr = 47 := by simpa using hrr.symm
  subst hreq
  have hB1 := HBL.out.trans (hb1.mono (by have := HLS.out; omega))
  have hX1 := HBX.out.later hb1 (by have := HLS.out; omega)
  have hbs : Below w1.heap.size w1 (w1.alloc (.cells #[.pointer none] 93)) := (Below.refl _ _).alloc (Nat.le_refl _) _
  have HB1 := Lib.hid (hB1.trans (hbs.mono hB1.size))
  have HX1 := Lib.hid (hX1.later hbs (lt_of_block hX1))
  have HE1 := Lib.hid (((HE.out.later HBL.out (Nat.le_refl _)).later hb1 (Nat.le_refl _)).later hbs (Nat.le_refl _))
  have hble := lt_of_block hbx
  have HBE := Lib.hid (Box2.later hbx hbs hble)
  have HBL1 := Lib.hid hble
  have HX0 := Lib.hid (lt_of_block hX1)
  clear hb1 hB1 hX1 hbs hbx hrr hble
  dsimp only
  go_wp2_with fail
  refine as_hitR _ w1.heap.size (.pointer none) _ HE1.out (by simp) (by simp) _ ?_
  intro w2 hb2 hc2
  have HB2b := Lib.hid (HB1.out.trans (hb2.mono (by have := HX0.out; omega)))
  have HX2 := Lib.hid (HX1.out.later hb2 HX0.out)
  obtain ⟨hP0, hP1, hP2, hP3⟩ := Box2.cells (Box2.later HBE.out hb2 HBL1.out)
  obtain ⟨⟨hR0, hR1, hR2⟩, hF0, hF1, hF2⟩ := Box3.cells HX2.out
  clear hb2
  have HE2 := Lib.hid (HE.out.later HB2b.out (Nat.le_refl _))
  dsimp only
  go_upto_region 7 with fail
  go_region_law (go_simp; go_at_call 63; refine readf_one neg _ _ _ (HE2.out.later (Below.refl _ _).drew (Nat.le_refl _)) HZ.out.1 HZ.out.2 _ ?_; intro bb a1 n1 c1 a2 n2 c2 e3 w3 hb3' ho3; have hb3 : Below w2.heap.size w2 w3 := below_unDrew hb3'; have HO3 := Lib.hid ho3; have HX3 := Lib.hid (HX2.out.later hb3 (lt_of_block HX2.out)); have HB3 := Lib.hid (HB2b.out.trans (hb3.mono HB2b.out.size)); clear hb3 hb3' ho3 hR0 hR1 hR2 hF0 hF1 hF2; obtain ⟨⟨hR0, hR1, hR2⟩, hF0, hF1, hF2⟩ := Box3.cells HX3.out; dsimp only)
  all_goals
    have HNI := Lib.hid (HX3.out.noInt rfl rfl rfl)
    go_wp2
    refine bodyPost_ret_at (by simp [results, Tryd.results37, go_sem, hR0, hR1, hR2, hF0, hF1, hF2] <;> rfl) rfl ?_
    have ho := HO3.out
    rw [HSD.out.1, HSD.out.2] at ho
    refine HR2.out _ _ _ ?_ ?_
    · first | exact fracOut_set HNI.out ho | exact (fracOut_set HNI.out ho)
    · first | exact (below_set3 HB3.out (Nat.le_refl _) _ _ _).drew | exact (below_set3 HB3.out (Nat.le_refl _) _ _ _)
end Go.Proofs.YtpncfhfjnnpgdaaDoor

namespace Go.Proofs.YtpncfhfjnnpgdaaDoor
open Go Go.RowKit

theorem not_dig47 : isDig 47 = false := rfl

theorem readr_any (s : ByteArray) (w : World) (hE : Env w) (R : Ending → World → Prop)
    (hR : ∀ v q w', s.data.toList = textQ q → few q → IsR w' v q → Below w.heap.size w w' → R (.returned (.tuple #[v, .nilIface])) w')
    (hR2 : ∀ e w', numB s.data.toList = false → ErrV e → Below w.heap.size w w' → R (.returned (.tuple #[zeroR, e])) w') :
    Calls Tryd.prog 37 #[.string s] w R := by
  by_cases hs : s.size ≤ 122
  · obtain ⟨neg, D, r, hp⟩ := parts_exist s.data.toList
    by_cases hall : (D ++ r).all isDig = true
    · have hr : r = [] := by
        rcases hp.2.2.2 with h | ⟨E, rfl⟩
        · exact h
        · rw [List.all_append, List.all_cons, not_dig47] at hall; simp at hall
      subst hr
      rw [List.append_nil] at hall
      refine readr_digits s neg D hp hall w hE hs R ?_ ?_
      · intro v w' h1 h2 hv hb
        obtain ⟨h3, h4⟩ := (num_iff hp _).1 ⟨h1, .inl ⟨rfl, h2, rfl⟩⟩
        exact hR v _ w' h3 h4 hv hb
      · intro e w' h he hb
        refine hR2 e w' (numB_parts hp fun q hq => h ?_) he hb
        obtain ⟨h1, ⟨_, h2, _⟩ | ⟨E, h2, _⟩⟩ := hq
        · exact ⟨h1, h2⟩
        · cases h2
    · obtain ⟨i, hi, h1, h2⟩ := first_bad (D ++ r) (by simpa using hall)
      have htk : D.length ≤ i → (D ++ r).take i = D ++ r.take (i - D.length) := fun h => by
        rw [List.take_append, List.take_of_length_le h]
      by_cases h47 : (D ++ r)[i] = 47
      · have hDi : D.length ≤ i := by
          refine Nat.le_of_not_lt fun h => ?_
          rw [List.getElem_append_left h] at h47
          exact hp.2.2.1 _ (List.getElem_mem h) h47
        have hD : D.all isDig = true := by
          rw [htk hDi, List.all_append, Bool.and_eq_true] at h1
          exact h1.1
        rcases hp.2.2.2 with rfl | ⟨E, rfl⟩
        · simp at hi; omega
        · refine readr_slash s neg D E hp hD w hE hs R ?_
          intro v e w' ho hb
          rcases ho with ⟨rfl, q, ⟨g1, g2, g3, g4, g5, g6⟩, hv⟩ | ⟨he, rfl, hn⟩
          · obtain ⟨h3, h4⟩ := (num_iff hp q).1 ⟨g1, .inr ⟨E, rfl, g2, g3, g4, g5, g6⟩⟩
            exact hR v q w' h3 h4 hv hb
          · refine hR2 e w' (numB_parts hp fun q hq => hn ?_) he hb
            obtain ⟨g1, ⟨g2, _⟩ | ⟨E', g2, g3, g4, g5, _⟩⟩ := hq
            · cases g2
            · obtain rfl := (List.cons.inj g2).2
              exact ⟨g1, g3, g4, g5⟩
      · refine readr_bad s neg D r hp i hi h1 h2 h47 w hE hs R fun e w' he hb => hR2 e w' (numB_parts hp fun q hq => ?_) he hb
        have hD := (digB_iff.1 hq.1).1
        have hDi : D.length ≤ i := by
          refine Nat.le_of_not_lt fun h => ?_
          rw [List.getElem_append_left h] at h2
          rw [List.all_eq_true.1 hD _ (List.getElem_mem h)] at h2
          cases h2
        rcases hp.2.2.2 with rfl | ⟨E, rfl⟩
        · simp at hi; omega
        · rw [htk hDi, List.all_append, Bool.and_eq_true] at h1
          rw [List.getElem_append_right hDi] at h47
          rcases Nat.eq_or_lt_of_le hDi with h | h
          · subst h; simp at h47
          · obtain ⟨k, hk⟩ : ∃ k, i - D.length = k + 1 := ⟨i - D.length - 1, by omega⟩
            rw [hk, List.take_succ_cons, List.all_cons, not_dig47] at h1
            simp at h1
  · exact readr_long s w hE (by omega) R fun e w' he hb => hR2 e w' (numB_len (by rw [size_list]; omega)) he hb

set_option maxRecDepth 100000 in
set_option maxHeartbeats 1000000 in
/-- impl.IsNumber: whether the text is the text of a number with few digits. -/
theorem isnumber_any (s : ByteArray) (w : World) (hE : Env w) (R : Ending → World → Prop)
    (hR : ∀ w', Below w.heap.size w w' → R (.returned (.bool (numB s.data.toList))) w') :
    Calls Tryd.prog 13 #[.string s] w R := by
  have HR := Lib.hid hR; clear hR
  have HE := Lib.hid hE; clear hE
  go_enter Tryd.func13, Tryd.ntmps13
  go_wp2_with fail
  refine readr_any s _ HE.out _ ?_ ?_
  · intro v q w' h1 h2 hv hb
    have hn : numB s.data.toList = true := numB_true.2 ⟨q, h1, h2⟩
    rw [hn] at HR
    obtain ⟨s1, s2, rfl, hn1, hn2⟩ := hv
    obtain ⟨a1, n1, c1, rfl, hn1'⟩ := hn1.op
    obtain ⟨a2, n2, c2, rfl, hn2'⟩ := hn2.op
    obtain ⟨ng, hng⟩ : ∃ ng, ng = decide (q.num < 0) := ⟨_, rfl⟩
    rw [← hng]
    have HB := Lib.hid hb
    clear hn1 hn2 hn1' hn2' hng h1 h2 hb hn
    dsimp only
    go_wp2
    first | go_ret | skip
    exact HR.out _ (HB.out.alloc HB.out.size _)
  · intro e w' hn he hb
    rw [hn] at HR
    obtain ⟨t, p, rfl⟩ := he
    have HB := Lib.hid hb
    clear hb hn
    unfold zeroR
    dsimp only
    go_wp2
    first | go_ret | skip
    exact HR.out _ (HB.out.alloc HB.out.size _)
end Go.Proofs.YtpncfhfjnnpgdaaDoor

namespace Go.Proofs.YtpncfhfjnnpgdaaDoor
open Go Go.RowKit

theorem str_eq {s : ByteArray} {L : List UInt8} (h : L = s.data.toList) : s = ⟨L.toArray⟩ := by rw [h]

theorem size_parts1 {s : ByteArray} {neg : Bool} {D r : List UInt8} (hp : Parts s.data.toList neg D r) (hr : r = []) (h : digB D = true) : s.size ≤ 100000 := by
  have h1 := congrArg List.length hp.1
  have h2 := (digB_iff.1 h).2.2.1
  subst hr
  rw [List.length_append, List.length_append, size_list] at h1
  have hn : (if neg = true then [45] else ([] : List UInt8)).length ≤ 1 := by cases neg <;> simp
  simp at h1; omega
theorem size_parts2 {s : ByteArray} {neg : Bool} {D r E : List UInt8} (hp : Parts s.data.toList neg D r) (hr : r = 47 :: E) (h : digB D = true) (h' : digB E = true) : s.size ≤ 100000 := by
  have h1 := congrArg List.length hp.1
  have h2 := (digB_iff.1 h).2.2.1
  have h3 := (digB_iff.1 h').2.2.1
  subst hr
  rw [List.length_append, List.length_append, size_list] at h1
  have hn : (if neg = true then [45] else ([] : List UInt8)).length ≤ 1 := by cases neg <;> simp
  simp at h1; omega

set_option maxRecDepth 100000 in
set_option maxHeartbeats 4000000 in
theorem is_any (s : ByteArray) (w : World) (hs : s.size ≤ 1100000)
    (R : Ending → World → Prop) (hR : ∀ w', Below w.heap.size w w' → R (.returned (.bool (numB s.data.toList))) w') :
    Calls Tryd.prog 36 #[.string s] w R := by
  have HR := Lib.hid hR; clear hR
  obtain ⟨neg, D, r, hp⟩ := parts_exist s.data.toList
  have HP := Lib.hid hp
  obtain ⟨h1, h2, h3, h4⟩ := hp
  have H3 := Lib.hid h3
  have H4 := Lib.hid h4
  obtain ⟨t, Ht, Hn, Hts⟩ : ∃ t : ByteArray, Hid (t.data.toList = D ++ r) ∧ Hid (t = if neg then s.extract 1 s.size else s) ∧ t.size ≤ 1100000 := by
    cases neg
    · refine ⟨s, Lib.hid (by simpa using h1), Lib.hid rfl, hs⟩
    · refine ⟨s.extract 1 s.size, Lib.hid (sign_rest (by simpa using h1)), Lib.hid rfl, by rw [ext_size _ _ _ (Nat.le_refl _)]; omega⟩
  have hst2 : t.size = D.length + r.length := by rw [← size_list, Ht.out, List.length_append]
  obtain ⟨dl, hdl⟩ : ∃ dl, dl = D.length := ⟨_, rfl⟩
  rw [← hdl] at hst2
  have HDL := Lib.hid hdl
  have hdlt : dl ≤ t.size := by omega
  have hlast : dl < t.size → ∃ E, r = 47 :: E := by
    intro h
    rcases h4 with rfl | h'
    · simp at hst2; omega
    · exact h'
  have hend : ¬ dl < t.size → r = [] := by
    intro h
    rcases h4 with rfl | ⟨E, rfl⟩
    · rfl
    · simp at hst2; omega
  have HLAST := Lib.hid hlast
  have HEND := Lib.hid hend
  clear hst2 hdl hlast hend h3 h4
  have hm45 : (neg = true → ∃ h : 0 < s.size, s[0] = 45) ∧ (neg = false → ∀ h : 0 < s.size, s[0] ≠ 45) := by
    constructor
    · rintro rfl
      have hpos : 0 < s.size := by rw [← size_list, h1]; simp
      refine ⟨hpos, ?_⟩
      rw [byte_at s 0 hpos (by rw [size_list]; exact hpos)]; simp [h1]
    · intro hn hpos e
      have := h2 hn
      rw [head_at _ (by rw [size_list]; exact hpos), ← byte_at s 0 hpos (by rw [size_list]; exact hpos), e] at this
      exact this rfl
  clear h1 h2
  have hgo : ∀ (W : World), Below w.heap.size w W → True := fun _ _ => trivial
  clear hgo
  cases neg
  · have ht : t = s := Hn.out
    subst ht
    have key : True := trivial
    by_cases hpos : 0 < t.size
    · have e45 : ((t[0].toNat : Int) == 45) = false := by
        have := hm45.2 rfl hpos
        have : t[0].toNat ≠ 45 := fun h => this (UInt8.toNat_inj.1 h)
        simp; omega
      clear hm45
      go_enter Tryd.func36, Tryd.ntmps36
      go_wp2
      clear e45
      go_loop [4] (fun i => ∃ k : Nat, i = .int .i64 k ∧ k ≤ dl) (fun i => dl - (intOf i).toNat)
      case atStart => exact ⟨0, rfl, Nat.zero_le _⟩
      case round =>
        obtain ⟨k, rfl, hk⟩ := hrel
        by_cases hkd : k < dl
        · have hkt : k < t.size := by omega
          have hkD : k < D.length := by rw [← HDL.out]; exact hkd
          have hne : t[k].toNat ≠ 47 := by
            rw [at_D Ht.out k hkD hkt]
            intro h
            exact H3.out D[k] (List.getElem_mem hkD) (UInt8.toNat_inj.1 h)
          have e47 : ((t[k].toNat : Int) != 47) = true := by rw [bne_iff_ne]; omega
          clear hne
          go_wp2
          go_round
          case rel => exact ⟨k + 1, by go_num, by omega⟩
          case measure => simp [intOf]; omega
        · obtain rfl : k = dl := by omega
          clear hkd hk
          have HX : Hid ((t.extract 0 k).data.toList = D) := Lib.hid (by rw [HDL.out, part_D Ht.out])
          by_cases hkt : k < t.size
          · obtain ⟨E, hE⟩ := HLAST.out hkt
            have HE := Lib.hid hE
            clear hE
            have e47 : ((t[k].toNat : Int) != 47) = false := by
              have := at_slash (t := t) (D := D) (E := E) (by rw [Ht.out, HE.out]) (by rw [← HDL.out]; exact hkt)
              have h2 : t[k] = 47 := by rw [← this]; congr 1
              rw [h2]; rfl
            have HX2 : Hid ((t.extract (k + 1) t.size).data.toList = E) := Lib.hid (by rw [HDL.out, part_E (t := t) (D := D) (E := E) (by rw [Ht.out, HE.out])])
            have hsz2 : (t.extract (k + 1) t.size).size ≤ 1100000 := by rw [ext_size _ _ _ (by omega)]; omega
            go_wp2_with fail
            refine digB_any _ _ (by rw [ext_size _ _ _ (by omega)]; omega) _ ?_
            have HDB := Lib.hid (congrArg digB HX.out)
            obtain ⟨bD, hbD⟩ : ∃ b, b = digB (t.extract 0 k).data.toList := ⟨_, rfl⟩
            rw [← hbD]
            have HBD := Lib.hid (hbD.trans HDB.out)
            clear hbD
            cases bD
            · have hnb : numB t.data.toList = false := numB_parts HP.out fun q hq => by have := hq.1; rw [← HBD.out] at this; cases this
              rw [hnb] at HR
              clear hnb
              dsimp only
              go_wp2
              first | go_ret | skip
              exact HR.out _ (Below.refl _ _)
            · dsimp only
              go_wp2_with fail
              refine digB_any _ _ (by omega) _ ?_
              have HEB := Lib.hid (congrArg digB HX2.out)
              obtain ⟨bE, hbE⟩ : ∃ b, b = digB (t.extract (k + 1) t.size).data.toList := ⟨_, rfl⟩
              rw [← hbE]
              have HBE := Lib.hid (hbE.trans HEB.out)
              clear hbE
              cases bE
              · have hnb : numB t.data.toList = false := numB_parts HP.out fun q hq => by
                  rcases hq.2 with ⟨h, _⟩ | ⟨E', h, hE', _⟩
                  · rw [HE.out] at h; cases h
                  · rw [HE.out] at h
                    obtain rfl := (List.cons.inj h).2
                    rw [← HBE.out] at hE'; cases hE'
                rw [hnb] at HR
                clear hnb
                dsimp only
                go_wp2
                first | go_ret | skip
                exact HR.out _ (Below.refl _ _)
              · by_cases hz : E = [48]
                · have hnb : numB t.data.toList = false := numB_parts HP.out fun q hq => by
                    rcases hq.2 with ⟨h, _⟩ | ⟨E', h, hE', h2, _⟩
                    · rw [HE.out] at h; cases h
                    · rw [HE.out] at h
                      obtain rfl := (List.cons.inj h).2
                      rw [hz] at h2
                      simp [rdec] at h2
                  rw [hnb] at HR
                  clear hnb
                  have hx : ((t.extract (k + 1) t.size).toList == [48]) = true := by rw [Lib.toList_data, HX2.out, hz]; rfl
                  clear hz
                  dsimp only
                  go_wp2
                  first | go_ret | skip
                  exact HR.out _ (Below.refl _ _)
                · have hx : ((t.extract (k + 1) t.size).toList == [48]) = false := by rw [Lib.toList_data, HX2.out, beq_eq_false_iff_ne]; exact hz
                  have hm0 : rdec E ≠ 0 := fun h => hz (by have := decs_rdec HBE.out.symm; rw [h] at this; rw [← this]; rfl)
                  have HM0 := Lib.hid hm0
                  clear hz hm0
                  dsimp only
                  go_wp2_with fail
                  refine of_any t false D r (rdec E) _ HP.out (digB_iff.1 HBD.out.symm).1 (digB_iff.1 HBD.out.symm).2.1 (.inr ⟨E, HE.out, (digB_iff.1 HBE.out.symm).1, rfl, HM0.out⟩) (size_parts2 HP.out HE.out HBD.out.symm HBE.out.symm) _ ?_
                  have hnb : numB t.data.toList = _ := numB_of HP.out HBD.out.symm (.inr ⟨E, HE.out, HBE.out.symm, rfl, HM0.out⟩)
                  have hdl := divInt_le (sgn false (rdec D)) (rdec E) HM0.out
                  rw [sgn_abs] at hdl
                  have hl1 := Nat.le_trans (dig_length_mono (B := 10000) (by omega) hdl.1) (rdec_len D (digB_iff.1 HBD.out.symm).1 60 (digB_iff.1 HBD.out.symm).2.2.1)
                  have hl2 := Nat.le_trans (dig_length_mono (B := 10000) (by omega) hdl.2) (rdec_len E (digB_iff.1 HBE.out.symm).1 60 (digB_iff.1 HBE.out.symm).2.2.1)
                  obtain ⟨q, hq⟩ : ∃ q, q = Rat.divInt (sgn false (rdec D)) (rdec E : Int) := ⟨_, rfl⟩
                  rw [← hq] at hnb hl1 hl2 ⊢
                  have HNB := Lib.hid hnb
                  clear hnb hq hdl
                  intro v1 w1 hq1 hb1
                  obtain ⟨ng, a1, n1, c1, a2, n2, c2, rfl, _, _⟩ := hq1.parts
                  dsimp only
                  go_wp2_with fail
                  refine text_any _ q _ hq1 (by omega) (by omega) _ ?_
                  intro w2 hb2
                  have HB := Lib.hid (hb1.trans (hb2.mono hb1.size))
                  clear hb1 hb2 hq1
                  dsimp only
                  obtain ⟨T, hT⟩ : ∃ T, T = textQ q := ⟨_, rfl⟩
                  rw [← hT] at HNB ⊢
                  clear hT
                  by_cases hTs : T = t.data.toList
                  · have e9 : (T == t.toList) = true := by rw [Lib.toList_data, hTs]; exact beq_self_eq_true _
                    rw [HNB.out, decide_eq_true hTs] at HR
                    clear hTs
                    go_wp2
                    first | go_ret | skip
                    exact HR.out _ HB.out
                  · have e9 : (T == t.toList) = false := by rw [Lib.toList_data, beq_eq_false_iff_ne]; exact hTs
                    rw [HNB.out, decide_eq_false hTs] at HR
                    clear hTs
                    go_wp2
                    first | go_ret | skip
                    exact HR.out _ HB.out
          · have hr0 := HEND.out hkt
            have HR0 := Lib.hid hr0
            clear hr0
            go_wp2_with fail
            refine digB_any _ _ (by rw [ext_size _ _ _ (by omega)]; omega) _ ?_
            have HDB := Lib.hid (congrArg digB HX.out)
            obtain ⟨bD, hbD⟩ : ∃ b, b = digB (t.extract 0 k).data.toList := ⟨_, rfl⟩
            rw [← hbD]
            have HBD := Lib.hid (hbD.trans HDB.out)
            clear hbD
            cases bD
            · have hnb : numB t.data.toList = false := numB_parts HP.out fun q hq => by have := hq.1; rw [← HBD.out] at this; cases this
              rw [hnb] at HR
              clear hnb
              dsimp only
              go_wp2
              first | go_ret | skip
              exact HR.out _ (Below.refl _ _)
            · dsimp only
              go_wp2_with fail
              refine of_any t false D r 1 _ HP.out (digB_iff.1 HBD.out.symm).1 (digB_iff.1 HBD.out.symm).2.1 (.inl ⟨HR0.out, rfl⟩) (size_parts1 HP.out HR0.out HBD.out.symm) _ ?_
              have hnb : numB t.data.toList = _ := numB_of HP.out HBD.out.symm (.inl ⟨HR0.out, rfl⟩)
              have hdl := divInt_le (sgn false (rdec D)) 1 (by omega)
              rw [sgn_abs] at hdl
              have hl1 := Nat.le_trans (dig_length_mono (B := 10000) (by omega) hdl.1) (rdec_len D (digB_iff.1 HBD.out.symm).1 60 (digB_iff.1 HBD.out.symm).2.2.1)
              have hl2 := Nat.le_trans (dig_length_mono (B := 10000) (by omega) hdl.2) (show _ ≤ 60 by rw [dig_small (by omega) (by omega)]; simp)
              obtain ⟨q, hq⟩ : ∃ q, q = Rat.divInt (sgn false (rdec D)) ((1 : Nat) : Int) := ⟨_, rfl⟩
              rw [← hq] at hnb hl1 hl2 ⊢
              have HNB := Lib.hid hnb
              clear hnb hq hdl
              intro v1 w1 hq1 hb1
              obtain ⟨ng, a1, n1, c1, a2, n2, c2, rfl, _, _⟩ := hq1.parts
              dsimp only
              go_wp2_with fail
              refine text_any _ q _ hq1 (by omega) (by omega) _ ?_
              intro w2 hb2
              have HB := Lib.hid (hb1.trans (hb2.mono hb1.size))
              clear hb1 hb2 hq1
              dsimp only
              obtain ⟨T, hT⟩ : ∃ T, T = textQ q := ⟨_, rfl⟩
              rw [← hT] at HNB ⊢
              clear hT
              by_cases hTs : T = t.data.toList
              · have e9 : (T == t.toList) = true := by rw [Lib.toList_data, hTs]; exact beq_self_eq_true _
                rw [HNB.out, decide_eq_true hTs] at HR
                clear hTs
                go_wp2
                first | go_ret | skip
                exact HR.out _ HB.out
              · have e9 : (T == t.toList) = false := by rw [Lib.toList_data, beq_eq_false_iff_ne]; exact hTs
                rw [HNB.out, decide_eq_false hTs] at HR
                clear hTs
                go_wp2
                first | go_ret | skip
                exact HR.out _ HB.out
    · clear hm45
      go_enter Tryd.func36, Tryd.ntmps36
      go_wp2
      go_loop [4] (fun i => ∃ k : Nat, i = .int .i64 k ∧ k ≤ dl) (fun i => dl - (intOf i).toNat)
      case atStart => exact ⟨0, rfl, Nat.zero_le _⟩
      case round =>
        obtain ⟨k, rfl, hk⟩ := hrel
        by_cases hkd : k < dl
        · have hkt : k < t.size := by omega
          have hkD : k < D.length := by rw [← HDL.out]; exact hkd
          have hne : t[k].toNat ≠ 47 := by
            rw [at_D Ht.out k hkD hkt]
            intro h
            exact H3.out D[k] (List.getElem_mem hkD) (UInt8.toNat_inj.1 h)
          have e47 : ((t[k].toNat : Int) != 47) = true := by rw [bne_iff_ne]; omega
          clear hne
          go_wp2
          go_round
          case rel => exact ⟨k + 1, by go_num, by omega⟩
          case measure => simp [intOf]; omega
        · obtain rfl : k = dl := by omega
          clear hkd hk
          have HX : Hid ((t.extract 0 k).data.toList = D) := Lib.hid (by rw [HDL.out, part_D Ht.out])
          by_cases hkt : k < t.size
          · obtain ⟨E, hE⟩ := HLAST.out hkt
            have HE := Lib.hid hE
            clear hE
            have e47 : ((t[k].toNat : Int) != 47) = false := by
              have := at_slash (t := t) (D := D) (E := E) (by rw [Ht.out, HE.out]) (by rw [← HDL.out]; exact hkt)
              have h2 : t[k] = 47 := by rw [← this]; congr 1
              rw [h2]; rfl
            have HX2 : Hid ((t.extract (k + 1) t.size).data.toList = E) := Lib.hid (by rw [HDL.out, part_E (t := t) (D := D) (E := E) (by rw [Ht.out, HE.out])])
            have hsz2 : (t.extract (k + 1) t.size).size ≤ 1100000 := by rw [ext_size _ _ _ (by omega)]; omega
            go_wp2_with fail
            refine digB_any _ _ (by rw [ext_size _ _ _ (by omega)]; omega) _ ?_
            have HDB := Lib.hid (congrArg digB HX.out)
            obtain ⟨bD, hbD⟩ : ∃ b, b = digB (t.extract 0 k).data.toList := ⟨_, rfl⟩
            rw [← hbD]
            have HBD := Lib.hid (hbD.trans HDB.out)
            clear hbD
            cases bD
            · have hnb : numB t.data.toList = false := numB_parts HP.out fun q hq => by have := hq.1; rw [← HBD.out] at this; cases this
              rw [hnb] at HR
              clear hnb
              dsimp only
              go_wp2
              first | go_ret | skip
              exact HR.out _ (Below.refl _ _)
            · dsimp only
              go_wp2_with fail
              refine digB_any _ _ (by omega) _ ?_
              have HEB := Lib.hid (congrArg digB HX2.out)
              obtain ⟨bE, hbE⟩ : ∃ b, b = digB (t.extract (k + 1) t.size).data.toList := ⟨_, rfl⟩
              rw [← hbE]
              have HBE := Lib.hid (hbE.trans HEB.out)
              clear hbE
              cases bE
              · have hnb : numB t.data.toList = false := numB_parts HP.out fun q hq => by
                  rcases hq.2 with ⟨h, _⟩ | ⟨E', h, hE', _⟩
                  · rw [HE.out] at h; cases h
                  · rw [HE.out] at h
                    obtain rfl := (List.cons.inj h).2
                    rw [← HBE.out] at hE'; cases hE'
                rw [hnb] at HR
                clear hnb
                dsimp only
                go_wp2
                first | go_ret | skip
                exact HR.out _ (Below.refl _ _)
              · by_cases hz : E = [48]
                · have hnb : numB t.data.toList = false := numB_parts HP.out fun q hq => by
                    rcases hq.2 with ⟨h, _⟩ | ⟨E', h, hE', h2, _⟩
                    · rw [HE.out] at h; cases h
                    · rw [HE.out] at h
                      obtain rfl := (List.cons.inj h).2
                      rw [hz] at h2
                      simp [rdec] at h2
                  rw [hnb] at HR
                  clear hnb
                  have hx : ((t.extract (k + 1) t.size).toList == [48]) = true := by rw [Lib.toList_data, HX2.out, hz]; rfl
                  clear hz
                  dsimp only
                  go_wp2
                  first | go_ret | skip
                  exact HR.out _ (Below.refl _ _)
                · have hx : ((t.extract (k + 1) t.size).toList == [48]) = false := by rw [Lib.toList_data, HX2.out, beq_eq_false_iff_ne]; exact hz
                  have hm0 : rdec E ≠ 0 := fun h => hz (by have := decs_rdec HBE.out.symm; rw [h] at this; rw [← this]; rfl)
                  have HM0 := Lib.hid hm0
                  clear hz hm0
                  dsimp only
                  go_wp2_with fail
                  refine of_any t false D r (rdec E) _ HP.out (digB_iff.1 HBD.out.symm).1 (digB_iff.1 HBD.out.symm).2.1 (.inr ⟨E, HE.out, (digB_iff.1 HBE.out.symm).1, rfl, HM0.out⟩) (size_parts2 HP.out HE.out HBD.out.symm HBE.out.symm) _ ?_
                  have hnb : numB t.data.toList = _ := numB_of HP.out HBD.out.symm (.inr ⟨E, HE.out, HBE.out.symm, rfl, HM0.out⟩)
                  have hdl := divInt_le (sgn false (rdec D)) (rdec E) HM0.out
                  rw [sgn_abs] at hdl
                  have hl1 := Nat.le_trans (dig_length_mono (B := 10000) (by omega) hdl.1) (rdec_len D (digB_iff.1 HBD.out.symm).1 60 (digB_iff.1 HBD.out.symm).2.2.1)
                  have hl2 := Nat.le_trans (dig_length_mono (B := 10000) (by omega) hdl.2) (rdec_len E (digB_iff.1 HBE.out.symm).1 60 (digB_iff.1 HBE.out.symm).2.2.1)
                  obtain ⟨q, hq⟩ : ∃ q, q = Rat.divInt (sgn false (rdec D)) (rdec E : Int) := ⟨_, rfl⟩
                  rw [← hq] at hnb hl1 hl2 ⊢
                  have HNB := Lib.hid hnb
                  clear hnb hq hdl
                  intro v1 w1 hq1 hb1
                  obtain ⟨ng, a1, n1, c1, a2, n2, c2, rfl, _, _⟩ := hq1.parts
                  dsimp only
                  go_wp2_with fail
                  refine text_any _ q _ hq1 (by omega) (by omega) _ ?_
                  intro w2 hb2
                  have HB := Lib.hid (hb1.trans (hb2.mono hb1.size))
                  clear hb1 hb2 hq1
                  dsimp only
                  obtain ⟨T, hT⟩ : ∃ T, T = textQ q := ⟨_, rfl⟩
                  rw [← hT] at HNB ⊢
                  clear hT
                  by_cases hTs : T = t.data.toList
                  · have e9 : (T == t.toList) = true := by rw [Lib.toList_data, hTs]; exact beq_self_eq_true _
                    rw [HNB.out, decide_eq_true hTs] at HR
                    clear hTs
                    go_wp2
                    first | go_ret | skip
                    exact HR.out _ HB.out
                  · have e9 : (T == t.toList) = false := by rw [Lib.toList_data, beq_eq_false_iff_ne]; exact hTs
                    rw [HNB.out, decide_eq_false hTs] at HR
                    clear hTs
                    go_wp2
                    first | go_ret | skip
                    exact HR.out _ HB.out
          · have hr0 := HEND.out hkt
            have HR0 := Lib.hid hr0
            clear hr0
            go_wp2_with fail
            refine digB_any _ _ (by rw [ext_size _ _ _ (by omega)]; omega) _ ?_
            have HDB := Lib.hid (congrArg digB HX.out)
            obtain ⟨bD, hbD⟩ : ∃ b, b = digB (t.extract 0 k).data.toList := ⟨_, rfl⟩
            rw [← hbD]
            have HBD := Lib.hid (hbD.trans HDB.out)
            clear hbD
            cases bD
            · have hnb : numB t.data.toList = false := numB_parts HP.out fun q hq => by have := hq.1; rw [← HBD.out] at this; cases this
              rw [hnb] at HR
              clear hnb
              dsimp only
              go_wp2
              first | go_ret | skip
              exact HR.out _ (Below.refl _ _)
            · dsimp only
              go_wp2_with fail
              refine of_any t false D r 1 _ HP.out (digB_iff.1 HBD.out.symm).1 (digB_iff.1 HBD.out.symm).2.1 (.inl ⟨HR0.out, rfl⟩) (size_parts1 HP.out HR0.out HBD.out.symm) _ ?_
              have hnb : numB t.data.toList = _ := numB_of HP.out HBD.out.symm (.inl ⟨HR0.out, rfl⟩)
              have hdl := divInt_le (sgn false (rdec D)) 1 (by omega)
              rw [sgn_abs] at hdl
              have hl1 := Nat.le_trans (dig_length_mono (B := 10000) (by omega) hdl.1) (rdec_len D (digB_iff.1 HBD.out.symm).1 60 (digB_iff.1 HBD.out.symm).2.2.1)
              have hl2 := Nat.le_trans (dig_length_mono (B := 10000) (by omega) hdl.2) (show _ ≤ 60 by rw [dig_small (by omega) (by omega)]; simp)
              obtain ⟨q, hq⟩ : ∃ q, q = Rat.divInt (sgn false (rdec D)) ((1 : Nat) : Int) := ⟨_, rfl⟩
              rw [← hq] at hnb hl1 hl2 ⊢
              have HNB := Lib.hid hnb
              clear hnb hq hdl
              intro v1 w1 hq1 hb1
              obtain ⟨ng, a1, n1, c1, a2, n2, c2, rfl, _, _⟩ := hq1.parts
              dsimp only
              go_wp2_with fail
              refine text_any _ q _ hq1 (by omega) (by omega) _ ?_
              intro w2 hb2
              have HB := Lib.hid (hb1.trans (hb2.mono hb1.size))
              clear hb1 hb2 hq1
              dsimp only
              obtain ⟨T, hT⟩ : ∃ T, T = textQ q := ⟨_, rfl⟩
              rw [← hT] at HNB ⊢
              clear hT
              by_cases hTs : T = t.data.toList
              · have e9 : (T == t.toList) = true := by rw [Lib.toList_data, hTs]; exact beq_self_eq_true _
                rw [HNB.out, decide_eq_true hTs] at HR
                clear hTs
                go_wp2
                first | go_ret | skip
                exact HR.out _ HB.out
              · have e9 : (T == t.toList) = false := by rw [Lib.toList_data, beq_eq_false_iff_ne]; exact hTs
                rw [HNB.out, decide_eq_false hTs] at HR
                clear hTs
                go_wp2
                first | go_ret | skip
                exact HR.out _ HB.out
  · obtain ⟨hpos, h45⟩ := hm45.1 rfl
    have e45 : ((s[0].toNat : Int) == 45) = true := by
      rw [h45]; rfl
    clear hm45 h45
    go_enter Tryd.func36, Tryd.ntmps36
    go_wp2
    have ht : t = s.extract 1 s.size := Hn.out
    rw [← ht]
    clear ht
    go_loop [4] (fun i => ∃ k : Nat, i = .int .i64 k ∧ k ≤ dl) (fun i => dl - (intOf i).toNat)
    case atStart => exact ⟨0, rfl, Nat.zero_le _⟩
    case round =>
      obtain ⟨k, rfl, hk⟩ := hrel
      by_cases hkd : k < dl
      · have hkt : k < t.size := by omega
        have hkD : k < D.length := by rw [← HDL.out]; exact hkd
        have hne : t[k].toNat ≠ 47 := by
          rw [at_D Ht.out k hkD hkt]
          intro h
          exact H3.out D[k] (List.getElem_mem hkD) (UInt8.toNat_inj.1 h)
        have e47 : ((t[k].toNat : Int) != 47) = true := by rw [bne_iff_ne]; omega
        clear hne
        go_wp2
        go_round
        case rel => exact ⟨k + 1, by go_num, by omega⟩
        case measure => simp [intOf]; omega
      · obtain rfl : k = dl := by omega
        clear hkd hk
        have HX : Hid ((t.extract 0 k).data.toList = D) := Lib.hid (by rw [HDL.out, part_D Ht.out])
        by_cases hkt : k < t.size
        · obtain ⟨E, hE⟩ := HLAST.out hkt
          have HE := Lib.hid hE
          clear hE
          have e47 : ((t[k].toNat : Int) != 47) = false := by
            have := at_slash (t := t) (D := D) (E := E) (by rw [Ht.out, HE.out]) (by rw [← HDL.out]; exact hkt)
            have h2 : t[k] = 47 := by rw [← this]; congr 1
            rw [h2]; rfl
          have HX2 : Hid ((t.extract (k + 1) t.size).data.toList = E) := Lib.hid (by rw [HDL.out, part_E (t := t) (D := D) (E := E) (by rw [Ht.out, HE.out])])
          have hsz2 : (t.extract (k + 1) t.size).size ≤ 1100000 := by rw [ext_size _ _ _ (by omega)]; omega
          go_wp2_with fail
          refine digB_any _ _ (by rw [ext_size _ _ _ (by omega)]; omega) _ ?_
          have HDB := Lib.hid (congrArg digB HX.out)
          obtain ⟨bD, hbD⟩ : ∃ b, b = digB (t.extract 0 k).data.toList := ⟨_, rfl⟩
          rw [← hbD]
          have HBD := Lib.hid (hbD.trans HDB.out)
          clear hbD
          cases bD
          · have hnb : numB s.data.toList = false := numB_parts HP.out fun q hq => by have := hq.1; rw [← HBD.out] at this; cases this
            rw [hnb] at HR
            clear hnb
            dsimp only
            go_wp2
            first | go_ret | skip
            exact HR.out _ (Below.refl _ _)
          · dsimp only
            go_wp2_with fail
            refine digB_any _ _ (by omega) _ ?_
            have HEB := Lib.hid (congrArg digB HX2.out)
            obtain ⟨bE, hbE⟩ : ∃ b, b = digB (t.extract (k + 1) t.size).data.toList := ⟨_, rfl⟩
            rw [← hbE]
            have HBE := Lib.hid (hbE.trans HEB.out)
            clear hbE
            cases bE
            · have hnb : numB s.data.toList = false := numB_parts HP.out fun q hq => by
                rcases hq.2 with ⟨h, _⟩ | ⟨E', h, hE', _⟩
                · rw [HE.out] at h; cases h
                · rw [HE.out] at h
                  obtain rfl := (List.cons.inj h).2
                  rw [← HBE.out] at hE'; cases hE'
              rw [hnb] at HR
              clear hnb
              dsimp only
              go_wp2
              first | go_ret | skip
              exact HR.out _ (Below.refl _ _)
            · by_cases hz : E = [48]
              · have hnb : numB s.data.toList = false := numB_parts HP.out fun q hq => by
                  rcases hq.2 with ⟨h, _⟩ | ⟨E', h, hE', h2, _⟩
                  · rw [HE.out] at h; cases h
                  · rw [HE.out] at h
                    obtain rfl := (List.cons.inj h).2
                    rw [hz] at h2
                    simp [rdec] at h2
                rw [hnb] at HR
                clear hnb
                have hx : ((t.extract (k + 1) t.size).toList == [48]) = true := by rw [Lib.toList_data, HX2.out, hz]; rfl
                clear hz
                dsimp only
                go_wp2
                first | go_ret | skip
                exact HR.out _ (Below.refl _ _)
              · have hx : ((t.extract (k + 1) t.size).toList == [48]) = false := by rw [Lib.toList_data, HX2.out, beq_eq_false_iff_ne]; exact hz
                have hm0 : rdec E ≠ 0 := fun h => hz (by have := decs_rdec HBE.out.symm; rw [h] at this; rw [← this]; rfl)
                have HM0 := Lib.hid hm0
                clear hz hm0
                dsimp only
                go_wp2_with fail
                refine of_any s true D r (rdec E) _ HP.out (digB_iff.1 HBD.out.symm).1 (digB_iff.1 HBD.out.symm).2.1 (.inr ⟨E, HE.out, (digB_iff.1 HBE.out.symm).1, rfl, HM0.out⟩) (size_parts2 HP.out HE.out HBD.out.symm HBE.out.symm) _ ?_
                have hnb : numB s.data.toList = _ := numB_of HP.out HBD.out.symm (.inr ⟨E, HE.out, HBE.out.symm, rfl, HM0.out⟩)
                have hdl := divInt_le (sgn true (rdec D)) (rdec E) HM0.out
                rw [sgn_abs] at hdl
                have hl1 := Nat.le_trans (dig_length_mono (B := 10000) (by omega) hdl.1) (rdec_len D (digB_iff.1 HBD.out.symm).1 60 (digB_iff.1 HBD.out.symm).2.2.1)
                have hl2 := Nat.le_trans (dig_length_mono (B := 10000) (by omega) hdl.2) (rdec_len E (digB_iff.1 HBE.out.symm).1 60 (digB_iff.1 HBE.out.symm).2.2.1)
                obtain ⟨q, hq⟩ : ∃ q, q = Rat.divInt (sgn true (rdec D)) (rdec E : Int) := ⟨_, rfl⟩
                rw [← hq] at hnb hl1 hl2 ⊢
                have HNB := Lib.hid hnb
                clear hnb hq hdl
                intro v1 w1 hq1 hb1
                obtain ⟨ng, a1, n1, c1, a2, n2, c2, rfl, _, _⟩ := hq1.parts
                dsimp only
                go_wp2_with fail
                refine text_any _ q _ hq1 (by omega) (by omega) _ ?_
                intro w2 hb2
                have HB := Lib.hid (hb1.trans (hb2.mono hb1.size))
                clear hb1 hb2 hq1
                dsimp only
                obtain ⟨T, hT⟩ : ∃ T, T = textQ q := ⟨_, rfl⟩
                rw [← hT] at HNB ⊢
                clear hT
                by_cases hTs : T = s.data.toList
                · have e9 : (T == s.toList) = true := by rw [Lib.toList_data, hTs]; exact beq_self_eq_true _
                  rw [HNB.out, decide_eq_true hTs] at HR
                  clear hTs
                  go_wp2
                  first | go_ret | skip
                  exact HR.out _ HB.out
                · have e9 : (T == s.toList) = false := by rw [Lib.toList_data, beq_eq_false_iff_ne]; exact hTs
                  rw [HNB.out, decide_eq_false hTs] at HR
                  clear hTs
                  go_wp2
                  first | go_ret | skip
                  exact HR.out _ HB.out
        · have hr0 := HEND.out hkt
          have HR0 := Lib.hid hr0
          clear hr0
          go_wp2_with fail
          refine digB_any _ _ (by rw [ext_size _ _ _ (by omega)]; omega) _ ?_
          have HDB := Lib.hid (congrArg digB HX.out)
          obtain ⟨bD, hbD⟩ : ∃ b, b = digB (t.extract 0 k).data.toList := ⟨_, rfl⟩
          rw [← hbD]
          have HBD := Lib.hid (hbD.trans HDB.out)
          clear hbD
          cases bD
          · have hnb : numB s.data.toList = false := numB_parts HP.out fun q hq => by have := hq.1; rw [← HBD.out] at this; cases this
            rw [hnb] at HR
            clear hnb
            dsimp only
            go_wp2
            first | go_ret | skip
            exact HR.out _ (Below.refl _ _)
          · dsimp only
            go_wp2_with fail
            refine of_any s true D r 1 _ HP.out (digB_iff.1 HBD.out.symm).1 (digB_iff.1 HBD.out.symm).2.1 (.inl ⟨HR0.out, rfl⟩) (size_parts1 HP.out HR0.out HBD.out.symm) _ ?_
            have hnb : numB s.data.toList = _ := numB_of HP.out HBD.out.symm (.inl ⟨HR0.out, rfl⟩)
            have hdl := divInt_le (sgn true (rdec D)) 1 (by omega)
            rw [sgn_abs] at hdl
            have hl1 := Nat.le_trans (dig_length_mono (B := 10000) (by omega) hdl.1) (rdec_len D (digB_iff.1 HBD.out.symm).1 60 (digB_iff.1 HBD.out.symm).2.2.1)
            have hl2 := Nat.le_trans (dig_length_mono (B := 10000) (by omega) hdl.2) (show _ ≤ 60 by rw [dig_small (by omega) (by omega)]; simp)
            obtain ⟨q, hq⟩ : ∃ q, q = Rat.divInt (sgn true (rdec D)) ((1 : Nat) : Int) := ⟨_, rfl⟩
            rw [← hq] at hnb hl1 hl2 ⊢
            have HNB := Lib.hid hnb
            clear hnb hq hdl
            intro v1 w1 hq1 hb1
            obtain ⟨ng, a1, n1, c1, a2, n2, c2, rfl, _, _⟩ := hq1.parts
            dsimp only
            go_wp2_with fail
            refine text_any _ q _ hq1 (by omega) (by omega) _ ?_
            intro w2 hb2
            have HB := Lib.hid (hb1.trans (hb2.mono hb1.size))
            clear hb1 hb2 hq1
            dsimp only
            obtain ⟨T, hT⟩ : ∃ T, T = textQ q := ⟨_, rfl⟩
            rw [← hT] at HNB ⊢
            clear hT
            by_cases hTs : T = s.data.toList
            · have e9 : (T == s.toList) = true := by rw [Lib.toList_data, hTs]; exact beq_self_eq_true _
              rw [HNB.out, decide_eq_true hTs] at HR
              clear hTs
              go_wp2
              first | go_ret | skip
              exact HR.out _ HB.out
            · have e9 : (T == s.toList) = false := by rw [Lib.toList_data, beq_eq_false_iff_ne]; exact hTs
              rw [HNB.out, decide_eq_false hTs] at HR
              clear hTs
              go_wp2
              first | go_ret | skip
              exact HR.out _ HB.out
end Go.Proofs.YtpncfhfjnnpgdaaDoor

namespace Go.Proofs.YtpncfhfjnnpgdaaDoor
open Go Go.RowKit

theorem numIs_det {neg : Bool} {D r : List UInt8} {q q' : Rat} (h : NumIs neg D r q) (h' : NumIs neg D r q') : q = q' := by
  rcases h.2 with ⟨h1, _, h3⟩ | ⟨E, h1, _, _, _, h5, h6⟩
  · rcases h'.2 with ⟨_, _, h3'⟩ | ⟨E', h1', _⟩
    · rw [h3, h3']
    · rw [h1] at h1'; cases h1'
  · rcases h'.2 with ⟨h1', _⟩ | ⟨E', h1', _, _, _, h5', h6'⟩
    · rw [h1] at h1'; cases h1'
    · rw [h1] at h1'
      obtain rfl := (List.cons.inj h1').2
      exact Rat.ext (h5.trans h5'.symm) (h6.trans h6'.symm)

theorem textQ_inj {q q' : Rat} (h : few q) (h' : few q') (e : textQ q = textQ q') : q = q' := by
  obtain ⟨neg, D, r, hp, hn⟩ := parts_text q h
  exact numIs_det hn ((num_iff hp q').2 ⟨e, h'⟩)

/-- the number that a text is -/
noncomputable def numO (L : List UInt8) : Option Rat := @dite _ (∃ q, L = textQ q ∧ few q) (Classical.propDecidable _) (fun h => some h.choose) (fun _ => none)

theorem numO_some {L : List UInt8} {q : Rat} : numO L = some q ↔ L = textQ q ∧ few q := by
  unfold numO
  split
  · rename_i h
    constructor
    · intro e
      obtain rfl := Option.some.inj e
      exact h.choose_spec
    · rintro ⟨h1, h2⟩
      have := h.choose_spec
      exact congrArg some (textQ_inj this.2 h2 (this.1.symm.trans h1))
  · rename_i h
    constructor
    · intro e; cases e
    · rintro ⟨h1, h2⟩; exact absurd ⟨q, h1, h2⟩ h

theorem numB_numO (L : List UInt8) : numB L = (numO L).isSome := by
  cases h : numO L with
  | some q => exact numB_true.2 ⟨q, numO_some.1 h⟩
  | none =>
    refine numB_false fun q h1 h2 => ?_
    rw [numO_some.2 ⟨h1, h2⟩] at h; cases h

theorem numO_few {L : List UInt8} {q : Rat} (h : numO L = some q) : few q := (numO_some.1 h).2
theorem numO_text {L : List UInt8} {q : Rat} (h : numO L = some q) : L = textQ q := (numO_some.1 h).1

theorem decs_lt (n k : Nat) (h : (decs n).length ≤ k) (hk : 1 ≤ k) : n < 10 ^ k := by
  by_cases h0 : n = 0
  · subst h0; exact Nat.pow_pos (by omega)
  · unfold decs at h
    rw [if_neg h0, List.length_map, List.length_reverse] at h
    exact Nat.lt_of_lt_of_le (lt_pow_dig (by omega) n) (Nat.pow_le_pow_right (by omega) h)

theorem few_lt {q : Rat} (h : few q) : q.num.natAbs < 10 ^ 60 ∧ q.den < 10 ^ 60 := ⟨decs_lt _ _ h.1 (by omega), decs_lt _ _ h.2 (by omega)⟩

/-- a number with few digits has few digits to whatever base -/
theorem few_len {q : Rat} (h : few q) {B : Nat} (hB : 10 ≤ B) : (dig B q.num.natAbs).length ≤ 60 ∧ (dig B q.den).length ≤ 60 := by
  obtain ⟨h1, h2⟩ := few_lt h
  exact ⟨dig_length_ten hB h1, dig_length_ten hB h2⟩

theorem numO_size {s : ByteArray} {q : Rat} (h : numO s.data.toList = some q) : s.size ≤ 122 := by
  refine Nat.le_of_not_lt fun h9 => ?_
  have : numB s.data.toList = false := numB_len (by rw [size_list]; omega)
  rw [numB_numO, h] at this; cases this

/-- the model's fraction of a text that is a number -/
theorem ofq_any (s : ByteArray) (q : Rat) (w : World) (h : numO s.data.toList = some q) (R : Ending → World → Prop)
    (hR : ∀ v w', IsQ w' v q → Below w.heap.size w w' → R (.returned v) w') :
    Calls Tryd.prog 39 #[.string s] w R := by
  have hsz := numO_size h
  obtain ⟨h1, h2⟩ := numO_some.1 h
  obtain ⟨neg, D, r, hp, hn⟩ := parts_text q h2
  rw [← h1] at hp
  obtain ⟨hD, hn⟩ := hn
  obtain ⟨hD1, hD2, _, _⟩ := digB_iff.1 hD
  rcases hn with ⟨hr, _, e⟩ | ⟨E, hr, hE, hE2, _, e1, e2⟩
  · refine of_any s neg D r 1 w hp hD1 hD2 (.inl ⟨hr, rfl⟩) (by omega) R fun v w' hq hb => hR v w' ?_ hb
    have e9 : q = Rat.divInt (sgn neg (rdec D)) ((1 : Nat) : Int) := by
      rw [e, Rat.divInt_ofNat, Rat.mkRat_one]
    rw [e9]; exact hq
  · refine of_any s neg D r (rdec E) w hp hD1 hD2 (.inr ⟨E, hr, (digB_iff.1 hE).1, rfl, by omega⟩) (by omega) R fun v w' hq hb => hR v w' ?_ hb
    have e9 : q = Rat.divInt (sgn neg (rdec D)) ((rdec E : Nat) : Int) := by
      rw [← e1, ← e2, Rat.num_divInt_den]
    rw [e9]; exact hq

/-- the model's test of a text -/
theorem isq_any (s : ByteArray) (w : World) (hs : s.size ≤ 1100000) (R : Ending → World → Prop)
    (hR : ∀ w', Below w.heap.size w w' → R (.returned (.bool (numO s.data.toList).isSome)) w') :
    Calls Tryd.prog 36 #[.string s] w R :=
  is_any s w hs R fun w' hb => by rw [numB_numO]; exact hR w' hb

/-- the program's reading of a text -/
theorem readq_any (s : ByteArray) (w : World) (hE : Env w) (R : Ending → World → Prop)
    (hR : ∀ v q w', numO s.data.toList = some q → IsR w' v q → Below w.heap.size w w' → R (.returned (.tuple #[v, .nilIface])) w')
    (hR2 : ∀ e w', numO s.data.toList = none → ErrV e → Below w.heap.size w w' → R (.returned (.tuple #[zeroR, e])) w') :
    Calls Tryd.prog 37 #[.string s] w R :=
  readr_any s w hE R (fun v q w' h1 h2 hv hb => hR v q w' (numO_some.2 ⟨h1, h2⟩) hv hb)
    (fun e w' h he hb => hR2 e w' (by rw [numB_numO] at h; cases hn : numO s.data.toList with
      | none => rfl
      | some q => rw [hn] at h; cases h) he hb)
end Go.Proofs.YtpncfhfjnnpgdaaDoor

namespace Go.Proofs.YtpncfhfjnnpgdaaDoor
open Go Go.RowKit

set_option maxRecDepth 100000 in
set_option maxHeartbeats 1000000 in
theorem spec_isNumber (s : ByteArray) (w : World) (hs : s.size ≤ 1048576)
    (R : Ending → World → Prop) (hR : ∀ w', Below w.heap.size w w' → R (.returned (.bool (numB s.data.toList))) w') :
    Calls Tryd.prog 12 #[.string s] w R := by
  have HR := Lib.hid hR; clear hR
  go_enter Tryd.func12, Tryd.ntmps12
  go_wp2_with fail
  refine is_any s _ (by omega) _ ?_
  intro w1 hb1
  have HB := Lib.hid hb1
  obtain ⟨x, hx⟩ : ∃ x, x = numB s.data.toList := ⟨_, rfl⟩
  rw [← hx] at HR ⊢
  clear hb1 hx
  dsimp only
  go_wp2
  first | go_ret | skip
  exact HR.out _ HB.out

set_option maxRecDepth 100000 in
set_option maxHeartbeats 1000000 in
theorem law_isNumber (s : ByteArray) (w : World) (hE : Env w) (R : Ending → World → Prop)
    (hR : ∀ w', Below w.heap.size w w' → R (.returned (.bool true)) w') :
    Calls Tryd.prog 3 #[.string s] w R := by
  have HR := Lib.hid hR; clear hR
  have HE := Lib.hid hE; clear hE
  by_cases hs : s.size ≤ 1048576
  · have hsi : ¬ (1048576 : Int) < (s.size : Int) := by omega
    have HS := Lib.hid hs
    clear hs
    go_enter Tryd.func3, Tryd.ntmps3
    go_wp2_with fail
    refine spec_isNumber s _ HS.out _ ?_
    intro w1 hb1
    obtain ⟨x, hx⟩ : ∃ x, x = numB s.data.toList := ⟨_, rfl⟩
    have HX := Lib.hid hx
    have HB1 := Lib.hid hb1
    rw [← hx]
    clear hb1 hx
    dsimp only
    go_wp2_with fail
    refine isnumber_any s _ (HE.out.later HB1.out (Nat.le_refl _)) _ ?_
    intro w2 hb2
    rw [← HX.out]
    have HB2 := Lib.hid (HB1.out.trans (hb2.mono HB1.out.size))
    clear hb2
    dsimp only
    cases x <;>
    · go_wp2
      first | go_ret | skip
      exact HR.out _ HB2.out
  · have hsi : (1048576 : Int) < (s.size : Int) := by omega
    clear hs
    go_enter Tryd.func3, Tryd.ntmps3
    go_wp2
    first | go_ret | skip
    exact HR.out _ (Below.refl _ _)
end Go.Proofs.YtpncfhfjnnpgdaaDoor

namespace Go.Proofs.YtpncfhfjnnpgdaaDoor.EnvLaid
open Go Go.ChangeShapes Go.WideShapes Go.ChangeAt Go.RowKit

theorem own : ownKnob Tryd.prog.godebug = none := by kernel_rfl
theorem gForm : Tryd.prog.globalNamed "loop.example/g01120/impl.errForm" = some 1 := by kernel_rfl
theorem gSize : Tryd.prog.globalNamed "loop.example/g01120/impl.errSize" = some 0 := by kernel_rfl
theorem gType : Tryd.prog.globalNamed "errors.errorType" = some 2 := by kernel_rfl
theorem tForm : (Tryd.prog.globals[1]?).map (·.type) = some 51 := by kernel_rfl
theorem tSize : (Tryd.prog.globals[0]?).map (·.type) = some 51 := by kernel_rfl
theorem rt : (Tryd.prog.cutTypes.find? (·.1 == "internal/reflectlite.rtype")).map (·.2) = some 145 := by kernel_rfl
theorem size : Tryd.prog.types.size = 221 := by kernel_rfl
theorem oneRow : ((List.range 221).filter fun t => Tryd.prog.rowNamed t [101, 114, 114, 111, 114]) = [51] := by kernel_rfl
theorem star : "*" ++ "errors.errorString" = "*errors.errorString" := by decide
theorem rowPtr (u : TypeId) (h : Tryd.prog.typeName? 3 u = some "*errors.errorString") : u = 187 :=
  typeName_ptr_named (nm := "errors.errorString") (by rw [star]; kernel_rfl) (by kernel_rfl) (by decide) u (by rw [star]; exact h)
theorem cells190 : Tryd.prog.cellsOf 209 = 1 := by kernel_rfl
theorem cells9 : Tryd.prog.cellsOf 9 = 1 := by kernel_rfl

theorem handle_of {W : World} (h : handlesMet Tryd.prog [("errors.errorType", Rows.laid_errors_errorType)] W) :
    W.cell? ⟨2, 0, none⟩ = some (.iface 145 (.agg #[.pointer (some ⟨8, 51, none⟩)])) := by
  obtain ⟨name, u, ty, e1, e2, e3, e4, e5⟩ := h _ (List.mem_singleton.2 rfl)
  have en : name = [101, 114, 114, 111, 114] := (Option.some.inj e1).symm
  subst en
  obtain rfl := Option.some.inj (rt.symm.trans e2)
  have hm : ty ∈ (List.range 221).filter fun t => Tryd.prog.rowNamed t [101, 114, 114, 111, 114] := List.mem_filter.2 ⟨List.mem_range.2 (by rw [← size]; exact e3), e4⟩
  rw [oneRow] at hm
  obtain rfl := List.mem_singleton.1 hm
  have hh : typeHandle Tryd.prog 51 = .pointer (some ⟨8, 51, none⟩) := by kernel_rfl
  rw [hh] at e5
  simpa using World.var?_cell gType e5 0

/-- what a row's condition gives -/
theorem env_of {W : World} (h : laidMetH Tryd.prog [("errors.errorType", Rows.laid_errors_errorType), ("loop.example/g01120/impl.errForm", Rows.laid_loop_example_g01120_impl_errForm), ("loop.example/g01120/impl.errSize", Rows.laid_loop_example_g01120_impl_errSize)] W) :
    Env W ∧ (∃ a, W.var? Tryd.prog "loop.example/g01120/impl.errForm" = some #[.iface 187 (.pointer (some a))]) ∧ (∃ a, W.var? Tryd.prog "loop.example/g01120/impl.errSize" = some #[.iface 187 (.pointer (some a))]) := by
  have h' : laidMet Tryd.prog [("loop.example/g01120/impl.errForm", Rows.laid_loop_example_g01120_impl_errForm), ("loop.example/g01120/impl.errSize", Rows.laid_loop_example_g01120_impl_errSize)] W ∧ handlesMet Tryd.prog [("errors.errorType", Rows.laid_errors_errorType)] W := h
  obtain ⟨a1, s1, hv1, hc1, _, _⟩ := laid_sentinel h'.1 gForm tForm Tryd.underlying51 rowPtr Tryd.underlying187 Tryd.underlying209 rfl rfl Tryd.underlying9 cells190 cells9
  obtain ⟨a2, s2, hv2, hc2, _, _⟩ := laid_sentinel (laidMet.tail h'.1) gSize tSize Tryd.underlying51 rowPtr Tryd.underlying187 Tryd.underlying209 rfl rfl Tryd.underlying9 cells190 cells9
  exact ⟨⟨⟨a1, by simpa using World.var?_cell gForm hv1 0⟩, ⟨a2, by simpa using World.var?_cell gSize hv2 0⟩, handle_of h'.2⟩, ⟨a1, hv1⟩, ⟨a2, hv2⟩⟩
end Go.Proofs.YtpncfhfjnnpgdaaDoor.EnvLaid

namespace Go.Proofs.YtpncfhfjnnpgdaaDoor
open Go Go.RowKit

/-- what is asked of the reading of an element -/
structure Elem {α : Type} (sz : Nat) (E : World → List Value → α → Prop) : Prop where
  len : ∀ {w cs x}, E w cs x → cs.length = sz
  ints : ∀ {w cs x}, E w cs x → ∀ u ∈ cs, notInt u = true
  one : ∀ {w cs x}, E w cs x → ∀ u ∈ cs, u.oneCell' = true
  keep : ∀ {w w' g cs x}, E w cs x → But g w w' → NoInt w g → E w' cs x

theorem NoInt.new (w : World) (b : Nat) (h : w.heap.size ≤ b) : NoInt w b := by
  intro o u hu
  simp [World.cell?, Array.getElem?_eq_none h] at hu

theorem NoInt.of {w : World} {g : Nat} {cur : Array Value} {e : TypeId} (h : w.heap[g]? = some (.cells cur e (0, 0))) (hc : ∀ u ∈ cur.toList, notInt u = true) : NoInt w g := by
  intro o u hu
  simp only [World.cell?, h, Option.isSome_none, Bool.false_eq_true, if_false] at hu
  exact hc u (by rw [← Array.getElem?_toList] at hu; exact List.mem_of_getElem? hu)

theorem Elem.below {α : Type} {sz : Nat} {E : World → List Value → α → Prop} (hE : Elem sz E) {w w' : World} {cs : List Value} {x : α} {B : Nat} (h : E w cs x) (hb : Below B w w') (hB : w.heap.size ≤ B) : E w' cs x :=
  hE.keep (g := w.heap.size) h (But.ofBelow (hb.mono hB)) (NoInt.new _ _ (Nat.le_refl _))

/-- a slice value reads as a list -/
def SlE {α : Type} (sz : Nat) (E : World → List Value → α → Prop) (w : World) (v : Value) (xs : List α) : Prop :=
  ∃ ao cap, v = .slice ao xs.length cap ∧ xs.length ≤ cap ∧ ∀ i x, xs[i]? = some x → ∃ b off cs, ao = some ⟨b, off, none⟩ ∧ b < w.heap.size ∧ (∀ j u, cs[j]? = some u → w.cell? ⟨b, off + (i * sz + j), none⟩ = some u) ∧ E w cs x

theorem SlE.later {α : Type} {sz : Nat} {E : World → List Value → α → Prop} (hE : Elem sz E) {w w' : World} {v : Value} {xs : List α} {B : Nat} (h : SlE sz E w v xs) (hb : Below B w w') (hB : w.heap.size ≤ B) : SlE sz E w' v xs := by
  obtain ⟨ao, cap, hv, hc, hx⟩ := h
  refine ⟨ao, cap, hv, hc, fun i x hi => ?_⟩
  obtain ⟨b, off, cs, h1, h2, h3, h4⟩ := hx i x hi
  exact ⟨b, off, cs, h1, Nat.lt_of_lt_of_le h2 hb.size, fun j u hj => by rw [hb.cell (by exact Nat.lt_of_lt_of_le h2 hB)]; exact h3 j u hj, hE.below h4 hb hB⟩

theorem SlE.open {α : Type} {sz : Nat} {E : World → List Value → α → Prop} {w : World} {v : Value} {xs : List α} (h : SlE sz E w v xs) : ∃ ao n cap, v = .slice ao n cap ∧ n = xs.length ∧ n ≤ cap ∧ SlE sz E w (.slice ao n cap) xs := by
  obtain ⟨ao, cap, rfl, hc, hx⟩ := h
  exact ⟨ao, _, cap, rfl, rfl, hc, ao, cap, rfl, hc, hx⟩

theorem SlE.at {α : Type} {sz : Nat} {E : World → List Value → α → Prop} {w : World} {ao : Option Addr} {n cap : Nat} {xs : List α} (h : SlE sz E w (.slice ao n cap) xs) (i : Nat) (x : α) (hi : xs[i]? = some x) :
    ∃ b off cs, ao = some ⟨b, off, none⟩ ∧ b < w.heap.size ∧ (∀ j u, cs[j]? = some u → w.cell? ⟨b, off + (i * sz + j), none⟩ = some u) ∧ E w cs x := by
  obtain ⟨_, _, hv, _, hx⟩ := h
  simp only [Value.slice.injEq] at hv
  obtain ⟨rfl, _, _⟩ := hv
  exact hx i x hi

theorem SlE.nil {α : Type} {sz : Nat} {E : World → List Value → α → Prop} (w : World) (ao : Option Addr) (cap : Nat) : SlE sz E w (.slice ao 0 cap) ([] : List α) :=
  ⟨ao, cap, rfl, Nat.zero_le _, fun i x h => by simp at h⟩

/-- a slice that the call has made itself, from block B on; no cell of its block holds a number -/
def OwE {α : Type} (sz : Nat) (E : World → List Value → α → Prop) (e : TypeId) (w : World) (B : Nat) (v : Value) (xs : List α) : Prop :=
  (v = .slice none 0 0 ∧ xs = []) ∨ ∃ g cap cur, v = .slice (some ⟨g, 0, none⟩) xs.length cap ∧ B ≤ g ∧ w.heap[g]? = some (.cells cur e (0, 0)) ∧ xs.length ≤ cap ∧ cap ≤ maxLen ∧ cur.size = cap * sz ∧
    (∀ u ∈ cur.toList, notInt u = true) ∧ ∀ i x, xs[i]? = some x → E w ((cur.toList.drop (i * sz)).take sz) x

theorem OwE.nil {α : Type} {sz : Nat} {E : World → List Value → α → Prop} (e : TypeId) (w : World) (B : Nat) : OwE sz E e w B (.slice none 0 0) ([] : List α) := .inl ⟨rfl, rfl⟩

theorem OwE.lit {α : Type} {sz : Nat} {E : World → List Value → α → Prop} (e : TypeId) (w : World) (B : Nat) (hB : B ≤ w.heap.size) : OwE sz E e (w.alloc (.cells #[] e)) B (.slice (some ⟨w.heap.size, 0, none⟩) 0 0) ([] : List α) := by
  refine .inr ⟨w.heap.size, 0, #[], rfl, hB, ?_, Nat.le_refl _, by simp only [maxLen]; omega, by simp, by simp, fun i x h => by simp at h⟩
  show (w.heap.push _)[_]? = _
  simp

theorem OwE.shape {α : Type} {sz : Nat} {E : World → List Value → α → Prop} {e : TypeId} {w : World} {B : Nat} {v : Value} {xs : List α} (h : OwE sz E e w B v xs) : ∃ ao n c, v = .slice ao n c ∧ n = xs.length := by
  rcases h with ⟨rfl, rfl⟩ | ⟨g, cap, cur, rfl, _⟩
  · exact ⟨none, 0, 0, rfl, rfl⟩
  · exact ⟨_, _, _, rfl, rfl⟩

theorem OwE.later {α : Type} {sz : Nat} {E : World → List Value → α → Prop} (hE : Elem sz E) {e : TypeId} {w w' : World} {B B' : Nat} {v : Value} {xs : List α} (h : OwE sz E e w B v xs) (hb : Below B' w w') (hB : w.heap.size ≤ B') : OwE sz E e w' B v xs := by
  rcases h with h | ⟨g, cap, cur, h1, h2, h3, h4, h5, h6, h7, h8⟩
  · exact .inl h
  · exact .inr ⟨g, cap, cur, h1, h2, by rw [hb.block g (Nat.lt_of_lt_of_le (lt_of_block h3) hB)]; exact h3, h4, h5, h6, h7, fun i x hi => hE.below (h8 i x hi) hb hB⟩

theorem OwE.drew {α : Type} {sz : Nat} {E : World → List Value → α → Prop} (hE : Elem sz E) {e : TypeId} {w : World} {B : Nat} {v : Value} {xs : List α} (h : OwE sz E e w B v xs) : OwE sz E e w.drew B v xs :=
  h.later hE (Below.refl w.heap.size w).drew (Nat.le_refl _)

theorem OwE.noInt {α : Type} {sz : Nat} {E : World → List Value → α → Prop} {e : TypeId} {w : World} {B : Nat} {v : Value} {xs : List α} (h : OwE sz E e w B v xs) : ∀ g, v.ownBlock = some g → NoInt w g := by
  rcases h with ⟨rfl, _⟩ | ⟨g, cap, cur, rfl, h2, h3, h4, h5, h6, h7, h8⟩
  · intro g hg; cases hg
  · intro g' hg
    obtain rfl : g = g' := by simpa [Value.ownBlock] using hg
    exact NoInt.of h3 h7

theorem seg_le {i n sz : Nat} (h : i < n) : i * sz + sz ≤ n * sz := by
  have := Nat.mul_le_mul_right sz (show i + 1 ≤ n from h)
  rw [Nat.add_mul, Nat.one_mul] at this
  exact this

theorem OwE.sl {α : Type} {sz : Nat} {E : World → List Value → α → Prop} {e : TypeId} {w : World} {B : Nat} {v : Value} {xs : List α} (h : OwE sz E e w B v xs) : SlE sz E w v xs := by
  rcases h with ⟨rfl, rfl⟩ | ⟨g, cap, cur, rfl, h2, h3, h4, h5, h6, h7, h8⟩
  · exact SlE.nil _ _ _
  · refine ⟨_, cap, rfl, h4, fun i x hi => ⟨g, 0, _, rfl, lt_of_block h3, fun j u hj => ?_, h8 i x hi⟩⟩
    simp only [World.cell?, h3, Option.isSome_none, Bool.false_eq_true, if_false, Nat.zero_add]
    rw [← Array.getElem?_toList]
    rw [List.getElem?_take] at hj
    split at hj
    · rw [List.getElem?_drop] at hj; exact hj
    · cases hj

theorem seg_lt {A B : List Value} {n sz i : Nat} (hA : A.length = n * sz) (hi : i < n) : ((A ++ B).drop (i * sz)).take sz = (A.drop (i * sz)).take sz := by
  have h := seg_le (sz := sz) hi
  rw [List.drop_append_of_le_length (by omega), List.take_append_of_le_length (by rw [List.length_drop]; omega)]

theorem seg_take {C : List Value} {n sz i : Nat} (hi : i < n) : ((C.take (n * sz)).drop (i * sz)).take sz = (C.drop (i * sz)).take sz := by
  have h := seg_le (sz := sz) hi
  rw [List.drop_take, List.take_take]
  congr 1
  omega

theorem seg_at {A news Z : List Value} {n sz : Nat} (hA : A.length = n * sz) (hn : news.length = sz) : ((A ++ (news ++ Z)).drop (n * sz)).take sz = news := by
  rw [← hA, List.drop_left, ← hn, List.take_left]

theorem zeroCells_ints (z : Array Value) (n : Nat) (h : ∀ u ∈ z.toList, notInt u = true) : ∀ u ∈ (Builtin.zeroCells z n).toList, notInt u = true := by
  intro u hu
  simp only [Builtin.zeroCells, Array.toList_map, List.mem_map] at hu
  obtain ⟨i, hi, rfl⟩ := hu
  have hi' : i < n * z.size := by simpa using hi
  have hz : 0 < z.size := by
    rcases Nat.eq_zero_or_pos z.size with h0 | h0
    · rw [h0] at hi'; simp at hi'
    · exact h0
  have hm : i % z.size < z.size := Nat.mod_lt _ hz
  rw [getElem!_pos z _ hm]
  exact h _ (Array.mem_toList_iff.2 (Array.getElem_mem hm))

theorem get_snoc {α : Type} {xs : List α} {x y : α} {i : Nat} (h : (xs ++ [x])[i]? = some y) : (i < xs.length ∧ xs[i]? = some y) ∨ (i = xs.length ∧ x = y) := by
  rcases Nat.lt_trichotomy i xs.length with h1 | h1 | h1
  · rw [List.getElem?_append_left h1] at h; exact .inl ⟨h1, h⟩
  · subst h1; rw [List.getElem?_append_right (Nat.le_refl _)] at h; simp at h; exact .inr ⟨rfl, h⟩
  · rw [List.getElem?_eq_none (by simp; omega)] at h; cases h

/-- one element is appended to a slice that the call has made -/
theorem run_pushE {α : Type} {P : Program} {w : World} {sz : Nat} {E : World → List Value → α → Prop} (hE : Elem sz E) (hsz : 0 < sz) (t ty e : TypeId) (bytes : Nat) (z : Value) (ht : P.underlying t = some (.slice e))
    (hi : (P.info? e).map (fun i => (i.zero, i.size, i.bytes)) = some (some z, sz, bytes)) (hzs : z.cells.size = sz) (hzi : ∀ u ∈ z.cells.toList, notInt u = true) (hby : bytes ≤ 100)
    (B : Nat) (v : Value) (xs : List α) (h : OwE sz E e w B v xs) (hlen : xs.length ≤ 100000000) (hB : B ≤ w.heap.size) (g : Nat) (cs : List Value) (x : α) (hcs : E w cs x) (hc : ∀ j u, cs[j]? = some u → w.cell? ⟨g, j, none⟩ = some u) :
    ∃ v' w', (Builtin.append_ #[t, t] ty #[v, .slice (some ⟨g, 0, none⟩) 1 1]).run P w = .ok v' w' ∧ OwE sz E e w' B v' (xs ++ [x]) ∧ w.grownBy w' v.ownBlock ∧ Below B w w' := by
  obtain ⟨i0, hi0, hz0, hz1, hz2⟩ := info_parts hi
  subst hz1
  have hl : cs.length = 1 * i0.size := by rw [hE.len hcs, Nat.one_mul]
  have hnews : ∀ j u, cs[j]? = some u → w.cell? ((⟨g, 0, none⟩ : Addr).add j) = some u := fun j u hj => by
    rw [Addr.add_lit, Nat.zero_add]; exact hc j u hj
  have hbyt : ∀ k : Nat, k ≤ 100000001 → k * i0.bytes ≤ 140737488355328 := fun k hk => by
    have : k * i0.bytes ≤ 100000001 * 100 := Nat.mul_le_mul hk (by omega)
    omega
  have fresh : ∀ (o : Obj), Below w.heap.size w (w.drew.alloc o) := fun o => (Below.refl _ _).drew.alloc (Nat.le_refl _) o
  have hzl : ∀ k : Nat, (Builtin.zeroCells z.cells k).toList.length = k * i0.size := fun k => by rw [Array.length_toList, size_zeroCells, hzs]
  have grownAll : ∀ (A Z : List Value) (cap : Nat), A.length = xs.length * i0.size → xs.length + 1 ≤ cap → cap ≤ maxLen → (A ++ (cs ++ Z)).length = cap * i0.size → (∀ u ∈ A, notInt u = true) → (∀ u ∈ Z, notInt u = true) →
      (∀ i y, xs[i]? = some y → E w ((A.drop (i * i0.size)).take i0.size) y) →
      OwE i0.size E e (w.drew.alloc (.cells (A ++ (cs ++ Z)).toArray e)) B (.slice (some ⟨w.heap.size, 0, none⟩) (xs.length + 1) cap) (xs ++ [x]) := by
    intro A Z cap hA hcap hmax hsize hAi hZi hel
    refine .inr ⟨w.heap.size, cap, (A ++ (cs ++ Z)).toArray, by rw [List.length_append]; rfl, hB, ?_, by rw [List.length_append]; exact hcap, hmax, hsize, ?_, ?_⟩
    · show (w.heap.push _)[_]? = _
      simp
    · intro u hu
      simp only [List.mem_append] at hu
      rcases hu with hu | hu | hu
      · exact hAi u hu
      · exact hE.ints hcs u hu
      · exact hZi u hu
    · intro i y hy
      rcases get_snoc hy with ⟨h1, h2⟩ | ⟨rfl, rfl⟩
      · show E _ (((A ++ (cs ++ Z)).drop (i * i0.size)).take i0.size) y
        rw [seg_lt hA h1]
        exact hE.below (hel i y h2) (fresh _) (Nat.le_refl _)
      · show E _ (((A ++ (cs ++ Z)).drop (xs.length * i0.size)).take i0.size) x
        rw [seg_at hA (hE.len hcs)]
        exact hE.below hcs (fresh _) (Nat.le_refl _)
  rcases h with ⟨rfl, rfl⟩ | ⟨g0, cap, cur, rfl, h2, h3, h4, h5, h6, h7, h8⟩
  · have hr := run_append_nil (P := P) w t ty e i0 z ht hi0 hz0 ⟨g, 0, none⟩ 1 1 cs hl hnews (by omega) (by omega) (by have := hbyt 1 (by omega); omega)
    have hge := grownCap_ge w 1 0 e
    have e1 : cs.toArray ++ Builtin.zeroCells z.cells (grownCap w 1 0 e - 1) = ([] ++ (cs ++ (Builtin.zeroCells z.cells (grownCap w 1 0 e - 1)).toList)).toArray := Array.toList_inj.1 (by simp)
    rw [e1] at hr
    refine ⟨_, _, hr, ?_, ⟨rfl, rfl, rfl, by simp, fun k hk _ => (fresh _).block k hk⟩, (fresh _).mono hB⟩
    refine grownAll [] _ _ (by simp) hge (grownCap_le_maxLen w 1 0 e (by simp only [maxLen]; omega)) ?_ (by simp) (zeroCells_ints _ _ hzi) (fun i y hy => by simp at hy)
    rw [List.nil_append, List.length_append, hzl, hl, ← Nat.add_mul]
    congr 1; omega
  · have hnc : cur.toList.length = cap * i0.size := by rw [Array.length_toList]; exact h6
    have hle : xs.length * i0.size ≤ cap * i0.size := Nat.mul_le_mul_right _ h4
    have hA : (cur.toList.take (xs.length * i0.size)).length = xs.length * i0.size := by rw [List.length_take]; omega
    by_cases hroom : xs.length + 1 ≤ cap
    · have hfit : xs.length * i0.size + cs.length ≤ cur.size := by
        rw [hl, h6, ← Nat.add_mul]; exact Nat.mul_le_mul_right _ hroom
      have hr := run_append_room (P := P) w t ty e i0 ht hi0 g0 xs.length cap cur h3 ⟨g, 0, none⟩ 1 1 cs hl hnews (hE.one hcs) hroom hfit
      have hbut : But g0 w (w.setRow g0 (cur.toList.take (xs.length * i0.size) ++ cs ++ cur.toList.drop (xs.length * i0.size + cs.length)).toArray) :=
        ⟨rfl, rfl, rfl, by simp, fun k _ hk => setRow_other w g0 k _ hk⟩
      have hni := NoInt.of h3 h7
      refine ⟨_, _, hr, ?_, ⟨rfl, rfl, rfl, by simp, fun k _ hk => setRow_other w g0 k _ (fun e9 => hk (by simp [Value.ownBlock, e9]))⟩, hbut.below h2 hB⟩
      refine .inr ⟨g0, cap, _, by rw [List.length_append]; rfl, h2, setRow_heap w g0 cur _ e _ h3, by rw [List.length_append]; exact hroom, h5, ?_, ?_, ?_⟩
      · simp only [List.size_toArray, List.length_append, List.length_take, List.length_drop, Array.length_toList]
        omega
      · intro u hu
        simp only [List.mem_append] at hu
        rcases hu with (hu | hu) | hu
        · exact h7 u (List.mem_of_mem_take hu)
        · exact hE.ints hcs u hu
        · exact h7 u (List.mem_of_mem_drop hu)
      · intro i y hy
        rcases get_snoc hy with ⟨q1, q2⟩ | ⟨rfl, rfl⟩
        · show E _ (((cur.toList.take (xs.length * i0.size) ++ cs ++ cur.toList.drop (xs.length * i0.size + cs.length)).drop (i * i0.size)).take i0.size) y
          have e9 : ((cur.toList.take (xs.length * i0.size) ++ cs ++ cur.toList.drop (xs.length * i0.size + cs.length)).drop (i * i0.size)).take i0.size = (cur.toList.drop (i * i0.size)).take i0.size := by
            rw [List.append_assoc, seg_lt hA q1, seg_take q1]
          rw [e9]
          exact hE.keep (h8 i y q2) hbut hni
        · show E _ (((cur.toList.take (xs.length * i0.size) ++ cs ++ cur.toList.drop (xs.length * i0.size + cs.length)).drop (xs.length * i0.size)).take i0.size) x
          have e9 : ((cur.toList.take (xs.length * i0.size) ++ cs ++ cur.toList.drop (xs.length * i0.size + cs.length)).drop (xs.length * i0.size)).take i0.size = cs := by
            rw [List.append_assoc, seg_at hA (hE.len hcs)]
          rw [e9]
          exact hE.keep hcs hbut hni
    · have holds : ∀ j u, (cur.toList.take (xs.length * i0.size))[j]? = some u → w.cell? ((⟨g0, 0, none⟩ : Addr).add j) = some u := by
        intro j u hj
        rw [Addr.add_lit, Nat.zero_add]
        simp only [World.cell?, h3, Option.isSome_none, Bool.false_eq_true, if_false]
        rw [← Array.getElem?_toList]
        rw [List.getElem?_take] at hj
        split at hj
        · exact hj
        · cases hj
      have hr := run_append_grow (P := P) w t ty e i0 z ht hi0 hz0 ⟨g0, 0, none⟩ xs.length cap (cur.toList.take (xs.length * i0.size)) hA holds ⟨g, 0, none⟩ 1 1 cs hl hnews (by omega) (by omega) (growslice_fits (by omega) (hbyt _ (by omega)))
      have hge := grownCap_ge w (xs.length + 1) cap e
      have e1 : (cur.toList.take (xs.length * i0.size)).toArray ++ cs.toArray ++ Builtin.zeroCells z.cells (grownCap w (xs.length + 1) cap e - (xs.length + 1)) =
          (cur.toList.take (xs.length * i0.size) ++ (cs ++ (Builtin.zeroCells z.cells (grownCap w (xs.length + 1) cap e - (xs.length + 1))).toList)).toArray := Array.toList_inj.1 (by simp)
      rw [e1] at hr
      refine ⟨_, _, hr, ?_, ⟨rfl, rfl, rfl, by simp, fun k hk _ => (fresh _).block k hk⟩, (fresh _).mono hB⟩
      refine grownAll _ _ _ hA hge (grownCap_le_maxLen w (xs.length + 1) cap e (by simp only [maxLen]; omega)) ?_ (fun u hu => h7 u (List.mem_of_mem_take hu)) (zeroCells_ints _ _ hzi) (fun i y hy => ?_)
      · rw [List.length_append, List.length_append, hA, hzl, hl, ← Nat.add_assoc, ← Nat.add_mul, ← Nat.add_mul]
        congr 1; omega
      · have hi9 : i < xs.length := (List.getElem?_eq_some_iff.1 hy).1
        rw [seg_take hi9]
        exact h8 i y hy

/-- the same as an operation of a walk -/
theorem wpList_pushE {α : Type} {P : Program} {w : World} {ops : Array Oper} {rest : List Oper} {o : Oper} {a : Act} {Q : Exit → Act → World → Prop} {sz : Nat} {E : World → List Value → α → Prop} (hE : Elem sz E) (hsz : 0 < sz) (hgd : o.guard = none) (s x : Operand) (t : TypeId)
    (ho : o.op = .call { callee := .builtin .append, args := #[s, x], argTypes := #[t, t] })
    (e : TypeId) (bytes : Nat) (z : Value) (ht : P.underlying t = some (.slice e))
    (hi : (P.info? e).map (fun i => (i.zero, i.size, i.bytes)) = some (some z, sz, bytes)) (hzs : z.cells.size = sz) (hzi : ∀ u ∈ z.cells.toList, notInt u = true) (hby : bytes ≤ 100)
    (B : Nat) (xs : List α) (h : OwE sz E e w B (a.eval s) xs) (hlen : xs.length ≤ 100000000) (hB : B ≤ w.heap.size) (g : Nat) (cs : List Value) (y : α) (hx : a.eval x = .slice (some ⟨g, 0, none⟩) 1 1) (hcs : E w cs y) (hc : ∀ j u, cs[j]? = some u → w.cell? ⟨g, j, none⟩ = some u)
    (hK : ∀ ao n c w', OwE sz E e w' B (.slice ao n c) (xs ++ [y]) → n = xs.length + 1 → w.grownBy w' (a.eval s).ownBlock → Below B w w' → wpList P ops Q rest (a.put o.dst (.slice ao n c)) w') : wpList P ops Q (o :: rest) a w := by
  obtain ⟨v', w', hr, h2, h3, h4⟩ := run_pushE (P := P) hE hsz t o.type e bytes z ht hi hzs hzi hby B _ xs h hlen hB g cs y hcs hc
  refine wpList_plain hgd fun K hK' => ?_
  unfold Oper.wp execOp
  obtain ⟨ao, n, c, rfl, hn⟩ := h2.shape
  simp only [ho, resolve, invoke, builtin, Sem.run_bind, Sem.run_pure, Result.andThen_ok, List.map_toArray, List.map_cons, List.map_nil, hx, hr]
  exact hK' _ _ (hK ao n c w' h2 (by simpa using hn) h3 h4)

/-- the same as a step of a region that draws its order -/
theorem step_pushE {α : Type} {P : Program} {w : World} {ops : Array Oper} {o : Oper} {a : Act} {K : Act → World → Prop} {Q : Exit → Act → World → Prop} {E0 : Prop} {sz : Nat} {E : World → List Value → α → Prop} (hE : Elem sz E) (hsz : 0 < sz) (hgd : o.guard = none) (s x : Operand) (t : TypeId)
    (ho : o.op = .call { callee := .builtin .append, args := #[s, x], argTypes := #[t, t] })
    (e : TypeId) (bytes : Nat) (z : Value) (ht : P.underlying t = some (.slice e))
    (hi : (P.info? e).map (fun i => (i.zero, i.size, i.bytes)) = some (some z, sz, bytes)) (hzs : z.cells.size = sz) (hzi : ∀ u ∈ z.cells.toList, notInt u = true) (hby : bytes ≤ 100)
    (B : Nat) (xs : List α) (h : OwE sz E e w B (a.eval s) xs) (hlen : xs.length ≤ 100000000) (hB : B ≤ w.heap.size) (g : Nat) (cs : List Value) (y : α) (hx : a.eval x = .slice (some ⟨g, 0, none⟩) 1 1) (hcs : E w cs y) (hc : ∀ j u, cs[j]? = some u → w.cell? ⟨g, j, none⟩ = some u)
    (hK : ∀ ao n c w', OwE sz E e w' B (.slice ao n c) (xs ++ [y]) → n = xs.length + 1 → w.grownBy w' (a.eval s).ownBlock → Below B w w' → K (a.put o.dst (.slice ao n c)) w') :
    if Region.wanted o (yielded ops a.tmps) = true then Oper.wp P o a w K Q else E0 := by
  have hw : Region.wanted o (yielded ops a.tmps) = true := by simp [Region.wanted, hgd]
  rw [if_pos hw]
  obtain ⟨v', w', hr, h2, h3, h4⟩ := run_pushE (P := P) hE hsz t o.type e bytes z ht hi hzs hzi hby B _ xs h hlen hB g cs y hcs hc
  unfold Oper.wp execOp
  obtain ⟨ao, n, c, rfl, hn⟩ := h2.shape
  simp only [ho, resolve, invoke, builtin, Sem.run_bind, Sem.run_pure, Result.andThen_ok, List.map_toArray, List.map_cons, List.map_nil, hx, hr]
  exact hK ao n c w' h2 (by simpa using hn) h3 h4

/-- a text as an element -/
def ET (_ : World) (cs : List Value) (s : ByteArray) : Prop := cs = [.string s]
theorem elemT : Elem 1 ET where
  len := by intro w cs x h; rw [h]; rfl
  ints := by intro w cs x h u hu; rw [h] at hu; simp at hu; subst hu; rfl
  one := by intro w cs x h u hu; rw [h] at hu; simp at hu; subst hu; rfl
  keep := by intro w w' g cs x h _ _; exact h

/-- a slice value reads as a list of texts -/
def TxL (w : World) (v : Value) (L : List ByteArray) : Prop := SlE 1 ET w v L

theorem TxL.later {w w' : World} {v : Value} {L : List ByteArray} {B : Nat} (h : TxL w v L) (hb : Below B w w') (hB : w.heap.size ≤ B) : TxL w' v L := SlE.later elemT h hb hB
theorem TxL.at {w : World} {ao : Option Addr} {n cap : Nat} {L : List ByteArray} (h : TxL w (.slice ao n cap) L) (i : Nat) (s : ByteArray) (hi : L[i]? = some s) :
    ∃ b off, ao = some ⟨b, off, none⟩ ∧ b < w.heap.size ∧ w.cell? ⟨b, off + i, none⟩ = some (.string s) := by
  obtain ⟨b, off, cs, h1, h2, h3, rfl⟩ := SlE.at h i s hi
  refine ⟨b, off, h1, h2, ?_⟩
  have := h3 0 _ rfl
  rwa [Nat.mul_one, Nat.add_zero] at this
theorem TxL.open {w : World} {v : Value} {L : List ByteArray} (h : TxL w v L) : ∃ ao n cap, v = .slice ao n cap ∧ n = L.length ∧ n ≤ cap ∧ TxL w (.slice ao n cap) L := SlE.open h

theorem SlE.op {α : Type} {sz : Nat} {E : World → List Value → α → Prop} {w : World} {v : Value} {xs : List α} (h : SlE sz E w v xs) : ∃ ao n cap, v = .slice ao n cap ∧ SlE sz E w (.slice ao n cap) xs := by
  obtain ⟨ao, n, cap, h1, _, _, h2⟩ := h.open
  exact ⟨ao, n, cap, h1, h2⟩
theorem TxL.op {w : World} {v : Value} {L : List ByteArray} (h : TxL w v L) : ∃ ao n cap, v = .slice ao n cap ∧ TxL w (.slice ao n cap) L := SlE.op h

/-- a slice without room or not is one of cells that lie there -/
theorem TxL.mk {w : World} {b off n cap : Nat} {L : List ByteArray} (hn : n = L.length) (hc : n ≤ cap) (hb : b < w.heap.size) (hx : ∀ i s, L[i]? = some s → w.cell? ⟨b, off + i, none⟩ = some (.string s)) : TxL w (.slice (some ⟨b, off, none⟩) n cap) L := by
  subst hn
  refine ⟨_, cap, rfl, hc, fun i s hi => ⟨b, off, [.string s], rfl, hb, fun j u hj => ?_, rfl⟩⟩
  match j, hj with
  | 0, hj => simp at hj; subst hj; rw [Nat.mul_one, Nat.add_zero]; exact hx i s hi
  | (k + 1), hj => simp at hj

/-- a block of texts that is known whole -/
def TArr (e : TypeId) (w : World) (g : Nat) (L : List ByteArray) : Prop := w.heap[g]? = some (.cells (L.map Value.string).toArray e (0, 0))
theorem TArr.lt {e : TypeId} {w : World} {g : Nat} {L : List ByteArray} (h : TArr e w g L) : g < w.heap.size := lt_of_block h
theorem TArr.cell {e : TypeId} {w : World} {g : Nat} {L : List ByteArray} (h : TArr e w g L) (i : Nat) (s : ByteArray) (hi : L[i]? = some s) : w.cell? ⟨g, i, none⟩ = some (.string s) := by
  unfold TArr at h
  simp [World.cell?, h, hi]
theorem TArr.frozen {e : TypeId} {w : World} {g : Nat} {L : List ByteArray} (h : TArr e w g L) (i : Nat) : w.frozen? ⟨g, i, none⟩ = false := by
  unfold TArr at h
  simp [World.frozen?, h]
theorem TArr.set {e : TypeId} {w : World} {g : Nat} {L : List ByteArray} (h : TArr e w g L) (i : Nat) (s : ByteArray) : TArr e (w.setCell ⟨g, i, none⟩ (.string s)) g (L.set i s) := by
  unfold TArr at *
  simp only [World.setCell, Array.getElem?_modify, h, if_true, Option.map_some]
  congr 2
  simp [List.map_set]
theorem TArr.drewN {e : TypeId} {w : World} {g : Nat} {L : List ByteArray} (h : TArr e w g L) (n : Nat) : TArr e (w.drewN n) g L := h
theorem TArr.sl {e : TypeId} {w : World} {g : Nat} {L : List ByteArray} (h : TArr e w g L) (n cap : Nat) (hn : n = L.length) (hc : n ≤ cap) : TxL w (.slice (some ⟨g, 0, none⟩) n cap) L :=
  TxL.mk hn hc h.lt fun i s hi => by rw [Nat.zero_add]; exact h.cell i s hi

/-- make of texts with a length that is a number of the walk's -/
theorem wpList_maket {P : Program} (w : World) {ops : Array Oper} {rest : List Oper} {o : Oper} {a : Act} {Q : Exit → Act → World → Prop}
    (hg : o.guard = none) (l : Operand) (t : TypeId) (hop : o.op = Op.makeSlice t l l)
    (e : TypeId) (bytes : Nat) (h1 : P.underlying t = some (.slice e)) (hi : (P.info? e).map (fun i => (i.zero, i.size, i.bytes)) = some (some (.string ByteArray.empty), 1, bytes)) (hby : bytes ≤ 16)
    (kl : IntKind) (L : Int) (n : Nat) (hl : a.eval l = .int kl L) (hL : L = (n : Int)) (hn : n ≤ 1000000000000)
    (hK : ∀ w', TArr e w' w.heap.size (List.replicate n ByteArray.empty) → Below w.heap.size w w' → w'.heap.size = w.heap.size + 1 → wpList P ops Q rest (a.put o.dst (.slice (some ⟨w.heap.size, 0, none⟩) n n)) w') :
    wpList P ops Q (o :: rest) a w := by
  obtain ⟨i0, hi0, hz0, hz1, hz2⟩ := info_parts hi
  refine wpList_plain hg fun K hK' => ?_
  subst hL
  have hb : (i0.bytes : Int) * (n : Int) ≤ 281474976710656 := by
    rw [hz2]
    have : bytes * n ≤ 16 * n := Nat.mul_le_mul_right n hby
    have h2 : ((bytes * n : Nat) : Int) ≤ 281474976710656 := by omega
    rwa [Int.natCast_mul] at h2
  have hr := run_make (P := P) w t e i0 (.string ByteArray.empty) h1 hi0 hz0 kl kl n n (by omega) (Int.le_refl _) hb (by omega)
  simp only [Int.toNat_natCast, hz1, Nat.mul_one] at hr
  unfold Oper.wp
  simp [execOp, hop, hl, hr, Result.andThen]
  refine hK' _ _ (hK _ ?_ ?_ ?_)
  · show (w.heap.push _)[_]? = _
    rw [Array.getElem?_push, if_pos rfl]
    congr 2
    apply Array.toList_inj.1
    have h3 := toList_madeCells_one (.string ByteArray.empty) n
    simp only [Value.cells] at h3 ⊢
    rw [h3]
    simp
  · exact (Below.refl _ _).alloc (Nat.le_refl _) _
  · simp
end Go.Proofs.YtpncfhfjnnpgdaaDoor

namespace Go.Proofs.YtpncfhfjnnpgdaaDoor
open Go Go.RowKit

def sizes (L : List ByteArray) : Nat := (L.map (·.size)).sum
def tot (L : List ByteArray) : Nat := L.length + sizes L

theorem sizes_succ (L : List ByteArray) (k : Nat) (s : ByteArray) (h : L[k]? = some s) : sizes (L.take (k + 1)) = sizes (L.take k) + s.size := by
  have hk := (List.getElem?_eq_some_iff.1 h).1
  have : L.take (k + 1) = L.take k ++ [s] := by rw [List.take_add_one, h]; rfl
  simp [sizes, this]
theorem sizes_take_le (L : List ByteArray) (k : Nat) : sizes (L.take k) ≤ sizes L := by
  have : sizes L = sizes (L.take k) + sizes (L.drop k) := by
    rw [sizes, sizes, sizes, ← List.sum_append, ← List.map_append, List.take_append_drop]
  omega
theorem size_le_sizes {L : List ByteArray} {s : ByteArray} (h : s ∈ L) : s.size ≤ sizes L := by
  obtain ⟨k, hk, rfl⟩ := List.mem_iff_getElem.1 h
  have := sizes_succ L k L[k] (List.getElem?_eq_getElem hk)
  have h2 := sizes_take_le L (k + 1)
  omega

theorem maxLen_eq : maxLen = 9223372036854775807 := rfl

set_option maxRecDepth 100000 in
set_option maxHeartbeats 1000000 in
theorem szT_any (v : Value) (L : List ByteArray) (w : World) (left : Nat) (h : TxL w v L) (hn : L.length ≤ maxLen) (hs : ∀ s ∈ L, s.size ≤ maxLen) (hl : left ≤ 1048576) (R : Ending → World → Prop)
    (hR : tot L ≤ left → R (.returned (.int .i64 ((left - tot L : Nat) : Int))) w) (hR2 : left < tot L → R (.returned (.int .i64 (-1))) w) :
    Calls Tryd.prog 16 #[v, .int .i64 (left : Int)] w R := by
  have HR := Lib.hid hR; clear hR
  have HR2 := Lib.hid hR2; clear hR2
  obtain ⟨ao, n, cap, rfl, hnl, hc, hh⟩ := h.open
  have HH := Lib.hid hh
  rw [maxLen_eq] at hn
  have HS := Lib.hid hs
  have HN := Lib.hid hnl
  rw [← hnl] at hn
  clear h hs hnl hh
  by_cases h0 : left < n
  · obtain ⟨y, hy⟩ : ∃ y : Int, y = (left : Int) - (n : Int) := ⟨_, rfl⟩
    have hw : IntKind.i64.wrap ((left : Int) - (n : Int)) = y := by rw [hy]; exact IntWalk.i64_in _ (by omega)
    have hyn : y < 0 := by omega
    have HF := Lib.hid (HR2.out (by unfold tot; rw [← HN.out]; omega))
    clear hy h0
    go_enter Tryd.func16, Tryd.ntmps16
    go_wp2
    first | go_ret | skip
    exact HF.out
  · obtain ⟨y, hy⟩ : ∃ y : Nat, left = y + n := ⟨left - n, by omega⟩
    have hw : IntKind.i64.wrap ((left : Int) - (n : Int)) = (y : Int) := by rw [IntWalk.i64_in _ (by omega)]; omega
    have HY := Lib.hid hy
    clear hy h0
    go_enter Tryd.func16, Tryd.ntmps16
    go_wp2
    clear hw
    go_loop [5, 1] (fun i l => ∃ k x : Nat, i = .int .i64 (k : Int) ∧ k ≤ n ∧ l = .int .i64 (x : Int) ∧ y = x + sizes (L.take k)) (fun i _ => n - (intOf i).toNat)
    case atStart => exact ⟨0, y, rfl, Nat.zero_le _, rfl, by simp [sizes]⟩
    case round =>
      obtain ⟨k, x, rfl, hk, rfl, hx⟩ := hrel
      have HX := Lib.hid hx
      clear hx
      by_cases hkn : k = n
      · subst hkn
        have hfin : R (.returned (.int .i64 (x : Int))) w := by
          have h1 := HX.out
          rw [HN.out, List.take_length] at h1
          have h2 := HY.out
          have h3 := HR.out (by unfold tot; rw [← HN.out]; omega)
          rw [show left - tot L = x by unfold tot; rw [← HN.out]; omega] at h3
          exact h3
        have HF := Lib.hid hfin
        clear hfin
        go_wp2
        first | go_ret | skip
        exact HF.out
      · have hkl : k < n := by omega
        obtain ⟨s, hs⟩ : ∃ s, L[k]? = some s := ⟨_, List.getElem?_eq_getElem (by rw [← HN.out]; exact hkl)⟩
        have hsz := HS.out s (List.mem_of_getElem? hs)
        rw [maxLen_eq] at hsz
        obtain ⟨b, off, rfl, hb, hcell⟩ := TxL.at HH.out k s hs
        have HSZ := Lib.hid (sizes_succ L k s hs)
        have HLE := Lib.hid (sizes_take_le L (k + 1))
        clear hs
        obtain ⟨m, hm⟩ : ∃ m, m = s.size := ⟨_, rfl⟩
        have HM := Lib.hid hm
        have hxb : x ≤ 1048576 := by have := HX.out; have := HY.out; omega
        by_cases hxm : x < m
        · obtain ⟨z, hz⟩ : ∃ z : Int, z = (x : Int) - (s.size : Int) := ⟨_, rfl⟩
          have hw : IntKind.i64.wrap ((x : Int) - (s.size : Int)) = z := by rw [hz]; exact IntWalk.i64_in _ (by omega)
          have hzn : z < 0 := by omega
          have HF := Lib.hid (HR2.out (by have h1 := HX.out; have h2 := HY.out; have h3 := HSZ.out; have h4 := HLE.out; unfold tot; rw [← HN.out]; omega))
          clear hz hm hxm hsz
          go_wp2
          first | go_ret | skip
          exact HF.out
        · obtain ⟨z, hz⟩ : ∃ z : Nat, x = z + s.size := ⟨x - s.size, by omega⟩
          have hw : IntKind.i64.wrap ((x : Int) - (s.size : Int)) = (z : Int) := by rw [IntWalk.i64_in _ (by omega)]; omega
          have hw1 : IntKind.i64.wrap ((k : Int) + 1) = ((k + 1 : Nat) : Int) := by rw [IntWalk.i64_in _ (by omega)]; omega
          have HZ := Lib.hid (show y = z + sizes (L.take (k + 1)) by have h1 := HX.out; have h3 := HSZ.out; omega)
          clear hz hm hxm hsz hxb
          go_wp2
          go_round
          case rel => exact ⟨k + 1, z, by first | rfl | go_num, by omega, rfl, HZ.out⟩
          case measure => simp [intOf]; omega

theorem set_copy {α : Type} (L : List α) (k n : Nat) (e s : α) (hk : k < n) (h : L[k]? = some s) : (L.take k ++ List.replicate (n - k) e).set k s = L.take (k + 1) ++ List.replicate (n - (k + 1)) e := by
  have hl : k < L.length := (List.getElem?_eq_some_iff.1 h).1
  have h1 : n - k = (n - (k + 1)) + 1 := by omega
  have h2 : (L.take k).length = k := by rw [List.length_take]; omega
  rw [h1, List.replicate_succ, List.set_append_right _ _ (by omega), h2, Nat.sub_self, List.set_cons_zero, List.take_add_one, h]
  simp

theorem info_str : (Tryd.prog.info? 9).map (fun i => (i.zero, i.size, i.bytes)) = some (some (.string ByteArray.empty), 1, 16) := by kernel_rfl

def CopyRel (w : World) (n : Nat) (L : List ByteArray) (i : Value) (wr : World) : Prop :=
  ∃ k : Nat, i = .int .i64 (k : Int) ∧ k ≤ n ∧ TArr 9 wr w.heap.size (L.take k ++ List.replicate (n - k) ByteArray.empty) ∧ Below w.heap.size w wr

set_option maxRecDepth 100000 in
set_option maxHeartbeats 1000000 in
theorem toT_any (v : Value) (L : List ByteArray) (w : World) (h : TxL w v L) (hn : L.length ≤ 1048576) (R : Ending → World → Prop)
    (hR : ∀ v' w', TxL w' v' L → Below w.heap.size w w' → R (.returned v') w') :
    Calls Tryd.prog 18 #[v] w R := by
  have HR := Lib.hid hR; clear hR
  obtain ⟨ao, n, cap, rfl, hnl, hc, hh⟩ := h.open
  have HH := Lib.hid hh
  have HN := Lib.hid hnl
  rw [← hnl] at hn
  clear h hnl hh
  go_enter Tryd.func18, Tryd.ntmps18
  go_wp2_with (at_make; go_must (refine wpList_maket _ rfl (.tmp 6) 23 rfl 9 16 Tryd.underlying23 info_str (by omega) .i64 _ n rfl (by omega) (by omega) ?_))
  intro W hA hbW hsW
  have HST : Hid (CopyRel w n L (.int .i64 0) W) := Lib.hid ⟨0, rfl, Nat.zero_le _, by simpa using hA, hbW⟩
  clear hA hbW hsW
  go_wp2
  go_loopw [4] (fun i wr => CopyRel w n L i wr) (fun i _ => n - (intOf i).toNat)
  case atStart => exact HST.out
  case round =>
    clear HST
    obtain ⟨k, rfl, hk, hA, hbel⟩ := hrel
    have HB := Lib.hid hbel
    by_cases hkn : k = n
    · subst hkn
      have hL : L.take k ++ List.replicate (k - k) ByteArray.empty = L := by rw [Nat.sub_self, HN.out, List.take_length]; simp
      rw [hL] at hA
      have HT := Lib.hid (hA.sl k k HN.out (Nat.le_refl _))
      clear hA hbel hL
      go_wp2
      first | go_ret | skip
      exact HR.out _ _ HT.out HB.out
    · have hkl : k < n := by omega
      obtain ⟨s, hs⟩ : ∃ s, L[k]? = some s := ⟨_, List.getElem?_eq_getElem (by rw [← HN.out]; exact hkl)⟩
      obtain ⟨b, off, rfl, hb, hcell⟩ := TxL.at HH.out k s hs
      rw [← hbel.cell (p := ⟨b, off + k, none⟩) hb] at hcell
      have hlen : (L.take k ++ List.replicate (n - k) ByteArray.empty).length = n := by rw [List.length_append, List.length_take, List.length_replicate, ← HN.out]; omega
      have hc2 := hA.cell k _ (List.getElem?_eq_getElem (by rw [hlen]; exact hkl))
      have hf2 := hA.frozen k
      have hA2 := hA.set k s
      rw [set_copy L k n ByteArray.empty s hkl hs] at hA2
      have HA2 := Lib.hid hA2
      obtain ⟨u, hu⟩ : ∃ u, u = (L.take k ++ List.replicate (n - k) ByteArray.empty)[k]'(by rw [hlen]; exact hkl) := ⟨_, rfl⟩
      rw [← hu] at hc2
      have hw1 : IntKind.i64.wrap ((k : Int) + 1) = ((k + 1 : Nat) : Int) := by rw [IntWalk.i64_in _ (by omega)]; omega
      clear hA hA2 hbel hlen hs hu
      go_wp2
      go_roundw
      case rel => exact ⟨k + 1, by first | rfl | go_num, by omega, HA2.out, HB.out.setCell (Nat.le_refl _) _⟩
      case measure => simp [intOf]; omega

set_option maxRecDepth 100000 in
set_option maxHeartbeats 1000000 in
theorem eqT_any (v1 v2 : Value) (L1 L2 : List ByteArray) (w : World) (h1 : TxL w v1 L1) (h2 : TxL w v2 L2) (hn : L1.length ≤ 281474976710656) (hn2 : L2.length ≤ 281474976710656) (R : Ending → World → Prop)
    (hR : ∀ w', Below w.heap.size w w' → R (.returned (.bool (decide (L1 = L2)))) w') :
    Calls Tryd.prog 20 #[v1, v2] w R := by
  have HR := Lib.hid hR; clear hR
  obtain ⟨a1, n, c1, rfl, hn1, hc1, hh1⟩ := h1.open
  obtain ⟨a2, n2, c2, rfl, hn2', hc2, hh2⟩ := h2.open
  have HH1 := Lib.hid hh1
  have HH2 := Lib.hid hh2
  have HN1 := Lib.hid hn1
  have HN2 := Lib.hid hn2'
  rw [← hn1] at hn
  rw [← hn2'] at hn2
  clear h1 h2 hn1 hn2' hh1 hh2
  by_cases hne : n = n2
  · subst hne
    have e0 : ((n : Int) != (n : Int)) = false := by simp
    go_enter Tryd.func20, Tryd.ntmps20
    go_wp2
    clear e0
    go_loopw [5] (fun i wr => ∃ k : Nat, i = .int .i64 (k : Int) ∧ k ≤ n ∧ L1.take k = L2.take k ∧ Below w.heap.size w wr) (fun i _ => n - (intOf i).toNat)
    case atStart => exact ⟨0, rfl, Nat.zero_le _, by simp, Below.refl _ _⟩
    case round =>
      obtain ⟨k, rfl, hk, htk, hbel⟩ := hrel
      have HTK := Lib.hid htk
      have HB := Lib.hid hbel
      clear htk
      by_cases hkn : k = n
      · subst hkn
        have he : L1 = L2 := by
          have := HTK.out
          rw [HN1.out, List.take_length] at this
          rw [this, ← HN1.out, HN2.out, List.take_length]
        rw [decide_eq_true he] at HR
        clear hbel he
        go_wp2
        first | go_ret | skip
        exact HR.out _ HB.out
      · have hkl : k < n := by omega
        obtain ⟨s, hs⟩ : ∃ s, L1[k]? = some s := ⟨_, List.getElem?_eq_getElem (by rw [← HN1.out]; exact hkl)⟩
        obtain ⟨t, ht⟩ : ∃ t, L2[k]? = some t := ⟨_, List.getElem?_eq_getElem (by rw [← HN2.out]; exact hkl)⟩
        obtain ⟨b1, o1, rfl, hb1, hcell1⟩ := TxL.at HH1.out k s hs
        obtain ⟨b2, o2, rfl, hb2, hcell2⟩ := TxL.at HH2.out k t ht
        rw [← hbel.cell (p := ⟨b1, o1 + k, none⟩) hb1] at hcell1
        rw [← hbel.cell (p := ⟨b2, o2 + k, none⟩) hb2] at hcell2
        have hw1 : IntKind.i64.wrap ((k : Int) + 1) = ((k + 1 : Nat) : Int) := by rw [IntWalk.i64_in _ (by omega)]; omega
        have hk0 : (0 : Int) ≤ (k : Int) := by omega
        have hk1 : (k : Int) < (n : Int) := by omega
        by_cases hst : s = t
        · have HT2 := Lib.hid (show L1.take (k + 1) = L2.take (k + 1) by rw [List.take_add_one, List.take_add_one, hs, ht, HTK.out, hst])
          have e9 : (s.toList == t.toList) = true := by subst hst; simp
          clear hs ht hbel hst
          go_wp2
          go_quiet (fail)
          go_wp2
          go_roundw
          case rel => exact ⟨k + 1, by first | rfl | go_num, by omega, HT2.out, below_draws HB.out _⟩
          case measure => simp [intOf]; omega
        · have hne : L1 ≠ L2 := fun e => by subst e; rw [hs] at ht; exact hst (Option.some.inj ht)
          have e9 : (s.toList == t.toList) = false := by
            rw [beq_eq_false_iff_ne]
            intro e
            rw [Lib.toList_data, Lib.toList_data] at e
            exact hst (by cases s; cases t; simpa [← Array.toList_inj] using e)
          rw [decide_eq_false hne] at HR
          clear hs ht hbel hst hne
          go_wp2
          go_quiet (fail)
          go_wp2
          first | go_ret | skip
          exact HR.out _ (below_draws HB.out _)
  · have e0 : ((n : Int) != (n2 : Int)) = true := by simp; omega
    have hd : L1 ≠ L2 := fun e => hne (by rw [HN1.out, HN2.out, e])
    rw [decide_eq_false hd] at HR
    clear hne hd
    go_enter Tryd.func20, Tryd.ntmps20
    go_wp2
    first | go_ret | skip
    exact HR.out _ (Below.refl _ _)
end Go.Proofs.YtpncfhfjnnpgdaaDoor

namespace Go.Proofs.YtpncfhfjnnpgdaaDoor.EnvLaid
open Go Go.ChangeShapes Go.WideShapes Go.ChangeAt Go.RowKit

theorem laidOut : laidOutB Tryd.prog = true := by kernel_rfl
theorem cellsStr : Tryd.prog.cellsOf 9 = 1 := by kernel_rfl

theorem wf_i64 {n : Int} (h : (Lit.int .i64 n).wf = true) : -9223372036854775807 - 1 ≤ n ∧ n ≤ 9223372036854775807 := by
  have e1 : IntKind.i64.min = -9223372036854775807 - 1 := rfl
  have e2 : IntKind.i64.max = 9223372036854775807 := rfl
  simp [Lit.wf, e1, e2] at h
  omega

theorem var?_after {P : Program} {W W' : World} {n : String} {cs : Array Value} (h : Below W.heap.size W W') (hv : W.var? P n = some cs) : W'.var? P n = some cs := by
  have hv' := hv
  unfold World.var? at hv'
  cases hg : P.globalNamed n with
  | none => rw [hg] at hv'; simp at hv'
  | some g =>
    refine var?_below h hg ?_ hv
    rw [hg] at hv'
    simp only [Option.bind_some] at hv'
    rcases Nat.lt_or_ge g W.heap.size with h | h
    · exact h
    · rw [Array.getElem?_eq_none (by omega)] at hv'; simp at hv'

/-- a list of texts among the cells that came in -/
theorem open_textsC {H : Type} {enc : TypeId × Value → H} {W : World} {x : Value} {fuel : Nat} {y : DataW H × List MemPlace}
    (hf : DataW.trod enc Tryd.prog W 0 (fun _ => true) true fuel 23 [x] = some y) :
    ∃ L, TxL W x L ∧ L.length ≤ maxLen ∧ ∀ s ∈ L, s.size ≤ maxLen := by
  rcases open_strings Tryd.underlying23 Tryd.underlying9 cellsStr hf with ⟨hcs, hx⟩ | ⟨a, len, cap, ss, hcs, _, hl, hm, hz, hx, hcell, hsz⟩
  · simp at hcs
    subst hcs
    exact ⟨[], SlE.nil _ _ _, Nat.zero_le _, by simp⟩
  · simp at hcs
    subst hcs
    simp only [if_true] at hz
    obtain ⟨b, off, spot⟩ := a
    by_cases h0 : len = 0
    · subst h0
      exact ⟨[], SlE.nil _ _ _, Nat.zero_le _, by simp⟩
    · have hspot : spot = none := by simpa [Addr.add] using World.cell?_spot (hcell 0 (by omega))
      subst hspot
      refine ⟨ss.take len, TxL.mk (by simp; omega) hl (by have := hcell 0 (by omega); rw [Addr.add_lit] at this; exact lt_of_cell this) (fun i s hi => ?_), by simp; omega, fun s hs => hsz s (List.mem_of_mem_take hs)⟩
      have hi' : i < len := by
        have := (List.getElem?_eq_some_iff.1 hi).1
        simp at this
        omega
      have e : ss.getD i ByteArray.empty = s := by
        rw [List.getElem?_take_of_lt hi'] at hi
        simp [List.getD, hi]
      have := hcell i (by omega)
      rw [Addr.add_lit, e] at this
      exact this

/-- a list of texts that came in -/
theorem open_texts {H : Type} {enc : TypeId × Value → H} {W : World} {a0 : Option Addr} {len cap : Nat} {d : DataW H} {ps : List MemPlace}
    (h : DataW.Trod enc Tryd.prog W 0 (fun _ => true) true 23 (.slice a0 len cap) d ps) :
    ∃ L, TxL W (.slice a0 len cap) L ∧ L.length ≤ maxLen ∧ ∀ s ∈ L, s.size ≤ maxLen := by
  obtain ⟨fuel, hf⟩ := h
  exact open_textsC (y := (d, ps)) (by simpa [Value.cells] using hf)
end Go.Proofs.YtpncfhfjnnpgdaaDoor.EnvLaid
