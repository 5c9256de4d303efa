/- For every recurrence, index, count and modulus, impl.FarTerms answers as the model does, its answer is its own, and it leaves its arguments as they were. (under the conditions that the given row states: the two errors and the handle of the type error hold what they hold at the start). -/
import Derived.Test.YtnfehccicnpbpaaGreatDoorPs14
import Derived.Carry
import Derived.Test.YtnfehccicnpbpaaGreatDoorCaFarTerms
import Derived.Test.YtnfehccicnpbpaaGreatDoorCbFarTerms
set_option linter.all false
set_option linter.unusedVariables false
set_option linter.unusedSimpArgs false
set_option linter.unnecessarySimpa false
set_option linter.deprecated false
namespace Go.Proofs.YtnfehccicnpbpaaGreatDoor.RowFarTerms
open Go Go.ChangeShapes Go.WideShapes Go.ChangeAt Go.RowKit EnvLaid

set_option maxRecDepth 100000 in
theorem lifted (os : Os) (started : os.Started) (H : Type) (enc : TypeId × Value → H) :
    ReturnsInHanded {} Tryz.checked os 4 .any (fun w args => (Rows.fnExactFarTermsSpec.pre enc Tryz.prog Tryz.f4 [] false w args ∧ laidMetH Tryz.prog Rows.fnExactFarTermsRow.laid w) ∧ sizedMet enc Tryz.prog Tryz.f4 (OpenSpec.ofChange Rows.fnExactFarTermsSpec) false w args)
      (Rows.fnExactFarTermsSpec.post enc Tryz.prog Tryz.f4 false true false false) := by
  refine returnsInHanded_of_change_and (C := Tryz.checked) (X := fun w _ => laidMetH Tryz.prog Rows.fnExactFarTermsRow.laid w) (fun _ _ _ hh h => h.of_heap hh) own started (by kernel_rfl) Tryz.func4
    (ChangeSpec.witness_shaped (enc := enc) (C := Tryz.checked) (os := os) (X := fun w _ => laidMetH Tryz.prog Rows.fnExactFarTermsRow.laid w) false (World.doorLaid Tryz.prog 400 os) #[.agg #[.slice none 0 0, .slice none 0 0], .int .i64 0, .int .i64 0, .int .i64 0] 8 rfl (World.shaped_of_RefB (by kernel_rfl) (by kernel_rfl)) (by kernel_rfl) (by kernel_rfl) (by kernel_rfl) (door_met os _)) ?_
  intro W base args ds gs before hval0 hW _ _ hL _
  have hval : ∀ (j : Nat) t v, Tryz.f4.params[j]? = some t → args[j]? = some v → Value.okWide Tryz.prog W .any base t v := hval0
  have hW' := hW
  obtain ⟨p, q, hA0, hV0, rfl, hfz, hnd⟩ := hW
  have hA : DataW.TrodAll enc Tryz.prog W 0 (fun _ => true) true Tryz.f4.params.toList args.toList ds p := hA0
  have hV : DataW.TrodVars enc Tryz.prog W (fun _ => true) ["loop.example/g01120/impl.errSize", "loop.example/g01120/impl.errForm"] gs q := hV0
  rw [Tryz.params4] at hA hval
  obtain ⟨v0, v1, v2, v3, d0, d1, d2, d3, p0, p1, p2, p3, rfl, rfl, rfl, h0, h1, h2, h3⟩ := trodAll_four hA
  obtain ⟨hE, ⟨a1, hv1⟩, ⟨a2, hv2⟩⟩ := env_of hL
  obtain ⟨rfl, rfl⟩ := hV.unique (vars_read2 enc gSize tSize Tryz.underlying67 hv2 trivial gForm tForm Tryz.underlying67 hv1 trivial _)
  have h0k := h0
  have hlt0 : ∀ x ∈ p0, x.block < W.heap.size := fun x hx => by simpa using hW'.lt x (by simp [hx])
  obtain ⟨L0, M0, ht0, hn0, hs0, hm0, hz0⟩ := open_rec (hval 0 24 v0 rfl rfl) h0
  obtain ⟨n1, rfl, rfl, rfl, ws1⟩ := open_int Tryz.underlying2 (hval 1 2 v1 rfl rfl) h1
  have wb1 := wf_i64 ws1
  obtain ⟨n2, rfl, rfl, rfl, ws2⟩ := open_int Tryz.underlying2 (hval 2 2 v2 rfl rfl) h2
  have wb2 := wf_i64 ws2
  obtain ⟨n3, rfl, rfl, rfl, ws3⟩ := open_int Tryz.underlying2 (hval 3 2 v3 rfl rfl) h3
  have wb3 := wf_i64 ws3
  clear hA0 hV0 hval0
  refine law_farTerms _ L0 M0 n1 n2 n3 W hE ht0 hn0 hs0 hm0 hz0 wb1.1 wb1.2 wb2.1 wb2.2 wb3.1 wb3.2 _ fun W' hbel => ?_
  exact ⟨_, rfl, ⟨_, _, _, [], _, _, hW', trodAll_mk1 (shut_bool Tryz.underlying4 _), trodAll_mk4 (Below.trod laidOut (by kernel_rfl) (of_decide_eq_true (by kernel_rfl)) h0k hbel hlt0) (shut_int Tryz.underlying2 ws1) (shut_int Tryz.underlying2 ws2) (shut_int Tryz.underlying2 ws3),
    vars_read2 enc gSize tSize Tryz.underlying67 (var?_after hbel hv2) trivial gForm tForm Tryz.underlying67 (var?_after hbel hv1) trivial _, hbel.frame _, fun h => by cases h⟩⟩

theorem row_holds : Rows.FnExactFarTermsSaid :=
  OpenClaim.holds_of_wide 4 Tryz.f4 rfl rfl rfl rfl rfl rfl rfl ⟨rfl, rfl, rfl, rfl, rfl⟩ rfl rfl rfl rfl rfl t_named Tryz.func4 t_closed
    (of_decide_eq_true (by kernel_rfl)) (by unfold Func.isWrapper; first | (rw [if_pos (by decide +kernel)]; kernel_rfl) | (rw [if_neg (by decide +kernel)]; exact ⟨rfl, rfl⟩))
    (fun os started H enc _ => lifted os started H enc)

theorem card_holds : Rows.FnExactFarTermsCardSaid :=
  Claim7.holds_tied_plain_at .later [] [.handle, .sentinel, .sentinel] true _ true
    row_holds (fun _ h => by cases h) (by kernel_rfl) (fun _ h => by cases h) fnExactFarTerms_row_tie rfl ⟨rfl, rfl⟩ (by kernel_rfl) rfl
    (fun f fn hf hfn => by
      obtain rfl : f = 4 := Option.some.inj ((show Tryz.prog.funcNamed "loop.example/g01120/laws.FnExactFarTerms" = some 4 from t_named).symm.trans hf) |>.symm
      obtain rfl : fn = Tryz.f4 := (Option.some.inj (Tryz.func4.symm.trans hfn)).symm
      exact ⟨t_looks, fun j t ht => by
        rw [Tryz.params4] at ht
        have h3 : t = 24 ∨ t = 2 ∨ t = 2 ∨ t = 2 := by
          rcases j with _ | j
          · have := ht.symm; simp at this; simp [this]
          rcases j with _ | j
          · have := ht.symm; simp at this; simp [this]
          rcases j with _ | j
          · have := ht.symm; simp at this; simp [this]
          rcases j with _ | j
          · have := ht.symm; simp at this; simp [this]
          · simp at ht
        rcases h3 with rfl | rfl | rfl | rfl
        · exact (show Tryz.prog.wantsStandIn 24 = false by kernel_rfl)
        · exact (show Tryz.prog.wantsStandIn 2 = false by kernel_rfl)
        · exact (show Tryz.prog.wantsStandIn 2 = false by kernel_rfl)
        · exact (show Tryz.prog.wantsStandIn 2 = false by kernel_rfl)⟩)
    t_goes
end Go.Proofs.YtnfehccicnpbpaaGreatDoor.RowFarTerms
