/-
  DERIVED. GIVEN WITH THE SEED: THE CARDS: each row of YtpblpdcdhgjecaaGreatDoorRows.lean that lists a variable, with what it lists TIED to the program's text (the seventh form; the later family's looks); each row that meets fmt, with fmt's text TOLD by the authors' own Lean function (tested against real Go, not proved from fmt's source: count such statements apart). THE CARD IS WHAT COUNTS. Prove the row's statement (the work); the ties are given (YtpblpdcdhgjecaaGreatDoorTie.lean); close each card by the builder's one call (the guide's Derived/Test/ToyasCard.lean, 'card_holds'). Laid BY PROGRAM, IN A SANDBOX (cutbox-door.mjs). By AI agents, Wed Nov 11 2026. No macro, syntax, notation, axiom, sorry.
-/
import Derived.Test.YtpblpdcdhgjecaaGreatDoorRows
import GoSem.ClaimSeven
namespace Go.Proofs.YtpblpdcdhgjecaaGreatDoor
namespace Rows

/-- THE TIED CARD OF 'laws.FnExactAddNumbers'. -/
def fnExactAddNumbersCard : Claim7 := { stood := { row := fnExactAddNumbersRow, standIns := [], harness := (true, "e278d31450fc5b16f310b23e2c771c70cce6343c1d77ea1ade24bc8b60eeb42a"), looks := true }, kinds := [], alts := [], laidByText := true, laidKinds := [.data, .data, .data, .handle, .sentinel, .sentinel], laidTests := true, laidLooks := .later }
def FnExactAddNumbersCardSaid : Prop := Claim7.holds Tryz.pinned (.plain (OpenSpec.ofChange fnExactAddNumbersSpec)) fnExactAddNumbersCard

/-- THE TIED CARD OF 'laws.FnExactSubNumbers'. -/
def fnExactSubNumbersCard : Claim7 := { stood := { row := fnExactSubNumbersRow, standIns := [], harness := (true, "e278d31450fc5b16f310b23e2c771c70cce6343c1d77ea1ade24bc8b60eeb42a"), looks := true }, kinds := [], alts := [], laidByText := true, laidKinds := [.data, .data, .data, .handle, .sentinel, .sentinel], laidTests := true, laidLooks := .later }
def FnExactSubNumbersCardSaid : Prop := Claim7.holds Tryz.pinned (.plain (OpenSpec.ofChange fnExactSubNumbersSpec)) fnExactSubNumbersCard

/-- THE TIED CARD OF 'laws.FnExactSumNumbers'. -/
def fnExactSumNumbersCard : Claim7 := { stood := { row := fnExactSumNumbersRow, standIns := [], harness := (true, "e278d31450fc5b16f310b23e2c771c70cce6343c1d77ea1ade24bc8b60eeb42a"), looks := true }, kinds := [], alts := [], laidByText := true, laidKinds := [.data, .data, .data, .handle, .sentinel, .sentinel], laidTests := true, laidLooks := .later }
def FnExactSumNumbersCardSaid : Prop := Claim7.holds Tryz.pinned (.plain (OpenSpec.ofChange fnExactSumNumbersSpec)) fnExactSumNumbersCard

/-- THE TIED CARD OF 'laws.FnExactDotNumbers'. -/
def fnExactDotNumbersCard : Claim7 := { stood := { row := fnExactDotNumbersRow, standIns := [], harness := (true, "e278d31450fc5b16f310b23e2c771c70cce6343c1d77ea1ade24bc8b60eeb42a"), looks := true }, kinds := [], alts := [], laidByText := true, laidKinds := [.data, .data, .data, .handle, .sentinel, .sentinel], laidTests := true, laidLooks := .later }
def FnExactDotNumbersCardSaid : Prop := Claim7.holds Tryz.pinned (.plain (OpenSpec.ofChange fnExactDotNumbersSpec)) fnExactDotNumbersCard

/-- THE TIED CARD OF 'laws.FnExactReadNumbers'. -/
def fnExactReadNumbersCard : Claim7 := { stood := { row := fnExactReadNumbersRow, standIns := [], harness := (true, "e278d31450fc5b16f310b23e2c771c70cce6343c1d77ea1ade24bc8b60eeb42a"), looks := true }, kinds := [], alts := [], laidByText := true, laidKinds := [.handle, .sentinel, .sentinel], laidTests := true, laidLooks := .later }
def FnExactReadNumbersCardSaid : Prop := Claim7.holds Tryz.pinned (.plain (OpenSpec.ofChange fnExactReadNumbersSpec)) fnExactReadNumbersCard

/-- THE TIED CARD OF 'laws.FnExactEvalPoly'. -/
def fnExactEvalPolyCard : Claim7 := { stood := { row := fnExactEvalPolyRow, standIns := [], harness := (true, "e278d31450fc5b16f310b23e2c771c70cce6343c1d77ea1ade24bc8b60eeb42a"), looks := true }, kinds := [], alts := [], laidByText := true, laidKinds := [.data, .data, .data, .handle, .sentinel, .sentinel], laidTests := true, laidLooks := .later }
def FnExactEvalPolyCardSaid : Prop := Claim7.holds Tryz.pinned (.plain (OpenSpec.ofChange fnExactEvalPolySpec)) fnExactEvalPolyCard

/-- THE TIED CARD OF 'laws.FnExactHankelOf'. -/
def fnExactHankelOfCard : Claim7 := { stood := { row := fnExactHankelOfRow, standIns := [], harness := (true, "e278d31450fc5b16f310b23e2c771c70cce6343c1d77ea1ade24bc8b60eeb42a"), looks := true }, kinds := [], alts := [], laidByText := true, laidKinds := [.handle, .sentinel, .sentinel], laidTests := true, laidLooks := .later }
def FnExactHankelOfCardSaid : Prop := Claim7.holds Tryz.pinned (.plain (OpenSpec.ofChange fnExactHankelOfSpec)) fnExactHankelOfCard

/-- THE TIED CARD OF 'laws.FnExactCompanionOf'. -/
def fnExactCompanionOfCard : Claim7 := { stood := { row := fnExactCompanionOfRow, standIns := [], harness := (true, "e278d31450fc5b16f310b23e2c771c70cce6343c1d77ea1ade24bc8b60eeb42a"), looks := true }, kinds := [], alts := [], laidByText := true, laidKinds := [.handle, .sentinel, .sentinel], laidTests := true, laidLooks := .later }
def FnExactCompanionOfCardSaid : Prop := Claim7.holds Tryz.pinned (.plain (OpenSpec.ofChange fnExactCompanionOfSpec)) fnExactCompanionOfCard

/-- THE TIED CARD OF 'laws.FnExactRecurrenceText'. -/
def fnExactRecurrenceTextCard : Claim7 := { stood := { row := fnExactRecurrenceTextRow, standIns := [], harness := (true, "e278d31450fc5b16f310b23e2c771c70cce6343c1d77ea1ade24bc8b60eeb42a"), looks := true }, kinds := [], alts := [], laidByText := true, laidKinds := [.handle, .sentinel, .sentinel], laidTests := true, laidLooks := .later }
def FnExactRecurrenceTextCardSaid : Prop := Claim7.holds Tryz.pinned (.plain (OpenSpec.ofChange fnExactRecurrenceTextSpec)) fnExactRecurrenceTextCard

/-- THE TIED CARD OF 'laws.FnExactReadRecurrence'. -/
def fnExactReadRecurrenceCard : Claim7 := { stood := { row := fnExactReadRecurrenceRow, standIns := [], harness := (true, "e278d31450fc5b16f310b23e2c771c70cce6343c1d77ea1ade24bc8b60eeb42a"), looks := true }, kinds := [], alts := [], laidByText := true, laidKinds := [.handle, .sentinel, .sentinel], laidTests := true, laidLooks := .later }
def FnExactReadRecurrenceCardSaid : Prop := Claim7.holds Tryz.pinned (.plain (OpenSpec.ofChange fnExactReadRecurrenceSpec)) fnExactReadRecurrenceCard

/-- THE TIED CARD OF 'laws.FnExactIsWhole'. -/
def fnExactIsWholeCard : Claim7 := { stood := { row := fnExactIsWholeRow, standIns := [], harness := (true, "e278d31450fc5b16f310b23e2c771c70cce6343c1d77ea1ade24bc8b60eeb42a"), looks := true }, kinds := [], alts := [], laidByText := true, laidKinds := [.handle, .sentinel, .sentinel], laidTests := true, laidLooks := .later }
def FnExactIsWholeCardSaid : Prop := Claim7.holds Tryz.pinned (.plain (OpenSpec.ofChange fnExactIsWholeSpec)) fnExactIsWholeCard

/-- THE SECOND FORM's CARD OF 'laws.FnExactAddNumbers'. -/
def fnExactAddNumbersUptoCard : Claim7 := { stood := { row := fnExactAddNumbersUptoRow, standIns := [], harness := (true, "e278d31450fc5b16f310b23e2c771c70cce6343c1d77ea1ade24bc8b60eeb42a"), looks := true }, kinds := [], alts := [], laidByText := true, laidKinds := [.data, .data, .data, .handle, .sentinel, .sentinel], laidTests := true, laidLooks := .later }
def FnExactAddNumbersUptoCardSaid : Prop := Claim7.holds Tryz.pinned (.plain (OpenSpec.upto fnExactAddNumbersSpec)) fnExactAddNumbersUptoCard

/-- THE SECOND FORM's CARD OF 'laws.FnExactSubNumbers'. -/
def fnExactSubNumbersUptoCard : Claim7 := { stood := { row := fnExactSubNumbersUptoRow, standIns := [], harness := (true, "e278d31450fc5b16f310b23e2c771c70cce6343c1d77ea1ade24bc8b60eeb42a"), looks := true }, kinds := [], alts := [], laidByText := true, laidKinds := [.data, .data, .data, .handle, .sentinel, .sentinel], laidTests := true, laidLooks := .later }
def FnExactSubNumbersUptoCardSaid : Prop := Claim7.holds Tryz.pinned (.plain (OpenSpec.upto fnExactSubNumbersSpec)) fnExactSubNumbersUptoCard

/-- THE SECOND FORM's CARD OF 'laws.FnExactSumNumbers'. -/
def fnExactSumNumbersUptoCard : Claim7 := { stood := { row := fnExactSumNumbersUptoRow, standIns := [], harness := (true, "e278d31450fc5b16f310b23e2c771c70cce6343c1d77ea1ade24bc8b60eeb42a"), looks := true }, kinds := [], alts := [], laidByText := true, laidKinds := [.data, .data, .data, .handle, .sentinel, .sentinel], laidTests := true, laidLooks := .later }
def FnExactSumNumbersUptoCardSaid : Prop := Claim7.holds Tryz.pinned (.plain (OpenSpec.upto fnExactSumNumbersSpec)) fnExactSumNumbersUptoCard

/-- THE SECOND FORM's CARD OF 'laws.FnExactDotNumbers'. -/
def fnExactDotNumbersUptoCard : Claim7 := { stood := { row := fnExactDotNumbersUptoRow, standIns := [], harness := (true, "e278d31450fc5b16f310b23e2c771c70cce6343c1d77ea1ade24bc8b60eeb42a"), looks := true }, kinds := [], alts := [], laidByText := true, laidKinds := [.data, .data, .data, .handle, .sentinel, .sentinel], laidTests := true, laidLooks := .later }
def FnExactDotNumbersUptoCardSaid : Prop := Claim7.holds Tryz.pinned (.plain (OpenSpec.upto fnExactDotNumbersSpec)) fnExactDotNumbersUptoCard

/-- THE SECOND FORM's CARD OF 'laws.FnExactReadNumbers'. -/
def fnExactReadNumbersUptoCard : Claim7 := { stood := { row := fnExactReadNumbersUptoRow, standIns := [], harness := (true, "e278d31450fc5b16f310b23e2c771c70cce6343c1d77ea1ade24bc8b60eeb42a"), looks := true }, kinds := [], alts := [], laidByText := true, laidKinds := [.handle, .sentinel, .sentinel], laidTests := true, laidLooks := .later }
def FnExactReadNumbersUptoCardSaid : Prop := Claim7.holds Tryz.pinned (.plain (OpenSpec.upto fnExactReadNumbersSpec)) fnExactReadNumbersUptoCard

/-- THE SECOND FORM's CARD OF 'laws.FnExactEvalPoly'. -/
def fnExactEvalPolyUptoCard : Claim7 := { stood := { row := fnExactEvalPolyUptoRow, standIns := [], harness := (true, "e278d31450fc5b16f310b23e2c771c70cce6343c1d77ea1ade24bc8b60eeb42a"), looks := true }, kinds := [], alts := [], laidByText := true, laidKinds := [.data, .data, .data, .handle, .sentinel, .sentinel], laidTests := true, laidLooks := .later }
def FnExactEvalPolyUptoCardSaid : Prop := Claim7.holds Tryz.pinned (.plain (OpenSpec.upto fnExactEvalPolySpec)) fnExactEvalPolyUptoCard

/-- THE SECOND FORM's CARD OF 'laws.FnExactHankelOf'. -/
def fnExactHankelOfUptoCard : Claim7 := { stood := { row := fnExactHankelOfUptoRow, standIns := [], harness := (true, "e278d31450fc5b16f310b23e2c771c70cce6343c1d77ea1ade24bc8b60eeb42a"), looks := true }, kinds := [], alts := [], laidByText := true, laidKinds := [.handle, .sentinel, .sentinel], laidTests := true, laidLooks := .later }
def FnExactHankelOfUptoCardSaid : Prop := Claim7.holds Tryz.pinned (.plain (OpenSpec.upto fnExactHankelOfSpec)) fnExactHankelOfUptoCard

/-- THE SECOND FORM's CARD OF 'laws.FnExactCompanionOf'. -/
def fnExactCompanionOfUptoCard : Claim7 := { stood := { row := fnExactCompanionOfUptoRow, standIns := [], harness := (true, "e278d31450fc5b16f310b23e2c771c70cce6343c1d77ea1ade24bc8b60eeb42a"), looks := true }, kinds := [], alts := [], laidByText := true, laidKinds := [.handle, .sentinel, .sentinel], laidTests := true, laidLooks := .later }
def FnExactCompanionOfUptoCardSaid : Prop := Claim7.holds Tryz.pinned (.plain (OpenSpec.upto fnExactCompanionOfSpec)) fnExactCompanionOfUptoCard

/-- THE SECOND FORM's CARD OF 'laws.FnExactRecurrenceText'. -/
def fnExactRecurrenceTextUptoCard : Claim7 := { stood := { row := fnExactRecurrenceTextUptoRow, standIns := [], harness := (true, "e278d31450fc5b16f310b23e2c771c70cce6343c1d77ea1ade24bc8b60eeb42a"), looks := true }, kinds := [], alts := [], laidByText := true, laidKinds := [.handle, .sentinel, .sentinel], laidTests := true, laidLooks := .later }
def FnExactRecurrenceTextUptoCardSaid : Prop := Claim7.holds Tryz.pinned (.plain (OpenSpec.upto fnExactRecurrenceTextSpec)) fnExactRecurrenceTextUptoCard

/-- THE SECOND FORM's CARD OF 'laws.FnExactReadRecurrence'. -/
def fnExactReadRecurrenceUptoCard : Claim7 := { stood := { row := fnExactReadRecurrenceUptoRow, standIns := [], harness := (true, "e278d31450fc5b16f310b23e2c771c70cce6343c1d77ea1ade24bc8b60eeb42a"), looks := true }, kinds := [], alts := [], laidByText := true, laidKinds := [.handle, .sentinel, .sentinel], laidTests := true, laidLooks := .later }
def FnExactReadRecurrenceUptoCardSaid : Prop := Claim7.holds Tryz.pinned (.plain (OpenSpec.upto fnExactReadRecurrenceSpec)) fnExactReadRecurrenceUptoCard

/-- THE SECOND FORM's CARD OF 'laws.FnExactIsWhole'. -/
def fnExactIsWholeUptoCard : Claim7 := { stood := { row := fnExactIsWholeUptoRow, standIns := [], harness := (true, "e278d31450fc5b16f310b23e2c771c70cce6343c1d77ea1ade24bc8b60eeb42a"), looks := true }, kinds := [], alts := [], laidByText := true, laidKinds := [.handle, .sentinel, .sentinel], laidTests := true, laidLooks := .later }
def FnExactIsWholeUptoCardSaid : Prop := Claim7.holds Tryz.pinned (.plain (OpenSpec.upto fnExactIsWholeSpec)) fnExactIsWholeUptoCard
end Rows
end Go.Proofs.YtpblpdcdhgjecaaGreatDoor
