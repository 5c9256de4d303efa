/-
  DERIVED. GIVEN WITH THE SEED: THE CARDS: each row of YtegdcmcfeaohhaaGreatDoorRows.lean that lists a variable, with what it lists TIED to the program's text (the seventh form; the later family's looks); each row that meets fmt, with fmt's text TOLD by the authors' own Lean function (tested against real Go, not proved from fmt's source: count such statements apart). THE CARD IS WHAT COUNTS. Prove the row's statement (the work); the ties are given (YtegdcmcfeaohhaaGreatDoorTie.lean); close each card by the builder's one call (the guide's Derived/Test/ToyasCard.lean, 'card_holds'). Laid BY PROGRAM, IN A SANDBOX (cutbox-door.mjs). By AI agents, Wed Nov 11 2026. No macro, syntax, notation, axiom, sorry.
-/
import Derived.Test.YtegdcmcfeaohhaaGreatDoorRows
import GoSem.ClaimSeven
namespace Go.Proofs.YtegdcmcfeaohhaaGreatDoor
namespace Rows

/-- THE TIED CARD OF 'laws.FnExactAddPolys'. -/
def fnExactAddPolysCard : Claim7 := { stood := { row := fnExactAddPolysRow, standIns := [], harness := (true, "e41e4729d385705c9e86c499482e9498a434d6908125c7db44ee0d61cf622143"), looks := true }, kinds := [], alts := [], laidByText := true, laidKinds := [.data, .data, .data, .handle, .sentinel, .sentinel], laidTests := true, laidLooks := .later }
def FnExactAddPolysCardSaid : Prop := Claim7.holds Tryz.pinned (.plain (OpenSpec.ofChange fnExactAddPolysSpec)) fnExactAddPolysCard

/-- THE TIED CARD OF 'laws.FnExactSubPolys'. -/
def fnExactSubPolysCard : Claim7 := { stood := { row := fnExactSubPolysRow, standIns := [], harness := (true, "e41e4729d385705c9e86c499482e9498a434d6908125c7db44ee0d61cf622143"), looks := true }, kinds := [], alts := [], laidByText := true, laidKinds := [.data, .data, .data, .handle, .sentinel, .sentinel], laidTests := true, laidLooks := .later }
def FnExactSubPolysCardSaid : Prop := Claim7.holds Tryz.pinned (.plain (OpenSpec.ofChange fnExactSubPolysSpec)) fnExactSubPolysCard

/-- THE TIED CARD OF 'laws.FnExactMulPolys'. -/
def fnExactMulPolysCard : Claim7 := { stood := { row := fnExactMulPolysRow, standIns := [], harness := (true, "e41e4729d385705c9e86c499482e9498a434d6908125c7db44ee0d61cf622143"), looks := true }, kinds := [], alts := [], laidByText := true, laidKinds := [.data, .data, .data, .handle, .sentinel, .sentinel], laidTests := true, laidLooks := .later }
def FnExactMulPolysCardSaid : Prop := Claim7.holds Tryz.pinned (.plain (OpenSpec.ofChange fnExactMulPolysSpec)) fnExactMulPolysCard

/-- THE TIED CARD OF 'laws.FnExactComposePolys'. -/
def fnExactComposePolysCard : Claim7 := { stood := { row := fnExactComposePolysRow, standIns := [], harness := (true, "e41e4729d385705c9e86c499482e9498a434d6908125c7db44ee0d61cf622143"), looks := true }, kinds := [], alts := [], laidByText := true, laidKinds := [.data, .data, .data, .handle, .sentinel, .sentinel], laidTests := true, laidLooks := .later }
def FnExactComposePolysCardSaid : Prop := Claim7.holds Tryz.pinned (.plain (OpenSpec.ofChange fnExactComposePolysSpec)) fnExactComposePolysCard

/-- THE TIED CARD OF 'laws.FnExactDerivativeOf'. -/
def fnExactDerivativeOfCard : Claim7 := { stood := { row := fnExactDerivativeOfRow, standIns := [], harness := (true, "e41e4729d385705c9e86c499482e9498a434d6908125c7db44ee0d61cf622143"), looks := true }, kinds := [], alts := [], laidByText := true, laidKinds := [.data, .data, .data, .handle, .sentinel, .sentinel], laidTests := true, laidLooks := .later }
def FnExactDerivativeOfCardSaid : Prop := Claim7.holds Tryz.pinned (.plain (OpenSpec.ofChange fnExactDerivativeOfSpec)) fnExactDerivativeOfCard

/-- THE TIED CARD OF 'laws.FnExactReversePoly'. -/
def fnExactReversePolyCard : Claim7 := { stood := { row := fnExactReversePolyRow, standIns := [], harness := (true, "e41e4729d385705c9e86c499482e9498a434d6908125c7db44ee0d61cf622143"), looks := true }, kinds := [], alts := [], laidByText := true, laidKinds := [.data, .data, .data, .handle, .sentinel, .sentinel], laidTests := true, laidLooks := .later }
def FnExactReversePolyCardSaid : Prop := Claim7.holds Tryz.pinned (.plain (OpenSpec.ofChange fnExactReversePolySpec)) fnExactReversePolyCard

/-- THE TIED CARD OF 'laws.FnExactPolyText'. -/
def fnExactPolyTextCard : Claim7 := { stood := { row := fnExactPolyTextRow, standIns := [], harness := (true, "e41e4729d385705c9e86c499482e9498a434d6908125c7db44ee0d61cf622143"), looks := true }, kinds := [], alts := [], laidByText := true, laidKinds := [.data, .data, .data, .handle, .sentinel, .sentinel], laidTests := true, laidLooks := .later }
def FnExactPolyTextCardSaid : Prop := Claim7.holds Tryz.pinned (.plain (OpenSpec.ofChange fnExactPolyTextSpec)) fnExactPolyTextCard

/-- THE TIED CARD OF 'laws.FnExactPolyOf'. -/
def fnExactPolyOfCard : Claim7 := { stood := { row := fnExactPolyOfRow, standIns := [], harness := (true, "e41e4729d385705c9e86c499482e9498a434d6908125c7db44ee0d61cf622143"), looks := true }, kinds := [], alts := [], laidByText := true, laidKinds := [.data, .data, .data, .handle, .sentinel, .sentinel], laidTests := true, laidLooks := .later }
def FnExactPolyOfCardSaid : Prop := Claim7.holds Tryz.pinned (.plain (OpenSpec.ofChange fnExactPolyOfSpec)) fnExactPolyOfCard

/-- THE TIED CARD OF 'laws.FnExactTermsOf'. -/
def fnExactTermsOfCard : Claim7 := { stood := { row := fnExactTermsOfRow, standIns := [], harness := (true, "e41e4729d385705c9e86c499482e9498a434d6908125c7db44ee0d61cf622143"), looks := true }, kinds := [], alts := [], laidByText := true, laidKinds := [.data, .data, .data, .handle, .sentinel, .sentinel], laidTests := true, laidLooks := .later }
def FnExactTermsOfCardSaid : Prop := Claim7.holds Tryz.pinned (.plain (OpenSpec.ofChange fnExactTermsOfSpec)) fnExactTermsOfCard

/-- THE TIED CARD OF 'laws.FnExactIsRecurrenceOf'. -/
def fnExactIsRecurrenceOfCard : Claim7 := { stood := { row := fnExactIsRecurrenceOfRow, standIns := [], harness := (true, "e41e4729d385705c9e86c499482e9498a434d6908125c7db44ee0d61cf622143"), looks := true }, kinds := [], alts := [], laidByText := true, laidKinds := [.handle, .sentinel, .sentinel], laidTests := true, laidLooks := .later }
def FnExactIsRecurrenceOfCardSaid : Prop := Claim7.holds Tryz.pinned (.plain (OpenSpec.ofChange fnExactIsRecurrenceOfSpec)) fnExactIsRecurrenceOfCard

/-- THE TIED CARD OF 'laws.FnExactCompanionOf'. -/
def fnExactCompanionOfCard : Claim7 := { stood := { row := fnExactCompanionOfRow, standIns := [], harness := (true, "e41e4729d385705c9e86c499482e9498a434d6908125c7db44ee0d61cf622143"), looks := true }, kinds := [], alts := [], laidByText := true, laidKinds := [.handle, .sentinel, .sentinel], laidTests := true, laidLooks := .later }
def FnExactCompanionOfCardSaid : Prop := Claim7.holds Tryz.pinned (.plain (OpenSpec.ofChange fnExactCompanionOfSpec)) fnExactCompanionOfCard

/-- THE SECOND FORM's CARD OF 'laws.FnExactAddPolys'. -/
def fnExactAddPolysUptoCard : Claim7 := { stood := { row := fnExactAddPolysUptoRow, standIns := [], harness := (true, "e41e4729d385705c9e86c499482e9498a434d6908125c7db44ee0d61cf622143"), looks := true }, kinds := [], alts := [], laidByText := true, laidKinds := [.data, .data, .data, .handle, .sentinel, .sentinel], laidTests := true, laidLooks := .later }
def FnExactAddPolysUptoCardSaid : Prop := Claim7.holds Tryz.pinned (.plain (OpenSpec.upto fnExactAddPolysSpec)) fnExactAddPolysUptoCard

/-- THE SECOND FORM's CARD OF 'laws.FnExactSubPolys'. -/
def fnExactSubPolysUptoCard : Claim7 := { stood := { row := fnExactSubPolysUptoRow, standIns := [], harness := (true, "e41e4729d385705c9e86c499482e9498a434d6908125c7db44ee0d61cf622143"), looks := true }, kinds := [], alts := [], laidByText := true, laidKinds := [.data, .data, .data, .handle, .sentinel, .sentinel], laidTests := true, laidLooks := .later }
def FnExactSubPolysUptoCardSaid : Prop := Claim7.holds Tryz.pinned (.plain (OpenSpec.upto fnExactSubPolysSpec)) fnExactSubPolysUptoCard

/-- THE SECOND FORM's CARD OF 'laws.FnExactMulPolys'. -/
def fnExactMulPolysUptoCard : Claim7 := { stood := { row := fnExactMulPolysUptoRow, standIns := [], harness := (true, "e41e4729d385705c9e86c499482e9498a434d6908125c7db44ee0d61cf622143"), looks := true }, kinds := [], alts := [], laidByText := true, laidKinds := [.data, .data, .data, .handle, .sentinel, .sentinel], laidTests := true, laidLooks := .later }
def FnExactMulPolysUptoCardSaid : Prop := Claim7.holds Tryz.pinned (.plain (OpenSpec.upto fnExactMulPolysSpec)) fnExactMulPolysUptoCard

/-- THE SECOND FORM's CARD OF 'laws.FnExactComposePolys'. -/
def fnExactComposePolysUptoCard : Claim7 := { stood := { row := fnExactComposePolysUptoRow, standIns := [], harness := (true, "e41e4729d385705c9e86c499482e9498a434d6908125c7db44ee0d61cf622143"), looks := true }, kinds := [], alts := [], laidByText := true, laidKinds := [.data, .data, .data, .handle, .sentinel, .sentinel], laidTests := true, laidLooks := .later }
def FnExactComposePolysUptoCardSaid : Prop := Claim7.holds Tryz.pinned (.plain (OpenSpec.upto fnExactComposePolysSpec)) fnExactComposePolysUptoCard

/-- THE SECOND FORM's CARD OF 'laws.FnExactDerivativeOf'. -/
def fnExactDerivativeOfUptoCard : Claim7 := { stood := { row := fnExactDerivativeOfUptoRow, standIns := [], harness := (true, "e41e4729d385705c9e86c499482e9498a434d6908125c7db44ee0d61cf622143"), looks := true }, kinds := [], alts := [], laidByText := true, laidKinds := [.data, .data, .data, .handle, .sentinel, .sentinel], laidTests := true, laidLooks := .later }
def FnExactDerivativeOfUptoCardSaid : Prop := Claim7.holds Tryz.pinned (.plain (OpenSpec.upto fnExactDerivativeOfSpec)) fnExactDerivativeOfUptoCard

/-- THE SECOND FORM's CARD OF 'laws.FnExactReversePoly'. -/
def fnExactReversePolyUptoCard : Claim7 := { stood := { row := fnExactReversePolyUptoRow, standIns := [], harness := (true, "e41e4729d385705c9e86c499482e9498a434d6908125c7db44ee0d61cf622143"), looks := true }, kinds := [], alts := [], laidByText := true, laidKinds := [.data, .data, .data, .handle, .sentinel, .sentinel], laidTests := true, laidLooks := .later }
def FnExactReversePolyUptoCardSaid : Prop := Claim7.holds Tryz.pinned (.plain (OpenSpec.upto fnExactReversePolySpec)) fnExactReversePolyUptoCard

/-- THE SECOND FORM's CARD OF 'laws.FnExactPolyText'. -/
def fnExactPolyTextUptoCard : Claim7 := { stood := { row := fnExactPolyTextUptoRow, standIns := [], harness := (true, "e41e4729d385705c9e86c499482e9498a434d6908125c7db44ee0d61cf622143"), looks := true }, kinds := [], alts := [], laidByText := true, laidKinds := [.data, .data, .data, .handle, .sentinel, .sentinel], laidTests := true, laidLooks := .later }
def FnExactPolyTextUptoCardSaid : Prop := Claim7.holds Tryz.pinned (.plain (OpenSpec.upto fnExactPolyTextSpec)) fnExactPolyTextUptoCard

/-- THE SECOND FORM's CARD OF 'laws.FnExactPolyOf'. -/
def fnExactPolyOfUptoCard : Claim7 := { stood := { row := fnExactPolyOfUptoRow, standIns := [], harness := (true, "e41e4729d385705c9e86c499482e9498a434d6908125c7db44ee0d61cf622143"), looks := true }, kinds := [], alts := [], laidByText := true, laidKinds := [.data, .data, .data, .handle, .sentinel, .sentinel], laidTests := true, laidLooks := .later }
def FnExactPolyOfUptoCardSaid : Prop := Claim7.holds Tryz.pinned (.plain (OpenSpec.upto fnExactPolyOfSpec)) fnExactPolyOfUptoCard

/-- THE SECOND FORM's CARD OF 'laws.FnExactTermsOf'. -/
def fnExactTermsOfUptoCard : Claim7 := { stood := { row := fnExactTermsOfUptoRow, standIns := [], harness := (true, "e41e4729d385705c9e86c499482e9498a434d6908125c7db44ee0d61cf622143"), looks := true }, kinds := [], alts := [], laidByText := true, laidKinds := [.data, .data, .data, .handle, .sentinel, .sentinel], laidTests := true, laidLooks := .later }
def FnExactTermsOfUptoCardSaid : Prop := Claim7.holds Tryz.pinned (.plain (OpenSpec.upto fnExactTermsOfSpec)) fnExactTermsOfUptoCard

/-- THE SECOND FORM's CARD OF 'laws.FnExactIsRecurrenceOf'. -/
def fnExactIsRecurrenceOfUptoCard : Claim7 := { stood := { row := fnExactIsRecurrenceOfUptoRow, standIns := [], harness := (true, "e41e4729d385705c9e86c499482e9498a434d6908125c7db44ee0d61cf622143"), looks := true }, kinds := [], alts := [], laidByText := true, laidKinds := [.handle, .sentinel, .sentinel], laidTests := true, laidLooks := .later }
def FnExactIsRecurrenceOfUptoCardSaid : Prop := Claim7.holds Tryz.pinned (.plain (OpenSpec.upto fnExactIsRecurrenceOfSpec)) fnExactIsRecurrenceOfUptoCard

/-- THE SECOND FORM's CARD OF 'laws.FnExactCompanionOf'. -/
def fnExactCompanionOfUptoCard : Claim7 := { stood := { row := fnExactCompanionOfUptoRow, standIns := [], harness := (true, "e41e4729d385705c9e86c499482e9498a434d6908125c7db44ee0d61cf622143"), looks := true }, kinds := [], alts := [], laidByText := true, laidKinds := [.handle, .sentinel, .sentinel], laidTests := true, laidLooks := .later }
def FnExactCompanionOfUptoCardSaid : Prop := Claim7.holds Tryz.pinned (.plain (OpenSpec.upto fnExactCompanionOfSpec)) fnExactCompanionOfUptoCard
end Rows
end Go.Proofs.YtegdcmcfeaohhaaGreatDoor
