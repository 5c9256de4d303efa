/-
  DERIVED. GIVEN WITH THE SEED: THE CARDS: each row of YtpncfhfjnnpgdaaDoorRows.lean that lists a variable, with what it lists TIED to the program's text (the seventh form; the later family's looks); each row that meets fmt, with fmt's text TOLD by the authors' own Lean function (tested against real Go, not proved from fmt's source: count such statements apart). THE CARD IS WHAT COUNTS. Prove the row's statement (the work); the ties are given (YtpncfhfjnnpgdaaDoorTie.lean); close each card by the builder's one call (the guide's Derived/Test/ToyasCard.lean, 'card_holds'). Laid BY PROGRAM, IN A SANDBOX (cutbox-door.mjs). By AI agents, Wed Nov 11 2026. No macro, syntax, notation, axiom, sorry.
-/
import Derived.Test.YtpncfhfjnnpgdaaDoorRows
import GoSem.ClaimSeven
namespace Go.Proofs.YtpncfhfjnnpgdaaDoor
namespace Rows

/-- THE TIED CARD OF 'laws.FnExactIsNumber'. -/
def fnExactIsNumberCard : Claim7 := { stood := { row := fnExactIsNumberRow, standIns := [], harness := (true, "82da81dc4fd57284a61f1e78a57b61f171ed8516d01a9f625987c73be5b595b3"), looks := true }, kinds := [], alts := [], laidByText := true, laidKinds := [.handle, .sentinel, .sentinel], laidTests := true, laidLooks := .later }
def FnExactIsNumberCardSaid : Prop := Claim7.holds Tryd.pinned (.plain (OpenSpec.ofChange fnExactIsNumberSpec)) fnExactIsNumberCard

/-- THE TIED CARD OF 'laws.FnExactIsInteger'. -/
def fnExactIsIntegerCard : Claim7 := { stood := { row := fnExactIsIntegerRow, standIns := [], harness := (true, "82da81dc4fd57284a61f1e78a57b61f171ed8516d01a9f625987c73be5b595b3"), looks := true }, kinds := [], alts := [], laidByText := true, laidKinds := [.handle, .sentinel, .sentinel], laidTests := true, laidLooks := .later }
def FnExactIsIntegerCardSaid : Prop := Claim7.holds Tryd.pinned (.plain (OpenSpec.ofChange fnExactIsIntegerSpec)) fnExactIsIntegerCard

/-- THE TIED CARD OF 'laws.FnExactIsNumbers'. -/
def fnExactIsNumbersCard : Claim7 := { stood := { row := fnExactIsNumbersRow, standIns := [], harness := (true, "82da81dc4fd57284a61f1e78a57b61f171ed8516d01a9f625987c73be5b595b3"), looks := true }, kinds := [], alts := [], laidByText := true, laidKinds := [.handle, .sentinel, .sentinel], laidTests := true, laidLooks := .later }
def FnExactIsNumbersCardSaid : Prop := Claim7.holds Tryd.pinned (.plain (OpenSpec.ofChange fnExactIsNumbersSpec)) fnExactIsNumbersCard

/-- THE TIED CARD OF 'laws.FnExactNumberOf'. -/
def fnExactNumberOfCard : Claim7 := { stood := { row := fnExactNumberOfRow, standIns := [], harness := (true, "82da81dc4fd57284a61f1e78a57b61f171ed8516d01a9f625987c73be5b595b3"), looks := true }, kinds := [], alts := [], laidByText := true, laidKinds := [.data, .data, .data], laidTests := true, laidLooks := .later }
def FnExactNumberOfCardSaid : Prop := Claim7.holds Tryd.pinned (.plain (OpenSpec.ofChange fnExactNumberOfSpec)) fnExactNumberOfCard

/-- THE TIED CARD OF 'laws.FnExactSmallOf'. -/
def fnExactSmallOfCard : Claim7 := { stood := { row := fnExactSmallOfRow, standIns := [], harness := (true, "82da81dc4fd57284a61f1e78a57b61f171ed8516d01a9f625987c73be5b595b3"), looks := true }, kinds := [], alts := [], laidByText := true, laidKinds := [.handle, .sentinel, .sentinel], laidTests := true, laidLooks := .later }
def FnExactSmallOfCardSaid : Prop := Claim7.holds Tryd.pinned (.plain (OpenSpec.ofChange fnExactSmallOfSpec)) fnExactSmallOfCard

/-- THE TIED CARD OF 'laws.FnExactCompareNumbers'. -/
def fnExactCompareNumbersCard : Claim7 := { stood := { row := fnExactCompareNumbersRow, standIns := [], harness := (true, "82da81dc4fd57284a61f1e78a57b61f171ed8516d01a9f625987c73be5b595b3"), looks := true }, kinds := [], alts := [], laidByText := true, laidKinds := [.handle, .sentinel, .sentinel], laidTests := true, laidLooks := .later }
def FnExactCompareNumbersCardSaid : Prop := Claim7.holds Tryd.pinned (.plain (OpenSpec.ofChange fnExactCompareNumbersSpec)) fnExactCompareNumbersCard

/-- THE TIED CARD OF 'laws.FnExactRemainderOf'. -/
def fnExactRemainderOfCard : Claim7 := { stood := { row := fnExactRemainderOfRow, standIns := [], harness := (true, "82da81dc4fd57284a61f1e78a57b61f171ed8516d01a9f625987c73be5b595b3"), looks := true }, kinds := [], alts := [], laidByText := true, laidKinds := [.handle, .sentinel, .sentinel], laidTests := true, laidLooks := .later }
def FnExactRemainderOfCardSaid : Prop := Claim7.holds Tryd.pinned (.plain (OpenSpec.ofChange fnExactRemainderOfSpec)) fnExactRemainderOfCard

/-- THE TIED CARD OF 'laws.FnExactValidPoly'. -/
def fnExactValidPolyCard : Claim7 := { stood := { row := fnExactValidPolyRow, standIns := [], harness := (true, "82da81dc4fd57284a61f1e78a57b61f171ed8516d01a9f625987c73be5b595b3"), looks := true }, kinds := [], alts := [], laidByText := true, laidKinds := [.handle, .sentinel, .sentinel], laidTests := true, laidLooks := .later }
def FnExactValidPolyCardSaid : Prop := Claim7.holds Tryd.pinned (.plain (OpenSpec.ofChange fnExactValidPolySpec)) fnExactValidPolyCard

/-- THE TIED CARD OF 'laws.FnExactValidRecurrence'. -/
def fnExactValidRecurrenceCard : Claim7 := { stood := { row := fnExactValidRecurrenceRow, standIns := [], harness := (true, "82da81dc4fd57284a61f1e78a57b61f171ed8516d01a9f625987c73be5b595b3"), looks := true }, kinds := [], alts := [], laidByText := true, laidKinds := [.handle, .sentinel, .sentinel], laidTests := true, laidLooks := .later }
def FnExactValidRecurrenceCardSaid : Prop := Claim7.holds Tryd.pinned (.plain (OpenSpec.ofChange fnExactValidRecurrenceSpec)) fnExactValidRecurrenceCard

/-- THE SECOND FORM's CARD OF 'laws.FnExactIsNumber'. -/
def fnExactIsNumberUptoCard : Claim7 := { stood := { row := fnExactIsNumberUptoRow, standIns := [], harness := (true, "82da81dc4fd57284a61f1e78a57b61f171ed8516d01a9f625987c73be5b595b3"), looks := true }, kinds := [], alts := [], laidByText := true, laidKinds := [.handle, .sentinel, .sentinel], laidTests := true, laidLooks := .later }
def FnExactIsNumberUptoCardSaid : Prop := Claim7.holds Tryd.pinned (.plain (OpenSpec.upto fnExactIsNumberSpec)) fnExactIsNumberUptoCard

/-- THE SECOND FORM's CARD OF 'laws.FnExactIsInteger'. -/
def fnExactIsIntegerUptoCard : Claim7 := { stood := { row := fnExactIsIntegerUptoRow, standIns := [], harness := (true, "82da81dc4fd57284a61f1e78a57b61f171ed8516d01a9f625987c73be5b595b3"), looks := true }, kinds := [], alts := [], laidByText := true, laidKinds := [.handle, .sentinel, .sentinel], laidTests := true, laidLooks := .later }
def FnExactIsIntegerUptoCardSaid : Prop := Claim7.holds Tryd.pinned (.plain (OpenSpec.upto fnExactIsIntegerSpec)) fnExactIsIntegerUptoCard

/-- THE SECOND FORM's CARD OF 'laws.FnExactIsNumbers'. -/
def fnExactIsNumbersUptoCard : Claim7 := { stood := { row := fnExactIsNumbersUptoRow, standIns := [], harness := (true, "82da81dc4fd57284a61f1e78a57b61f171ed8516d01a9f625987c73be5b595b3"), looks := true }, kinds := [], alts := [], laidByText := true, laidKinds := [.handle, .sentinel, .sentinel], laidTests := true, laidLooks := .later }
def FnExactIsNumbersUptoCardSaid : Prop := Claim7.holds Tryd.pinned (.plain (OpenSpec.upto fnExactIsNumbersSpec)) fnExactIsNumbersUptoCard

/-- THE SECOND FORM's CARD OF 'laws.FnExactNumberOf'. -/
def fnExactNumberOfUptoCard : Claim7 := { stood := { row := fnExactNumberOfUptoRow, standIns := [], harness := (true, "82da81dc4fd57284a61f1e78a57b61f171ed8516d01a9f625987c73be5b595b3"), looks := true }, kinds := [], alts := [], laidByText := true, laidKinds := [.data, .data, .data], laidTests := true, laidLooks := .later }
def FnExactNumberOfUptoCardSaid : Prop := Claim7.holds Tryd.pinned (.plain (OpenSpec.upto fnExactNumberOfSpec)) fnExactNumberOfUptoCard

/-- THE SECOND FORM's CARD OF 'laws.FnExactSmallOf'. -/
def fnExactSmallOfUptoCard : Claim7 := { stood := { row := fnExactSmallOfUptoRow, standIns := [], harness := (true, "82da81dc4fd57284a61f1e78a57b61f171ed8516d01a9f625987c73be5b595b3"), looks := true }, kinds := [], alts := [], laidByText := true, laidKinds := [.handle, .sentinel, .sentinel], laidTests := true, laidLooks := .later }
def FnExactSmallOfUptoCardSaid : Prop := Claim7.holds Tryd.pinned (.plain (OpenSpec.upto fnExactSmallOfSpec)) fnExactSmallOfUptoCard

/-- THE SECOND FORM's CARD OF 'laws.FnExactCompareNumbers'. -/
def fnExactCompareNumbersUptoCard : Claim7 := { stood := { row := fnExactCompareNumbersUptoRow, standIns := [], harness := (true, "82da81dc4fd57284a61f1e78a57b61f171ed8516d01a9f625987c73be5b595b3"), looks := true }, kinds := [], alts := [], laidByText := true, laidKinds := [.handle, .sentinel, .sentinel], laidTests := true, laidLooks := .later }
def FnExactCompareNumbersUptoCardSaid : Prop := Claim7.holds Tryd.pinned (.plain (OpenSpec.upto fnExactCompareNumbersSpec)) fnExactCompareNumbersUptoCard

/-- THE SECOND FORM's CARD OF 'laws.FnExactRemainderOf'. -/
def fnExactRemainderOfUptoCard : Claim7 := { stood := { row := fnExactRemainderOfUptoRow, standIns := [], harness := (true, "82da81dc4fd57284a61f1e78a57b61f171ed8516d01a9f625987c73be5b595b3"), looks := true }, kinds := [], alts := [], laidByText := true, laidKinds := [.handle, .sentinel, .sentinel], laidTests := true, laidLooks := .later }
def FnExactRemainderOfUptoCardSaid : Prop := Claim7.holds Tryd.pinned (.plain (OpenSpec.upto fnExactRemainderOfSpec)) fnExactRemainderOfUptoCard

/-- THE SECOND FORM's CARD OF 'laws.FnExactValidPoly'. -/
def fnExactValidPolyUptoCard : Claim7 := { stood := { row := fnExactValidPolyUptoRow, standIns := [], harness := (true, "82da81dc4fd57284a61f1e78a57b61f171ed8516d01a9f625987c73be5b595b3"), looks := true }, kinds := [], alts := [], laidByText := true, laidKinds := [.handle, .sentinel, .sentinel], laidTests := true, laidLooks := .later }
def FnExactValidPolyUptoCardSaid : Prop := Claim7.holds Tryd.pinned (.plain (OpenSpec.upto fnExactValidPolySpec)) fnExactValidPolyUptoCard

/-- THE SECOND FORM's CARD OF 'laws.FnExactValidRecurrence'. -/
def fnExactValidRecurrenceUptoCard : Claim7 := { stood := { row := fnExactValidRecurrenceUptoRow, standIns := [], harness := (true, "82da81dc4fd57284a61f1e78a57b61f171ed8516d01a9f625987c73be5b595b3"), looks := true }, kinds := [], alts := [], laidByText := true, laidKinds := [.handle, .sentinel, .sentinel], laidTests := true, laidLooks := .later }
def FnExactValidRecurrenceUptoCardSaid : Prop := Claim7.holds Tryd.pinned (.plain (OpenSpec.upto fnExactValidRecurrenceSpec)) fnExactValidRecurrenceUptoCard
end Rows
end Go.Proofs.YtpncfhfjnnpgdaaDoor
