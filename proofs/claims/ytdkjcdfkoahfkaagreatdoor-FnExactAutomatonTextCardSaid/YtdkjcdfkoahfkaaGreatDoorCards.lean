/-
  DERIVED. GIVEN WITH THE SEED: THE CARDS: each row of YtdkjcdfkoahfkaaGreatDoorRows.lean that lists a variable, with what it lists TIED to the program's text (the seventh form; the later family's looks); each row that meets fmt, with fmt's text TOLD by the authors' own Lean function (tested against real Go, not proved from fmt's source: count such statements apart). THE CARD IS WHAT COUNTS. Prove the row's statement (the work); the ties are given (YtdkjcdfkoahfkaaGreatDoorTie.lean); close each card by the builder's one call (the guide's Derived/Test/ToyasCard.lean, 'card_holds'). Laid BY PROGRAM, IN A SANDBOX (cutbox-door.mjs). By AI agents, Wed Nov 11 2026. No macro, syntax, notation, axiom, sorry.
-/
import Derived.Test.YtdkjcdfkoahfkaaGreatDoorRows
import GoSem.ClaimSeven
namespace Go.Proofs.YtdkjcdfkoahfkaaGreatDoor
namespace Rows

/-- THE TIED CARD OF 'laws.FnNumbers'. -/
def fnNumbersCard : Claim7 := { stood := { row := fnNumbersRow, standIns := [], harness := (true, "8b942437cbab49ab5699e1d10967eea9f4b3e668330ed0b0ddd2b344beb0c10d"), looks := true }, kinds := [], alts := [], laidByText := true, laidKinds := [.data, .data, .data, .handle, .sentinel, .sentinel], laidTests := true, laidLooks := .later }
def FnNumbersCardSaid : Prop := Claim7.holds Tryz.pinned (.plain (OpenSpec.ofChange fnNumbersSpec)) fnNumbersCard

/-- THE TIED CARD OF 'laws.FnRemainders'. -/
def fnRemaindersCard : Claim7 := { stood := { row := fnRemaindersRow, standIns := [], harness := (true, "8b942437cbab49ab5699e1d10967eea9f4b3e668330ed0b0ddd2b344beb0c10d"), looks := true }, kinds := [], alts := [], laidByText := true, laidKinds := [.data, .data, .data, .handle, .sentinel, .sentinel], laidTests := true, laidLooks := .later }
def FnRemaindersCardSaid : Prop := Claim7.holds Tryz.pinned (.plain (OpenSpec.ofChange fnRemaindersSpec)) fnRemaindersCard

/-- THE TIED CARD OF 'laws.FnNumberTexts'. -/
def fnNumberTextsCard : Claim7 := { stood := { row := fnNumberTextsRow, standIns := [], harness := (true, "8b942437cbab49ab5699e1d10967eea9f4b3e668330ed0b0ddd2b344beb0c10d"), looks := true }, kinds := [], alts := [], laidByText := true, laidKinds := [.data, .data, .data, .handle, .sentinel, .sentinel], laidTests := true, laidLooks := .later }
def FnNumberTextsCardSaid : Prop := Claim7.holds Tryz.pinned (.plain (OpenSpec.ofChange fnNumberTextsSpec)) fnNumberTextsCard

/-- THE TIED CARD OF 'laws.FnExactFromPoly'. -/
def fnExactFromPolyCard : Claim7 := { stood := { row := fnExactFromPolyRow, standIns := [], harness := (true, "8b942437cbab49ab5699e1d10967eea9f4b3e668330ed0b0ddd2b344beb0c10d"), looks := true }, kinds := [], alts := [], laidByText := true, laidKinds := [.data, .data, .data, .handle, .sentinel, .sentinel], laidTests := true, laidLooks := .later }
def FnExactFromPolyCardSaid : Prop := Claim7.holds Tryz.pinned (.plain (OpenSpec.ofChange fnExactFromPolySpec)) fnExactFromPolyCard

/-- THE TIED CARD OF 'laws.FnExactValidAutomaton'. -/
def fnExactValidAutomatonCard : Claim7 := { stood := { row := fnExactValidAutomatonRow, standIns := [], harness := (true, "8b942437cbab49ab5699e1d10967eea9f4b3e668330ed0b0ddd2b344beb0c10d"), looks := true }, kinds := [], alts := [], laidByText := true, laidKinds := [.handle, .sentinel, .sentinel], laidTests := true, laidLooks := .later }
def FnExactValidAutomatonCardSaid : Prop := Claim7.holds Tryz.pinned (.plain (OpenSpec.ofChange fnExactValidAutomatonSpec)) fnExactValidAutomatonCard

/-- THE TIED CARD OF 'laws.FnExactAutomatonText'. -/
def fnExactAutomatonTextCard : Claim7 := { stood := { row := fnExactAutomatonTextRow, standIns := [], harness := (true, "8b942437cbab49ab5699e1d10967eea9f4b3e668330ed0b0ddd2b344beb0c10d"), looks := true }, kinds := [], alts := [], laidByText := true, laidKinds := [.handle, .sentinel, .sentinel], laidTests := true, laidLooks := .later }
def FnExactAutomatonTextCardSaid : Prop := Claim7.holds Tryz.pinned (.plain (OpenSpec.ofChange fnExactAutomatonTextSpec)) fnExactAutomatonTextCard

/-- THE TIED CARD OF 'laws.FnExactReadPoly'. -/
def fnExactReadPolyCard : Claim7 := { stood := { row := fnExactReadPolyRow, standIns := [], harness := (true, "8b942437cbab49ab5699e1d10967eea9f4b3e668330ed0b0ddd2b344beb0c10d"), looks := true }, kinds := [], alts := [], laidByText := true, laidKinds := [.data, .data, .data, .handle, .sentinel, .sentinel, .sentinel, .sentinel], laidTests := true, laidLooks := .later }
def FnExactReadPolyCardSaid : Prop := Claim7.holds Tryz.pinned (.plain (OpenSpec.ofChange fnExactReadPolySpec)) fnExactReadPolyCard

/-- THE SECOND FORM's CARD OF 'laws.FnNumbers'. -/
def fnNumbersUptoCard : Claim7 := { stood := { row := fnNumbersUptoRow, standIns := [], harness := (true, "8b942437cbab49ab5699e1d10967eea9f4b3e668330ed0b0ddd2b344beb0c10d"), looks := true }, kinds := [], alts := [], laidByText := true, laidKinds := [.data, .data, .data, .handle, .sentinel, .sentinel], laidTests := true, laidLooks := .later }
def FnNumbersUptoCardSaid : Prop := Claim7.holds Tryz.pinned (.plain (OpenSpec.upto fnNumbersSpec)) fnNumbersUptoCard

/-- THE SECOND FORM's CARD OF 'laws.FnRemainders'. -/
def fnRemaindersUptoCard : Claim7 := { stood := { row := fnRemaindersUptoRow, standIns := [], harness := (true, "8b942437cbab49ab5699e1d10967eea9f4b3e668330ed0b0ddd2b344beb0c10d"), looks := true }, kinds := [], alts := [], laidByText := true, laidKinds := [.data, .data, .data, .handle, .sentinel, .sentinel], laidTests := true, laidLooks := .later }
def FnRemaindersUptoCardSaid : Prop := Claim7.holds Tryz.pinned (.plain (OpenSpec.upto fnRemaindersSpec)) fnRemaindersUptoCard

/-- THE SECOND FORM's CARD OF 'laws.FnNumberTexts'. -/
def fnNumberTextsUptoCard : Claim7 := { stood := { row := fnNumberTextsUptoRow, standIns := [], harness := (true, "8b942437cbab49ab5699e1d10967eea9f4b3e668330ed0b0ddd2b344beb0c10d"), looks := true }, kinds := [], alts := [], laidByText := true, laidKinds := [.data, .data, .data, .handle, .sentinel, .sentinel], laidTests := true, laidLooks := .later }
def FnNumberTextsUptoCardSaid : Prop := Claim7.holds Tryz.pinned (.plain (OpenSpec.upto fnNumberTextsSpec)) fnNumberTextsUptoCard

/-- THE SECOND FORM's CARD OF 'laws.FnExactFromPoly'. -/
def fnExactFromPolyUptoCard : Claim7 := { stood := { row := fnExactFromPolyUptoRow, standIns := [], harness := (true, "8b942437cbab49ab5699e1d10967eea9f4b3e668330ed0b0ddd2b344beb0c10d"), looks := true }, kinds := [], alts := [], laidByText := true, laidKinds := [.data, .data, .data, .handle, .sentinel, .sentinel], laidTests := true, laidLooks := .later }
def FnExactFromPolyUptoCardSaid : Prop := Claim7.holds Tryz.pinned (.plain (OpenSpec.upto fnExactFromPolySpec)) fnExactFromPolyUptoCard

/-- THE SECOND FORM's CARD OF 'laws.FnExactValidAutomaton'. -/
def fnExactValidAutomatonUptoCard : Claim7 := { stood := { row := fnExactValidAutomatonUptoRow, standIns := [], harness := (true, "8b942437cbab49ab5699e1d10967eea9f4b3e668330ed0b0ddd2b344beb0c10d"), looks := true }, kinds := [], alts := [], laidByText := true, laidKinds := [.handle, .sentinel, .sentinel], laidTests := true, laidLooks := .later }
def FnExactValidAutomatonUptoCardSaid : Prop := Claim7.holds Tryz.pinned (.plain (OpenSpec.upto fnExactValidAutomatonSpec)) fnExactValidAutomatonUptoCard

/-- THE SECOND FORM's CARD OF 'laws.FnExactAutomatonText'. -/
def fnExactAutomatonTextUptoCard : Claim7 := { stood := { row := fnExactAutomatonTextUptoRow, standIns := [], harness := (true, "8b942437cbab49ab5699e1d10967eea9f4b3e668330ed0b0ddd2b344beb0c10d"), looks := true }, kinds := [], alts := [], laidByText := true, laidKinds := [.handle, .sentinel, .sentinel], laidTests := true, laidLooks := .later }
def FnExactAutomatonTextUptoCardSaid : Prop := Claim7.holds Tryz.pinned (.plain (OpenSpec.upto fnExactAutomatonTextSpec)) fnExactAutomatonTextUptoCard

/-- THE SECOND FORM's CARD OF 'laws.FnExactReadPoly'. -/
def fnExactReadPolyUptoCard : Claim7 := { stood := { row := fnExactReadPolyUptoRow, standIns := [], harness := (true, "8b942437cbab49ab5699e1d10967eea9f4b3e668330ed0b0ddd2b344beb0c10d"), looks := true }, kinds := [], alts := [], laidByText := true, laidKinds := [.data, .data, .data, .handle, .sentinel, .sentinel, .sentinel, .sentinel], laidTests := true, laidLooks := .later }
def FnExactReadPolyUptoCardSaid : Prop := Claim7.holds Tryz.pinned (.plain (OpenSpec.upto fnExactReadPolySpec)) fnExactReadPolyUptoCard
end Rows
end Go.Proofs.YtdkjcdfkoahfkaaGreatDoor
