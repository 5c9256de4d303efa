/-
  DERIVED. GIVEN WITH THE SEED: THE CARDS: each row of YtbglfendcpbjpaaGreatDoorRows.lean that lists a variable, with what it lists TIED to the program's text (the seventh form; the later family's looks); each row that meets fmt, with fmt's text TOLD by the authors' own Lean function (tested against real Go, not proved from fmt's source: count such statements apart). THE CARD IS WHAT COUNTS. Prove the row's statement (the work); the ties are given (YtbglfendcpbjpaaGreatDoorTie.lean); close each card by the builder's one call (the guide's Derived/Test/ToyasCard.lean, 'card_holds'). Laid BY PROGRAM, IN A SANDBOX (cutbox-door.mjs). By AI agents, Wed Nov 11 2026. No macro, syntax, notation, axiom, sorry.
-/
import Derived.Test.YtbglfendcpbjpaaGreatDoorRows
import GoSem.ClaimSeven
namespace Go.Proofs.YtbglfendcpbjpaaGreatDoor
namespace Rows

/-- THE TIED CARD OF 'laws.FnExactAddNumbers'. -/
def fnExactAddNumbersCard : Claim7 := { stood := { row := fnExactAddNumbersRow, standIns := [], harness := (true, "6e8e5173854cf197b8bc44c0cf99e61b4dc60e47fd03b2ac229de1ddbc0df56a"), looks := true }, kinds := [], alts := [], laidByText := true, laidKinds := [.data, .data, .data, .handle, .sentinel, .sentinel], laidTests := true, laidLooks := .later }
def FnExactAddNumbersCardSaid : Prop := Claim7.holds Tryz.pinned (.plain (OpenSpec.ofChange fnExactAddNumbersSpec)) fnExactAddNumbersCard

/-- THE TIED CARD OF 'laws.FnExactSubNumbers'. -/
def fnExactSubNumbersCard : Claim7 := { stood := { row := fnExactSubNumbersRow, standIns := [], harness := (true, "6e8e5173854cf197b8bc44c0cf99e61b4dc60e47fd03b2ac229de1ddbc0df56a"), looks := true }, kinds := [], alts := [], laidByText := true, laidKinds := [.data, .data, .data, .handle, .sentinel, .sentinel], laidTests := true, laidLooks := .later }
def FnExactSubNumbersCardSaid : Prop := Claim7.holds Tryz.pinned (.plain (OpenSpec.ofChange fnExactSubNumbersSpec)) fnExactSubNumbersCard

/-- THE TIED CARD OF 'laws.FnExactMulNumbers'. -/
def fnExactMulNumbersCard : Claim7 := { stood := { row := fnExactMulNumbersRow, standIns := [], harness := (true, "6e8e5173854cf197b8bc44c0cf99e61b4dc60e47fd03b2ac229de1ddbc0df56a"), looks := true }, kinds := [], alts := [], laidByText := true, laidKinds := [.data, .data, .data, .handle, .sentinel, .sentinel], laidTests := true, laidLooks := .later }
def FnExactMulNumbersCardSaid : Prop := Claim7.holds Tryz.pinned (.plain (OpenSpec.ofChange fnExactMulNumbersSpec)) fnExactMulNumbersCard

/-- THE TIED CARD OF 'laws.FnExactDivNumbers'. -/
def fnExactDivNumbersCard : Claim7 := { stood := { row := fnExactDivNumbersRow, standIns := [], harness := (true, "6e8e5173854cf197b8bc44c0cf99e61b4dc60e47fd03b2ac229de1ddbc0df56a"), looks := true }, kinds := [], alts := [], laidByText := true, laidKinds := [.data, .data, .data, .handle, .sentinel, .sentinel], laidTests := true, laidLooks := .later }
def FnExactDivNumbersCardSaid : Prop := Claim7.holds Tryz.pinned (.plain (OpenSpec.ofChange fnExactDivNumbersSpec)) fnExactDivNumbersCard

/-- THE TIED CARD OF 'laws.FnExactFloorOf'. -/
def fnExactFloorOfCard : Claim7 := { stood := { row := fnExactFloorOfRow, standIns := [], harness := (true, "6e8e5173854cf197b8bc44c0cf99e61b4dc60e47fd03b2ac229de1ddbc0df56a"), looks := true }, kinds := [], alts := [], laidByText := true, laidKinds := [.data, .data, .data, .handle, .sentinel, .sentinel], laidTests := true, laidLooks := .later }
def FnExactFloorOfCardSaid : Prop := Claim7.holds Tryz.pinned (.plain (OpenSpec.ofChange fnExactFloorOfSpec)) fnExactFloorOfCard

/-- THE TIED CARD OF 'laws.FnExactPowerOf'. -/
def fnExactPowerOfCard : Claim7 := { stood := { row := fnExactPowerOfRow, standIns := [], harness := (true, "6e8e5173854cf197b8bc44c0cf99e61b4dc60e47fd03b2ac229de1ddbc0df56a"), looks := true }, kinds := [], alts := [], laidByText := true, laidKinds := [.data, .data, .data, .handle, .sentinel, .sentinel], laidTests := true, laidLooks := .later }
def FnExactPowerOfCardSaid : Prop := Claim7.holds Tryz.pinned (.plain (OpenSpec.ofChange fnExactPowerOfSpec)) fnExactPowerOfCard

/-- THE TIED CARD OF 'laws.FnExactGcdOf'. -/
def fnExactGcdOfCard : Claim7 := { stood := { row := fnExactGcdOfRow, standIns := [], harness := (true, "6e8e5173854cf197b8bc44c0cf99e61b4dc60e47fd03b2ac229de1ddbc0df56a"), looks := true }, kinds := [], alts := [], laidByText := true, laidKinds := [.data, .data, .data, .handle, .sentinel, .sentinel], laidTests := true, laidLooks := .later }
def FnExactGcdOfCardSaid : Prop := Claim7.holds Tryz.pinned (.plain (OpenSpec.ofChange fnExactGcdOfSpec)) fnExactGcdOfCard

/-- THE TIED CARD OF 'laws.FnExactSumNumbers'. -/
def fnExactSumNumbersCard : Claim7 := { stood := { row := fnExactSumNumbersRow, standIns := [], harness := (true, "6e8e5173854cf197b8bc44c0cf99e61b4dc60e47fd03b2ac229de1ddbc0df56a"), looks := true }, kinds := [], alts := [], laidByText := true, laidKinds := [.data, .data, .data, .handle, .sentinel, .sentinel], laidTests := true, laidLooks := .later }
def FnExactSumNumbersCardSaid : Prop := Claim7.holds Tryz.pinned (.plain (OpenSpec.ofChange fnExactSumNumbersSpec)) fnExactSumNumbersCard

/-- THE TIED CARD OF 'laws.FnExactDotNumbers'. -/
def fnExactDotNumbersCard : Claim7 := { stood := { row := fnExactDotNumbersRow, standIns := [], harness := (true, "6e8e5173854cf197b8bc44c0cf99e61b4dc60e47fd03b2ac229de1ddbc0df56a"), looks := true }, kinds := [], alts := [], laidByText := true, laidKinds := [.data, .data, .data, .handle, .sentinel, .sentinel], laidTests := true, laidLooks := .later }
def FnExactDotNumbersCardSaid : Prop := Claim7.holds Tryz.pinned (.plain (OpenSpec.ofChange fnExactDotNumbersSpec)) fnExactDotNumbersCard

/-- THE TIED CARD OF 'laws.FnExactNumbersText'. -/
def fnExactNumbersTextCard : Claim7 := { stood := { row := fnExactNumbersTextRow, standIns := [], harness := (true, "6e8e5173854cf197b8bc44c0cf99e61b4dc60e47fd03b2ac229de1ddbc0df56a"), looks := true }, kinds := [], alts := [], laidByText := true, laidKinds := [.handle, .sentinel, .sentinel], laidTests := true, laidLooks := .later }
def FnExactNumbersTextCardSaid : Prop := Claim7.holds Tryz.pinned (.plain (OpenSpec.ofChange fnExactNumbersTextSpec)) fnExactNumbersTextCard

/-- THE SECOND FORM's CARD OF 'laws.FnExactAddNumbers'. -/
def fnExactAddNumbersUptoCard : Claim7 := { stood := { row := fnExactAddNumbersUptoRow, standIns := [], harness := (true, "6e8e5173854cf197b8bc44c0cf99e61b4dc60e47fd03b2ac229de1ddbc0df56a"), looks := true }, kinds := [], alts := [], laidByText := true, laidKinds := [.data, .data, .data, .handle, .sentinel, .sentinel], laidTests := true, laidLooks := .later }
def FnExactAddNumbersUptoCardSaid : Prop := Claim7.holds Tryz.pinned (.plain (OpenSpec.upto fnExactAddNumbersSpec)) fnExactAddNumbersUptoCard

/-- THE SECOND FORM's CARD OF 'laws.FnExactSubNumbers'. -/
def fnExactSubNumbersUptoCard : Claim7 := { stood := { row := fnExactSubNumbersUptoRow, standIns := [], harness := (true, "6e8e5173854cf197b8bc44c0cf99e61b4dc60e47fd03b2ac229de1ddbc0df56a"), looks := true }, kinds := [], alts := [], laidByText := true, laidKinds := [.data, .data, .data, .handle, .sentinel, .sentinel], laidTests := true, laidLooks := .later }
def FnExactSubNumbersUptoCardSaid : Prop := Claim7.holds Tryz.pinned (.plain (OpenSpec.upto fnExactSubNumbersSpec)) fnExactSubNumbersUptoCard

/-- THE SECOND FORM's CARD OF 'laws.FnExactMulNumbers'. -/
def fnExactMulNumbersUptoCard : Claim7 := { stood := { row := fnExactMulNumbersUptoRow, standIns := [], harness := (true, "6e8e5173854cf197b8bc44c0cf99e61b4dc60e47fd03b2ac229de1ddbc0df56a"), looks := true }, kinds := [], alts := [], laidByText := true, laidKinds := [.data, .data, .data, .handle, .sentinel, .sentinel], laidTests := true, laidLooks := .later }
def FnExactMulNumbersUptoCardSaid : Prop := Claim7.holds Tryz.pinned (.plain (OpenSpec.upto fnExactMulNumbersSpec)) fnExactMulNumbersUptoCard

/-- THE SECOND FORM's CARD OF 'laws.FnExactDivNumbers'. -/
def fnExactDivNumbersUptoCard : Claim7 := { stood := { row := fnExactDivNumbersUptoRow, standIns := [], harness := (true, "6e8e5173854cf197b8bc44c0cf99e61b4dc60e47fd03b2ac229de1ddbc0df56a"), looks := true }, kinds := [], alts := [], laidByText := true, laidKinds := [.data, .data, .data, .handle, .sentinel, .sentinel], laidTests := true, laidLooks := .later }
def FnExactDivNumbersUptoCardSaid : Prop := Claim7.holds Tryz.pinned (.plain (OpenSpec.upto fnExactDivNumbersSpec)) fnExactDivNumbersUptoCard

/-- THE SECOND FORM's CARD OF 'laws.FnExactFloorOf'. -/
def fnExactFloorOfUptoCard : Claim7 := { stood := { row := fnExactFloorOfUptoRow, standIns := [], harness := (true, "6e8e5173854cf197b8bc44c0cf99e61b4dc60e47fd03b2ac229de1ddbc0df56a"), looks := true }, kinds := [], alts := [], laidByText := true, laidKinds := [.data, .data, .data, .handle, .sentinel, .sentinel], laidTests := true, laidLooks := .later }
def FnExactFloorOfUptoCardSaid : Prop := Claim7.holds Tryz.pinned (.plain (OpenSpec.upto fnExactFloorOfSpec)) fnExactFloorOfUptoCard

/-- THE SECOND FORM's CARD OF 'laws.FnExactPowerOf'. -/
def fnExactPowerOfUptoCard : Claim7 := { stood := { row := fnExactPowerOfUptoRow, standIns := [], harness := (true, "6e8e5173854cf197b8bc44c0cf99e61b4dc60e47fd03b2ac229de1ddbc0df56a"), looks := true }, kinds := [], alts := [], laidByText := true, laidKinds := [.data, .data, .data, .handle, .sentinel, .sentinel], laidTests := true, laidLooks := .later }
def FnExactPowerOfUptoCardSaid : Prop := Claim7.holds Tryz.pinned (.plain (OpenSpec.upto fnExactPowerOfSpec)) fnExactPowerOfUptoCard

/-- THE SECOND FORM's CARD OF 'laws.FnExactGcdOf'. -/
def fnExactGcdOfUptoCard : Claim7 := { stood := { row := fnExactGcdOfUptoRow, standIns := [], harness := (true, "6e8e5173854cf197b8bc44c0cf99e61b4dc60e47fd03b2ac229de1ddbc0df56a"), looks := true }, kinds := [], alts := [], laidByText := true, laidKinds := [.data, .data, .data, .handle, .sentinel, .sentinel], laidTests := true, laidLooks := .later }
def FnExactGcdOfUptoCardSaid : Prop := Claim7.holds Tryz.pinned (.plain (OpenSpec.upto fnExactGcdOfSpec)) fnExactGcdOfUptoCard

/-- THE SECOND FORM's CARD OF 'laws.FnExactSumNumbers'. -/
def fnExactSumNumbersUptoCard : Claim7 := { stood := { row := fnExactSumNumbersUptoRow, standIns := [], harness := (true, "6e8e5173854cf197b8bc44c0cf99e61b4dc60e47fd03b2ac229de1ddbc0df56a"), looks := true }, kinds := [], alts := [], laidByText := true, laidKinds := [.data, .data, .data, .handle, .sentinel, .sentinel], laidTests := true, laidLooks := .later }
def FnExactSumNumbersUptoCardSaid : Prop := Claim7.holds Tryz.pinned (.plain (OpenSpec.upto fnExactSumNumbersSpec)) fnExactSumNumbersUptoCard

/-- THE SECOND FORM's CARD OF 'laws.FnExactDotNumbers'. -/
def fnExactDotNumbersUptoCard : Claim7 := { stood := { row := fnExactDotNumbersUptoRow, standIns := [], harness := (true, "6e8e5173854cf197b8bc44c0cf99e61b4dc60e47fd03b2ac229de1ddbc0df56a"), looks := true }, kinds := [], alts := [], laidByText := true, laidKinds := [.data, .data, .data, .handle, .sentinel, .sentinel], laidTests := true, laidLooks := .later }
def FnExactDotNumbersUptoCardSaid : Prop := Claim7.holds Tryz.pinned (.plain (OpenSpec.upto fnExactDotNumbersSpec)) fnExactDotNumbersUptoCard

/-- THE SECOND FORM's CARD OF 'laws.FnExactNumbersText'. -/
def fnExactNumbersTextUptoCard : Claim7 := { stood := { row := fnExactNumbersTextUptoRow, standIns := [], harness := (true, "6e8e5173854cf197b8bc44c0cf99e61b4dc60e47fd03b2ac229de1ddbc0df56a"), looks := true }, kinds := [], alts := [], laidByText := true, laidKinds := [.handle, .sentinel, .sentinel], laidTests := true, laidLooks := .later }
def FnExactNumbersTextUptoCardSaid : Prop := Claim7.holds Tryz.pinned (.plain (OpenSpec.upto fnExactNumbersTextSpec)) fnExactNumbersTextUptoCard
end Rows
end Go.Proofs.YtbglfendcpbjpaaGreatDoor
