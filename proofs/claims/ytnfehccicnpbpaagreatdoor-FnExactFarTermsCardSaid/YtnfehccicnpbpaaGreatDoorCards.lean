/-
  DERIVED. GIVEN WITH THE SEED: THE CARDS: each row of YtnfehccicnpbpaaGreatDoorRows.lean that lists a variable, with what it lists TIED to the program's text (the seventh form; the later family's looks); each row that meets fmt, with fmt's text TOLD by the authors' own Lean function (tested against real Go, not proved from fmt's source: count such statements apart). THE CARD IS WHAT COUNTS. Prove the row's statement (the work); the ties are given (YtnfehccicnpbpaaGreatDoorTie.lean); close each card by the builder's one call (the guide's Derived/Test/ToyasCard.lean, 'card_holds'). Laid BY PROGRAM, IN A SANDBOX (cutbox-door.mjs). By AI agents, Wed Nov 11 2026. No macro, syntax, notation, axiom, sorry.
-/
import Derived.Test.YtnfehccicnpbpaaGreatDoorRows
import GoSem.ClaimSeven
namespace Go.Proofs.YtnfehccicnpbpaaGreatDoor
namespace Rows

/-- THE TIED CARD OF 'laws.FnExactFarTerm'. -/
def fnExactFarTermCard : Claim7 := { stood := { row := fnExactFarTermRow, standIns := [], harness := (true, "61a5c08be7f046a34e7f0174e6e5a4facd77c121dea61454595ff50e6828c355"), looks := true }, kinds := [], alts := [], laidByText := true, laidKinds := [.handle, .sentinel, .sentinel], laidTests := true, laidLooks := .later }
def FnExactFarTermCardSaid : Prop := Claim7.holds Tryz.pinned (.plain (OpenSpec.ofChange fnExactFarTermSpec)) fnExactFarTermCard

/-- THE TIED CARD OF 'laws.FnExactFarTerms'. -/
def fnExactFarTermsCard : Claim7 := { stood := { row := fnExactFarTermsRow, standIns := [], harness := (true, "61a5c08be7f046a34e7f0174e6e5a4facd77c121dea61454595ff50e6828c355"), looks := true }, kinds := [], alts := [], laidByText := true, laidKinds := [.handle, .sentinel, .sentinel], laidTests := true, laidLooks := .later }
def FnExactFarTermsCardSaid : Prop := Claim7.holds Tryz.pinned (.plain (OpenSpec.ofChange fnExactFarTermsSpec)) fnExactFarTermsCard

/-- THE TIED CARD OF 'laws.FnExactFarSum'. -/
def fnExactFarSumCard : Claim7 := { stood := { row := fnExactFarSumRow, standIns := [], harness := (true, "61a5c08be7f046a34e7f0174e6e5a4facd77c121dea61454595ff50e6828c355"), looks := true }, kinds := [], alts := [], laidByText := true, laidKinds := [.handle, .sentinel, .sentinel], laidTests := true, laidLooks := .later }
def FnExactFarSumCardSaid : Prop := Claim7.holds Tryz.pinned (.plain (OpenSpec.ofChange fnExactFarSumSpec)) fnExactFarSumCard

/-- THE TIED CARD OF 'laws.FnExactBackTerm'. -/
def fnExactBackTermCard : Claim7 := { stood := { row := fnExactBackTermRow, standIns := [], harness := (true, "61a5c08be7f046a34e7f0174e6e5a4facd77c121dea61454595ff50e6828c355"), looks := true }, kinds := [], alts := [], laidByText := true, laidKinds := [.handle, .sentinel, .sentinel], laidTests := true, laidLooks := .later }
def FnExactBackTermCardSaid : Prop := Claim7.holds Tryz.pinned (.plain (OpenSpec.ofChange fnExactBackTermSpec)) fnExactBackTermCard

/-- THE TIED CARD OF 'laws.FnExactPeriodOf'. -/
def fnExactPeriodOfCard : Claim7 := { stood := { row := fnExactPeriodOfRow, standIns := [], harness := (true, "61a5c08be7f046a34e7f0174e6e5a4facd77c121dea61454595ff50e6828c355"), looks := true }, kinds := [], alts := [], laidByText := true, laidKinds := [.handle, .sentinel, .sentinel], laidTests := true, laidLooks := .later }
def FnExactPeriodOfCardSaid : Prop := Claim7.holds Tryz.pinned (.plain (OpenSpec.ofChange fnExactPeriodOfSpec)) fnExactPeriodOfCard

/-- THE TIED CARD OF 'laws.FnExactResiduesOf'. -/
def fnExactResiduesOfCard : Claim7 := { stood := { row := fnExactResiduesOfRow, standIns := [], harness := (true, "61a5c08be7f046a34e7f0174e6e5a4facd77c121dea61454595ff50e6828c355"), looks := true }, kinds := [], alts := [], laidByText := true, laidKinds := [.handle, .sentinel, .sentinel], laidTests := true, laidLooks := .later }
def FnExactResiduesOfCardSaid : Prop := Claim7.holds Tryz.pinned (.plain (OpenSpec.ofChange fnExactResiduesOfSpec)) fnExactResiduesOfCard

/-- THE TIED CARD OF 'laws.FnExactZeroPlaces'. -/
def fnExactZeroPlacesCard : Claim7 := { stood := { row := fnExactZeroPlacesRow, standIns := [], harness := (true, "61a5c08be7f046a34e7f0174e6e5a4facd77c121dea61454595ff50e6828c355"), looks := true }, kinds := [], alts := [], laidByText := true, laidKinds := [.handle, .sentinel, .sentinel], laidTests := true, laidLooks := .later }
def FnExactZeroPlacesCardSaid : Prop := Claim7.holds Tryz.pinned (.plain (OpenSpec.ofChange fnExactZeroPlacesSpec)) fnExactZeroPlacesCard

/-- THE TIED CARD OF 'laws.FnExactFirstZero'. -/
def fnExactFirstZeroCard : Claim7 := { stood := { row := fnExactFirstZeroRow, standIns := [], harness := (true, "61a5c08be7f046a34e7f0174e6e5a4facd77c121dea61454595ff50e6828c355"), looks := true }, kinds := [], alts := [], laidByText := true, laidKinds := [.handle, .sentinel, .sentinel], laidTests := true, laidLooks := .later }
def FnExactFirstZeroCardSaid : Prop := Claim7.holds Tryz.pinned (.plain (OpenSpec.ofChange fnExactFirstZeroSpec)) fnExactFirstZeroCard

/-- THE TIED CARD OF 'laws.FnFarTerms'. -/
def fnFarTermsCard : Claim7 := { stood := { row := fnFarTermsRow, standIns := [], harness := (true, "61a5c08be7f046a34e7f0174e6e5a4facd77c121dea61454595ff50e6828c355"), looks := true }, kinds := [], alts := [], laidByText := true, laidKinds := [.data, .data, .data, .handle, .sentinel, .sentinel], laidTests := true, laidLooks := .later }
def FnFarTermsCardSaid : Prop := Claim7.holds Tryz.pinned (.plain (OpenSpec.ofChange fnFarTermsSpec)) fnFarTermsCard

/-- THE TIED CARD OF 'laws.FnFarSums'. -/
def fnFarSumsCard : Claim7 := { stood := { row := fnFarSumsRow, standIns := [], harness := (true, "61a5c08be7f046a34e7f0174e6e5a4facd77c121dea61454595ff50e6828c355"), looks := true }, kinds := [], alts := [], laidByText := true, laidKinds := [.handle, .sentinel, .sentinel], laidTests := true, laidLooks := .later }
def FnFarSumsCardSaid : Prop := Claim7.holds Tryz.pinned (.plain (OpenSpec.ofChange fnFarSumsSpec)) fnFarSumsCard

/-- THE TIED CARD OF 'laws.FnPeriods'. -/
def fnPeriodsCard : Claim7 := { stood := { row := fnPeriodsRow, standIns := [], harness := (true, "61a5c08be7f046a34e7f0174e6e5a4facd77c121dea61454595ff50e6828c355"), looks := true }, kinds := [], alts := [], laidByText := true, laidKinds := [.handle, .sentinel, .sentinel], laidTests := true, laidLooks := .later }
def FnPeriodsCardSaid : Prop := Claim7.holds Tryz.pinned (.plain (OpenSpec.ofChange fnPeriodsSpec)) fnPeriodsCard

/-- THE TIED CARD OF 'laws.FnBackTerms'. -/
def fnBackTermsCard : Claim7 := { stood := { row := fnBackTermsRow, standIns := [], harness := (true, "61a5c08be7f046a34e7f0174e6e5a4facd77c121dea61454595ff50e6828c355"), looks := true }, kinds := [], alts := [], laidByText := true, laidKinds := [.handle, .sentinel, .sentinel], laidTests := true, laidLooks := .later }
def FnBackTermsCardSaid : Prop := Claim7.holds Tryz.pinned (.plain (OpenSpec.ofChange fnBackTermsSpec)) fnBackTermsCard

/-- THE SECOND FORM's CARD OF 'laws.FnExactFarTerm'. -/
def fnExactFarTermUptoCard : Claim7 := { stood := { row := fnExactFarTermUptoRow, standIns := [], harness := (true, "61a5c08be7f046a34e7f0174e6e5a4facd77c121dea61454595ff50e6828c355"), looks := true }, kinds := [], alts := [], laidByText := true, laidKinds := [.handle, .sentinel, .sentinel], laidTests := true, laidLooks := .later }
def FnExactFarTermUptoCardSaid : Prop := Claim7.holds Tryz.pinned (.plain (OpenSpec.upto fnExactFarTermSpec)) fnExactFarTermUptoCard

/-- THE SECOND FORM's CARD OF 'laws.FnExactFarTerms'. -/
def fnExactFarTermsUptoCard : Claim7 := { stood := { row := fnExactFarTermsUptoRow, standIns := [], harness := (true, "61a5c08be7f046a34e7f0174e6e5a4facd77c121dea61454595ff50e6828c355"), looks := true }, kinds := [], alts := [], laidByText := true, laidKinds := [.handle, .sentinel, .sentinel], laidTests := true, laidLooks := .later }
def FnExactFarTermsUptoCardSaid : Prop := Claim7.holds Tryz.pinned (.plain (OpenSpec.upto fnExactFarTermsSpec)) fnExactFarTermsUptoCard

/-- THE SECOND FORM's CARD OF 'laws.FnExactFarSum'. -/
def fnExactFarSumUptoCard : Claim7 := { stood := { row := fnExactFarSumUptoRow, standIns := [], harness := (true, "61a5c08be7f046a34e7f0174e6e5a4facd77c121dea61454595ff50e6828c355"), looks := true }, kinds := [], alts := [], laidByText := true, laidKinds := [.handle, .sentinel, .sentinel], laidTests := true, laidLooks := .later }
def FnExactFarSumUptoCardSaid : Prop := Claim7.holds Tryz.pinned (.plain (OpenSpec.upto fnExactFarSumSpec)) fnExactFarSumUptoCard

/-- THE SECOND FORM's CARD OF 'laws.FnExactBackTerm'. -/
def fnExactBackTermUptoCard : Claim7 := { stood := { row := fnExactBackTermUptoRow, standIns := [], harness := (true, "61a5c08be7f046a34e7f0174e6e5a4facd77c121dea61454595ff50e6828c355"), looks := true }, kinds := [], alts := [], laidByText := true, laidKinds := [.handle, .sentinel, .sentinel], laidTests := true, laidLooks := .later }
def FnExactBackTermUptoCardSaid : Prop := Claim7.holds Tryz.pinned (.plain (OpenSpec.upto fnExactBackTermSpec)) fnExactBackTermUptoCard

/-- THE SECOND FORM's CARD OF 'laws.FnExactPeriodOf'. -/
def fnExactPeriodOfUptoCard : Claim7 := { stood := { row := fnExactPeriodOfUptoRow, standIns := [], harness := (true, "61a5c08be7f046a34e7f0174e6e5a4facd77c121dea61454595ff50e6828c355"), looks := true }, kinds := [], alts := [], laidByText := true, laidKinds := [.handle, .sentinel, .sentinel], laidTests := true, laidLooks := .later }
def FnExactPeriodOfUptoCardSaid : Prop := Claim7.holds Tryz.pinned (.plain (OpenSpec.upto fnExactPeriodOfSpec)) fnExactPeriodOfUptoCard

/-- THE SECOND FORM's CARD OF 'laws.FnExactResiduesOf'. -/
def fnExactResiduesOfUptoCard : Claim7 := { stood := { row := fnExactResiduesOfUptoRow, standIns := [], harness := (true, "61a5c08be7f046a34e7f0174e6e5a4facd77c121dea61454595ff50e6828c355"), looks := true }, kinds := [], alts := [], laidByText := true, laidKinds := [.handle, .sentinel, .sentinel], laidTests := true, laidLooks := .later }
def FnExactResiduesOfUptoCardSaid : Prop := Claim7.holds Tryz.pinned (.plain (OpenSpec.upto fnExactResiduesOfSpec)) fnExactResiduesOfUptoCard

/-- THE SECOND FORM's CARD OF 'laws.FnExactZeroPlaces'. -/
def fnExactZeroPlacesUptoCard : Claim7 := { stood := { row := fnExactZeroPlacesUptoRow, standIns := [], harness := (true, "61a5c08be7f046a34e7f0174e6e5a4facd77c121dea61454595ff50e6828c355"), looks := true }, kinds := [], alts := [], laidByText := true, laidKinds := [.handle, .sentinel, .sentinel], laidTests := true, laidLooks := .later }
def FnExactZeroPlacesUptoCardSaid : Prop := Claim7.holds Tryz.pinned (.plain (OpenSpec.upto fnExactZeroPlacesSpec)) fnExactZeroPlacesUptoCard

/-- THE SECOND FORM's CARD OF 'laws.FnExactFirstZero'. -/
def fnExactFirstZeroUptoCard : Claim7 := { stood := { row := fnExactFirstZeroUptoRow, standIns := [], harness := (true, "61a5c08be7f046a34e7f0174e6e5a4facd77c121dea61454595ff50e6828c355"), looks := true }, kinds := [], alts := [], laidByText := true, laidKinds := [.handle, .sentinel, .sentinel], laidTests := true, laidLooks := .later }
def FnExactFirstZeroUptoCardSaid : Prop := Claim7.holds Tryz.pinned (.plain (OpenSpec.upto fnExactFirstZeroSpec)) fnExactFirstZeroUptoCard

/-- THE SECOND FORM's CARD OF 'laws.FnFarTerms'. -/
def fnFarTermsUptoCard : Claim7 := { stood := { row := fnFarTermsUptoRow, standIns := [], harness := (true, "61a5c08be7f046a34e7f0174e6e5a4facd77c121dea61454595ff50e6828c355"), looks := true }, kinds := [], alts := [], laidByText := true, laidKinds := [.data, .data, .data, .handle, .sentinel, .sentinel], laidTests := true, laidLooks := .later }
def FnFarTermsUptoCardSaid : Prop := Claim7.holds Tryz.pinned (.plain (OpenSpec.upto fnFarTermsSpec)) fnFarTermsUptoCard

/-- THE SECOND FORM's CARD OF 'laws.FnFarSums'. -/
def fnFarSumsUptoCard : Claim7 := { stood := { row := fnFarSumsUptoRow, standIns := [], harness := (true, "61a5c08be7f046a34e7f0174e6e5a4facd77c121dea61454595ff50e6828c355"), looks := true }, kinds := [], alts := [], laidByText := true, laidKinds := [.handle, .sentinel, .sentinel], laidTests := true, laidLooks := .later }
def FnFarSumsUptoCardSaid : Prop := Claim7.holds Tryz.pinned (.plain (OpenSpec.upto fnFarSumsSpec)) fnFarSumsUptoCard

/-- THE SECOND FORM's CARD OF 'laws.FnPeriods'. -/
def fnPeriodsUptoCard : Claim7 := { stood := { row := fnPeriodsUptoRow, standIns := [], harness := (true, "61a5c08be7f046a34e7f0174e6e5a4facd77c121dea61454595ff50e6828c355"), looks := true }, kinds := [], alts := [], laidByText := true, laidKinds := [.handle, .sentinel, .sentinel], laidTests := true, laidLooks := .later }
def FnPeriodsUptoCardSaid : Prop := Claim7.holds Tryz.pinned (.plain (OpenSpec.upto fnPeriodsSpec)) fnPeriodsUptoCard

/-- THE SECOND FORM's CARD OF 'laws.FnBackTerms'. -/
def fnBackTermsUptoCard : Claim7 := { stood := { row := fnBackTermsUptoRow, standIns := [], harness := (true, "61a5c08be7f046a34e7f0174e6e5a4facd77c121dea61454595ff50e6828c355"), looks := true }, kinds := [], alts := [], laidByText := true, laidKinds := [.handle, .sentinel, .sentinel], laidTests := true, laidLooks := .later }
def FnBackTermsUptoCardSaid : Prop := Claim7.holds Tryz.pinned (.plain (OpenSpec.upto fnBackTermsSpec)) fnBackTermsUptoCard
end Rows
end Go.Proofs.YtnfehccicnpbpaaGreatDoor
