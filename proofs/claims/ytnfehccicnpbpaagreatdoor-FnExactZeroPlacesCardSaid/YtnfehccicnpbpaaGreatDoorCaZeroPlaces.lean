/- Closed facts of the given row of FnExactZeroPlaces. -/
import Derived.Test.YtnfehccicnpbpaaGreatDoorTie
import Derived.Test.YtnfehccicnpbpaaGreatDoorCards
import Derived.ProofKit
import Derived.LaidMore
import Derived.LaidHandle
import Derived.OpenShut
import Derived.ChangeVars
import Derived.ChangeMaps5
import Derived.Stop.Joined
import Derived.Stop.JoinedAt
import Derived.Stop.Texts
import Derived.Stop.ErrReads
import Derived.Stop.LaidErr
import Derived.SevenTiedAt
import Derived.Test.YtnfehccicnpbpaaGreatDoorCcZeroPlaces
import Derived.Test.YtnfehccicnpbpaaGreatDoorCdZeroPlaces
namespace Go.Proofs.YtnfehccicnpbpaaGreatDoor.RowZeroPlaces
open Go Go.ChangeShapes Go.WideShapes Go.ChangeAt Go.RowKit
theorem j18 : (Rows.fnExactZeroPlacesSpec.vars.all (Tryz.pinned.checked.prog.varReadable ·)) = true := by kernel_rfl
theorem j19 : (Tryz.f9.resultTypes.all (fun t => Tryz.pinned.checked.prog.readableRec t && decide (t < Tryz.pinned.checked.prog.types.size))) = true := by kernel_rfl
theorem j20 : ((Rows.fnExactZeroPlacesRow.ifacesOut == Tryz.f9.resultTypes.toList.any (Tryz.pinned.checked.prog.ifacesRec ·))) = true := by kernel_rfl
theorem j21 : ((Rows.fnExactZeroPlacesRow.loopsOut == Tryz.f9.resultTypes.toList.any (Tryz.pinned.checked.prog.loopsFrom ·))) = true := by kernel_rfl
theorem j22 : ((Rows.fnExactZeroPlacesRow.plainKeys == Tryz.pinned.checked.prog.plainKeys)) = true := by kernel_rfl
theorem j23 : (Rows.fnExactZeroPlacesRow.shortTexts.isNone) = true := by kernel_rfl
theorem j24 : (Tryz.pinned.checked.prog.stopsHeard) = true := by kernel_rfl
theorem j25 : (Tryz.pinned.checked.prog.mayEnter) = true := by kernel_rfl
theorem j26 : ((Rows.fnExactZeroPlacesRow.lifted == Tryz.pinned.checked.prog.liftsFinal)) = true := by kernel_rfl
theorem j27 : ((Tryz.pinned.checked.prog.make == some Rows.fnExactZeroPlacesRow.make)) = true := by kernel_rfl
theorem j28 : ((Rows.fnExactZeroPlacesRow.kinds == (if Rows.fnExactZeroPlacesRow.domain.isEmpty then [] else Tryz.f9.params.toList.map fun t => match Tryz.pinned.checked.prog.underlying t with | some (.int k) => some k | _ => none))) = true := by kernel_rfl
theorem j29 : ((Rows.fnExactZeroPlacesRow.pinned == Rows.fnExactZeroPlacesRow.pinnedBy)) = true := by kernel_rfl
theorem j30 : ((Rows.fnExactZeroPlacesRow.veiled == (Tryz.f9.params.toList ++ Rows.fnExactZeroPlacesSpec.plain.varTypes Tryz.pinned.checked.prog ++ Tryz.f9.resultTypes.toList).any (Tryz.pinned.checked.prog.veiledRec ·))) = true := by kernel_rfl
theorem j31 : (Rows.fnExactZeroPlacesRow.veiledFits Tryz.pinned.checked.prog Tryz.f9.params.toList (Tryz.f9.params.toList ++ Rows.fnExactZeroPlacesSpec.plain.varTypes Tryz.pinned.checked.prog ++ Tryz.f9.resultTypes.toList)) = true := by kernel_rfl
theorem t_named : Tryz.pinned.checked.prog.funcNamed Rows.fnExactZeroPlacesRow.func = some 9 := by kernel_rfl
theorem and_t {a b : Bool} (h1 : a = true) (h2 : b = true) : (a && b) = true := by rw [h1, h2]; rfl
set_option maxRecDepth 100000 in
theorem t_closed : joinedFacts Tryz.pinned.checked.prog 9 Tryz.f9 Rows.fnExactZeroPlacesSpec Rows.fnExactZeroPlacesRow = true := by
  unfold joinedFacts
  exact (and_t (and_t (and_t (and_t (and_t (and_t (and_t (and_t (and_t (and_t (and_t (and_t (and_t (and_t (and_t (and_t (and_t (and_t (and_t (and_t (and_t (and_t (and_t (and_t (and_t (and_t (and_t (and_t (and_t (and_t (and_t j0 j1) j2) j3) j4) j5) j6) j7) j8) j9) j10) j11) j12) j13) j14) j15) j16) j17) j18) j19) j20) j21) j22) j23) j24) j25) j26) j27) j28) j29) j30) j31)
end Go.Proofs.YtnfehccicnpbpaaGreatDoor.RowZeroPlaces
