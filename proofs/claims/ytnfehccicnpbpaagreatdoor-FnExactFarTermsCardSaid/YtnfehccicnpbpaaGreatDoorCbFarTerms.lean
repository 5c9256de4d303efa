/- Closed facts of the given row of FnExactFarTerms. -/
import Derived.Test.YtnfehccicnpbpaaGreatDoorTie
import Derived.Test.YtnfehccicnpbpaaGreatDoorCards
import Derived.ProofKit
import Derived.LaidMore
import Derived.LaidHandle
import Derived.OpenShut
import Derived.ChangeVars
import Derived.ChangeMaps5
import Derived.Stop.Joined
import Derived.Stop.JoinedAt
import Derived.Stop.Texts
import Derived.Stop.ErrReads
import Derived.Stop.LaidErr
import Derived.SevenTiedAt
namespace Go.Proofs.YtnfehccicnpbpaaGreatDoor.RowFarTerms
open Go Go.ChangeShapes Go.WideShapes Go.ChangeAt Go.RowKit

theorem t_looks : true = Tryz.pinned.checked.prog.looks [] := by kernel_rfl
theorem t_goes : false = Rows.fnExactFarTermsRow.goesBy Tryz.pinned.checked.prog := by kernel_rfl
theorem door_met (os : Os) (args : Array Value) : laidMetH Tryz.prog Rows.fnExactFarTermsRow.laid ((World.doorLaid Tryz.prog 400 os).forCall (fun _ _ => 0) ⟨#[], args, []⟩).memory :=
  laidMetH_of_parts3 (fuel := 8) (laidMet_of_run' 8 (by kernel_rfl) (by kernel_rfl)) (by kernel_rfl) (by kernel_rfl)

end Go.Proofs.YtnfehccicnpbpaaGreatDoor.RowFarTerms
