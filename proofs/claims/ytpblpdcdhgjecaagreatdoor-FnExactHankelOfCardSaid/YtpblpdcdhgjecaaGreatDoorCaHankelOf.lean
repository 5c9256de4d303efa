/- Closed facts of the given row of FnExactHankelOf. -/
import Derived.Test.YtpblpdcdhgjecaaGreatDoorTie
import Derived.Test.YtpblpdcdhgjecaaGreatDoorCards
import Derived.ProofKit
import Derived.LaidMore
import Derived.LaidHandle
import Derived.OpenShut
import Derived.ChangeVars
import Derived.ChangeMaps5
import Derived.Stop.Joined
import Derived.Stop.JoinedAt
import Derived.Stop.Texts
import Derived.Stop.ErrReads
import Derived.Stop.LaidErr
import Derived.SevenTiedAt
namespace Go.Proofs.YtpblpdcdhgjecaaGreatDoor.RowHankelOf
open Go Go.ChangeShapes Go.WideShapes Go.ChangeAt Go.RowKit

theorem t_named : Tryz.pinned.checked.prog.funcNamed Rows.fnExactHankelOfRow.func = some 9 := by kernel_rfl
theorem t_closed : joinedFacts Tryz.pinned.checked.prog 9 Tryz.f9 Rows.fnExactHankelOfSpec Rows.fnExactHankelOfRow = true := by kernel_rfl
end Go.Proofs.YtpblpdcdhgjecaaGreatDoor.RowHankelOf
