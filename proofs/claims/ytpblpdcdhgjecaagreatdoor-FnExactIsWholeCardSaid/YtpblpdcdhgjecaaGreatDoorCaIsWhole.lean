/- Closed facts of the given row of FnExactIsWhole. -/
import Derived.Test.YtpblpdcdhgjecaaGreatDoorTie
import Derived.Test.YtpblpdcdhgjecaaGreatDoorCards
import Derived.ProofKit
import Derived.LaidMore
import Derived.LaidHandle
import Derived.OpenShut
import Derived.ChangeVars
import Derived.ChangeMaps5
import Derived.Stop.Joined
import Derived.Stop.JoinedAt
import Derived.Stop.Texts
import Derived.Stop.ErrReads
import Derived.Stop.LaidErr
import Derived.SevenTiedAt
namespace Go.Proofs.YtpblpdcdhgjecaaGreatDoor.RowIsWhole
open Go Go.ChangeShapes Go.WideShapes Go.ChangeAt Go.RowKit

theorem t_named : Tryz.pinned.checked.prog.funcNamed Rows.fnExactIsWholeRow.func = some 13 := by kernel_rfl
theorem t_closed : joinedFacts Tryz.pinned.checked.prog 13 Tryz.f13 Rows.fnExactIsWholeSpec Rows.fnExactIsWholeRow = true := by kernel_rfl
end Go.Proofs.YtpblpdcdhgjecaaGreatDoor.RowIsWhole
