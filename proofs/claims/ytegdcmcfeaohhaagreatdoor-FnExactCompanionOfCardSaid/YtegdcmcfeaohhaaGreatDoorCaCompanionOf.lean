/- Closed facts of the given row of FnExactCompanionOf. -/
import Derived.Test.YtegdcmcfeaohhaaGreatDoorTie
import Derived.Test.YtegdcmcfeaohhaaGreatDoorCards
import Derived.ProofKit
import Derived.LaidMore
import Derived.LaidHandle
import Derived.OpenShut
import Derived.ChangeVars
import Derived.ChangeMaps5
import Derived.Stop.Joined
import Derived.Stop.JoinedAt
import Derived.Stop.Texts
import Derived.Stop.ErrReads
import Derived.Stop.LaidErr
import Derived.SevenTiedAt
namespace Go.Proofs.YtegdcmcfeaohhaaGreatDoor.RowCompanionOf
open Go Go.ChangeShapes Go.WideShapes Go.ChangeAt Go.RowKit

theorem t_named : Tryz.pinned.checked.prog.funcNamed Rows.fnExactCompanionOfRow.func = some 13 := by kernel_rfl
theorem t_closed : joinedFacts Tryz.pinned.checked.prog 13 Tryz.f13 Rows.fnExactCompanionOfSpec Rows.fnExactCompanionOfRow = true := by kernel_rfl
end Go.Proofs.YtegdcmcfeaohhaaGreatDoor.RowCompanionOf
