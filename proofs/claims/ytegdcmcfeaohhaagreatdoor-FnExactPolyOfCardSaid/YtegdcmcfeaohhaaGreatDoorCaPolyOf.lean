/- Closed facts of the given row of FnExactPolyOf. -/
import Derived.Test.YtegdcmcfeaohhaaGreatDoorTie
import Derived.Test.YtegdcmcfeaohhaaGreatDoorCards
import Derived.ProofKit
import Derived.LaidMore
import Derived.LaidHandle
import Derived.OpenShut
import Derived.ChangeVars
import Derived.ChangeMaps5
import Derived.Stop.Joined
import Derived.Stop.JoinedAt
import Derived.Stop.Texts
import Derived.Stop.ErrReads
import Derived.Stop.LaidErr
import Derived.SevenTiedAt
namespace Go.Proofs.YtegdcmcfeaohhaaGreatDoor.RowPolyOf
open Go Go.ChangeShapes Go.WideShapes Go.ChangeAt Go.RowKit

theorem t_named : Tryz.pinned.checked.prog.funcNamed Rows.fnExactPolyOfRow.func = some 10 := by kernel_rfl
theorem t_closed : joinedFacts Tryz.pinned.checked.prog 10 Tryz.f10 Rows.fnExactPolyOfSpec Rows.fnExactPolyOfRow = true := by kernel_rfl
end Go.Proofs.YtegdcmcfeaohhaaGreatDoor.RowPolyOf
