/- Closed facts of the given row of FnExactIsRecurrenceOf. -/
import Derived.Test.YtegdcmcfeaohhaaGreatDoorTie
import Derived.Test.YtegdcmcfeaohhaaGreatDoorCards
import Derived.ProofKit
import Derived.LaidMore
import Derived.LaidHandle
import Derived.OpenShut
import Derived.ChangeVars
import Derived.ChangeMaps5
import Derived.Stop.Joined
import Derived.Stop.JoinedAt
import Derived.Stop.Texts
import Derived.Stop.ErrReads
import Derived.Stop.LaidErr
import Derived.SevenTiedAt
namespace Go.Proofs.YtegdcmcfeaohhaaGreatDoor.RowIsRecurrenceOf
open Go Go.ChangeShapes Go.WideShapes Go.ChangeAt Go.RowKit

theorem t_named : Tryz.pinned.checked.prog.funcNamed Rows.fnExactIsRecurrenceOfRow.func = some 12 := by kernel_rfl
theorem t_closed : joinedFacts Tryz.pinned.checked.prog 12 Tryz.f12 Rows.fnExactIsRecurrenceOfSpec Rows.fnExactIsRecurrenceOfRow = true := by kernel_rfl
end Go.Proofs.YtegdcmcfeaohhaaGreatDoor.RowIsRecurrenceOf
