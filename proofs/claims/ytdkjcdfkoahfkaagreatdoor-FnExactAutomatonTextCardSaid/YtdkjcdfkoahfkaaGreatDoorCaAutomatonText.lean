/- Closed facts of the given row of FnExactAutomatonText. -/
import Derived.Test.YtdkjcdfkoahfkaaGreatDoorTie
import Derived.Test.YtdkjcdfkoahfkaaGreatDoorCards
import Derived.ProofKit
import Derived.LaidMore
import Derived.LaidHandle
import Derived.OpenShut
import Derived.ChangeVars
import Derived.ChangeMaps5
import Derived.Stop.Joined
import Derived.Stop.JoinedAt
import Derived.Stop.Texts
import Derived.Stop.ErrReads
import Derived.Stop.LaidErr
import Derived.SevenTiedAt
namespace Go.Proofs.YtdkjcdfkoahfkaaGreatDoor.RowAutomatonText
open Go Go.ChangeShapes Go.WideShapes Go.ChangeAt Go.RowKit

theorem t_named : Tryz.pinned.checked.prog.funcNamed Rows.fnExactAutomatonTextRow.func = some 8 := by kernel_rfl
theorem t_closed : joinedFacts Tryz.pinned.checked.prog 8 Tryz.f8 Rows.fnExactAutomatonTextSpec Rows.fnExactAutomatonTextRow = true := by kernel_rfl
end Go.Proofs.YtdkjcdfkoahfkaaGreatDoor.RowAutomatonText
