/- Closed facts of the given row of FnExactTermsOf. -/
import Derived.Test.YtegdcmcfeaohhaaGreatDoorTie
import Derived.Test.YtegdcmcfeaohhaaGreatDoorCards
import Derived.ProofKit
import Derived.LaidMore
import Derived.LaidHandle
import Derived.OpenShut
import Derived.ChangeVars
import Derived.ChangeMaps5
import Derived.Stop.Joined
import Derived.Stop.JoinedAt
import Derived.Stop.Texts
import Derived.Stop.ErrReads
import Derived.Stop.LaidErr
import Derived.SevenTiedAt
namespace Go.Proofs.YtegdcmcfeaohhaaGreatDoor.RowTermsOf
open Go Go.ChangeShapes Go.WideShapes Go.ChangeAt Go.RowKit

theorem t_named : Tryz.pinned.checked.prog.funcNamed Rows.fnExactTermsOfRow.func = some 11 := by kernel_rfl
theorem t_closed : joinedFacts Tryz.pinned.checked.prog 11 Tryz.f11 Rows.fnExactTermsOfSpec Rows.fnExactTermsOfRow = true := by kernel_rfl
end Go.Proofs.YtegdcmcfeaohhaaGreatDoor.RowTermsOf
