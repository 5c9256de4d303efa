/- Closed facts of the given row of FnExactFirstZero. -/
import Derived.Test.YtnfehccicnpbpaaGreatDoorTie
import Derived.Test.YtnfehccicnpbpaaGreatDoorCards
import Derived.ProofKit
import Derived.LaidMore
import Derived.LaidHandle
import Derived.OpenShut
import Derived.ChangeVars
import Derived.ChangeMaps5
import Derived.Stop.Joined
import Derived.Stop.JoinedAt
import Derived.Stop.Texts
import Derived.Stop.ErrReads
import Derived.Stop.LaidErr
import Derived.SevenTiedAt
namespace Go.Proofs.YtnfehccicnpbpaaGreatDoor.RowFirstZero
open Go Go.ChangeShapes Go.WideShapes Go.ChangeAt Go.RowKit
theorem j13 : ((Rows.fnExactFirstZeroRow.maps == (Tryz.f10.params.toList ++ Rows.fnExactFirstZeroSpec.plain.varTypes Tryz.pinned.checked.prog).any (Tryz.pinned.checked.prog.mapsRec ·))) = true := by kernel_rfl
theorem j14 : ((Rows.fnExactFirstZeroRow.ifaces == (Tryz.f10.params.toList ++ Rows.fnExactFirstZeroSpec.plain.varTypes Tryz.pinned.checked.prog).any (Tryz.pinned.checked.prog.ifacesRec ·))) = true := by kernel_rfl
theorem j15 : ((Rows.fnExactFirstZeroRow.mapsOut == Tryz.pinned.checked.prog.mapsAmong Tryz.f10.resultTypes.toList)) = true := by kernel_rfl
theorem j16 : ((Rows.fnExactFirstZeroRow.loops == (Tryz.f10.params.toList ++ Rows.fnExactFirstZeroSpec.plain.varTypes Tryz.pinned.checked.prog).any (Tryz.pinned.checked.prog.loopsFrom ·))) = true := by kernel_rfl
theorem j17 : ((Rows.fnExactFirstZeroRow.wideKeys == (Tryz.f10.params.toList ++ Rows.fnExactFirstZeroSpec.plain.varTypes Tryz.pinned.checked.prog ++ Tryz.f10.resultTypes.toList).any (Tryz.pinned.checked.prog.wideKeysFrom ·))) = true := by kernel_rfl
end Go.Proofs.YtnfehccicnpbpaaGreatDoor.RowFirstZero
