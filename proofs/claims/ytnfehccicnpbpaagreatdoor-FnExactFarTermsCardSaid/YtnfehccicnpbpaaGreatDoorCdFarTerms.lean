/- Closed facts of the given row of FnExactFarTerms. -/
import Derived.Test.YtnfehccicnpbpaaGreatDoorTie
import Derived.Test.YtnfehccicnpbpaaGreatDoorCards
import Derived.ProofKit
import Derived.LaidMore
import Derived.LaidHandle
import Derived.OpenShut
import Derived.ChangeVars
import Derived.ChangeMaps5
import Derived.Stop.Joined
import Derived.Stop.JoinedAt
import Derived.Stop.Texts
import Derived.Stop.ErrReads
import Derived.Stop.LaidErr
import Derived.SevenTiedAt
namespace Go.Proofs.YtnfehccicnpbpaaGreatDoor.RowFarTerms
open Go Go.ChangeShapes Go.WideShapes Go.ChangeAt Go.RowKit
theorem j13 : ((Rows.fnExactFarTermsRow.maps == (Tryz.f4.params.toList ++ Rows.fnExactFarTermsSpec.plain.varTypes Tryz.pinned.checked.prog).any (Tryz.pinned.checked.prog.mapsRec ·))) = true := by kernel_rfl
theorem j14 : ((Rows.fnExactFarTermsRow.ifaces == (Tryz.f4.params.toList ++ Rows.fnExactFarTermsSpec.plain.varTypes Tryz.pinned.checked.prog).any (Tryz.pinned.checked.prog.ifacesRec ·))) = true := by kernel_rfl
theorem j15 : ((Rows.fnExactFarTermsRow.mapsOut == Tryz.pinned.checked.prog.mapsAmong Tryz.f4.resultTypes.toList)) = true := by kernel_rfl
theorem j16 : ((Rows.fnExactFarTermsRow.loops == (Tryz.f4.params.toList ++ Rows.fnExactFarTermsSpec.plain.varTypes Tryz.pinned.checked.prog).any (Tryz.pinned.checked.prog.loopsFrom ·))) = true := by kernel_rfl
theorem j17 : ((Rows.fnExactFarTermsRow.wideKeys == (Tryz.f4.params.toList ++ Rows.fnExactFarTermsSpec.plain.varTypes Tryz.pinned.checked.prog ++ Tryz.f4.resultTypes.toList).any (Tryz.pinned.checked.prog.wideKeysFrom ·))) = true := by kernel_rfl
end Go.Proofs.YtnfehccicnpbpaaGreatDoor.RowFarTerms
