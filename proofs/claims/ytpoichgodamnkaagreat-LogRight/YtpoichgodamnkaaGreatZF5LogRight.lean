/- The closed facts of the row LogRight. -/
import Derived.Test.YtpoichgodamnkaaGreatZF1LogRight
import Derived.Test.YtpoichgodamnkaaGreatZF2LogRight
import Derived.Test.YtpoichgodamnkaaGreatZF3LogRight
import Derived.Test.YtpoichgodamnkaaGreatZF4LogRight
import Derived.JoinedOf
namespace Go.Proofs.YtpoichgodamnkaaGreat.logRight
open Go.RowKit
theorem closed : joinedFacts Tryz.prog 19 Tryz.f19 Rows.logRightSpec Rows.logRightRow = true := by
 unfold joinedFacts
 rw [fact1, fact2, fact3, fact4]
 kernel_rfl
end Go.Proofs.YtpoichgodamnkaaGreat.logRight
