/- The closed facts of the row HandTrue. -/
import Derived.Test.YtpoichgodamnkaaGreatZF1HandTrue
import Derived.Test.YtpoichgodamnkaaGreatZF2HandTrue
import Derived.Test.YtpoichgodamnkaaGreatZF3HandTrue
import Derived.Test.YtpoichgodamnkaaGreatZF4HandTrue
import Derived.JoinedOf
namespace Go.Proofs.YtpoichgodamnkaaGreat.handTrue
open Go.RowKit
theorem closed : joinedFacts Tryz.prog 6 Tryz.f6 Rows.handTrueSpec Rows.handTrueRow = true := by
 unfold joinedFacts
 rw [fact1, fact2, fact3, fact4]
 kernel_rfl
end Go.Proofs.YtpoichgodamnkaaGreat.handTrue
