/- The closed facts of the row ArriveTrue. -/
import Derived.Test.YtpoichgodamnkaaGreatZF1ArriveTrue
import Derived.Test.YtpoichgodamnkaaGreatZF2ArriveTrue
import Derived.Test.YtpoichgodamnkaaGreatZF3ArriveTrue
import Derived.Test.YtpoichgodamnkaaGreatZF4ArriveTrue
import Derived.JoinedOf
namespace Go.Proofs.YtpoichgodamnkaaGreat.arriveTrue
open Go.RowKit
theorem closed : joinedFacts Tryz.prog 4 Tryz.f4 Rows.arriveTrueSpec Rows.arriveTrueRow = true := by
 unfold joinedFacts
 rw [fact1, fact2, fact3, fact4]
 kernel_rfl
end Go.Proofs.YtpoichgodamnkaaGreat.arriveTrue
