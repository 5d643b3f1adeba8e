/- The closed facts of the row LogReplays. -/
import Derived.Test.YtpoichgodamnkaaGreatZF1LogReplays
import Derived.Test.YtpoichgodamnkaaGreatZF2LogReplays
import Derived.Test.YtpoichgodamnkaaGreatZF3LogReplays
import Derived.Test.YtpoichgodamnkaaGreatZF4LogReplays
import Derived.JoinedOf
namespace Go.Proofs.YtpoichgodamnkaaGreat.logReplays
open Go.RowKit
theorem closed : joinedFacts Tryz.prog 15 Tryz.f15 Rows.logReplaysSpec Rows.logReplaysRow = true := by
 unfold joinedFacts
 rw [fact1, fact2, fact3, fact4]
 kernel_rfl
end Go.Proofs.YtpoichgodamnkaaGreat.logReplays
