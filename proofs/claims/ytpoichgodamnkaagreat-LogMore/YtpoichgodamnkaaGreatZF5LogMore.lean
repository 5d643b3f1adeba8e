/- The closed facts of the row LogMore. -/
import Derived.Test.YtpoichgodamnkaaGreatZF1LogMore
import Derived.Test.YtpoichgodamnkaaGreatZF2LogMore
import Derived.Test.YtpoichgodamnkaaGreatZF3LogMore
import Derived.Test.YtpoichgodamnkaaGreatZF4LogMore
import Derived.JoinedOf
namespace Go.Proofs.YtpoichgodamnkaaGreat.logMore
open Go.RowKit
theorem closed : joinedFacts Tryz.prog 18 Tryz.f18 Rows.logMoreSpec Rows.logMoreRow = true := by
 unfold joinedFacts
 rw [fact1, fact2, fact3, fact4]
 kernel_rfl
end Go.Proofs.YtpoichgodamnkaaGreat.logMore
