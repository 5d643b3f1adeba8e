/- The closed facts of the row ReplyTrue. -/
import Derived.Test.YtpoichgodamnkaaGreatZF1ReplyTrue
import Derived.Test.YtpoichgodamnkaaGreatZF2ReplyTrue
import Derived.Test.YtpoichgodamnkaaGreatZF3ReplyTrue
import Derived.Test.YtpoichgodamnkaaGreatZF4ReplyTrue
import Derived.JoinedOf
namespace Go.Proofs.YtpoichgodamnkaaGreat.replyTrue
open Go.RowKit
theorem closed : joinedFacts Tryz.prog 9 Tryz.f9 Rows.replyTrueSpec Rows.replyTrueRow = true := by
 unfold joinedFacts
 rw [fact1, fact2, fact3, fact4]
 kernel_rfl
end Go.Proofs.YtpoichgodamnkaaGreat.replyTrue
