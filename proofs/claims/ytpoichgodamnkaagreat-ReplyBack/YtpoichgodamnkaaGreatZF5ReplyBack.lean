/- The closed facts of the row ReplyBack. -/
import Derived.Test.YtpoichgodamnkaaGreatZF1ReplyBack
import Derived.Test.YtpoichgodamnkaaGreatZF2ReplyBack
import Derived.Test.YtpoichgodamnkaaGreatZF3ReplyBack
import Derived.Test.YtpoichgodamnkaaGreatZF4ReplyBack
import Derived.JoinedOf
namespace Go.Proofs.YtpoichgodamnkaaGreat.replyBack
open Go.RowKit
theorem closed : joinedFacts Tryz.prog 10 Tryz.f10 Rows.replyBackSpec Rows.replyBackRow = true := by
 unfold joinedFacts
 rw [fact1, fact2, fact3, fact4]
 kernel_rfl
end Go.Proofs.YtpoichgodamnkaaGreat.replyBack
