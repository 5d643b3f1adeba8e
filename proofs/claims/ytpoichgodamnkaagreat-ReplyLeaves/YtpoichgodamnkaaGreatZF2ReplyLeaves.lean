/- A closed fact of the row ReplyLeaves. -/
import Derived.Test.YtpoichgodamnkaaGreatRows
import Derived.ProofKit
namespace Go.Proofs.YtpoichgodamnkaaGreat.replyLeaves
open Go.RowKit
theorem fact2 : (Rows.replyLeavesRow.unfollowed == Tryz.prog.unfollowed 8) = true := by kernel_rfl
end Go.Proofs.YtpoichgodamnkaaGreat.replyLeaves
