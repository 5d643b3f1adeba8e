/- A closed fact of the row ReplyLeaves. -/
import Derived.Test.YtpoichgodamnkaaGreatRows
import Derived.ProofKit
namespace Go.Proofs.YtpoichgodamnkaaGreat.replyLeaves
open Go.RowKit
theorem fact1 : (Rows.replyLeavesRow.inPlace == Tryz.prog.inPlace 8) = true := by kernel_rfl
end Go.Proofs.YtpoichgodamnkaaGreat.replyLeaves
