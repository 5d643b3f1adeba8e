/- A closed fact of the row ReplyLeaves. -/
import Derived.Test.YtpoichgodamnkaaGreatRows
import Derived.ProofKit
namespace Go.Proofs.YtpoichgodamnkaaGreat.replyLeaves
open Go.RowKit
theorem fact4 : (Rows.replyLeavesRow.named == Tryz.prog.varsNamed 8) = true := by kernel_rfl
end Go.Proofs.YtpoichgodamnkaaGreat.replyLeaves
