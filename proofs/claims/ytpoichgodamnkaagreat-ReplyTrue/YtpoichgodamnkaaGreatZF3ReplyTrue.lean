/- A closed fact of the row ReplyTrue. -/
import Derived.Test.YtpoichgodamnkaaGreatRows
import Derived.ProofKit
namespace Go.Proofs.YtpoichgodamnkaaGreat.replyTrue
open Go.RowKit
theorem fact3 : (Rows.replyTrueRow.recurses == Tryz.prog.recurses 9) = true := by kernel_rfl
end Go.Proofs.YtpoichgodamnkaaGreat.replyTrue
