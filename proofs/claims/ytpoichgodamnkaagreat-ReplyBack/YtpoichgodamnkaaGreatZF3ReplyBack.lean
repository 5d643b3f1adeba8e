/- A closed fact of the row ReplyBack. -/
import Derived.Test.YtpoichgodamnkaaGreatRows
import Derived.ProofKit
namespace Go.Proofs.YtpoichgodamnkaaGreat.replyBack
open Go.RowKit
theorem fact3 : (Rows.replyBackRow.recurses == Tryz.prog.recurses 10) = true := by kernel_rfl
end Go.Proofs.YtpoichgodamnkaaGreat.replyBack
