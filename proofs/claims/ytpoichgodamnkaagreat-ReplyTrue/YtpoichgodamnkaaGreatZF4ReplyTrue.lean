/- A closed fact of the row ReplyTrue. -/
import Derived.Test.YtpoichgodamnkaaGreatRows
import Derived.ProofKit
namespace Go.Proofs.YtpoichgodamnkaaGreat.replyTrue
open Go.RowKit
theorem fact4 : (Rows.replyTrueRow.named == Tryz.prog.varsNamed 9) = true := by kernel_rfl
end Go.Proofs.YtpoichgodamnkaaGreat.replyTrue
