/- A closed fact of the row ReplyTells. -/
import Derived.Test.YtpoichgodamnkaaGreatRows
import Derived.ProofKit
namespace Go.Proofs.YtpoichgodamnkaaGreat.replyTells
open Go.RowKit
theorem fact3 : (Rows.replyTellsRow.recurses == Tryz.prog.recurses 7) = true := by kernel_rfl
end Go.Proofs.YtpoichgodamnkaaGreat.replyTells
