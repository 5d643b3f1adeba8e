/- A closed fact of the row ReplyTells. -/
import Derived.Test.YtpoichgodamnkaaGreatRows
import Derived.ProofKit
namespace Go.Proofs.YtpoichgodamnkaaGreat.replyTells
open Go.RowKit
theorem fact1 : (Rows.replyTellsRow.inPlace == Tryz.prog.inPlace 7) = true := by kernel_rfl
end Go.Proofs.YtpoichgodamnkaaGreat.replyTells
