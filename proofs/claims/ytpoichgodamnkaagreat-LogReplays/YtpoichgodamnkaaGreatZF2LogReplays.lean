/- A closed fact of the row LogReplays. -/
import Derived.Test.YtpoichgodamnkaaGreatRows
import Derived.ProofKit
namespace Go.Proofs.YtpoichgodamnkaaGreat.logReplays
open Go.RowKit
theorem fact2 : (Rows.logReplaysRow.unfollowed == Tryz.prog.unfollowed 15) = true := by kernel_rfl
end Go.Proofs.YtpoichgodamnkaaGreat.logReplays
