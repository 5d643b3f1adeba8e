/- A closed fact of the row LogRight. -/
import Derived.Test.YtpoichgodamnkaaGreatRows
import Derived.ProofKit
namespace Go.Proofs.YtpoichgodamnkaaGreat.logRight
open Go.RowKit
theorem fact2 : (Rows.logRightRow.unfollowed == Tryz.prog.unfollowed 19) = true := by kernel_rfl
end Go.Proofs.YtpoichgodamnkaaGreat.logRight
