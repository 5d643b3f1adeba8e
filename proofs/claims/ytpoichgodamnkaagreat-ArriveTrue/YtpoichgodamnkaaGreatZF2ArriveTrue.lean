/- A closed fact of the row ArriveTrue. -/
import Derived.Test.YtpoichgodamnkaaGreatRows
import Derived.ProofKit
namespace Go.Proofs.YtpoichgodamnkaaGreat.arriveTrue
open Go.RowKit
theorem fact2 : (Rows.arriveTrueRow.unfollowed == Tryz.prog.unfollowed 4) = true := by kernel_rfl
end Go.Proofs.YtpoichgodamnkaaGreat.arriveTrue
