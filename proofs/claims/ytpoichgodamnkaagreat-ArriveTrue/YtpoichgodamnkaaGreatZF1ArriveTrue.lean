/- A closed fact of the row ArriveTrue. -/
import Derived.Test.YtpoichgodamnkaaGreatRows
import Derived.ProofKit
namespace Go.Proofs.YtpoichgodamnkaaGreat.arriveTrue
open Go.RowKit
theorem fact1 : (Rows.arriveTrueRow.inPlace == Tryz.prog.inPlace 4) = true := by kernel_rfl
end Go.Proofs.YtpoichgodamnkaaGreat.arriveTrue
