/- A closed fact of the row HandTrue. -/
import Derived.Test.YtpoichgodamnkaaGreatRows
import Derived.ProofKit
namespace Go.Proofs.YtpoichgodamnkaaGreat.handTrue
open Go.RowKit
theorem fact3 : (Rows.handTrueRow.recurses == Tryz.prog.recurses 6) = true := by kernel_rfl
end Go.Proofs.YtpoichgodamnkaaGreat.handTrue
