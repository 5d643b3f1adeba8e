/- A closed fact of the row ArriveTells. -/
import Derived.Test.YtpoichgodamnkaaGreatRows
import Derived.ProofKit
namespace Go.Proofs.YtpoichgodamnkaaGreat.arriveTells
open Go.RowKit
theorem fact2 : (Rows.arriveTellsRow.unfollowed == Tryz.prog.unfollowed 3) = true := by kernel_rfl
end Go.Proofs.YtpoichgodamnkaaGreat.arriveTells
