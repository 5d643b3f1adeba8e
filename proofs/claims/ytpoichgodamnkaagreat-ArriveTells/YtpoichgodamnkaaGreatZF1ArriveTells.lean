/- A closed fact of the row ArriveTells. -/
import Derived.Test.YtpoichgodamnkaaGreatRows
import Derived.ProofKit
namespace Go.Proofs.YtpoichgodamnkaaGreat.arriveTells
open Go.RowKit
theorem fact1 : (Rows.arriveTellsRow.inPlace == Tryz.prog.inPlace 3) = true := by kernel_rfl
end Go.Proofs.YtpoichgodamnkaaGreat.arriveTells
