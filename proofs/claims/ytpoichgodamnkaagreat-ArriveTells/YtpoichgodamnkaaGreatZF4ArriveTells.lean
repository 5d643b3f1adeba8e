/- A closed fact of the row ArriveTells. -/
import Derived.Test.YtpoichgodamnkaaGreatRows
import Derived.ProofKit
namespace Go.Proofs.YtpoichgodamnkaaGreat.arriveTells
open Go.RowKit
theorem fact4 : (Rows.arriveTellsRow.named == Tryz.prog.varsNamed 3) = true := by kernel_rfl
end Go.Proofs.YtpoichgodamnkaaGreat.arriveTells
