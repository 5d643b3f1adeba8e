/- A closed fact of the row LogRight. -/
import Derived.Test.YtpoichgodamnkaaGreatRows
import Derived.ProofKit
namespace Go.Proofs.YtpoichgodamnkaaGreat.logRight
open Go.RowKit
theorem fact4 : (Rows.logRightRow.named == Tryz.prog.varsNamed 19) = true := by kernel_rfl
end Go.Proofs.YtpoichgodamnkaaGreat.logRight
