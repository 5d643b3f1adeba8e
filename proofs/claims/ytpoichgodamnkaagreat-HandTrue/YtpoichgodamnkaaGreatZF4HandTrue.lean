/- A closed fact of the row HandTrue. -/
import Derived.Test.YtpoichgodamnkaaGreatRows
import Derived.ProofKit
namespace Go.Proofs.YtpoichgodamnkaaGreat.handTrue
open Go.RowKit
theorem fact4 : (Rows.handTrueRow.named == Tryz.prog.varsNamed 6) = true := by kernel_rfl
end Go.Proofs.YtpoichgodamnkaaGreat.handTrue
