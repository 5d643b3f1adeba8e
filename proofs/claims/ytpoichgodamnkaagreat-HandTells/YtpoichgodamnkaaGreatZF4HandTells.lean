/- A closed fact of the row HandTells. -/
import Derived.Test.YtpoichgodamnkaaGreatRows
import Derived.ProofKit
namespace Go.Proofs.YtpoichgodamnkaaGreat.handTells
open Go.RowKit
theorem fact4 : (Rows.handTellsRow.named == Tryz.prog.varsNamed 5) = true := by kernel_rfl
end Go.Proofs.YtpoichgodamnkaaGreat.handTells
