/- A closed fact of the row HandTells. -/
import Derived.Test.YtpoichgodamnkaaGreatRows
import Derived.ProofKit
namespace Go.Proofs.YtpoichgodamnkaaGreat.handTells
open Go.RowKit
theorem fact3 : (Rows.handTellsRow.recurses == Tryz.prog.recurses 5) = true := by kernel_rfl
end Go.Proofs.YtpoichgodamnkaaGreat.handTells
