/- A closed fact of the row LogMore. -/
import Derived.Test.YtpoichgodamnkaaGreatRows
import Derived.ProofKit
namespace Go.Proofs.YtpoichgodamnkaaGreat.logMore
open Go.RowKit
theorem fact4 : (Rows.logMoreRow.named == Tryz.prog.varsNamed 18) = true := by kernel_rfl
end Go.Proofs.YtpoichgodamnkaaGreat.logMore
