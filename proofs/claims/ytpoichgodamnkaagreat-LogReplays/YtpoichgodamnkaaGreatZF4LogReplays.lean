/- A closed fact of the row LogReplays. -/
import Derived.Test.YtpoichgodamnkaaGreatRows
import Derived.ProofKit
namespace Go.Proofs.YtpoichgodamnkaaGreat.logReplays
open Go.RowKit
theorem fact4 : (Rows.logReplaysRow.named == Tryz.prog.varsNamed 15) = true := by kernel_rfl
end Go.Proofs.YtpoichgodamnkaaGreat.logReplays
