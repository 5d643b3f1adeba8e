/- A closed fact of the row LogDoes. -/
import Derived.Test.YtpoichgodamnkaaGreatRows
import Derived.ProofKit
namespace Go.Proofs.YtpoichgodamnkaaGreat.logDoes
open Go.RowKit
theorem fact3:(Rows.logDoesRow.recurses == Tryz.prog.recurses 14) = true:=by kernel_rfl
end Go.Proofs.YtpoichgodamnkaaGreat.logDoes
