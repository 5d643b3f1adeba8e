/- A closed fact of the row LogDoes. -/
import Derived.Test.YtpoichgodamnkaaGreatRows
import Derived.ProofKit
namespace Go.Proofs.YtpoichgodamnkaaGreat.logDoes
open Go.RowKit
theorem fact2:(Rows.logDoesRow.unfollowed == Tryz.prog.unfollowed 14) = true:=by kernel_rfl
end Go.Proofs.YtpoichgodamnkaaGreat.logDoes
