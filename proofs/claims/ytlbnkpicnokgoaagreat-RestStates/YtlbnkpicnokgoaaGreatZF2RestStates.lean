/- A closed fact of the row RestStates. -/
import Derived.Test.YtlbnkpicnokgoaaGreatRows
import Derived.ProofKit
namespace Go.Proofs.YtlbnkpicnokgoaaGreat.restStates
open Go.RowKit
theorem fact2:(Rows.restStatesRow.unfollowed == Tryz.prog.unfollowed 7) = true:=by kernel_rfl
end Go.Proofs.YtlbnkpicnokgoaaGreat.restStates
