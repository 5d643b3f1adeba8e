/- A closed fact of the row LogRecovers. -/
import Derived.Test.YtpoichgodamnkaaGreatRows
import Derived.ProofKit
namespace Go.Proofs.YtpoichgodamnkaaGreat.logRecovers
open Go.RowKit
theorem fact2:(Rows.logRecoversRow.unfollowed == Tryz.prog.unfollowed 16) = true:=by kernel_rfl
end Go.Proofs.YtpoichgodamnkaaGreat.logRecovers
