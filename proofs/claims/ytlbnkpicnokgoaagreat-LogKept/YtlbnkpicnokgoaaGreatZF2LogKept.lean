/- A closed fact of the row LogKept. -/
import Derived.Test.YtlbnkpicnokgoaaGreatRows
import Derived.ProofKit
namespace Go.Proofs.YtlbnkpicnokgoaaGreat.logKept
open Go.RowKit
theorem fact2:(Rows.logKeptRow.unfollowed == Tryz.prog.unfollowed 6) = true:=by kernel_rfl
end Go.Proofs.YtlbnkpicnokgoaaGreat.logKept
