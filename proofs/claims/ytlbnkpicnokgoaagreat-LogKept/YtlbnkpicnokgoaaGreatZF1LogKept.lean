/- A closed fact of the row LogKept. -/
import Derived.Test.YtlbnkpicnokgoaaGreatRows
import Derived.ProofKit
namespace Go.Proofs.YtlbnkpicnokgoaaGreat.logKept
open Go.RowKit
theorem fact1:(Rows.logKeptRow.inPlace == Tryz.prog.inPlace 6) = true:=by kernel_rfl
end Go.Proofs.YtlbnkpicnokgoaaGreat.logKept
