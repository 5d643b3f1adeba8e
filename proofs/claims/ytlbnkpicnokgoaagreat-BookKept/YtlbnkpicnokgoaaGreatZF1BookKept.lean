/- A closed fact of the row BookKept. -/
import Derived.Test.YtlbnkpicnokgoaaGreatRows
import Derived.ProofKit
namespace Go.Proofs.YtlbnkpicnokgoaaGreat.bookKept
open Go.RowKit
theorem fact1:(Rows.bookKeptRow.inPlace == Tryz.prog.inPlace 5) = true:=by kernel_rfl
end Go.Proofs.YtlbnkpicnokgoaaGreat.bookKept
