/- A closed fact of the row BookKept. -/
import Derived.Test.YtlbnkpicnokgoaaGreatRows
import Derived.ProofKit
namespace Go.Proofs.YtlbnkpicnokgoaaGreat.bookKept
open Go.RowKit
theorem fact3:(Rows.bookKeptRow.recurses == Tryz.prog.recurses 5) = true:=by kernel_rfl
end Go.Proofs.YtlbnkpicnokgoaaGreat.bookKept
