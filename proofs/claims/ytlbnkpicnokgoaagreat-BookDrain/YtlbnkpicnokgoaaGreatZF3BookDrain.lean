/- A closed fact of the row BookDrain. -/
import Derived.Test.YtlbnkpicnokgoaaGreatRows
import Derived.ProofKit
namespace Go.Proofs.YtlbnkpicnokgoaaGreat.bookDrain
open Go.RowKit
theorem fact3:(Rows.bookDrainRow.recurses == Tryz.prog.recurses 4) = true:=by kernel_rfl
end Go.Proofs.YtlbnkpicnokgoaaGreat.bookDrain
