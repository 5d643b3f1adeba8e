/- A closed fact of the row BookDrain. -/
import Derived.Test.YtlbnkpicnokgoaaGreatRows
import Derived.ProofKit
namespace Go.Proofs.YtlbnkpicnokgoaaGreat.bookDrain
open Go.RowKit
theorem fact1:(Rows.bookDrainRow.inPlace == Tryz.prog.inPlace 4) = true:=by kernel_rfl
end Go.Proofs.YtlbnkpicnokgoaaGreat.bookDrain
