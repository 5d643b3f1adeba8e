/- A closed fact of the row BookDrain. -/
import Derived.Test.YtlbnkpicnokgoaaGreatRows
import Derived.ProofKit
namespace Go.Proofs.YtlbnkpicnokgoaaGreat.bookDrain
open Go.RowKit
theorem fact4:(Rows.bookDrainRow.named == Tryz.prog.varsNamed 4) = true:=by kernel_rfl
end Go.Proofs.YtlbnkpicnokgoaaGreat.bookDrain
