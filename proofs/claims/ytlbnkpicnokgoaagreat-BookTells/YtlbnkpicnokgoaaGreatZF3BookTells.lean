/- A closed fact of the row BookTells. -/
import Derived.Test.YtlbnkpicnokgoaaGreatRows
import Derived.ProofKit
namespace Go.Proofs.YtlbnkpicnokgoaaGreat.bookTells
open Go.RowKit
theorem fact3:(Rows.bookTellsRow.recurses == Tryz.prog.recurses 3) = true:=by kernel_rfl
end Go.Proofs.YtlbnkpicnokgoaaGreat.bookTells
