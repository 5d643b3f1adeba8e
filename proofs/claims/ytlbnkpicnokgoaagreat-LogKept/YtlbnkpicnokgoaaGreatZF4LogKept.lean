/- A closed fact of the row LogKept. -/
import Derived.Test.YtlbnkpicnokgoaaGreatRows
import Derived.ProofKit
namespace Go.Proofs.YtlbnkpicnokgoaaGreat.logKept
open Go.RowKit
theorem fact4:(Rows.logKeptRow.named == Tryz.prog.varsNamed 6) = true:=by kernel_rfl
end Go.Proofs.YtlbnkpicnokgoaaGreat.logKept
