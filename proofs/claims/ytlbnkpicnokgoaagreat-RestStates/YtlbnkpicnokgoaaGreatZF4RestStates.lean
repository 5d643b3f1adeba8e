/- A closed fact of the row RestStates. -/
import Derived.Test.YtlbnkpicnokgoaaGreatRows
import Derived.ProofKit
namespace Go.Proofs.YtlbnkpicnokgoaaGreat.restStates
open Go.RowKit
theorem fact4:(Rows.restStatesRow.named == Tryz.prog.varsNamed 7) = true:=by kernel_rfl
end Go.Proofs.YtlbnkpicnokgoaaGreat.restStates
