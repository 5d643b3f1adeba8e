/- A closed fact of the row LogRecovers. -/
import Derived.Test.YtpoichgodamnkaaGreatRows
import Derived.ProofKit
namespace Go.Proofs.YtpoichgodamnkaaGreat.logRecovers
open Go.RowKit
theorem fact4:(Rows.logRecoversRow.named == Tryz.prog.varsNamed 16) = true:=by kernel_rfl
end Go.Proofs.YtpoichgodamnkaaGreat.logRecovers
