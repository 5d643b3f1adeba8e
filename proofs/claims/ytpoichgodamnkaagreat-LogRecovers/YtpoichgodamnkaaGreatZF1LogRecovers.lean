/- A closed fact of the row LogRecovers. -/
import Derived.Test.YtpoichgodamnkaaGreatRows
import Derived.ProofKit
namespace Go.Proofs.YtpoichgodamnkaaGreat.logRecovers
open Go.RowKit
theorem fact1:(Rows.logRecoversRow.inPlace == Tryz.prog.inPlace 16) = true:=by kernel_rfl
end Go.Proofs.YtpoichgodamnkaaGreat.logRecovers
