/- A closed fact of the row TakersTrue. -/
import Derived.Test.YtpoichgodamnkaaRows
import Derived.ProofKit
namespace Go.Proofs.Ytpoichgodamnkaa.takersTrue
open Go.RowKit
theorem fact2 : (Rows.takersTrueRow.unfollowed == Try.prog.unfollowed 7) = true := by kernel_rfl
end Go.Proofs.Ytpoichgodamnkaa.takersTrue
