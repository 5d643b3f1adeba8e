/- The closed facts of the row TakersTrue. -/
import Derived.Test.YtpoichgodamnkaaZF1TakersTrue
import Derived.Test.YtpoichgodamnkaaZF2TakersTrue
import Derived.Test.YtpoichgodamnkaaZF3TakersTrue
import Derived.Test.YtpoichgodamnkaaZF4TakersTrue
import Derived.JoinedOf
namespace Go.Proofs.Ytpoichgodamnkaa.takersTrue
open Go.RowKit
theorem closed : joinedFacts Try.prog 7 Try.f7 Rows.takersTrueSpec Rows.takersTrueRow = true := by
 unfold joinedFacts
 rw [fact1, fact2, fact3, fact4]
 kernel_rfl
end Go.Proofs.Ytpoichgodamnkaa.takersTrue
