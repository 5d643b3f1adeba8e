/- The closed facts of the row RestStates. -/
import Derived.Test.YtlbnkpicnokgoaaGreatZF1RestStates
import Derived.Test.YtlbnkpicnokgoaaGreatZF2RestStates
import Derived.Test.YtlbnkpicnokgoaaGreatZF3RestStates
import Derived.Test.YtlbnkpicnokgoaaGreatZF4RestStates
import Derived.JoinedOf
namespace Go.Proofs.YtlbnkpicnokgoaaGreat.restStates
open Go.RowKit
theorem closed:joinedFacts Tryz.prog 7 Tryz.f7 Rows.restStatesSpec Rows.restStatesRow = true:=by
 unfold joinedFacts;rw [fact1,fact2,fact3,fact4];kernel_rfl
end Go.Proofs.YtlbnkpicnokgoaaGreat.restStates
