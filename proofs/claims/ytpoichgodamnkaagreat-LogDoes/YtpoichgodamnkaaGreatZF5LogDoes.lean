/- The closed facts of the row LogDoes. -/
import Derived.Test.YtpoichgodamnkaaGreatZF1LogDoes
import Derived.Test.YtpoichgodamnkaaGreatZF2LogDoes
import Derived.Test.YtpoichgodamnkaaGreatZF3LogDoes
import Derived.Test.YtpoichgodamnkaaGreatZF4LogDoes
import Derived.JoinedOf
namespace Go.Proofs.YtpoichgodamnkaaGreat.logDoes
open Go.RowKit
theorem closed:joinedFacts Tryz.prog 14 Tryz.f14 Rows.logDoesSpec Rows.logDoesRow = true:=by
 unfold joinedFacts;rw [fact1,fact2,fact3,fact4];kernel_rfl
end Go.Proofs.YtpoichgodamnkaaGreat.logDoes
