/- The closed facts of the row LogRecovers. -/
import Derived.Test.YtpoichgodamnkaaGreatZF1LogRecovers
import Derived.Test.YtpoichgodamnkaaGreatZF2LogRecovers
import Derived.Test.YtpoichgodamnkaaGreatZF3LogRecovers
import Derived.Test.YtpoichgodamnkaaGreatZF4LogRecovers
import Derived.JoinedOf
namespace Go.Proofs.YtpoichgodamnkaaGreat.logRecovers
open Go.RowKit
theorem closed:joinedFacts Tryz.prog 16 Tryz.f16 Rows.logRecoversSpec Rows.logRecoversRow = true:=by
 unfold joinedFacts;rw [fact1,fact2,fact3,fact4];kernel_rfl
end Go.Proofs.YtpoichgodamnkaaGreat.logRecovers
