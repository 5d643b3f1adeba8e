/- The closed facts of the row LogKept. -/
import Derived.Test.YtlbnkpicnokgoaaGreatZF1LogKept
import Derived.Test.YtlbnkpicnokgoaaGreatZF2LogKept
import Derived.Test.YtlbnkpicnokgoaaGreatZF3LogKept
import Derived.Test.YtlbnkpicnokgoaaGreatZF4LogKept
import Derived.JoinedOf
namespace Go.Proofs.YtlbnkpicnokgoaaGreat.logKept
open Go.RowKit
theorem closed:joinedFacts Tryz.prog 6 Tryz.f6 Rows.logKeptSpec Rows.logKeptRow = true:=by
 unfold joinedFacts;rw [fact1,fact2,fact3,fact4];kernel_rfl
end Go.Proofs.YtlbnkpicnokgoaaGreat.logKept
