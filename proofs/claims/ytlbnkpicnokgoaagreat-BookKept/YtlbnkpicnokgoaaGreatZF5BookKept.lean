/- The closed facts of the row BookKept. -/
import Derived.Test.YtlbnkpicnokgoaaGreatZF1BookKept
import Derived.Test.YtlbnkpicnokgoaaGreatZF2BookKept
import Derived.Test.YtlbnkpicnokgoaaGreatZF3BookKept
import Derived.Test.YtlbnkpicnokgoaaGreatZF4BookKept
import Derived.JoinedOf
namespace Go.Proofs.YtlbnkpicnokgoaaGreat.bookKept
open Go.RowKit
theorem closed:joinedFacts Tryz.prog 5 Tryz.f5 Rows.bookKeptSpec Rows.bookKeptRow = true:=by
 unfold joinedFacts;rw [fact1,fact2,fact3,fact4];kernel_rfl
end Go.Proofs.YtlbnkpicnokgoaaGreat.bookKept
