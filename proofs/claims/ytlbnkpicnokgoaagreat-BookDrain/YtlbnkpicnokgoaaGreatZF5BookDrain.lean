/- The closed facts of the row BookDrain. -/
import Derived.Test.YtlbnkpicnokgoaaGreatZF1BookDrain
import Derived.Test.YtlbnkpicnokgoaaGreatZF2BookDrain
import Derived.Test.YtlbnkpicnokgoaaGreatZF3BookDrain
import Derived.Test.YtlbnkpicnokgoaaGreatZF4BookDrain
import Derived.JoinedOf
namespace Go.Proofs.YtlbnkpicnokgoaaGreat.bookDrain
open Go.RowKit
theorem closed:joinedFacts Tryz.prog 4 Tryz.f4 Rows.bookDrainSpec Rows.bookDrainRow = true:=by
 unfold joinedFacts;rw [fact1,fact2,fact3,fact4];kernel_rfl
end Go.Proofs.YtlbnkpicnokgoaaGreat.bookDrain
