/- The closed facts of the row BookTells. -/
import Derived.Test.YtlbnkpicnokgoaaGreatZF1BookTells
import Derived.Test.YtlbnkpicnokgoaaGreatZF2BookTells
import Derived.Test.YtlbnkpicnokgoaaGreatZF3BookTells
import Derived.Test.YtlbnkpicnokgoaaGreatZF4BookTells
import Derived.JoinedOf
namespace Go.Proofs.YtlbnkpicnokgoaaGreat.bookTells
open Go.RowKit
theorem closed:joinedFacts Tryz.prog 3 Tryz.f3 Rows.bookTellsSpec Rows.bookTellsRow = true:=by
 unfold joinedFacts;rw [fact1,fact2,fact3,fact4];kernel_rfl
end Go.Proofs.YtlbnkpicnokgoaaGreat.bookTells
