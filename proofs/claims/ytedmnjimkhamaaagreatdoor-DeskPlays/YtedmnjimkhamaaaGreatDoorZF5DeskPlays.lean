/- The closed facts of the row DeskPlays. -/
import Derived.Test.YtedmnjimkhamaaaGreatDoorZF1DeskPlays
import Derived.Test.YtedmnjimkhamaaaGreatDoorZF2DeskPlays
import Derived.Test.YtedmnjimkhamaaaGreatDoorZF3DeskPlays
import Derived.Test.YtedmnjimkhamaaaGreatDoorZF4DeskPlays
namespace Go.Proofs.YtedmnjimkhamaaaGreatDoor.deskPlays
open Go.RowKit
theorem closed:joinedFacts Tryz.prog 3 Tryz.f3 Rows.deskPlaysSpec Rows.deskPlaysRow=true:=by
 unfold joinedFacts;rw[fact1,fact2,fact3,fact4];kernel_rfl
end Go.Proofs.YtedmnjimkhamaaaGreatDoor.deskPlays
