/- A closed fact of the row DeskPlays. -/
import Derived.Test.YtedmnjimkhamaaaGreatDoorRows
import Derived.ProofKit
namespace Go.Proofs.YtedmnjimkhamaaaGreatDoor.deskPlays
open Go.RowKit
theorem fact3:(Rows.deskPlaysRow.recurses==Tryz.prog.recurses 3)=true:=by kernel_rfl
end Go.Proofs.YtedmnjimkhamaaaGreatDoor.deskPlays
