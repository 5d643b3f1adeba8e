/- A closed fact of the row DeskPlays. -/
import Derived.Test.YtedmnjimkhamaaaGreatDoorRows
import Derived.ProofKit
namespace Go.Proofs.YtedmnjimkhamaaaGreatDoor.deskPlays
open Go.RowKit
theorem fact1:(Rows.deskPlaysRow.inPlace==Tryz.prog.inPlace 3)=true:=by kernel_rfl
end Go.Proofs.YtedmnjimkhamaaaGreatDoor.deskPlays
