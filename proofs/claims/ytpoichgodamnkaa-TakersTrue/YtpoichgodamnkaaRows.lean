/-
  No cell of these rows narrows 'for every input' (looked for: loops, veiled, ifaces, maps, wideKeys, modest, calm, conditions, laid).
  DERIVED. THE GIVEN ROWS OF THIS SEAT. 8 by the template 'for every input the law returns true; each argument reads behind the call as it read before'; 0 by the template 'total and deterministic' (their statements: YtpoichgodamnkaaTotals.lean).
  GIVEN WITH THE SEED: the statements are not yours to turn. If you find one false, say at which input.
  Laid BY PROGRAM, IN A SANDBOX (cutbox-rows.mjs): the forced cells as the released guide's own fill.sh prints them over the translation 4401caa5af007747… (all of the seat's roots in one cut). By AI agents, Wed Nov 11 2026. No macro, syntax, notation, axiom, sorry.
-/
import Derived.Test.YtpoichgodamnkaaChecked
import GoSem.Claim
import GoSem.ClaimJoined
import GoSem.ClaimMapViews
import Derived.JoinedTies
import Derived.KernelRfl
namespace Go.Proofs.Ytpoichgodamnkaa
/- THE CELL 'sum', in the pinned program and in every row, IS THE sha256 OF THE DUMP (.gsa) THAT YtpoichgodamnkaaProg.lean LOADS. Nothing in Lean hashes anything: it is a label: what it is worth is what the hold of that sum in a sandbox is worth. -/
noncomputable def Try.pinned : Pinned := { name := "ytpoichgodamnkaa", sum := "4401caa5af0077479125c3792ff24faccf40bb762ac287aa9f9073916fd90833", checked := Try.checked }
namespace Rows
def none {H : Type} : Left H := { results := [], args := [] }

/-- 'mailcoachlaw.StateChecks': WHATEVER THE INPUT: true; the input reads as it did. -/
def stateChecksSpec : ChangeSpec := { name := "stateChecks", fn := fun _ => fun
  | [d1, d2] => { results := [.lit (.bool true)], args := [d1, d2] }
  | _ => none }
def stateChecksRow : OpenClaim := { program := "ytpoichgodamnkaa", sum := "4401caa5af0077479125c3792ff24faccf40bb762ac287aa9f9073916fd90833", func := "mailcoach/mailcoachlaw.StateChecks", spec := "stateChecks", inPlace := ["internal/bytealg.CountString", "internal/bytealg.IndexByteString", "internal/bytealg.IndexString"], unfollowed := true, recurses := true, named := ["internal/bytealg.MaxLen"], apart := false }
def StateChecksSaid : Prop := stateChecksRow.holds Try.pinned (OpenSpec.ofChange stateChecksSpec)

/-- ITS FALSE NEIGHBOUR: 'it returns false'. Refute it at one input. -/
def stateChecksWrong : ChangeSpec := { name := "stateChecks", fn := fun _ => fun
  | [d1, d2] => { results := [.lit (.bool false)], args := [d1, d2] }
  | _ => none }
def StateChecksWrongFalsely : Prop := stateChecksRow.holds Try.pinned (OpenSpec.ofChange stateChecksWrong)

/-- 'mailcoachlaw.StateHeld': WHATEVER THE INPUT: true; the input reads as it did. -/
def stateHeldSpec : ChangeSpec := { name := "stateHeld", fn := fun _ => fun
  | [d1, d2, d3] => { results := [.lit (.bool true)], args := [d1, d2, d3] }
  | _ => none }
def stateHeldRow : OpenClaim := { program := "ytpoichgodamnkaa", sum := "4401caa5af0077479125c3792ff24faccf40bb762ac287aa9f9073916fd90833", func := "mailcoach/mailcoachlaw.StateHeld", spec := "stateHeld", inPlace := ["internal/bytealg.CountString", "internal/bytealg.IndexByteString", "internal/bytealg.IndexString"], unfollowed := true, recurses := true, named := ["internal/bytealg.MaxLen"], apart := false }
def StateHeldSaid : Prop := stateHeldRow.holds Try.pinned (OpenSpec.ofChange stateHeldSpec)

/-- ITS FALSE NEIGHBOUR: 'it returns false'. Refute it at one input. -/
def stateHeldWrong : ChangeSpec := { name := "stateHeld", fn := fun _ => fun
  | [d1, d2, d3] => { results := [.lit (.bool false)], args := [d1, d2, d3] }
  | _ => none }
def StateHeldWrongFalsely : Prop := stateHeldRow.holds Try.pinned (OpenSpec.ofChange stateHeldWrong)

/-- 'mailcoachlaw.TakersJoin': WHATEVER THE INPUT: true; the input reads as it did. -/
def takersJoinSpec : ChangeSpec := { name := "takersJoin", fn := fun _ => fun
  | [d1, d2, d3, d4] => { results := [.lit (.bool true)], args := [d1, d2, d3, d4] }
  | _ => none }
def takersJoinRow : OpenClaim := { program := "ytpoichgodamnkaa", sum := "4401caa5af0077479125c3792ff24faccf40bb762ac287aa9f9073916fd90833", func := "mailcoach/mailcoachlaw.TakersJoin", spec := "takersJoin", inPlace := ["internal/bytealg.CountString", "internal/bytealg.IndexByteString", "internal/bytealg.IndexString"], unfollowed := true, recurses := true, named := ["internal/bytealg.MaxLen"], apart := false }
def TakersJoinSaid : Prop := takersJoinRow.holds Try.pinned (OpenSpec.ofChange takersJoinSpec)

/-- ITS FALSE NEIGHBOUR: 'it returns false'. Refute it at one input. -/
def takersJoinWrong : ChangeSpec := { name := "takersJoin", fn := fun _ => fun
  | [d1, d2, d3, d4] => { results := [.lit (.bool false)], args := [d1, d2, d3, d4] }
  | _ => none }
def TakersJoinWrongFalsely : Prop := takersJoinRow.holds Try.pinned (OpenSpec.ofChange takersJoinWrong)

/-- 'mailcoachlaw.TakersDeliver': WHATEVER THE INPUT: true; the input reads as it did. -/
def takersDeliverSpec : ChangeSpec := { name := "takersDeliver", fn := fun _ => fun
  | [d1, d2, d3] => { results := [.lit (.bool true)], args := [d1, d2, d3] }
  | _ => none }
def takersDeliverRow : OpenClaim := { program := "ytpoichgodamnkaa", sum := "4401caa5af0077479125c3792ff24faccf40bb762ac287aa9f9073916fd90833", func := "mailcoach/mailcoachlaw.TakersDeliver", spec := "takersDeliver", inPlace := ["internal/bytealg.CountString", "internal/bytealg.IndexByteString", "internal/bytealg.IndexString"], unfollowed := true, recurses := true, named := ["internal/bytealg.MaxLen"], apart := false }
def TakersDeliverSaid : Prop := takersDeliverRow.holds Try.pinned (OpenSpec.ofChange takersDeliverSpec)

/-- ITS FALSE NEIGHBOUR: 'it returns false'. Refute it at one input. -/
def takersDeliverWrong : ChangeSpec := { name := "takersDeliver", fn := fun _ => fun
  | [d1, d2, d3] => { results := [.lit (.bool false)], args := [d1, d2, d3] }
  | _ => none }
def TakersDeliverWrongFalsely : Prop := takersDeliverRow.holds Try.pinned (OpenSpec.ofChange takersDeliverWrong)

/-- 'mailcoachlaw.TakersTrue': WHATEVER THE INPUT: true; the input reads as it did. -/
def takersTrueSpec : ChangeSpec := { name := "takersTrue", fn := fun _ => fun
  | [d1, d2, d3, d4] => { results := [.lit (.bool true)], args := [d1, d2, d3, d4] }
  | _ => none }
def takersTrueRow : OpenClaim := { program := "ytpoichgodamnkaa", sum := "4401caa5af0077479125c3792ff24faccf40bb762ac287aa9f9073916fd90833", func := "mailcoach/mailcoachlaw.TakersTrue", spec := "takersTrue", inPlace := ["internal/bytealg.CountString", "internal/bytealg.IndexByteString", "internal/bytealg.IndexString"], unfollowed := true, recurses := true, named := ["internal/bytealg.MaxLen"], apart := false }
def TakersTrueSaid : Prop := takersTrueRow.holds Try.pinned (OpenSpec.ofChange takersTrueSpec)

/-- ITS FALSE NEIGHBOUR: 'it returns false'. Refute it at one input. -/
def takersTrueWrong : ChangeSpec := { name := "takersTrue", fn := fun _ => fun
  | [d1, d2, d3, d4] => { results := [.lit (.bool false)], args := [d1, d2, d3, d4] }
  | _ => none }
def TakersTrueWrongFalsely : Prop := takersTrueRow.holds Try.pinned (OpenSpec.ofChange takersTrueWrong)

/-- 'mailcoachlaw.TakersFair': WHATEVER THE INPUT: true; the input reads as it did. -/
def takersFairSpec : ChangeSpec := { name := "takersFair", fn := fun _ => fun
  | [d1, d2, d3, d4, d5] => { results := [.lit (.bool true)], args := [d1, d2, d3, d4, d5] }
  | _ => none }
def takersFairRow : OpenClaim := { program := "ytpoichgodamnkaa", sum := "4401caa5af0077479125c3792ff24faccf40bb762ac287aa9f9073916fd90833", func := "mailcoach/mailcoachlaw.TakersFair", spec := "takersFair", inPlace := ["internal/bytealg.CountString", "internal/bytealg.IndexByteString", "internal/bytealg.IndexString"], unfollowed := true, recurses := true, named := ["internal/bytealg.MaxLen"], apart := false }
def TakersFairSaid : Prop := takersFairRow.holds Try.pinned (OpenSpec.ofChange takersFairSpec)

/-- ITS FALSE NEIGHBOUR: 'it returns false'. Refute it at one input. -/
def takersFairWrong : ChangeSpec := { name := "takersFair", fn := fun _ => fun
  | [d1, d2, d3, d4, d5] => { results := [.lit (.bool false)], args := [d1, d2, d3, d4, d5] }
  | _ => none }
def TakersFairWrongFalsely : Prop := takersFairRow.holds Try.pinned (OpenSpec.ofChange takersFairWrong)

/-- 'mailcoachlaw.WireWrites': WHATEVER THE INPUT: true; the input reads as it did. -/
def wireWritesSpec : ChangeSpec := { name := "wireWrites", fn := fun _ => fun
  | [d1, d2] => { results := [.lit (.bool true)], args := [d1, d2] }
  | _ => none }
def wireWritesRow : OpenClaim := { program := "ytpoichgodamnkaa", sum := "4401caa5af0077479125c3792ff24faccf40bb762ac287aa9f9073916fd90833", func := "mailcoach/mailcoachlaw.WireWrites", spec := "wireWrites", inPlace := ["internal/bytealg.CountString", "internal/bytealg.IndexByteString", "internal/bytealg.IndexString"], unfollowed := true, recurses := true, named := ["internal/bytealg.MaxLen"], apart := false }
def WireWritesSaid : Prop := wireWritesRow.holds Try.pinned (OpenSpec.ofChange wireWritesSpec)

/-- ITS FALSE NEIGHBOUR: 'it returns false'. Refute it at one input. -/
def wireWritesWrong : ChangeSpec := { name := "wireWrites", fn := fun _ => fun
  | [d1, d2] => { results := [.lit (.bool false)], args := [d1, d2] }
  | _ => none }
def WireWritesWrongFalsely : Prop := wireWritesRow.holds Try.pinned (OpenSpec.ofChange wireWritesWrong)

/-- 'mailcoachlaw.WireBack': WHATEVER THE INPUT: true; the input reads as it did. -/
def wireBackSpec : ChangeSpec := { name := "wireBack", fn := fun _ => fun
  | [d1, d2] => { results := [.lit (.bool true)], args := [d1, d2] }
  | _ => none }
def wireBackRow : OpenClaim := { program := "ytpoichgodamnkaa", sum := "4401caa5af0077479125c3792ff24faccf40bb762ac287aa9f9073916fd90833", func := "mailcoach/mailcoachlaw.WireBack", spec := "wireBack", inPlace := ["internal/bytealg.CountString", "internal/bytealg.IndexByteString", "internal/bytealg.IndexString"], unfollowed := true, recurses := true, named := ["internal/bytealg.MaxLen"], apart := false }
def WireBackSaid : Prop := wireBackRow.holds Try.pinned (OpenSpec.ofChange wireBackSpec)

/-- ITS FALSE NEIGHBOUR: 'it returns false'. Refute it at one input. -/
def wireBackWrong : ChangeSpec := { name := "wireBack", fn := fun _ => fun
  | [d1, d2] => { results := [.lit (.bool false)], args := [d1, d2] }
  | _ => none }
def WireBackWrongFalsely : Prop := wireBackRow.holds Try.pinned (OpenSpec.ofChange wireBackWrong)

/- THE SECOND FORM. 'bulk': how many values and letters a reading holds, each counted each time it is reached (what is shared counts as often as it is met; a slice's spare places count too). A statement '..UptoSaid' is the law's where the arguments, and the package variables that the reading takes, are together of bulk at most 1048576: NARROWER than '..Said'. Prove '..Said' where nothing that the law and all that it calls make is longer than what came in: it says more and counts as full. Else prove '..UptoSaid'. A law counts once. -/
mutual
def uptoBulk {H : Type} : DataW H → Nat
  | .lit (.string bytes) => bytes.length + 1
  | .lit _ => 1
  | .nil => 1
  | .ptr d => uptoBulk d + 1
  | .slice elems spare => uptoBulkAll elems + uptoBulkAll spare + 1
  | .agg parts => uptoBulkAll parts + 1
  | .iface _ d => uptoBulk d + 1
  | .map entries => uptoBulkEntries entries + 1
  | .held _ => 1
def uptoBulkAll {H : Type} : List (DataW H) → Nat
  | [] => 0
  | d :: r => uptoBulk d + uptoBulkAll r
def uptoBulkEntries {H : Type} : List (Lit × DataW H) → Nat
  | [] => 0
  | x :: r => uptoBulkEntry x + uptoBulkEntries r
def uptoBulkEntry {H : Type} : Lit × DataW H → Nat
  | (.string bytes, d) => bytes.length + uptoBulk d + 1
  | (_, d) => uptoBulk d + 1
 end
def uptoSmall : (H : Type) → List (DataW H) → Bool := fun _ ds => decide (uptoBulkAll ds ≤ 1048576)
def OpenSpec.upto (s : _root_.Go.ChangeSpec) : _root_.Go.OpenSpec := { _root_.Go.OpenSpec.ofChange s with cond := some uptoSmall }

/-- 'mailcoachlaw.StateChecks', WHERE WHAT IT READS IS OF BULK AT MOST 1048576: true; the input reads as it did. -/
def stateChecksUptoRow : OpenClaim := { program := "ytpoichgodamnkaa", sum := "4401caa5af0077479125c3792ff24faccf40bb762ac287aa9f9073916fd90833", func := "mailcoach/mailcoachlaw.StateChecks", spec := "stateChecks", inPlace := ["internal/bytealg.CountString", "internal/bytealg.IndexByteString", "internal/bytealg.IndexString"], unfollowed := true, recurses := true, named := ["internal/bytealg.MaxLen"], apart := false, narrowed := true }
def StateChecksUptoSaid : Prop := stateChecksUptoRow.holds Try.pinned (OpenSpec.upto stateChecksSpec)

/-- 'mailcoachlaw.StateHeld', WHERE WHAT IT READS IS OF BULK AT MOST 1048576: true; the input reads as it did. -/
def stateHeldUptoRow : OpenClaim := { program := "ytpoichgodamnkaa", sum := "4401caa5af0077479125c3792ff24faccf40bb762ac287aa9f9073916fd90833", func := "mailcoach/mailcoachlaw.StateHeld", spec := "stateHeld", inPlace := ["internal/bytealg.CountString", "internal/bytealg.IndexByteString", "internal/bytealg.IndexString"], unfollowed := true, recurses := true, named := ["internal/bytealg.MaxLen"], apart := false, narrowed := true }
def StateHeldUptoSaid : Prop := stateHeldUptoRow.holds Try.pinned (OpenSpec.upto stateHeldSpec)

/-- 'mailcoachlaw.TakersJoin', WHERE WHAT IT READS IS OF BULK AT MOST 1048576: true; the input reads as it did. -/
def takersJoinUptoRow : OpenClaim := { program := "ytpoichgodamnkaa", sum := "4401caa5af0077479125c3792ff24faccf40bb762ac287aa9f9073916fd90833", func := "mailcoach/mailcoachlaw.TakersJoin", spec := "takersJoin", inPlace := ["internal/bytealg.CountString", "internal/bytealg.IndexByteString", "internal/bytealg.IndexString"], unfollowed := true, recurses := true, named := ["internal/bytealg.MaxLen"], apart := false, narrowed := true }
def TakersJoinUptoSaid : Prop := takersJoinUptoRow.holds Try.pinned (OpenSpec.upto takersJoinSpec)

/-- 'mailcoachlaw.TakersDeliver', WHERE WHAT IT READS IS OF BULK AT MOST 1048576: true; the input reads as it did. -/
def takersDeliverUptoRow : OpenClaim := { program := "ytpoichgodamnkaa", sum := "4401caa5af0077479125c3792ff24faccf40bb762ac287aa9f9073916fd90833", func := "mailcoach/mailcoachlaw.TakersDeliver", spec := "takersDeliver", inPlace := ["internal/bytealg.CountString", "internal/bytealg.IndexByteString", "internal/bytealg.IndexString"], unfollowed := true, recurses := true, named := ["internal/bytealg.MaxLen"], apart := false, narrowed := true }
def TakersDeliverUptoSaid : Prop := takersDeliverUptoRow.holds Try.pinned (OpenSpec.upto takersDeliverSpec)

/-- 'mailcoachlaw.TakersTrue', WHERE WHAT IT READS IS OF BULK AT MOST 1048576: true; the input reads as it did. -/
def takersTrueUptoRow : OpenClaim := { program := "ytpoichgodamnkaa", sum := "4401caa5af0077479125c3792ff24faccf40bb762ac287aa9f9073916fd90833", func := "mailcoach/mailcoachlaw.TakersTrue", spec := "takersTrue", inPlace := ["internal/bytealg.CountString", "internal/bytealg.IndexByteString", "internal/bytealg.IndexString"], unfollowed := true, recurses := true, named := ["internal/bytealg.MaxLen"], apart := false, narrowed := true }
def TakersTrueUptoSaid : Prop := takersTrueUptoRow.holds Try.pinned (OpenSpec.upto takersTrueSpec)

/-- 'mailcoachlaw.TakersFair', WHERE WHAT IT READS IS OF BULK AT MOST 1048576: true; the input reads as it did. -/
def takersFairUptoRow : OpenClaim := { program := "ytpoichgodamnkaa", sum := "4401caa5af0077479125c3792ff24faccf40bb762ac287aa9f9073916fd90833", func := "mailcoach/mailcoachlaw.TakersFair", spec := "takersFair", inPlace := ["internal/bytealg.CountString", "internal/bytealg.IndexByteString", "internal/bytealg.IndexString"], unfollowed := true, recurses := true, named := ["internal/bytealg.MaxLen"], apart := false, narrowed := true }
def TakersFairUptoSaid : Prop := takersFairUptoRow.holds Try.pinned (OpenSpec.upto takersFairSpec)

/-- 'mailcoachlaw.WireWrites', WHERE WHAT IT READS IS OF BULK AT MOST 1048576: true; the input reads as it did. -/
def wireWritesUptoRow : OpenClaim := { program := "ytpoichgodamnkaa", sum := "4401caa5af0077479125c3792ff24faccf40bb762ac287aa9f9073916fd90833", func := "mailcoach/mailcoachlaw.WireWrites", spec := "wireWrites", inPlace := ["internal/bytealg.CountString", "internal/bytealg.IndexByteString", "internal/bytealg.IndexString"], unfollowed := true, recurses := true, named := ["internal/bytealg.MaxLen"], apart := false, narrowed := true }
def WireWritesUptoSaid : Prop := wireWritesUptoRow.holds Try.pinned (OpenSpec.upto wireWritesSpec)

/-- 'mailcoachlaw.WireBack', WHERE WHAT IT READS IS OF BULK AT MOST 1048576: true; the input reads as it did. -/
def wireBackUptoRow : OpenClaim := { program := "ytpoichgodamnkaa", sum := "4401caa5af0077479125c3792ff24faccf40bb762ac287aa9f9073916fd90833", func := "mailcoach/mailcoachlaw.WireBack", spec := "wireBack", inPlace := ["internal/bytealg.CountString", "internal/bytealg.IndexByteString", "internal/bytealg.IndexString"], unfollowed := true, recurses := true, named := ["internal/bytealg.MaxLen"], apart := false, narrowed := true }
def WireBackUptoSaid : Prop := wireBackUptoRow.holds Try.pinned (OpenSpec.upto wireBackSpec)

end Rows
end Go.Proofs.Ytpoichgodamnkaa
