/-
  No cell of these rows narrows 'for every input' (looked for: loops, veiled, ifaces, maps, wideKeys, modest, calm, conditions, laid).
  DERIVED. THE GIVEN ROWS OF THIS SEAT. 14 by the template 'for every input the law returns true; each argument reads behind the call as it read before'; 0 by the template 'total and deterministic' (their statements: YthhkpgnjpieckaaTotals.lean).
  GIVEN WITH THE SEED: the statements are not yours to turn. If you find one false, say at which input.
  Laid BY PROGRAM, IN A SANDBOX (cutbox-rows.mjs): the forced cells as the released guide's own fill.sh prints them over the translation 61642e293a8c28bb… (all of the seat's roots in one cut). By AI agents, Wed Nov 11 2026. No macro, syntax, notation, axiom, sorry.
-/
import Derived.Test.YthhkpgnjpieckaaChecked
import GoSem.Claim
import GoSem.ClaimJoined
import GoSem.ClaimMapViews
import Derived.JoinedTies
import Derived.KernelRfl
namespace Go.Proofs.Ythhkpgnjpieckaa
/- THE CELL 'sum', in the pinned program and in every row, IS THE sha256 OF THE DUMP (.gsa) THAT YthhkpgnjpieckaaProg.lean LOADS. Nothing in Lean hashes anything: it is a label: what it is worth is what the hold of that sum in a sandbox is worth. -/
noncomputable def Try.pinned : Pinned := { name := "ythhkpgnjpieckaa", sum := "61642e293a8c28bb60d8e867733c0dd994086c5cc4bd0218c3d984134ee221ba", checked := Try.checked }
namespace Rows
def none {H : Type} : Left H := { results := [], args := [] }

/-- 'mailcoachlaw.WordsTells': WHATEVER THE INPUT: true; the input reads as it did. -/
def wordsTellsSpec : ChangeSpec := { name := "wordsTells", fn := fun _ => fun
  | [d] => { results := [.lit (.bool true)], args := [d] }
  | _ => none }
def wordsTellsRow : OpenClaim := { program := "ythhkpgnjpieckaa", sum := "61642e293a8c28bb60d8e867733c0dd994086c5cc4bd0218c3d984134ee221ba", func := "mailcoach/mailcoachlaw.WordsTells", spec := "wordsTells", inPlace := ["internal/bytealg.CountString", "internal/bytealg.IndexByteString", "internal/bytealg.IndexString"], unfollowed := true, recurses := true, named := ["internal/bytealg.MaxLen"], apart := false }
def WordsTellsSaid : Prop := wordsTellsRow.holds Try.pinned (OpenSpec.ofChange wordsTellsSpec)

/-- ITS FALSE NEIGHBOUR: 'it returns false'. Refute it at one input. -/
def wordsTellsWrong : ChangeSpec := { name := "wordsTells", fn := fun _ => fun
  | [d] => { results := [.lit (.bool false)], args := [d] }
  | _ => none }
def WordsTellsWrongFalsely : Prop := wordsTellsRow.holds Try.pinned (OpenSpec.ofChange wordsTellsWrong)

/-- 'mailcoachlaw.WordsMatches': WHATEVER THE INPUT: true; the input reads as it did. -/
def wordsMatchesSpec : ChangeSpec := { name := "wordsMatches", fn := fun _ => fun
  | [d1, d2] => { results := [.lit (.bool true)], args := [d1, d2] }
  | _ => none }
def wordsMatchesRow : OpenClaim := { program := "ythhkpgnjpieckaa", sum := "61642e293a8c28bb60d8e867733c0dd994086c5cc4bd0218c3d984134ee221ba", func := "mailcoach/mailcoachlaw.WordsMatches", spec := "wordsMatches", inPlace := ["internal/bytealg.CountString", "internal/bytealg.IndexByteString", "internal/bytealg.IndexString"], unfollowed := true, recurses := true, named := ["internal/bytealg.MaxLen"], apart := false }
def WordsMatchesSaid : Prop := wordsMatchesRow.holds Try.pinned (OpenSpec.ofChange wordsMatchesSpec)

/-- ITS FALSE NEIGHBOUR: 'it returns false'. Refute it at one input. -/
def wordsMatchesWrong : ChangeSpec := { name := "wordsMatches", fn := fun _ => fun
  | [d1, d2] => { results := [.lit (.bool false)], args := [d1, d2] }
  | _ => none }
def WordsMatchesWrongFalsely : Prop := wordsMatchesRow.holds Try.pinned (OpenSpec.ofChange wordsMatchesWrong)

/-- 'mailcoachlaw.WordsTrue': WHATEVER THE INPUT: true; the input reads as it did. -/
def wordsTrueSpec : ChangeSpec := { name := "wordsTrue", fn := fun _ => fun
  | [d1, d2, d3] => { results := [.lit (.bool true)], args := [d1, d2, d3] }
  | _ => none }
def wordsTrueRow : OpenClaim := { program := "ythhkpgnjpieckaa", sum := "61642e293a8c28bb60d8e867733c0dd994086c5cc4bd0218c3d984134ee221ba", func := "mailcoach/mailcoachlaw.WordsTrue", spec := "wordsTrue", inPlace := ["internal/bytealg.CountString", "internal/bytealg.IndexByteString", "internal/bytealg.IndexString"], unfollowed := true, recurses := true, named := ["internal/bytealg.MaxLen"], apart := false }
def WordsTrueSaid : Prop := wordsTrueRow.holds Try.pinned (OpenSpec.ofChange wordsTrueSpec)

/-- ITS FALSE NEIGHBOUR: 'it returns false'. Refute it at one input. -/
def wordsTrueWrong : ChangeSpec := { name := "wordsTrue", fn := fun _ => fun
  | [d1, d2, d3] => { results := [.lit (.bool false)], args := [d1, d2, d3] }
  | _ => none }
def WordsTrueWrongFalsely : Prop := wordsTrueRow.holds Try.pinned (OpenSpec.ofChange wordsTrueWrong)

/-- 'mailcoachlaw.WordsStar': WHATEVER THE INPUT: true; the input reads as it did. -/
def wordsStarSpec : ChangeSpec := { name := "wordsStar", fn := fun _ => fun
  | [d1, d2] => { results := [.lit (.bool true)], args := [d1, d2] }
  | _ => none }
def wordsStarRow : OpenClaim := { program := "ythhkpgnjpieckaa", sum := "61642e293a8c28bb60d8e867733c0dd994086c5cc4bd0218c3d984134ee221ba", func := "mailcoach/mailcoachlaw.WordsStar", spec := "wordsStar", inPlace := ["internal/bytealg.CountString", "internal/bytealg.IndexByteString", "internal/bytealg.IndexString"], unfollowed := true, recurses := true, named := ["internal/bytealg.MaxLen"], apart := false }
def WordsStarSaid : Prop := wordsStarRow.holds Try.pinned (OpenSpec.ofChange wordsStarSpec)

/-- ITS FALSE NEIGHBOUR: 'it returns false'. Refute it at one input. -/
def wordsStarWrong : ChangeSpec := { name := "wordsStar", fn := fun _ => fun
  | [d1, d2] => { results := [.lit (.bool false)], args := [d1, d2] }
  | _ => none }
def WordsStarWrongFalsely : Prop := wordsStarRow.holds Try.pinned (OpenSpec.ofChange wordsStarWrong)

/-- 'mailcoachlaw.PlanChecks': WHATEVER THE INPUT: true; the input reads as it did. -/
def planChecksSpec : ChangeSpec := { name := "planChecks", fn := fun _ => fun
  | [d1, d2] => { results := [.lit (.bool true)], args := [d1, d2] }
  | _ => none }
def planChecksRow : OpenClaim := { program := "ythhkpgnjpieckaa", sum := "61642e293a8c28bb60d8e867733c0dd994086c5cc4bd0218c3d984134ee221ba", func := "mailcoach/mailcoachlaw.PlanChecks", spec := "planChecks", inPlace := ["internal/bytealg.CountString", "internal/bytealg.IndexByteString", "internal/bytealg.IndexString"], unfollowed := true, recurses := true, named := ["internal/bytealg.MaxLen"], apart := false }
def PlanChecksSaid : Prop := planChecksRow.holds Try.pinned (OpenSpec.ofChange planChecksSpec)

/-- ITS FALSE NEIGHBOUR: 'it returns false'. Refute it at one input. -/
def planChecksWrong : ChangeSpec := { name := "planChecks", fn := fun _ => fun
  | [d1, d2] => { results := [.lit (.bool false)], args := [d1, d2] }
  | _ => none }
def PlanChecksWrongFalsely : Prop := planChecksRow.holds Try.pinned (OpenSpec.ofChange planChecksWrong)

/-- 'mailcoachlaw.PlanFits': WHATEVER THE INPUT: true; the input reads as it did. -/
def planFitsSpec : ChangeSpec := { name := "planFits", fn := fun _ => fun
  | [d1, d2, d3] => { results := [.lit (.bool true)], args := [d1, d2, d3] }
  | _ => none }
def planFitsRow : OpenClaim := { program := "ythhkpgnjpieckaa", sum := "61642e293a8c28bb60d8e867733c0dd994086c5cc4bd0218c3d984134ee221ba", func := "mailcoach/mailcoachlaw.PlanFits", spec := "planFits", inPlace := ["internal/bytealg.CountString", "internal/bytealg.IndexByteString", "internal/bytealg.IndexString"], unfollowed := true, recurses := true, named := ["internal/bytealg.MaxLen"], apart := false }
def PlanFitsSaid : Prop := planFitsRow.holds Try.pinned (OpenSpec.ofChange planFitsSpec)

/-- ITS FALSE NEIGHBOUR: 'it returns false'. Refute it at one input. -/
def planFitsWrong : ChangeSpec := { name := "planFits", fn := fun _ => fun
  | [d1, d2, d3] => { results := [.lit (.bool false)], args := [d1, d2, d3] }
  | _ => none }
def PlanFitsWrongFalsely : Prop := planFitsRow.holds Try.pinned (OpenSpec.ofChange planFitsWrong)

/-- 'mailcoachlaw.RouteTells': WHATEVER THE INPUT: true; the input reads as it did. -/
def routeTellsSpec : ChangeSpec := { name := "routeTells", fn := fun _ => fun
  | [d1, d2, d3] => { results := [.lit (.bool true)], args := [d1, d2, d3] }
  | _ => none }
def routeTellsRow : OpenClaim := { program := "ythhkpgnjpieckaa", sum := "61642e293a8c28bb60d8e867733c0dd994086c5cc4bd0218c3d984134ee221ba", func := "mailcoach/mailcoachlaw.RouteTells", spec := "routeTells", inPlace := ["internal/bytealg.CountString", "internal/bytealg.IndexByteString", "internal/bytealg.IndexString"], unfollowed := true, recurses := true, named := ["internal/bytealg.MaxLen"], apart := false }
def RouteTellsSaid : Prop := routeTellsRow.holds Try.pinned (OpenSpec.ofChange routeTellsSpec)

/-- ITS FALSE NEIGHBOUR: 'it returns false'. Refute it at one input. -/
def routeTellsWrong : ChangeSpec := { name := "routeTells", fn := fun _ => fun
  | [d1, d2, d3] => { results := [.lit (.bool false)], args := [d1, d2, d3] }
  | _ => none }
def RouteTellsWrongFalsely : Prop := routeTellsRow.holds Try.pinned (OpenSpec.ofChange routeTellsWrong)

/-- 'mailcoachlaw.RouteWays': WHATEVER THE INPUT: true; the input reads as it did. -/
def routeWaysSpec : ChangeSpec := { name := "routeWays", fn := fun _ => fun
  | [d1, d2, d3, d4] => { results := [.lit (.bool true)], args := [d1, d2, d3, d4] }
  | _ => none }
def routeWaysRow : OpenClaim := { program := "ythhkpgnjpieckaa", sum := "61642e293a8c28bb60d8e867733c0dd994086c5cc4bd0218c3d984134ee221ba", func := "mailcoach/mailcoachlaw.RouteWays", spec := "routeWays", inPlace := ["internal/bytealg.CountString", "internal/bytealg.IndexByteString", "internal/bytealg.IndexString"], unfollowed := true, recurses := true, named := ["internal/bytealg.MaxLen"], apart := false }
def RouteWaysSaid : Prop := routeWaysRow.holds Try.pinned (OpenSpec.ofChange routeWaysSpec)

/-- ITS FALSE NEIGHBOUR: 'it returns false'. Refute it at one input. -/
def routeWaysWrong : ChangeSpec := { name := "routeWays", fn := fun _ => fun
  | [d1, d2, d3, d4] => { results := [.lit (.bool false)], args := [d1, d2, d3, d4] }
  | _ => none }
def RouteWaysWrongFalsely : Prop := routeWaysRow.holds Try.pinned (OpenSpec.ofChange routeWaysWrong)

/-- 'mailcoachlaw.RouteTrue': WHATEVER THE INPUT: true; the input reads as it did. -/
def routeTrueSpec : ChangeSpec := { name := "routeTrue", fn := fun _ => fun
  | [d1, d2, d3, d4] => { results := [.lit (.bool true)], args := [d1, d2, d3, d4] }
  | _ => none }
def routeTrueRow : OpenClaim := { program := "ythhkpgnjpieckaa", sum := "61642e293a8c28bb60d8e867733c0dd994086c5cc4bd0218c3d984134ee221ba", func := "mailcoach/mailcoachlaw.RouteTrue", spec := "routeTrue", inPlace := ["internal/bytealg.CountString", "internal/bytealg.IndexByteString", "internal/bytealg.IndexString"], unfollowed := true, recurses := true, named := ["internal/bytealg.MaxLen"], apart := false }
def RouteTrueSaid : Prop := routeTrueRow.holds Try.pinned (OpenSpec.ofChange routeTrueSpec)

/-- ITS FALSE NEIGHBOUR: 'it returns false'. Refute it at one input. -/
def routeTrueWrong : ChangeSpec := { name := "routeTrue", fn := fun _ => fun
  | [d1, d2, d3, d4] => { results := [.lit (.bool false)], args := [d1, d2, d3, d4] }
  | _ => none }
def RouteTrueWrongFalsely : Prop := routeTrueRow.holds Try.pinned (OpenSpec.ofChange routeTrueWrong)

/-- 'mailcoachlaw.RouteMore': WHATEVER THE INPUT: true; the input reads as it did. -/
def routeMoreSpec : ChangeSpec := { name := "routeMore", fn := fun _ => fun
  | [d1, d2, d3, d4] => { results := [.lit (.bool true)], args := [d1, d2, d3, d4] }
  | _ => none }
def routeMoreRow : OpenClaim := { program := "ythhkpgnjpieckaa", sum := "61642e293a8c28bb60d8e867733c0dd994086c5cc4bd0218c3d984134ee221ba", func := "mailcoach/mailcoachlaw.RouteMore", spec := "routeMore", inPlace := ["internal/bytealg.CountString", "internal/bytealg.IndexByteString", "internal/bytealg.IndexString"], unfollowed := true, recurses := true, named := ["internal/bytealg.MaxLen"], apart := false }
def RouteMoreSaid : Prop := routeMoreRow.holds Try.pinned (OpenSpec.ofChange routeMoreSpec)

/-- ITS FALSE NEIGHBOUR: 'it returns false'. Refute it at one input. -/
def routeMoreWrong : ChangeSpec := { name := "routeMore", fn := fun _ => fun
  | [d1, d2, d3, d4] => { results := [.lit (.bool false)], args := [d1, d2, d3, d4] }
  | _ => none }
def RouteMoreWrongFalsely : Prop := routeMoreRow.holds Try.pinned (OpenSpec.ofChange routeMoreWrong)

/-- 'mailcoachlaw.LinesTells': WHATEVER THE INPUT: true; the input reads as it did. -/
def linesTellsSpec : ChangeSpec := { name := "linesTells", fn := fun _ => fun
  | [d1, d2] => { results := [.lit (.bool true)], args := [d1, d2] }
  | _ => none }
def linesTellsRow : OpenClaim := { program := "ythhkpgnjpieckaa", sum := "61642e293a8c28bb60d8e867733c0dd994086c5cc4bd0218c3d984134ee221ba", func := "mailcoach/mailcoachlaw.LinesTells", spec := "linesTells", inPlace := ["internal/bytealg.CountString", "internal/bytealg.IndexByteString", "internal/bytealg.IndexString"], unfollowed := true, recurses := true, named := ["internal/bytealg.MaxLen"], apart := false }
def LinesTellsSaid : Prop := linesTellsRow.holds Try.pinned (OpenSpec.ofChange linesTellsSpec)

/-- ITS FALSE NEIGHBOUR: 'it returns false'. Refute it at one input. -/
def linesTellsWrong : ChangeSpec := { name := "linesTells", fn := fun _ => fun
  | [d1, d2] => { results := [.lit (.bool false)], args := [d1, d2] }
  | _ => none }
def LinesTellsWrongFalsely : Prop := linesTellsRow.holds Try.pinned (OpenSpec.ofChange linesTellsWrong)

/-- 'mailcoachlaw.LinesSheds': WHATEVER THE INPUT: true; the input reads as it did. -/
def linesShedsSpec : ChangeSpec := { name := "linesSheds", fn := fun _ => fun
  | [d1, d2] => { results := [.lit (.bool true)], args := [d1, d2] }
  | _ => none }
def linesShedsRow : OpenClaim := { program := "ythhkpgnjpieckaa", sum := "61642e293a8c28bb60d8e867733c0dd994086c5cc4bd0218c3d984134ee221ba", func := "mailcoach/mailcoachlaw.LinesSheds", spec := "linesSheds", inPlace := ["internal/bytealg.CountString", "internal/bytealg.IndexByteString", "internal/bytealg.IndexString"], unfollowed := true, recurses := true, named := ["internal/bytealg.MaxLen"], apart := false }
def LinesShedsSaid : Prop := linesShedsRow.holds Try.pinned (OpenSpec.ofChange linesShedsSpec)

/-- ITS FALSE NEIGHBOUR: 'it returns false'. Refute it at one input. -/
def linesShedsWrong : ChangeSpec := { name := "linesSheds", fn := fun _ => fun
  | [d1, d2] => { results := [.lit (.bool false)], args := [d1, d2] }
  | _ => none }
def LinesShedsWrongFalsely : Prop := linesShedsRow.holds Try.pinned (OpenSpec.ofChange linesShedsWrong)

/-- 'mailcoachlaw.LinesTrue': WHATEVER THE INPUT: true; the input reads as it did. -/
def linesTrueSpec : ChangeSpec := { name := "linesTrue", fn := fun _ => fun
  | [d1, d2, d3, d4] => { results := [.lit (.bool true)], args := [d1, d2, d3, d4] }
  | _ => none }
def linesTrueRow : OpenClaim := { program := "ythhkpgnjpieckaa", sum := "61642e293a8c28bb60d8e867733c0dd994086c5cc4bd0218c3d984134ee221ba", func := "mailcoach/mailcoachlaw.LinesTrue", spec := "linesTrue", inPlace := ["internal/bytealg.CountString", "internal/bytealg.IndexByteString", "internal/bytealg.IndexString"], unfollowed := true, recurses := true, named := ["internal/bytealg.MaxLen"], apart := false }
def LinesTrueSaid : Prop := linesTrueRow.holds Try.pinned (OpenSpec.ofChange linesTrueSpec)

/-- ITS FALSE NEIGHBOUR: 'it returns false'. Refute it at one input. -/
def linesTrueWrong : ChangeSpec := { name := "linesTrue", fn := fun _ => fun
  | [d1, d2, d3, d4] => { results := [.lit (.bool false)], args := [d1, d2, d3, d4] }
  | _ => none }
def LinesTrueWrongFalsely : Prop := linesTrueRow.holds Try.pinned (OpenSpec.ofChange linesTrueWrong)

/-- 'mailcoachlaw.StateTrue': WHATEVER THE INPUT: true; the input reads as it did. -/
def stateTrueSpec : ChangeSpec := { name := "stateTrue", fn := fun _ => fun
  | [d1, d2] => { results := [.lit (.bool true)], args := [d1, d2] }
  | _ => none }
def stateTrueRow : OpenClaim := { program := "ythhkpgnjpieckaa", sum := "61642e293a8c28bb60d8e867733c0dd994086c5cc4bd0218c3d984134ee221ba", func := "mailcoach/mailcoachlaw.StateTrue", spec := "stateTrue", inPlace := ["internal/bytealg.CountString", "internal/bytealg.IndexByteString", "internal/bytealg.IndexString"], unfollowed := true, recurses := true, named := ["internal/bytealg.MaxLen"], apart := false }
def StateTrueSaid : Prop := stateTrueRow.holds Try.pinned (OpenSpec.ofChange stateTrueSpec)

/-- ITS FALSE NEIGHBOUR: 'it returns false'. Refute it at one input. -/
def stateTrueWrong : ChangeSpec := { name := "stateTrue", fn := fun _ => fun
  | [d1, d2] => { results := [.lit (.bool false)], args := [d1, d2] }
  | _ => none }
def StateTrueWrongFalsely : Prop := stateTrueRow.holds Try.pinned (OpenSpec.ofChange stateTrueWrong)

/- THE SECOND FORM. 'bulk': how many values and letters a reading holds, each counted each time it is reached (what is shared counts as often as it is met; a slice's spare places count too). A statement '..UptoSaid' is the law's where the arguments, and the package variables that the reading takes, are together of bulk at most 1048576: NARROWER than '..Said'. Prove '..Said' where nothing that the law and all that it calls make is longer than what came in: it says more and counts as full. Else prove '..UptoSaid'. A law counts once. -/
mutual
def uptoBulk {H : Type} : DataW H → Nat
  | .lit (.string bytes) => bytes.length + 1
  | .lit _ => 1
  | .nil => 1
  | .ptr d => uptoBulk d + 1
  | .slice elems spare => uptoBulkAll elems + uptoBulkAll spare + 1
  | .agg parts => uptoBulkAll parts + 1
  | .iface _ d => uptoBulk d + 1
  | .map entries => uptoBulkEntries entries + 1
  | .held _ => 1
def uptoBulkAll {H : Type} : List (DataW H) → Nat
  | [] => 0
  | d :: r => uptoBulk d + uptoBulkAll r
def uptoBulkEntries {H : Type} : List (Lit × DataW H) → Nat
  | [] => 0
  | x :: r => uptoBulkEntry x + uptoBulkEntries r
def uptoBulkEntry {H : Type} : Lit × DataW H → Nat
  | (.string bytes, d) => bytes.length + uptoBulk d + 1
  | (_, d) => uptoBulk d + 1
 end
def uptoSmall : (H : Type) → List (DataW H) → Bool := fun _ ds => decide (uptoBulkAll ds ≤ 1048576)
def OpenSpec.upto (s : _root_.Go.ChangeSpec) : _root_.Go.OpenSpec := { _root_.Go.OpenSpec.ofChange s with cond := some uptoSmall }

/-- 'mailcoachlaw.WordsTells', WHERE WHAT IT READS IS OF BULK AT MOST 1048576: true; the input reads as it did. -/
def wordsTellsUptoRow : OpenClaim := { program := "ythhkpgnjpieckaa", sum := "61642e293a8c28bb60d8e867733c0dd994086c5cc4bd0218c3d984134ee221ba", func := "mailcoach/mailcoachlaw.WordsTells", spec := "wordsTells", inPlace := ["internal/bytealg.CountString", "internal/bytealg.IndexByteString", "internal/bytealg.IndexString"], unfollowed := true, recurses := true, named := ["internal/bytealg.MaxLen"], apart := false, narrowed := true }
def WordsTellsUptoSaid : Prop := wordsTellsUptoRow.holds Try.pinned (OpenSpec.upto wordsTellsSpec)

/-- 'mailcoachlaw.WordsMatches', WHERE WHAT IT READS IS OF BULK AT MOST 1048576: true; the input reads as it did. -/
def wordsMatchesUptoRow : OpenClaim := { program := "ythhkpgnjpieckaa", sum := "61642e293a8c28bb60d8e867733c0dd994086c5cc4bd0218c3d984134ee221ba", func := "mailcoach/mailcoachlaw.WordsMatches", spec := "wordsMatches", inPlace := ["internal/bytealg.CountString", "internal/bytealg.IndexByteString", "internal/bytealg.IndexString"], unfollowed := true, recurses := true, named := ["internal/bytealg.MaxLen"], apart := false, narrowed := true }
def WordsMatchesUptoSaid : Prop := wordsMatchesUptoRow.holds Try.pinned (OpenSpec.upto wordsMatchesSpec)

/-- 'mailcoachlaw.WordsTrue', WHERE WHAT IT READS IS OF BULK AT MOST 1048576: true; the input reads as it did. -/
def wordsTrueUptoRow : OpenClaim := { program := "ythhkpgnjpieckaa", sum := "61642e293a8c28bb60d8e867733c0dd994086c5cc4bd0218c3d984134ee221ba", func := "mailcoach/mailcoachlaw.WordsTrue", spec := "wordsTrue", inPlace := ["internal/bytealg.CountString", "internal/bytealg.IndexByteString", "internal/bytealg.IndexString"], unfollowed := true, recurses := true, named := ["internal/bytealg.MaxLen"], apart := false, narrowed := true }
def WordsTrueUptoSaid : Prop := wordsTrueUptoRow.holds Try.pinned (OpenSpec.upto wordsTrueSpec)

/-- 'mailcoachlaw.WordsStar', WHERE WHAT IT READS IS OF BULK AT MOST 1048576: true; the input reads as it did. -/
def wordsStarUptoRow : OpenClaim := { program := "ythhkpgnjpieckaa", sum := "61642e293a8c28bb60d8e867733c0dd994086c5cc4bd0218c3d984134ee221ba", func := "mailcoach/mailcoachlaw.WordsStar", spec := "wordsStar", inPlace := ["internal/bytealg.CountString", "internal/bytealg.IndexByteString", "internal/bytealg.IndexString"], unfollowed := true, recurses := true, named := ["internal/bytealg.MaxLen"], apart := false, narrowed := true }
def WordsStarUptoSaid : Prop := wordsStarUptoRow.holds Try.pinned (OpenSpec.upto wordsStarSpec)

/-- 'mailcoachlaw.PlanChecks', WHERE WHAT IT READS IS OF BULK AT MOST 1048576: true; the input reads as it did. -/
def planChecksUptoRow : OpenClaim := { program := "ythhkpgnjpieckaa", sum := "61642e293a8c28bb60d8e867733c0dd994086c5cc4bd0218c3d984134ee221ba", func := "mailcoach/mailcoachlaw.PlanChecks", spec := "planChecks", inPlace := ["internal/bytealg.CountString", "internal/bytealg.IndexByteString", "internal/bytealg.IndexString"], unfollowed := true, recurses := true, named := ["internal/bytealg.MaxLen"], apart := false, narrowed := true }
def PlanChecksUptoSaid : Prop := planChecksUptoRow.holds Try.pinned (OpenSpec.upto planChecksSpec)

/-- 'mailcoachlaw.PlanFits', WHERE WHAT IT READS IS OF BULK AT MOST 1048576: true; the input reads as it did. -/
def planFitsUptoRow : OpenClaim := { program := "ythhkpgnjpieckaa", sum := "61642e293a8c28bb60d8e867733c0dd994086c5cc4bd0218c3d984134ee221ba", func := "mailcoach/mailcoachlaw.PlanFits", spec := "planFits", inPlace := ["internal/bytealg.CountString", "internal/bytealg.IndexByteString", "internal/bytealg.IndexString"], unfollowed := true, recurses := true, named := ["internal/bytealg.MaxLen"], apart := false, narrowed := true }
def PlanFitsUptoSaid : Prop := planFitsUptoRow.holds Try.pinned (OpenSpec.upto planFitsSpec)

/-- 'mailcoachlaw.RouteTells', WHERE WHAT IT READS IS OF BULK AT MOST 1048576: true; the input reads as it did. -/
def routeTellsUptoRow : OpenClaim := { program := "ythhkpgnjpieckaa", sum := "61642e293a8c28bb60d8e867733c0dd994086c5cc4bd0218c3d984134ee221ba", func := "mailcoach/mailcoachlaw.RouteTells", spec := "routeTells", inPlace := ["internal/bytealg.CountString", "internal/bytealg.IndexByteString", "internal/bytealg.IndexString"], unfollowed := true, recurses := true, named := ["internal/bytealg.MaxLen"], apart := false, narrowed := true }
def RouteTellsUptoSaid : Prop := routeTellsUptoRow.holds Try.pinned (OpenSpec.upto routeTellsSpec)

/-- 'mailcoachlaw.RouteWays', WHERE WHAT IT READS IS OF BULK AT MOST 1048576: true; the input reads as it did. -/
def routeWaysUptoRow : OpenClaim := { program := "ythhkpgnjpieckaa", sum := "61642e293a8c28bb60d8e867733c0dd994086c5cc4bd0218c3d984134ee221ba", func := "mailcoach/mailcoachlaw.RouteWays", spec := "routeWays", inPlace := ["internal/bytealg.CountString", "internal/bytealg.IndexByteString", "internal/bytealg.IndexString"], unfollowed := true, recurses := true, named := ["internal/bytealg.MaxLen"], apart := false, narrowed := true }
def RouteWaysUptoSaid : Prop := routeWaysUptoRow.holds Try.pinned (OpenSpec.upto routeWaysSpec)

/-- 'mailcoachlaw.RouteTrue', WHERE WHAT IT READS IS OF BULK AT MOST 1048576: true; the input reads as it did. -/
def routeTrueUptoRow : OpenClaim := { program := "ythhkpgnjpieckaa", sum := "61642e293a8c28bb60d8e867733c0dd994086c5cc4bd0218c3d984134ee221ba", func := "mailcoach/mailcoachlaw.RouteTrue", spec := "routeTrue", inPlace := ["internal/bytealg.CountString", "internal/bytealg.IndexByteString", "internal/bytealg.IndexString"], unfollowed := true, recurses := true, named := ["internal/bytealg.MaxLen"], apart := false, narrowed := true }
def RouteTrueUptoSaid : Prop := routeTrueUptoRow.holds Try.pinned (OpenSpec.upto routeTrueSpec)

/-- 'mailcoachlaw.RouteMore', WHERE WHAT IT READS IS OF BULK AT MOST 1048576: true; the input reads as it did. -/
def routeMoreUptoRow : OpenClaim := { program := "ythhkpgnjpieckaa", sum := "61642e293a8c28bb60d8e867733c0dd994086c5cc4bd0218c3d984134ee221ba", func := "mailcoach/mailcoachlaw.RouteMore", spec := "routeMore", inPlace := ["internal/bytealg.CountString", "internal/bytealg.IndexByteString", "internal/bytealg.IndexString"], unfollowed := true, recurses := true, named := ["internal/bytealg.MaxLen"], apart := false, narrowed := true }
def RouteMoreUptoSaid : Prop := routeMoreUptoRow.holds Try.pinned (OpenSpec.upto routeMoreSpec)

/-- 'mailcoachlaw.LinesTells', WHERE WHAT IT READS IS OF BULK AT MOST 1048576: true; the input reads as it did. -/
def linesTellsUptoRow : OpenClaim := { program := "ythhkpgnjpieckaa", sum := "61642e293a8c28bb60d8e867733c0dd994086c5cc4bd0218c3d984134ee221ba", func := "mailcoach/mailcoachlaw.LinesTells", spec := "linesTells", inPlace := ["internal/bytealg.CountString", "internal/bytealg.IndexByteString", "internal/bytealg.IndexString"], unfollowed := true, recurses := true, named := ["internal/bytealg.MaxLen"], apart := false, narrowed := true }
def LinesTellsUptoSaid : Prop := linesTellsUptoRow.holds Try.pinned (OpenSpec.upto linesTellsSpec)

/-- 'mailcoachlaw.LinesSheds', WHERE WHAT IT READS IS OF BULK AT MOST 1048576: true; the input reads as it did. -/
def linesShedsUptoRow : OpenClaim := { program := "ythhkpgnjpieckaa", sum := "61642e293a8c28bb60d8e867733c0dd994086c5cc4bd0218c3d984134ee221ba", func := "mailcoach/mailcoachlaw.LinesSheds", spec := "linesSheds", inPlace := ["internal/bytealg.CountString", "internal/bytealg.IndexByteString", "internal/bytealg.IndexString"], unfollowed := true, recurses := true, named := ["internal/bytealg.MaxLen"], apart := false, narrowed := true }
def LinesShedsUptoSaid : Prop := linesShedsUptoRow.holds Try.pinned (OpenSpec.upto linesShedsSpec)

/-- 'mailcoachlaw.LinesTrue', WHERE WHAT IT READS IS OF BULK AT MOST 1048576: true; the input reads as it did. -/
def linesTrueUptoRow : OpenClaim := { program := "ythhkpgnjpieckaa", sum := "61642e293a8c28bb60d8e867733c0dd994086c5cc4bd0218c3d984134ee221ba", func := "mailcoach/mailcoachlaw.LinesTrue", spec := "linesTrue", inPlace := ["internal/bytealg.CountString", "internal/bytealg.IndexByteString", "internal/bytealg.IndexString"], unfollowed := true, recurses := true, named := ["internal/bytealg.MaxLen"], apart := false, narrowed := true }
def LinesTrueUptoSaid : Prop := linesTrueUptoRow.holds Try.pinned (OpenSpec.upto linesTrueSpec)

/-- 'mailcoachlaw.StateTrue', WHERE WHAT IT READS IS OF BULK AT MOST 1048576: true; the input reads as it did. -/
def stateTrueUptoRow : OpenClaim := { program := "ythhkpgnjpieckaa", sum := "61642e293a8c28bb60d8e867733c0dd994086c5cc4bd0218c3d984134ee221ba", func := "mailcoach/mailcoachlaw.StateTrue", spec := "stateTrue", inPlace := ["internal/bytealg.CountString", "internal/bytealg.IndexByteString", "internal/bytealg.IndexString"], unfollowed := true, recurses := true, named := ["internal/bytealg.MaxLen"], apart := false, narrowed := true }
def StateTrueUptoSaid : Prop := stateTrueUptoRow.holds Try.pinned (OpenSpec.upto stateTrueSpec)

end Rows
end Go.Proofs.Ythhkpgnjpieckaa
