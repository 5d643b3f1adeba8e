/- mailcoachref.SameTexts at two slices of the same texts. -/
import Derived.Deep.QuietTactic
import Derived.BigQuiet
import Derived.Test.YtcbabbecffbifabSl
namespace Go.Proofs.Ytcbabbecffbifab
set_option linter.unusedVariables false
set_option maxRecDepth 100000
open Go.RowKit
