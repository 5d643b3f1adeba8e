/- mailcoachref.SameTexts at two slices of the same texts. -/
import Derived.Deep.QuietTactic
import Derived.BigQuiet
import Derived.Test.YtpoichgodamnkaaSl
namespace Go.Proofs.Ytpoichgodamnkaa
set_option linter.unusedVariables false
set_option maxRecDepth 100000
open Go.RowKit
