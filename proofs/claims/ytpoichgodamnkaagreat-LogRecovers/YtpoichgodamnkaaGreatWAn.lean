import Derived.Test.YtpoichgodamnkaaGreatOtx
import Derived.Test.YtpoichgodamnkaaGreatWUr
namespace Go.Proofs.YtpoichgodamnkaaGreat
open Go.RowKit Go.Maps
set_option linter.unusedVariables false
set_option maxRecDepth 100000
end Go.Proofs.YtpoichgodamnkaaGreat
