import Derived.Deep.RegionHeld3
import Derived.Deep.DeepCutAuto
import Derived.Test.YtpoichgodamnkaaGreatWUk
import Derived.Test.YtpoichgodamnkaaGreatOrx
import Derived.Test.YtpoichgodamnkaaGreatOcx
namespace Go.Proofs.YtpoichgodamnkaaGreat
open Go.RowKit Go.Maps
set_option linter.unusedVariables false
set_option maxRecDepth 100000
end Go.Proofs.YtpoichgodamnkaaGreat
