import Derived.Deep.RegionHeld3
import Derived.Deep.DeepCutAuto
import Derived.Test.YtpoichgodamnkaaGreatVUk
import Derived.Test.YtpoichgodamnkaaGreatKrx
import Derived.Test.YtpoichgodamnkaaGreatKcx
namespace Go.Proofs.YtpoichgodamnkaaGreat
open Go.RowKit Go.Maps
set_option linter.unusedVariables false
set_option maxRecDepth 100000
def aS : StateD := joinS bS 0 3
def bbS : StateD := delS aS 0
end Go.Proofs.YtpoichgodamnkaaGreat
