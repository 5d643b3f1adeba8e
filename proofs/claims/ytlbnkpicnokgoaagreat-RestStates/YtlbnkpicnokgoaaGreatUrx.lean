import Derived.KernelRfl
import Derived.Deep.RegionHeld3
import Derived.Test.YtlbnkpicnokgoaaGreatUex
import Derived.Test.YtlbnkpicnokgoaaGreatUax
namespace Go.Proofs.YtlbnkpicnokgoaaGreat
open Go.RowKit Go.Maps
set_option linter.unusedVariables false
set_option maxRecDepth 100000
def bS:ab_:=oA_ (bOut 1) ⟨-1,1⟩ ⟨0,2⟩ 1
end Go.Proofs.YtlbnkpicnokgoaaGreat
