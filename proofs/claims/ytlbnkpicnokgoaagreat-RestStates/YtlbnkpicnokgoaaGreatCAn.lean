import Derived.Test.YtlbnkpicnokgoaaGreatUtx
import Derived.Test.YtlbnkpicnokgoaaGreatCUr
namespace Go.Proofs.YtlbnkpicnokgoaaGreat
open Go.RowKit Go.Maps
set_option linter.unusedVariables false
set_option maxRecDepth 100000
end Go.Proofs.YtlbnkpicnokgoaaGreat
