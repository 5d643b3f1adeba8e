import Derived.Test.YtlbnkpicnokgoaaGreatScx
import Derived.Deep.RegionHeld3
import Derived.BigQuiet
import Derived.Test.YtlbnkpicnokgoaaGreatSex
import Derived.Test.YtlbnkpicnokgoaaGreatSax
import Derived.Lib.AppendStr
import Derived.Laws.BytesArg
namespace Go.Proofs.YtlbnkpicnokgoaaGreat
open Go.RowKit
set_option linter.unusedVariables false
set_option maxRecDepth 100000
end Go.Proofs.YtlbnkpicnokgoaaGreat
namespace Go.Proofs.YtlbnkpicnokgoaaGreat
open Go.RowKit Go.Maps
set_option linter.unusedVariables false
set_option maxRecDepth 100000
theorem fP_ {w:World} {cs:List Value} {T:TypeId}:a7_ (w.alloc (.cells cs.toArray T)) (some ⟨w.heap.size,0,none⟩) cs:=.inr ⟨_,0,rfl,by simp,fun j u hj=>by
 rw [coc_ (World.alloc_heap_new w _),Nat.zero_add];simpa using hj⟩
theorem Tryz.infoByte:(Tryz.prog.info? 5).map (fun i=>(i.zero,i.size,i.bytes)) = some (some (.int .u8 0),1,1):=by kernel_rfl
end Go.Proofs.YtlbnkpicnokgoaaGreat
