import Derived.KernelRfl
import Derived.Deep.RegionHeld3
import Derived.Test.YtpoichgodamnkaaGreatKex
import Derived.Test.YtpoichgodamnkaaGreatKcx
namespace Go.Proofs.YtpoichgodamnkaaGreat
open Go.RowKit Go.Maps
set_option linter.unusedVariables false
set_option maxRecDepth 100000
def bS : StateD := busyS (bOut 1) ⟨-1, 1⟩ ⟨0, 2⟩ 1
theorem BusyAt.setT {W : World} {gI gR gO gT : Nat} {o : OutD} {t0 t1 : TakerD} (h : BusyAt W gI gR gO gT o t0 t1) (h1 : gI ≠ gT) (h2 : gR ≠ gT) (h3 : gT ≠ gO) : BusyAt (W.setCell ⟨gT, 2, none⟩ (.int .i64 1)) gI gR gO gT o t0 ⟨1, t1.most⟩ :=
 ⟨(heap_setCell_other W ⟨gT, 2, none⟩ gI _ h1).trans h.i, (heap_setCell_other W ⟨gT, 2, none⟩ gR _ h2).trans h.r, (heap_setCell_other W ⟨gT, 2, none⟩ gO _ (fun e => h3 e.symm)).trans h.o, scb_ h.t _⟩
end Go.Proofs.YtpoichgodamnkaaGreat
