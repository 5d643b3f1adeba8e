import Derived.KernelRfl
import Derived.Deep.RegionHeld3
import Derived.Test.YtpoichgodamnkaaGreatGjx
/- Tm -/
namespace Go.Proofs.YtpoichgodamnkaaGreat
set_option linter.unusedVariables false
set_option maxRecDepth 100000
open Go.RowKit Go.Maps

def bS : StateD := busyS (bOut 1) ⟨-1, 1⟩ ⟨0, 2⟩ 1
theorem BusyAt.setO {W : World} {gI gR gO gT : Nat} {t0 t1 : TakerD} (h : BusyAt W gI gR gO gT (bOut 1) t0 t1) (h1 : gI ≠ gO) (h2 : gR ≠ gO) (h3 : gT ≠ gO) : BusyAt (W.setCell ⟨gO, 3, none⟩ (.int .i64 2)) gI gR gO gT (bOut 2) t0 t1 :=
  ⟨(heap_setCell_other W ⟨gO, 3, none⟩ gI _ h1).trans h.i, (heap_setCell_other W ⟨gO, 3, none⟩ gR _ h2).trans h.r, setCell_block h.o _, (heap_setCell_other W ⟨gO, 3, none⟩ gT _ h3).trans h.t⟩
theorem BusyAt.setT {W : World} {gI gR gO gT : Nat} {o : OutD} {t0 t1 : TakerD} (h : BusyAt W gI gR gO gT o t0 t1) (h1 : gI ≠ gT) (h2 : gR ≠ gT) (h3 : gT ≠ gO) : BusyAt (W.setCell ⟨gT, 2, none⟩ (.int .i64 1)) gI gR gO gT o t0 ⟨1, t1.most⟩ :=
  ⟨(heap_setCell_other W ⟨gT, 2, none⟩ gI _ h1).trans h.i, (heap_setCell_other W ⟨gT, 2, none⟩ gR _ h2).trans h.r, (heap_setCell_other W ⟨gT, 2, none⟩ gO _ (fun e => h3 e.symm)).trans h.o, setCell_block h.t _⟩
theorem facts_S : (stE officeP bS = 0 ∧ stE officeP (beginS 3) = 0 ∧ stE officeP (busyS (bOut 1) ⟨-1, 1⟩ ⟨0, 2⟩ 2) = 10 ∧ stE officeP (busyS (bOut 2) ⟨-1, 1⟩ ⟨0, 2⟩ 1) = 1 ∧ stE officeP (busyS (bOut 1) ⟨-1, 1⟩ ⟨1, 2⟩ 1) = 1) ∧ hdE officeP bS 1 = 0 ∧ hdN officeP bS 1 = 1 ∧ hdE officeP bS 2 = 5 ∧ chkP officeP = 0 := by decide +kernel

end Go.Proofs.YtpoichgodamnkaaGreat
