import Derived.Deep.RegionHeld3
import Derived.Deep.DeepCutAuto
import Derived.Test.YtpoichgodamnkaaGreatSUk
import Derived.Test.YtpoichgodamnkaaGreatGtx
/- Ur -/
namespace Go.Proofs.YtpoichgodamnkaaGreat
set_option linter.unusedVariables false
set_option maxRecDepth 100000
open Go.RowKit Go.Maps

def aS : StateD := joinS bS 0 3
def bbS : StateD := delS aS 0
theorem facts_T : (joinE officeP bS 0 3 = 0 ∧ goneIdx bS.takers = 0 ∧ nextE officeP aS 0 = 0 ∧ nextK aS 0 = 0 ∧ delE officeP aS 0 = 0) ∧ (nextE officeP bS 1 = 8 ∧ joinE officeP bS 0 5 = 3 ∧ nextE officeP bS 0 = 0 ∧ nextK bS 0 = 1 ∧ aS.nextTag = 6) := by decide +kernel
theorem facts_U : bbS.outs = [bOut 1, ⟨6, 0, 0, ⟨2, ⟨#[120, 46, 121]⟩, ⟨#[116, 119, 111]⟩, false, 0⟩⟩] ∧ bbS.ready = [[⟨3, ⟨#[120, 46, 121]⟩, ⟨#[116, 104, 114, 101, 101]⟩, false, 0⟩], [], []] ∧ aS.takers = [⟨0, 3⟩, ⟨0, 2⟩] := by
  have e : nextK aS 0 = 0 := facts_T.1.2.2.2.1
  unfold bbS delS delO
  rw [e]
  exact ⟨rfl, rfl, rfl⟩

theorem get_len {xs ys : List (List ItemD)} (e : xs = ys) (h : 0 < xs.length) {n : Nat} (hn : (ys.getD 0 []).length = n) : (xs[0]'h).length = n := by
  subst e
  rw [List.getD_eq_getElem?_getD, List.getElem?_eq_getElem h] at hn
  exact hn

end Go.Proofs.YtpoichgodamnkaaGreat
