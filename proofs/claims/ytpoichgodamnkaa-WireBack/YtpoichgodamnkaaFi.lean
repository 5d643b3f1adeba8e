/- mailcoachref.Fit, MatchOf. -/
import Derived.Test.YtpoichgodamnkaaLd
namespace Go.Proofs.Ytpoichgodamnkaa
set_option linter.unusedVariables false
set_option maxRecDepth 100000
open Go.RowKit

theorem IsTexts.below {W W' : World} {B g o : Nat} {xs : List ByteArray} (h : IsTexts W g o xs) (hB : Below B W W') (hg : g < B) : IsTexts W' g o xs :=
  fun i hi => (hB.cell (p := ⟨g, o + i, none⟩) hg).trans (h i hi)
theorem IsTexts.lt {W : World} {g o : Nat} {xs : List ByteArray} (h : IsTexts W g o xs) (hne : 0 < xs.length) : g < W.heap.size := by
  have := h 0 hne
  unfold World.cell? at this
  simp only at this
  cases hb : W.heap[g]? with
  | none => rw [hb] at this; cases this
  | some o => exact (Array.getElem?_eq_some_iff.1 hb).1
theorem IsTexts.keep {W W' : World} {g o : Nat} {xs : List ByteArray} (h : IsTexts W g o xs) (hne : 0 < xs.length) (hB : Below W.heap.size W W') : IsTexts W' g o xs := h.below hB (h.lt hne)
theorem below_drewN (w : World) (n : Nat) : Below w.heap.size w (w.drewN n) := ⟨rfl, rfl, rfl, Nat.le_refl _, fun _ _ => rfl⟩
theorem fitL_eq (p k : List UInt8) : fitL p k = laidB (wlB p) (wlB k) := by unfold fitL laidB; rw [wlB_list, wlB_list]
