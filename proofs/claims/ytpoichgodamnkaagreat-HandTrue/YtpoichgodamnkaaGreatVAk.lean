import Derived.Test.YtpoichgodamnkaaGreatKsx
import Derived.Test.YtpoichgodamnkaaGreatKcx
namespace Go.Proofs.YtpoichgodamnkaaGreat
open Go.RowKit Go.Maps
set_option linter.unusedVariables false
set_option maxRecDepth 100000
theorem ArrsAt.tail {W : World} {g o c : Nat} {y : ArrD} {r : List ArrD} (h : ArrsAt W (some ⟨g, o, none⟩) (y :: r)) (hc : r.length + 1 ≤ c) : ArrsAt W (if c = 1 then some (⟨g, o, none⟩ : Addr) else some ⟨g, o + 4, none⟩) r := by
 by_cases h1 : c = 1
 ·have : r = [] := List.length_eq_zero_iff.1 (by omega)
  subst this; exact .inl rfl
 ·rw [if_neg h1]
  rcases h with h | ⟨g', o', e, hg, h⟩
  ·simp [arrCells, ArrD.cells] at h
  ·cases e
   refine .inr ⟨g, o + 4, rfl, hg, fun j u hj => ?_⟩
   have := h (j + 4) u (by show (y.cells ++ arrCells r)[j + 4]? = some u; rw [List.getElem?_append_right (by simp [ArrD.cells])]; simpa [ArrD.cells] using hj)
   rw [show o + 4 + j = o + (j + 4) by omega]; exact this
end Go.Proofs.YtpoichgodamnkaaGreat
