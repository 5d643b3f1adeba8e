import Derived.Deep.RegionHeld3
import Derived.Deep.DeepCutAuto
import Derived.Test.YtpoichgodamnkaaGreatVUk
import Derived.Test.YtpoichgodamnkaaGreatKcx
namespace Go.Proofs.YtpoichgodamnkaaGreat
open Go.RowKit Go.Maps
set_option linter.unusedVariables false
set_option maxRecDepth 100000
theorem LinesV.snoc {W : World} {n k : Nat} {xss : List (List ItemD)} {vs : List Value} (h : LinesV W n (xss.take k) vs) (hk : k < xss.length) {v : Value} {b : Option Addr} {c : Nat} (hv : LineV W n xss[k] v b c) : LinesV W n (xss.take (k + 1)) (vs ++ [v]) := by
 have hl : (xss.take k).length = k := by rw [List.length_take]; omega
 have hvl : vs.length = k := by rw [h.len, hl]
 have e : xss.take (k + 1) = xss.take k ++ [xss[k]] := List.take_succ_eq_append_getElem hk
 refine ⟨by rw [e, List.length_append, List.length_append, h.len]; rfl, fun i hi => ?_⟩
 have hi' : i < k + 1 := by rw [e, List.length_append, hl] at hi; simpa using hi
 by_cases c1 : i < k
 ·obtain ⟨u, b', c', e1, e2⟩ := h.get i (by rw [hl]; exact c1)
  refine ⟨u, b', c', by rw [List.getElem?_append_left (by omega)]; exact e1, ?_⟩
  rw [List.getElem_take] at e2 ⊢
  exact e2
 ·have : i = k := by omega
  subst this
  refine ⟨v, b, c, by rw [List.getElem?_append_right (by omega), hvl]; simp, ?_⟩
  rw [List.getElem_take]
  exact hv
end Go.Proofs.YtpoichgodamnkaaGreat
