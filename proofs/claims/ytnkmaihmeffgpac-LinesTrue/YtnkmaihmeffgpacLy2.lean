/- mailcoachref.PushOf. -/
import Derived.Test.YtnkmaihmeffgpacLx
namespace Go.Proofs.Ytnkmaihmeffgpac
set_option linter.unusedVariables false
set_option maxRecDepth 100000
open Go.RowKit

theorem lineFrom_rise : ∀ {xs : List ItemD} {last : Int}, lineFrom last xs = true → xs.Pairwise (fun x y => x.seq < y.seq) ∧ ∀ x ∈ xs, last < x.seq
  | [], last, _ => ⟨List.Pairwise.nil, by simp⟩
  | x :: r, last, h => by
    unfold lineFrom at h
    simp only [Bool.and_eq_true, decide_eq_true_eq] at h
    obtain ⟨⟨h1, h2⟩, h3⟩ := h
    obtain ⟨h4, h5⟩ := lineFrom_rise h3
    refine ⟨List.pairwise_cons.2 ⟨h5, h4⟩, ?_⟩
    intro y hy
    rcases List.mem_cons.1 hy with rfl | hy
    · exact h2
    · have := h5 y hy; omega
theorem lineOk_rise {xs : List ItemD} (h : lineOk xs = true) {i j : Nat} (hj : j < xs.length) (hij : i < j) : (xs[i]'(by omega)).seq < xs[j].seq :=
  List.pairwise_iff_getElem.1 (lineFrom_rise h).1 i j (by omega) hj hij
theorem has_yes {xs : List ItemD} (hl : lineOk xs = true) {k : Nat} {s : Int} (hk : k < xs.length) (h : xs[k].seq = s) : pushHas s xs = true := by
  have h1 : idxSeq s xs ≤ k := by
    rcases Nat.lt_or_ge k (idxSeq s xs) with h1 | h1
    · obtain ⟨_, h2⟩ := idx_below h1; omega
    · exact h1
  have h2 := idx_at (s := s) (xs := xs) (by omega)
  have h3 : idxSeq s xs = k := by
    rcases Nat.lt_or_ge (idxSeq s xs) k with h3 | h3
    · have := lineOk_rise hl hk h3; omega
    · omega
  unfold pushHas
  rw [h3, List.getElem?_eq_getElem hk]; simp [h]
theorem has_no {xs : List ItemD} {n k : Nat} {s : Int} (hn : xs.length = n) (hk : ¬ k < n) (h : ∀ j (hj : j < xs.length), j < k → ¬ xs[j].seq = s) : pushHas s xs = false := by
  unfold pushHas
  by_cases h1 : idxSeq s xs < xs.length
  · rw [List.getElem?_eq_getElem h1]; simp [h _ h1 (by omega)]
  · rw [List.getElem?_eq_none (by omega)]; simp
