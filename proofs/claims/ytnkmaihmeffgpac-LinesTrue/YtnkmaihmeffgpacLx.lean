/- mailcoachref.push, PushOf. -/
import Derived.Deep.QuietTactic
import Derived.BigQuiet
import Derived.Test.YtnkmaihmeffgpacLs
namespace Go.Proofs.Ytnkmaihmeffgpac
set_option linter.unusedVariables false
set_option maxRecDepth 100000
open Go.RowKit

theorem idx_below {s : Int} : ∀ {xs : List ItemD} {j : Nat}, j < idxSeq s xs → ∃ h : j < xs.length, xs[j].seq < s
  | [], j, h => by simp [idxSeq] at h
  | x :: r, j, h => by
    unfold idxSeq at h
    by_cases hx : s ≤ x.seq
    · rw [if_pos hx] at h; omega
    · rw [if_neg hx] at h
      cases j with
      | zero => exact ⟨by simp, by simp; omega⟩
      | succ j => obtain ⟨h1, h2⟩ := idx_below (s := s) (xs := r) (j := j) (by omega); exact ⟨by simp; omega, by simpa using h2⟩
theorem idx_at {s : Int} : ∀ {xs : List ItemD} (h : idxSeq s xs < xs.length), s ≤ xs[idxSeq s xs].seq
  | [], h => by simp at h
  | x :: r, h => by
    by_cases hx : s ≤ x.seq
    · have e : idxSeq s (x :: r) = 0 := by unfold idxSeq; rw [if_pos hx]
      simp [e, hx]
    · have e : idxSeq s (x :: r) = idxSeq s r + 1 := by conv => lhs; unfold idxSeq
                                                        rw [if_neg hx]
      have h' : idxSeq s r < r.length := by rw [e] at h; simpa using h
      have := idx_at h'
      simpa [e] using this

def pushK (xs : List ItemD) (x : ItemD) (k : Nat) : List ItemD := if idxSeq x.seq xs < k then (pushL xs x).take (k + 1) else xs.take k
theorem pushL_len (xs : List ItemD) (x : ItemD) : (pushL xs x).length = xs.length + 1 := by
  have := idxSeq_le x.seq xs
  unfold pushL; simp; omega
theorem pushL_get {xs : List ItemD} {x : ItemD} {k : Nat} (h : idxSeq x.seq xs ≤ k) (hk : k < xs.length) : (pushL xs x)[k + 1]? = some xs[k] := by
  have h1 := idxSeq_le x.seq xs
  unfold pushL
  rw [List.getElem?_append_right (by simp; omega), List.getElem?_drop]
  have e : idxSeq x.seq xs + (k + 1 - (List.take (idxSeq x.seq xs) xs ++ [x]).length) = k := by simp; omega
  rw [e, List.getElem?_eq_getElem hk]
theorem pushK_zero (xs : List ItemD) (x : ItemD) : pushK xs x 0 = [] := by unfold pushK; simp
theorem pushK_other {xs : List ItemD} {x : ItemD} {k : Nat} (hk : k < xs.length) (h : idxSeq x.seq xs ≠ k) : pushK xs x (k + 1) = pushK xs x k ++ [xs[k]] := by
  unfold pushK
  by_cases h1 : idxSeq x.seq xs < k
  · rw [if_pos h1, if_pos (by omega), List.take_add_one, pushL_get (by omega) hk]; rfl
  · rw [if_neg h1, if_neg (by omega), List.take_succ_eq_append_getElem hk]
theorem pushK_here {xs : List ItemD} {x : ItemD} {k : Nat} (hk : k < xs.length) (h : idxSeq x.seq xs = k) : pushK xs x (k + 1) = pushK xs x k ++ [x] ++ [xs[k]] := by
  unfold pushK
  rw [if_pos (show idxSeq x.seq xs < k + 1 by omega), if_neg (show ¬ idxSeq x.seq xs < k by omega), List.take_add_one, pushL_get (by omega) hk]
  have e : (pushL xs x).take (k + 1) = xs.take k ++ [x] := by
    unfold pushL; rw [h, List.take_append_of_le_length (by simp; omega), List.take_of_length_le (by simp; omega)]
  rw [e]; rfl
theorem pushK_len {xs : List ItemD} {x : ItemD} {k : Nat} (hk : k ≤ xs.length) : (pushK xs x k).length ≤ xs.length + 1 := by
  unfold pushK; split
  · rw [List.length_take, pushL_len]; omega
  · rw [List.length_take]; omega
theorem pushK_all {xs : List ItemD} {x : ItemD} (h : idxSeq x.seq xs < xs.length) : pushK xs x xs.length = pushL xs x := by
  unfold pushK; rw [if_pos h, List.take_of_length_le (by rw [pushL_len]; omega)]
theorem pushK_end {xs : List ItemD} {x : ItemD} (h : ¬ idxSeq x.seq xs < xs.length) : pushL xs x = pushK xs x xs.length ++ [x] := by
  have := idxSeq_le x.seq xs
  have e : idxSeq x.seq xs = xs.length := by omega
  unfold pushK; rw [if_neg h]; unfold pushL; rw [e]; simp

theorem below_drewN {b n : Nat} {W w' : World} (h : Below b W w') : Below b W (w'.drewN n) := ⟨h.os, h.tape, h.output, h.size, h.block⟩
theorem app_below {W1 wq w3 : World} {o : Obj} {v : Value} {T : TypeId} {m : Nat} {xs : List Value} (hB : Below W1.heap.size W1 wq) (hrow : wq.ownsRow W1.heap.size T 5 v m xs) (hg : (wq.alloc o).grownBy w3 v.ownBlock) : Below W1.heap.size W1 w3 :=
  (hB.alloc hB.size o).grown hg (by have := hB.size; simp; omega) (own_ge hrow)
