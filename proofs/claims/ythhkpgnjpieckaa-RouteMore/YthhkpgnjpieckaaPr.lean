/- Plain mathematics: what words.Match keeps: what is reached behind each word of the pattern. -/
import Derived.Test.YthhkpgnjpieckaaLy
namespace Go.Proofs.Ythhkpgnjpieckaa
set_option linter.unusedVariables false
set_option maxRecDepth 100000

/-- What is reached by the words pre: at n: are they laid along the key's first n? -/
def reachB (xs pre : List ByteArray) : List Bool := (List.range (xs.length + 1)).map (fun n => laidB pre (xs.take n))

theorem reachB_length (xs pre : List ByteArray) : (reachB xs pre).length = xs.length + 1 := by simp [reachB]
theorem reachB_get (xs pre : List ByteArray) (n : Nat) (h : n ≤ xs.length) : (reachB xs pre).getD n false = laidB pre (xs.take n) := by
  have : n < xs.length + 1 := by omega
  simp [reachB, List.getD, this]
theorem reachB_start (xs : List ByteArray) : reachB xs [] = true :: List.replicate xs.length false := by
  apply List.ext_getElem
  · simp [reachB]
  · intro i h1 h2
    cases i with
    | zero => simp [reachB, laidB_nil]
    | succ i =>
      have h : i < xs.length := by simpa [reachB] using h1
      simp [reachB, laidB_nil]
      intro e; simp [e] at h
theorem layN_reach (xs pre : List ByteArray) (x : ByteArray) : ∀ n, n ≤ xs.length → layN x (reachB xs pre) xs n = laidB (pre ++ [x]) (xs.take n) := by
  intro n
  induction n with
  | zero =>
    intro _
    by_cases hx : x.data.toList = [35]
    · rw [layN, if_pos hx, reachB_get _ _ 0 (Nat.zero_le _), laidB_snoc_hash hx]; simp
    · rw [layN, if_neg hx, List.take_zero, laidB_snoc_nil hx]
  | succ n ih =>
    intro hn
    by_cases hx : x.data.toList = [35]
    · rw [layN, if_pos hx, reachB_get _ _ _ hn, ih (by omega), laidB_snoc_hash hx, laidB_snoc_hash hx]
      have e1 : (xs.take (n + 1)).length = n + 1 := by simp; omega
      have e2 : (xs.take n).length = n := by simp; omega
      rw [e1, e2, List.range_succ (n := n + 1), List.any_append, Bool.or_comm]
      congr 1
      · rw [Bool.eq_iff_iff, List.any_eq_true, List.any_eq_true]
        constructor
        · rintro ⟨j, hj, h⟩
          simp at hj
          exact ⟨j, by simp; omega, by rw [List.take_take, Nat.min_eq_left (by omega)] at *; exact h⟩
        · rintro ⟨j, hj, h⟩
          simp at hj
          exact ⟨j, by simp; omega, by rw [List.take_take, Nat.min_eq_left (by omega)] at *; exact h⟩
      · simp [List.take_take]
    · rw [layN, if_neg hx, reachB_get _ _ n (by omega), List.take_succ_eq_append_getElem (show n < xs.length from by omega), laidB_snoc hx]
      have : xs.getD n ⟨#[]⟩ = xs[n] := by simp [List.getD, show n < xs.length from by omega]
      rw [this]
theorem layB_reach (xs pre : List ByteArray) (x : ByteArray) : layB x (reachB xs pre) xs = reachB xs (pre ++ [x]) := by
  apply List.ext_getElem
  · simp [layB, reachB]
  · intro i h1 h2
    have h : i ≤ xs.length := by simp [layB, reachB] at h1; omega
    simp only [layB, List.getElem_map, List.getElem_range]
    rw [layN_reach xs pre x i h]
    simp [reachB]
theorem reachB_last (xs pre : List ByteArray) : (reachB xs pre)[xs.length]'(by simp [reachB]) = laidB pre xs := by simp [reachB]

end Go.Proofs.Ythhkpgnjpieckaa
