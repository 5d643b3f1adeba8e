/- What StateTrue asks, plain: takers have together what is out; who is gone has none. -/
import Derived.Test.YthhkpgnjpieckaaTj
namespace Go.Proofs.Ythhkpgnjpieckaa
set_option linter.unusedVariables false
set_option maxRecDepth 100000
open Go.RowKit Go.Maps

theorem stE_zero {p : PlanD} {s : StateD} (h : stE p s = 0) : chkP p = 0 ∧ s.takers.length ≤ 4 ∧ linesOk p.queues.length s.ready = true ∧ s.takers.all (takerOk p.queues.length) = true ∧ outsFrom s.takers s.nextTag (-1) s.outs = true ∧ countsOk s = true ∧ seqsOk s = true ∧ roomL p s = true ∧ roomT s = true ∧ sumsOk s = true := by
  unfold stE at h
  by_cases h1 : chkP p = 0
  · rw [if_neg (by simp [h1])] at h
    by_cases h2 : 4 < s.takers.length
    · rw [if_pos h2] at h; cases h
    · rw [if_neg h2] at h
      by_cases h3 : formedB p s = false
      · rw [if_pos h3] at h; cases h
      · rw [if_neg h3] at h
        by_cases h4 : (roomL p s && roomT s) = false
        · rw [if_pos h4] at h; cases h
        · rw [if_neg h4] at h
          by_cases h5 : sumsOk s = false
          · rw [if_pos h5] at h; cases h
          · simp only [Bool.not_eq_false, Bool.and_eq_true] at h3 h4 h5
            unfold formedB at h3
            simp only [Bool.and_eq_true] at h3
            exact ⟨h1, by omega, h3.1.1.1.1, h3.1.1.1.2, h3.1.1.2, h3.1.2, h3.2, h4.1, h4.2, h5⟩
  · rw [if_pos h1] at h; exact absurd h h1
theorem outs_all {ts : List TakerD} {nt : Int} : ∀ {xs : List OutD} {l : Int}, outsFrom ts nt l xs = true → ∀ o ∈ xs, (0 ≤ o.taker ∧ o.taker < ts.length) ∧ ∃ t, ts[o.taker.toNat]? = some t ∧ t.queue ≠ -1
  | [], _, _, o, ho => by simp at ho
  | x :: r, l, h, o, ho => by
    unfold outsFrom at h
    rw [Bool.and_eq_true] at h
    rcases List.mem_cons.1 ho with rfl | ho
    · have h1 := h.1
      unfold outOk isNum at h1
      simp only [Bool.and_eq_true, decide_eq_true_eq] at h1
      refine ⟨h1.1.1.2, ?_⟩
      have h2 := h1.1.2
      cases ht : ts[o.taker.toNat]? with
      | none => rw [ht] at h2; cases h2
      | some t => rw [ht] at h2; simp at h2; exact ⟨t, rfl, h2.1⟩
    · exact outs_all h.2 o ho
def heldL (xs : List OutD) (t : Int) : Nat := (xs.filter (fun o => decide (o.taker = t))).length
def sumH (s : StateD) : Nat → Nat
  | 0 => 0
  | k + 1 => sumH s k + heldN s (k : Int)
theorem held_more (k : Nat) : ∀ xs : List OutD, (xs.filter (fun o => decide (0 ≤ o.taker ∧ o.taker < ((k + 1 : Nat) : Int)))).length = (xs.filter (fun o => decide (0 ≤ o.taker ∧ o.taker < (k : Int)))).length + (xs.filter (fun o => decide (o.taker = (k : Int)))).length
  | [] => rfl
  | x :: r => by
    have ih := held_more k r
    simp only [List.filter_cons]
    by_cases h1 : 0 ≤ x.taker ∧ x.taker < (k : Int)
    · have h2 : 0 ≤ x.taker ∧ x.taker < ((k + 1 : Nat) : Int) := by omega
      have h3 : ¬ x.taker = (k : Int) := by omega
      simp only [h1, h2, h3, decide_true, decide_false, if_true, Bool.false_eq_true, if_false, List.length_cons, and_self]; omega
    · by_cases h3 : x.taker = (k : Int)
      · have h2 : 0 ≤ x.taker ∧ x.taker < ((k + 1 : Nat) : Int) := by omega
        rw [if_pos (decide_eq_true h2), if_neg (by simpa using h1), if_pos (decide_eq_true h3)]
        simp only [List.length_cons]; omega
      · have h2 : ¬ (0 ≤ x.taker ∧ x.taker < ((k + 1 : Nat) : Int)) := by omega
        rw [if_neg (by simpa using h2), if_neg (by simpa using h1), if_neg (by simpa using h3)]
        exact ih
theorem sumH_eq (s : StateD) : ∀ k, sumH s k = (s.outs.filter (fun o => decide (0 ≤ o.taker ∧ o.taker < (k : Int)))).length
  | 0 => by
    have : s.outs.filter (fun o => decide (0 ≤ o.taker ∧ o.taker < ((0 : Nat) : Int))) = [] := by
      rw [List.filter_eq_nil_iff]; intro o _; simp
    rw [this]; rfl
  | k + 1 => by
    rw [held_more]
    show sumH s k + heldN s k = _
    rw [sumH_eq s k]; rfl
theorem sumH_all {s : StateD} (h : outsFrom s.takers s.nextTag (-1) s.outs = true) : sumH s s.takers.length = s.outs.length := by
  rw [sumH_eq, List.filter_eq_self.2]
  intro o ho
  exact decide_eq_true (outs_all h o ho).1
theorem held_le (s : StateD) (t : Int) : heldN s t ≤ s.outs.length := List.length_filter_le _ _
theorem sumH_le (s : StateD) (k : Nat) : sumH s k ≤ s.outs.length := by rw [sumH_eq]; exact List.length_filter_le _ _
theorem held_gone {s : StateD} (h : outsFrom s.takers s.nextTag (-1) s.outs = true) {k : Nat} (hk : k < s.takers.length) (hq : s.takers[k].queue = -1) : heldN s (k : Int) = 0 := by
  unfold heldN
  rw [List.length_eq_zero_iff, List.filter_eq_nil_iff]
  intro o ho
  obtain ⟨_, t, ht, hne⟩ := outs_all h o ho
  intro e
  have e' : o.taker = (k : Int) := by simpa using e
  rw [e', Int.toNat_natCast, List.getElem?_eq_getElem hk] at ht
  cases ht
  exact hne hq
theorem room_at {s : StateD} (h : roomT s = true) {k : Nat} (hk : k < s.takers.length) : (heldN s (k : Int) : Int) ≤ s.takers[k].most := by
  have := List.all_eq_true.1 h k (List.mem_range.2 hk)
  rw [decide_eq_true_eq, List.getD_eq_getElem?_getD, List.getElem?_eq_getElem hk] at this
  exact this
end Go.Proofs.Ythhkpgnjpieckaa
