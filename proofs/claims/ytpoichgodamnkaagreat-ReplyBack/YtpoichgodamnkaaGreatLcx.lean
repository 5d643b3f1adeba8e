import Derived.Test.YtpoichgodamnkaaGreatKux
namespace Go.Proofs.YtpoichgodamnkaaGreat
open Go.RowKit Go.Maps
set_option linter.unusedVariables false
set_option maxRecDepth 100000
theorem idxSeq_least {q : Int} : ∀ {xs : List ItemD}, (∀ z ∈ xs, q < z.seq) → idxSeq q xs = 0
 | [], _ => rfl
 | x :: r, h => by
   have h1 := h x List.mem_cons_self
   unfold idxSeq
   rw [if_pos (by omega)]
theorem pushL_first {xs : List ItemD} {x : ItemD} (h : ∀ z ∈ xs, x.seq < z.seq) : pushL xs x = x :: xs := by
 unfold pushL; rw [idxSeq_least h]; simp
theorem lineFrom_gt : ∀ {xs : List ItemD} {last : Int}, lineFrom last xs = true → ∀ z ∈ xs, last < z.seq
 | [], _, _, z, hz => absurd hz (by simp)
 | x :: r, last, h, z, hz => by
   by_cases h1 : itemOk x = false ∨ x.seq ≤ last
   ·rw [lineFrom_no h1] at h; cases h
   ·simp only [not_or] at h1
    rw [lineFrom_yes (by simpa using h1.1) h1.2] at h
    rcases List.mem_cons.1 hz with rfl | hz
    ·omega
    ·have := lineFrom_gt h z hz; omega
theorem line_first {x : ItemD} {r : List ItemD} (h : lineOk (x :: r) = true) : ∀ z ∈ r, (againI x).seq < z.seq := by
 unfold lineOk at h
 by_cases h1 : itemOk x = false ∨ x.seq ≤ -1
 ·rw [lineFrom_no h1] at h; cases h
 ·simp only [not_or] at h1
  rw [lineFrom_yes (by simpa using h1.1) h1.2] at h
  exact lineFrom_gt h
structure Backed (p : PlanD) (s y : StateD) (j : Nat) (x : ItemD) (r : List ItemD) : Prop where
 was : RightX p s 0
 lt : j < s.ready.length
 line : lineAt s j = x :: r
 ready : y.ready = s.ready.set j (againI x :: r)
 outs : y.outs = s.outs
 came : y.came = s.came
 dropped : y.dropped = s.dropped
 right : RightX p y 0
theorem backed {p : PlanD} {s : StateD} {q : Int} (h : delE p s q = 0) (h2 : rejE p (delS s q) s.nextTag = 0) : ∃ j x r, q = (j : Nat) ∧ Backed p s (rejS p (delS s q) s.nextTag true) j x r := by
 obtain ⟨k, x, r, hD⟩ := del_zero h
 obtain ⟨j, rfl⟩ : ∃ j : Nat, q = j := ⟨q.toNat, (Int.toNat_of_nonneg hD.q0).symm⟩
 have hql : j < s.ready.length := by have := hD.ql; simpa using this
 have hline : lineAt s j = x :: r := by have := hD.line; simpa using this
 obtain ⟨hR, _, _⟩ := rej_zero h2
 obtain ⟨i, o, n, ho, hn, hj⟩ := rejected h2 true
 have eouts : (delS s (j : Int)).outs = s.outs ++ [⟨s.nextTag, k, j, x⟩] := by show s.outs ++ [delO s (j : Int)] = _; rw [hD.out]
 have hi : i = s.outs.length := by
  have e1 : outIdx (delS s (j : Int)) s.nextTag = s.outs.length := by
   unfold outIdx
   rw [eouts, List.findIdx_append]
   have hno : ∀ o ∈ s.outs, decide (o.tag = s.nextTag) = false := fun o ho => by
    have := (hD.right.fine ho).2.tag
    rw [decide_eq_false_iff_not]; omega
   have e2 : s.outs.findIdx (fun o => decide (o.tag = s.nextTag)) = s.outs.length := List.findIdx_eq_length.2 hno
   rw [e2]; simp
  rw [← ho.idx]; exact e1
 have hoo : o = ⟨s.nextTag, k, j, x⟩ := by
  rw [← ho.get]
  subst hi
  simp [eouts]
 have hless : (lessS (delS s (j : Int)) s.nextTag) = { delS s (j : Int) with outs := s.outs } := by
  unfold lessS
  rw [ho.idx, hi, eouts, List.eraseIdx_append_of_length_le (Nat.le_refl _)]
  simp
 have hM : rejM p (delS s (j : Int)) s.nextTag true = putS p { delS s (j : Int) with outs := s.outs } j (againI x) := by
  unfold rejM; rw [if_pos rfl, ho.out, hless, hoo]; simp
 have hA : rejA p (delS s (j : Int)) s.nextTag true = putB p { delS s (j : Int) with outs := s.outs } j (againI x) := by
  unfold rejA; rw [if_pos rfl, ho.out, hless, hoo]; simp
 have hlr : lineAt { delS s (j : Int) with outs := s.outs } j = r := by
  show lineAt { s with ready := s.ready.set (j : Int).toNat (lineAt s (j : Int).toNat).tail } j = r
  unfold lineAt
  simp only [Int.toNat_natCast]
  rw [List.getD_eq_getElem?_getD, List.getElem?_set_self hql]
  have := hline
  unfold lineAt at this
  rw [this]; rfl
 have hsx : ∀ z ∈ r, (againI x).seq < z.seq := by
  have hl := hD.right.line _ (List.getElem_mem hql)
  rw [← lineAt_get hql, hline] at hl
  exact line_first hl
 have hpush : pushL r (againI x) = againI x :: r := pushL_first hsx
 have hroom : (((againI x :: r).length : Nat) : Int) ≤ (qAt p j).limit := by
  have := hD.right.room j hql
  rw [hline] at this
  simpa using this
 have hB : putB p { delS s (j : Int) with outs := s.outs } j (againI x) = [] := by
  unfold putB putA; rw [hlr, hpush, if_pos hroom]
 have hS : rejS p (delS s (j : Int)) s.nextTag true = putS p { delS s (j : Int) with outs := s.outs } j (againI x) := by
  unfold rejS; rw [hA, hB, hM, arrS_nil]
 have hP : putS p { delS s (j : Int) with outs := s.outs } j (againI x) = { delS s (j : Int) with outs := s.outs, ready := s.ready.set j (againI x :: r), dropped := s.dropped } := by
  unfold putS putL putD
  rw [hlr, hpush, if_pos hroom, if_pos hroom]
  show StateD.mk ((s.ready.set (j : Int).toNat _).set j _) _ _ _ _ _ _ _ = _
  simp [delS, List.set_set]
 refine ⟨j, x, r, rfl, hD.right, hql, hline, ?_, ?_, ?_, ?_, hj.right⟩
 ·rw [hS, hP]
 ·rw [hS, hP]
 ·rw [hS, hP]; rfl
 ·rw [hS, hP]
end Go.Proofs.YtpoichgodamnkaaGreat
