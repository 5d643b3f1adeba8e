/- What RouteTrue asks, plain: the stations of a way. -/
import Derived.Test.YthhkpgnjpieckaaSd
namespace Go.Proofs.Ythhkpgnjpieckaa
set_option linter.unusedVariables false
set_option maxRecDepth 100000
open Go.RowKit Go.Maps

def atk (p : PlanD) (v : Int) (ns : List Nat) : Nat → Int
  | 0 => v
  | k + 1 => (bAt p (ns.getD k 0)).dst
theorem getD_left {s t : List Nat} {k : Nat} (h : k < s.length) : (s ++ t).getD k 0 = s.getD k 0 := by
  rw [List.getD_eq_getElem?_getD, List.getD_eq_getElem?_getD, List.getElem?_append_left h]
theorem getD_last {s : List Nat} {n : Nat} : (s ++ [n]).getD s.length 0 = n := by
  rw [List.getD_eq_getElem?_getD]; simp
theorem atk_left {p : PlanD} {v : Int} {s t : List Nat} {k : Nat} (h : k ≤ s.length) : atk p v (s ++ t) k = atk p v s k := by
  cases k with
  | zero => rfl
  | succ k =>
    show (bAt p ((s ++ t).getD k 0)).dst = (bAt p (s.getD k 0)).dst
    rw [getD_left h]
structure Stop (p : PlanD) (key : ByteArray) (v : Int) (ns : List Nat) (k : Nat) (last : Bool) : Prop where
  lt : ns.getD k 0 < p.binds.length
  fit : fitP p (ns.getD k 0) key = true
  onw : (bAt p (ns.getD k 0)).toPost = !last
  src : (bAt p (ns.getD k 0)).src = atk p v ns k
  pos : 0 ≤ atk p v ns k
  there : ∃ s, Path (arcOf p key) v.toNat s (atk p v ns k).toNat
theorem arc_some {p : PlanD} {key : ByteArray} {n u x : Nat} (hr : RightP p) (h : arcOf p key n = some (u, x)) : n < p.binds.length ∧ fitP p n key = true ∧ (bAt p n).toPost = true ∧ (bAt p n).src = u ∧ (bAt p n).dst = x := by
  unfold arcOf at h
  split at h
  · rename_i hh
    obtain ⟨h1, h2, h3⟩ := hh
    simp at h
    have e1 := (hr.src _ (List.getElem_mem h1)).1
    have e2 := (hr.dst _ (List.getElem_mem h1)).1
    rw [← bAt_get h1] at e1 e2
    exact ⟨h1, h2, h3, by omega, by omega⟩
  · cases h
theorem fin_some {p : PlanD} {key : ByteArray} {q : Int} {n u : Nat} (hr : RightP p) (h : finOf p key q n = some u) : n < p.binds.length ∧ fitP p n key = true ∧ (bAt p n).toPost = false ∧ (bAt p n).src = u ∧ (bAt p n).dst = q := by
  unfold finOf at h
  split at h
  · rename_i hh
    obtain ⟨h1, h2, h3⟩ := hh
    simp at h
    have e1 := (hr.src _ (List.getElem_mem h1)).1
    rw [← bAt_get h1] at e1
    unfold toQ at h3
    simp at h3
    exact ⟨h1, h2, h3.1, by omega, h3.2⟩
  · cases h
theorem path_stops {p : PlanD} {key : ByteArray} (hr : RightP p) {v : Int} (hv : 0 ≤ v) {s : List Nat} {u : Nat} (h : Path (arcOf p key) v.toNat s u) : (∀ k, k < s.length → Stop p key v s k false) ∧ atk p v s s.length = u := by
  induction h with
  | nil => exact ⟨fun k hk => absurd hk (by simp), by simp [atk]; omega⟩
  | @snoc s u n x hp ha ih =>
    obtain ⟨i1, i2⟩ := ih
    obtain ⟨a1, a2, a3, a4, a5⟩ := arc_some hr ha
    refine ⟨fun k hk => ?_, ?_⟩
    · by_cases hlt : k < s.length
      · obtain ⟨b1, b2, b3, b4, b5, b6⟩ := i1 k hlt
        have e := getD_left (t := [n]) hlt
        have e2 := atk_left (p := p) (v := v) (t := [n]) (Nat.le_of_lt hlt)
        exact ⟨by rw [e]; exact b1, by rw [e]; exact b2, by rw [e]; exact b3, by rw [e, e2]; exact b4, by rw [e2]; exact b5, by rw [e2]; exact b6⟩
      · have : k = s.length := by simp at hk; omega
        subst this
        have e2 : atk p v (s ++ [n]) s.length = u := (atk_left (Nat.le_refl _)).trans i2
        exact ⟨by rw [getD_last]; exact a1, by rw [getD_last]; exact a2, by rw [getD_last]; exact a3, by rw [getD_last, e2]; exact a4, by rw [e2]; omega, s, by rw [e2]; exact hp⟩
    · rw [List.length_append, List.length_singleton]
      show (bAt p ((s ++ [n]).getD s.length 0)).dst = x
      rw [getD_last]; exact a5
theorem way_stops {p : PlanD} {key : ByteArray} (hr : RightP p) {v q : Int} (hv : 0 ≤ v) {ns : List Nat} (h : Way (arcOf p key) (finOf p key q) v.toNat ns) : (∀ k, k < ns.length → Stop p key v ns k (decide (k + 1 = ns.length))) ∧ atk p v ns ns.length = q ∧ 0 < ns.length := by
  obtain ⟨s, u, n, rfl, hp, hf⟩ := h
  obtain ⟨i1, i2⟩ := path_stops hr hv hp
  obtain ⟨a1, a2, a3, a4, a5⟩ := fin_some hr hf
  refine ⟨fun k hk => ?_, ?_, by simp⟩
  · by_cases hlt : k < s.length
    · obtain ⟨b1, b2, b3, b4, b5, b6⟩ := i1 k hlt
      have e := getD_left (t := [n]) hlt
      have e2 := atk_left (p := p) (v := v) (t := [n]) (Nat.le_of_lt hlt)
      have e3 : decide (k + 1 = (s ++ [n]).length) = false := by simp; omega
      rw [e3]
      exact ⟨by rw [e]; exact b1, by rw [e]; exact b2, by rw [e]; exact b3, by rw [e, e2]; exact b4, by rw [e2]; exact b5, by rw [e2]; exact b6⟩
    · have : k = s.length := by simp at hk; omega
      subst this
      have e2 : atk p v (s ++ [n]) s.length = u := (atk_left (Nat.le_refl _)).trans i2
      have e3 : decide (s.length + 1 = (s ++ [n]).length) = true := by simp
      rw [e3]
      exact ⟨by rw [getD_last]; exact a1, by rw [getD_last]; exact a2, by rw [getD_last]; exact a3, by rw [getD_last, e2]; exact a4, by rw [e2]; omega, s, by rw [e2]; exact hp⟩
  · rw [List.length_append, List.length_singleton]
    show (bAt p ((s ++ [n]).getD s.length 0)).dst = q
    rw [getD_last]; exact a5
theorem comes_iff {p : PlanD} {key : ByteArray} {v : Nat} {zs : List Int} {q : Int} (h : QueuesIs p key v zs) : q ∈ zs ↔ ∃ t, Way (arcOf p key) (finOf p key q) v t := by
  rw [h.mem]
  constructor
  · rintro ⟨n, h1, h2, h3, h4, s, hs⟩
    exact ⟨s ++ [n], s, _, n, rfl, hs, by unfold finOf toQ; rw [if_pos ⟨h1, h2, by simp [h3, h4]⟩]⟩
  · rintro ⟨t, s, u, n, rfl, hp, hf⟩
    unfold finOf at hf
    split at hf
    · rename_i hh
      obtain ⟨h1, h2, h3⟩ := hh
      unfold toQ at h3
      simp at h3 hf
      exact ⟨n, h1, h2, h3.1, h3.2, s, by rw [hf]; exact hp⟩
    · cases hf
end Go.Proofs.Ythhkpgnjpieckaa
