/- What RouteMore asks, plain: one bind more. -/
import Derived.Test.YthhkpgnjpieckaaSe
namespace Go.Proofs.Ythhkpgnjpieckaa
set_option linter.unusedVariables false
set_option maxRecDepth 100000
open Go.RowKit Go.Maps

def PlanD.more (p : PlanD) (b : BindD) : PlanD := { p with binds := p.binds ++ [b] }
theorem more_len (p : PlanD) (b : BindD) : (p.more b).binds.length = p.binds.length + 1 := by simp [PlanD.more]
theorem bAt_left {p : PlanD} {b : BindD} {n : Nat} (h : n < p.binds.length) : bAt (p.more b) n = bAt p n := by
  unfold bAt PlanD.more
  rw [List.getD_eq_getElem?_getD, List.getD_eq_getElem?_getD, List.getElem?_append_left h]
theorem bAt_last {p : PlanD} {b : BindD} : bAt (p.more b) p.binds.length = b := by
  unfold bAt PlanD.more
  rw [List.getD_eq_getElem?_getD]; simp
theorem fitP_left {p : PlanD} {b : BindD} {n : Nat} {key : ByteArray} (h : n < p.binds.length) : fitP (p.more b) n key = fitP p n key := by
  unfold fitP PlanD.more
  rw [List.getElem?_append_left h]
theorem fitP_last {p : PlanD} {b : BindD} {key : ByteArray} : fitP (p.more b) p.binds.length key = match p.posts[b.src.toNat]? with
    | none => false
    | some x => if x.kind = 1 then key.data.toList == b.pat.data.toList else if x.kind = 2 then true else fitL b.pat.data.toList key.data.toList := by
  unfold fitP PlanD.more
  rw [show (p.binds ++ [b])[p.binds.length]? = some b by simp]
  rfl
theorem fitP_twice {p : PlanD} {b : BindD} {key : ByteArray} : fitP ((p.more b).more b) (p.binds.length + 1) key = fitP (p.more b) p.binds.length key := by
  have h := fitP_last (p := p.more b) (b := b) (key := key)
  rw [more_len] at h
  rw [h, fitP_last]; rfl
theorem bAt_twice {p : PlanD} {b : BindD} : bAt ((p.more b).more b) (p.binds.length + 1) = b := by
  have h := bAt_last (p := p.more b) (b := b)
  rw [more_len] at h
  exact h
theorem arc_left {p : PlanD} {b : BindD} {key : ByteArray} {n : Nat} (h : n < p.binds.length) : arcOf (p.more b) key n = arcOf p key n := by
  unfold arcOf
  rw [bAt_left h, fitP_left h, more_len]
  by_cases hc : fitP p n key = true ∧ (bAt p n).toPost = true
  · rw [if_pos ⟨by omega, hc⟩, if_pos ⟨h, hc⟩]
  · rw [if_neg (fun hh => hc hh.2), if_neg (fun hh => hc hh.2)]
theorem arc_more {p : PlanD} {b : BindD} {key : ByteArray} {n : Nat} {x : Nat × Nat} (h : arcOf p key n = some x) : arcOf (p.more b) key n = some x := by
  rw [arc_left (arc_lt _ _ h)]; exact h
theorem path_more {p : PlanD} {b : BindD} {key : ByteArray} {v : Nat} {s : List Nat} {x : Nat} (h : Path (arcOf p key) v s x) : Path (arcOf (p.more b) key) v s x := by
  induction h with
  | nil => exact .nil
  | snoc _ h2 ih => exact .snoc ih (arc_more h2)
theorem queues_more {p : PlanD} {b : BindD} {key : ByteArray} {v : Nat} {xs ys : List Int} (hx : QueuesIs p key v xs) (hy : QueuesIs (p.more b) key v ys) : ∀ z ∈ xs, z ∈ ys := by
  intro z hz
  obtain ⟨n, h1, h2, h3, h4, s, h5⟩ := (hx.mem z).1 hz
  refine (hy.mem z).2 ⟨n, by rw [more_len]; omega, by rw [fitP_left h1]; exact h2, by rw [bAt_left h1]; exact h3, by rw [bAt_left h1]; exact h4, s, ?_⟩
  rw [bAt_left h1]; exact path_more h5
theorem arc_back {p : PlanD} {b : BindD} {key : ByteArray} {n : Nat} {x : Nat × Nat} (h : arcOf ((p.more b).more b) key n = some x) : ∃ m, arcOf (p.more b) key m = some x := by
  by_cases hn : n < (p.more b).binds.length
  · rw [arc_left hn] at h; exact ⟨n, h⟩
  · have h1 := arc_lt _ _ h
    rw [more_len] at h1
    rw [more_len] at hn
    rw [more_len] at h1
    have e : n = p.binds.length + 1 := by omega
    subst e
    refine ⟨p.binds.length, ?_⟩
    unfold arcOf at h ⊢
    rw [bAt_twice, fitP_twice] at h
    rw [bAt_last]
    split at h
    · rename_i hh
      rw [if_pos ⟨by rw [more_len]; omega, hh.2⟩]; exact h
    · cases h
theorem path_back {p : PlanD} {b : BindD} {key : ByteArray} {v : Nat} {s : List Nat} {x : Nat} (h : Path (arcOf ((p.more b).more b) key) v s x) : ∃ s', Path (arcOf (p.more b) key) v s' x := by
  induction h with
  | nil => exact ⟨_, .nil⟩
  | snoc _ h2 ih =>
    obtain ⟨s', h1⟩ := ih
    obtain ⟨m, h3⟩ := arc_back h2
    exact ⟨_, .snoc h1 h3⟩
theorem queues_twice {p : PlanD} {b : BindD} {key : ByteArray} {v : Nat} {xs ys : List Int} (hx : QueuesIs (p.more b) key v xs) (hy : QueuesIs ((p.more b).more b) key v ys) : xs = ys := by
  refine rise_uniq hx.rise hy.rise (fun z => ⟨queues_more hx hy z, fun hz => ?_⟩)
  obtain ⟨n, h1, h2, h3, h4, s, h5⟩ := (hy.mem z).1 hz
  obtain ⟨s', h6⟩ := path_back h5
  by_cases hn : n < (p.more b).binds.length
  · rw [fitP_left hn] at h2
    rw [bAt_left hn] at h3 h4 h6
    exact (hx.mem z).2 ⟨n, hn, h2, h3, h4, s', h6⟩
  · rw [more_len] at h1
    rw [more_len] at h1 hn
    have e : n = p.binds.length + 1 := by omega
    subst e
    rw [fitP_twice] at h2
    rw [bAt_twice] at h3 h4 h6
    exact (hx.mem z).2 ⟨p.binds.length, by rw [more_len]; omega, h2, by rw [bAt_last]; exact h3, by rw [bAt_last]; exact h4, s', by rw [bAt_last]; exact h6⟩
end Go.Proofs.Ythhkpgnjpieckaa
