/- plan.Fits, mailcoachref.fits, FitsOf. -/
import Derived.Test.YtpoichgodamnkaaRc
namespace Go.Proofs.Ytpoichgodamnkaa
set_option linter.unusedVariables false
set_option maxRecDepth 100000
open Go.RowKit

theorem patErr_zero : ∀ {xs : List BindD}, patErr xs = 0 → ∀ b ∈ xs, perr b.pat.data.toList = 0
  | [], _, b, hb => by simp at hb
  | x :: r, h, b, hb => by
    unfold patErr at h
    by_cases h0 : perr x.pat.data.toList = 0
    · rw [if_pos h0] at h
      rcases List.mem_cons.1 hb with rfl | hb
      · exact h0
      · exact patErr_zero h b hb
    · rw [if_neg h0] at h; exact absurd h h0

/-- What a right plan has. -/
structure RightP (p : PlanD) : Prop where
  few : p.posts.length ≤ 4 ∧ p.queues.length ≤ 4 ∧ p.binds.length ≤ 10
  kinds : ∀ x ∈ p.posts, x.kind = 1 ∨ x.kind = 2 ∨ x.kind = 3
  queues : ∀ x ∈ p.queues, 1 ≤ x.limit ∧ x.limit ≤ 6 ∧ -1 ≤ x.dead ∧ x.dead < p.posts.length
  src : ∀ b ∈ p.binds, 0 ≤ b.src ∧ b.src < p.posts.length
  dst : ∀ b ∈ p.binds, 0 ≤ b.dst ∧ b.dst < (if b.toPost then p.posts.length else p.queues.length : Nat)
  pat : ∀ b ∈ p.binds, perr b.pat.data.toList = 0

theorem chk_right {p : PlanD} (h : chkP p = 0) : RightP p := by
  unfold chkP at h
  by_cases q1 : 4 < p.posts.length ∨ 4 < p.queues.length ∨ 10 < p.binds.length
  · rw [if_pos q1] at h; cases h
  rw [if_neg q1] at h
  by_cases q2 : ((p.posts.map PostD.name).all (fun x => nameOk x.data.toList) && (p.queues.map QueueD.name).all (fun x => nameOk x.data.toList)) = false
  · rw [if_pos q2] at h; cases h
  rw [if_neg q2] at h
  by_cases q3 : (dupB (p.posts.map PostD.name) || dupB (p.queues.map QueueD.name)) = true
  · rw [if_pos q3] at h; cases h
  rw [if_neg q3] at h
  by_cases q4 : p.posts.all kindOk = false
  · rw [if_pos q4] at h; cases h
  rw [if_neg q4] at h
  by_cases q5 : (p.queues.all (qOk p.posts.length) && p.binds.all (bOk p.posts.length p.queues.length)) = false
  · rw [if_pos q5] at h; cases h
  rw [if_neg q5] at h
  simp only [Bool.not_eq_false, Bool.and_eq_true, List.all_eq_true] at q4 q5
  refine ⟨by omega, fun x hx => ?_, fun x hx => ?_, fun b hb => ?_, fun b hb => ?_, patErr_zero h⟩
  · have := q4 x hx; unfold kindOk inR at this; simp at this; omega
  · have := q5.1 x hx; unfold qOk inR at this; simp at this; omega
  · have := q5.2 b hb; unfold bOk isNum at this; simp at this; omega
  · have := q5.2 b hb; unfold bOk isNum at this; simp at this; exact this.2

/-- What Fits tells. -/
def fitP (p : PlanD) (i : Nat) (key : ByteArray) : Bool :=
  match p.binds[i]? with
  | none => false
  | some b => match p.posts[b.src.toNat]? with
    | none => false
    | some x => if x.kind = 1 then key.data.toList == b.pat.data.toList else if x.kind = 2 then true else fitL b.pat.data.toList key.data.toList
def fitE (p : PlanD) (n : Int) (key : ByteArray) : Int := if chkP p = 0 then (if isNum n p.binds.length = true then kerr key.data.toList else 5) else chkP p
def fitB (p : PlanD) (n : Int) (key : ByteArray) : Bool := if fitE p n key = 0 then fitP p n.toNat key else false

/-- The bind and its post. -/
theorem bind_at {p : PlanD} (h : RightP p) {i : Nat} (hi : i < p.binds.length) : ∃ j : Nat, ∃ hj : j < p.posts.length, p.binds[i].src = j ∧
    ((p.posts[j].kind = 1 ∧ ∀ key, fitP p i key = (key.data.toList == p.binds[i].pat.data.toList)) ∨ (p.posts[j].kind = 2 ∧ ∀ key, fitP p i key = true) ∨ (p.posts[j].kind = 3 ∧ ∀ key, fitP p i key = fitL p.binds[i].pat.data.toList key.data.toList)) := by
  obtain ⟨s1, s2⟩ := h.src _ (List.getElem_mem hi)
  obtain ⟨j, hj⟩ := Int.eq_ofNat_of_zero_le s1
  have hj' : j < p.posts.length := by omega
  refine ⟨j, hj', hj, ?_⟩
  have e : ∀ key, fitP p i key = if p.posts[j].kind = 1 then key.data.toList == p.binds[i].pat.data.toList else if p.posts[j].kind = 2 then true else fitL p.binds[i].pat.data.toList key.data.toList := by
    intro key
    unfold fitP
    rw [List.getElem?_eq_getElem hi]
    simp only
    rw [hj, Int.toNat_natCast, List.getElem?_eq_getElem hj']
  rcases h.kinds _ (List.getElem_mem hj') with k | k | k
  · exact .inl ⟨k, fun key => by rw [e, if_pos k]⟩
  · exact .inr (.inl ⟨k, fun key => by rw [e, if_neg (by omega), if_pos k]⟩)
  · exact .inr (.inr ⟨k, fun key => by rw [e, if_neg (by omega), if_neg (by omega)]⟩)

theorem beq_dec2 (a b : List UInt8) : (a == b) = decide (a = b) := by by_cases e : a = b <;> simp [e]
theorem inR_num (n : Int) (m : Nat) : inR n 0 (m - 1) = isNum n m := by unfold inR isNum; rw [Bool.eq_iff_iff]; simp; omega
theorem ret_bi {a b : Bool} {x y : Int} (h : a = b) (h2 : x = y) : Ending.returned (.tuple #[.bool a, .int .i64 x]) = .returned (.tuple #[.bool b, .int .i64 y]) := by rw [h, h2]

/-- A plan lies at three slices. -/
structure PlanAt (W : World) (a1 a2 a3 : Option Addr) (n1 n2 n3 : Nat) (p : PlanD) : Prop where
  l1 : p.posts.length = n1
  l2 : p.queues.length = n2
  l3 : p.binds.length = n3
  sz : Sized p
  p1 : PostsAt W a1 p.posts
  p2 : QueuesAt W a2 p.queues
  p3 : BindsAt W a3 p.binds
theorem PlanAt.keep {W W' : World} {a1 a2 a3 : Option Addr} {n1 n2 n3 : Nat} {p : PlanD} (h : PlanAt W a1 a2 a3 n1 n2 n3 p) (hB : Below W.heap.size W W') : PlanAt W' a1 a2 a3 n1 n2 n3 p :=
  ⟨h.l1, h.l2, h.l3, h.sz, h.p1.keep hB, h.p2.keep hB, h.p3.keep hB⟩

/-- The box that a call lays for its plan. -/
theorem plan_boxed (w : World) (v1 v2 v3 : Value) (t : TypeId) : ∃ W1, W1 = w.alloc (.cells #[v1, v2, v3] t) ∧ Below w.heap.size w W1 ∧ W1.heap.size = w.heap.size + 1 ∧
    ∀ W, Below W1.heap.size W1 W → W.cell? ⟨w.heap.size, 0, none⟩ = some v1 ∧ W.cell? ⟨w.heap.size, 1, none⟩ = some v2 ∧ W.cell? ⟨w.heap.size, 2, none⟩ = some v3 := by
  obtain ⟨b0, b1, b2⟩ := plan_box w v1 v2 v3 t
  have hs : (w.alloc (.cells #[v1, v2, v3] t)).heap.size = w.heap.size + 1 := by simp
  exact ⟨_, rfl, (Below.refl _ _).alloc (Nat.le_refl _) _, hs, fun W hW => ⟨(hW.cell (p := ⟨w.heap.size, 0, none⟩) (by show w.heap.size < _; omega)).trans b0, (hW.cell (p := ⟨w.heap.size, 1, none⟩) (by show w.heap.size < _; omega)).trans b1, (hW.cell (p := ⟨w.heap.size, 2, none⟩) (by show w.heap.size < _; omega)).trans b2⟩⟩
