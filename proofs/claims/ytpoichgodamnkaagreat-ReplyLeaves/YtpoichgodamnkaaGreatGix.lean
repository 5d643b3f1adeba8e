import Derived.Test.YtpoichgodamnkaaGreatGhx
import Derived.Test.YtpoichgodamnkaaGreatGgx
import Derived.Test.YtpoichgodamnkaaGreatGcx
namespace Go.Proofs.YtpoichgodamnkaaGreat
open Go.RowKit Go.Maps
set_option linter.unusedVariables false
set_option maxRecDepth 100000
def hdE (p : PlanD) (s : StateD) (t : Int) : Int := if stE p s = 0 then (if isNum t s.takers.length = true then 0 else 5) else stE p s
def hdN (p : PlanD) (s : StateD) (t : Int) : Int := if hdE p s t = 0 then (heldN s t : Int) else 0
structure TurnB (B : Nat) (W W' : World) : Prop where
 os : W'.os = W.os
 tape : W'.tape = W.tape
 output : W'.output = W.output
 size : W.heap.size ≤ W'.heap.size
 block : ∀ k, k < W.heap.size → k ≠ B → W'.heap[k]? = W.heap[k]?
theorem TurnB.below {B n : Nat} {W W' : World} (h : TurnB B W W') (hn : n ≤ W.heap.size) (hB : n ≤ B) : Below n W W' := ⟨h.os, h.tape, h.output, h.size, fun k hk => h.block k (by omega) (by omega)⟩
theorem sct_ (W : World) (B i : Nat) (v : Value) : TurnB B W (W.setCell ⟨B, i, none⟩ v) := by
 have h : Below 0 W (W.setCell ⟨B, i, none⟩ v) := (Below.refl 0 W).setCell (p := ⟨B, i, none⟩) (Nat.zero_le _) v
 exact ⟨h.os, h.tape, h.output, h.size, fun k hk hne => heap_setCell_other W ⟨B, i, none⟩ k v hne⟩
theorem TurnB.trans {B : Nat} {A C E : World} (h : TurnB B A C) (k : TurnB B C E) : TurnB B A E :=
 ⟨k.os.trans h.os, k.tape.trans h.tape, k.output.trans h.output, Nat.le_trans h.size k.size, fun i hi hne => (k.block i (Nat.lt_of_lt_of_le hi h.size) hne).trans (h.block i hi hne)⟩
theorem store8 {W W' : World} {B : Nat} {v0 v1 v2 v3 v4 v5 v6 v7 u0 u1 u2 u3 u4 u5 u6 u7 : Value} {t : TypeId} (h : W.heap[B]? = some (.cells #[v0, v1, v2, v3, v4, v5, v6, v7] t (0, 0)))
  (hW : ((((((((W.setCell ⟨B, 0, none⟩ u0).setCell ⟨B, 1, none⟩ u1).setCell ⟨B, 2, none⟩ u2).setCell ⟨B, 3, none⟩ u3).setCell ⟨B, 4, none⟩ u4).setCell ⟨B, 5, none⟩ u5).setCell ⟨B, 6, none⟩ u6).setCell ⟨B, 7, none⟩ u7) = W') :
  W'.heap[B]? = some (.cells #[u0, u1, u2, u3, u4, u5, u6, u7] t (0, 0)) ∧ TurnB B W W' := by
 subst hW
 have h0 : (W.setCell ⟨B, 0, none⟩ u0).heap[B]? = some (.cells #[u0, v1, v2, v3, v4, v5, v6, v7] t (0, 0)) := scb_ h u0
 have h1 : ((W.setCell ⟨B, 0, none⟩ u0).setCell ⟨B, 1, none⟩ u1).heap[B]? = some (.cells #[u0, u1, v2, v3, v4, v5, v6, v7] t (0, 0)) := scb_ h0 u1
 have h2 : (((W.setCell ⟨B, 0, none⟩ u0).setCell ⟨B, 1, none⟩ u1).setCell ⟨B, 2, none⟩ u2).heap[B]? = some (.cells #[u0, u1, u2, v3, v4, v5, v6, v7] t (0, 0)) := scb_ h1 u2
 have h3 : ((((W.setCell ⟨B, 0, none⟩ u0).setCell ⟨B, 1, none⟩ u1).setCell ⟨B, 2, none⟩ u2).setCell ⟨B, 3, none⟩ u3).heap[B]? = some (.cells #[u0, u1, u2, u3, v4, v5, v6, v7] t (0, 0)) := scb_ h2 u3
 have h4 : (((((W.setCell ⟨B, 0, none⟩ u0).setCell ⟨B, 1, none⟩ u1).setCell ⟨B, 2, none⟩ u2).setCell ⟨B, 3, none⟩ u3).setCell ⟨B, 4, none⟩ u4).heap[B]? = some (.cells #[u0, u1, u2, u3, u4, v5, v6, v7] t (0, 0)) := scb_ h3 u4
 have h5 : ((((((W.setCell ⟨B, 0, none⟩ u0).setCell ⟨B, 1, none⟩ u1).setCell ⟨B, 2, none⟩ u2).setCell ⟨B, 3, none⟩ u3).setCell ⟨B, 4, none⟩ u4).setCell ⟨B, 5, none⟩ u5).heap[B]? = some (.cells #[u0, u1, u2, u3, u4, u5, v6, v7] t (0, 0)) := scb_ h4 u5
 have h6 : (((((((W.setCell ⟨B, 0, none⟩ u0).setCell ⟨B, 1, none⟩ u1).setCell ⟨B, 2, none⟩ u2).setCell ⟨B, 3, none⟩ u3).setCell ⟨B, 4, none⟩ u4).setCell ⟨B, 5, none⟩ u5).setCell ⟨B, 6, none⟩ u6).heap[B]? = some (.cells #[u0, u1, u2, u3, u4, u5, u6, v7] t (0, 0)) := scb_ h5 u6
 have h7 : ((((((((W.setCell ⟨B, 0, none⟩ u0).setCell ⟨B, 1, none⟩ u1).setCell ⟨B, 2, none⟩ u2).setCell ⟨B, 3, none⟩ u3).setCell ⟨B, 4, none⟩ u4).setCell ⟨B, 5, none⟩ u5).setCell ⟨B, 6, none⟩ u6).setCell ⟨B, 7, none⟩ u7).heap[B]? = some (.cells #[u0, u1, u2, u3, u4, u5, u6, u7] t (0, 0)) := scb_ h6 u7
 refine ⟨h7, ?_⟩
 exact (((((((sct_ _ _ _ _).trans (sct_ _ _ _ _)).trans (sct_ _ _ _ _)).trans (sct_ _ _ _ _)).trans (sct_ _ _ _ _)).trans (sct_ _ _ _ _)).trans (sct_ _ _ _ _)).trans (sct_ _ _ _ _)
def beginS (n : Nat) : StateD := ⟨List.replicate n [], [], [], 0, 0, 0, 0, 0⟩
theorem Tryz.infoLine : (Tryz.prog.info? 41).map (fun i => (i.zero, i.size, i.bytes)) = some (some (.slice none 0 0), 1, 24) := by kernel_rfl
theorem made_lines (n : Nat) : (madeCells (Value.slice none 0 0).cells (n * 1)).toList = List.replicate n (.slice none 0 0) := by
 apply List.ext_getElem
 ·simp [madeCells]
 ·intro i h1 h2
  simp [madeCells, Value.cells, Nat.mod_one]
end Go.Proofs.YtpoichgodamnkaaGreat
namespace Go.Proofs.YtpoichgodamnkaaGreat
open Go.RowKit
set_option linter.unusedVariables false
set_option maxRecDepth 100000
set_option maxHeartbeats 1000000
def Goes (f : FuncId) : Prop := ∀ (args : Array Value) (w : World), Sem.run Tryz.prog (callFunc f args) w = .ok (.enter f args) w
theorem tried_any (f : FuncId) (hf : Goes f) (cap : Array Value) (R : Int → World → Prop) (w : World)
  (hdo : Calls Tryz.prog f cap (w.alloc (.cells #[.int .i64 0] 33)) fun e w' => ∃ D, e = askE D ∧ R D w' ∧ w'.heap[w.heap.size]? = some (.cells #[.int .i64 0] 33 (0, 0))) :
  Calls Tryz.prog 70 #[.func (.func f) #[] cap] w fun e w' => ∃ D w1, e = .returned (.int .i64 D) ∧ R D w1 ∧ w1.heap[w.heap.size]? = some (.cells #[.int .i64 0] 33 (0, 0)) ∧ w' = w1.setCell ⟨w.heap.size, 0, none⟩ (.int .i64 D) := by
 have hmf : ∀ (fn : Fn) (first cap : Array Value) (w : World), (Instr.makeFunc fn first cap).run Tryz.prog w = .ok (.func fn first cap) w := fun _ _ _ _ => rfl
 have HDO := hidI hdo
 have hf' : ∀ (args : Array Value) (w : World), Sem.run Tryz.prog (callFunc f args) w = .ok (.enter f args) w := hf
 clear hdo hf
 go_enter_defers Tryz.func70, Tryz.ntmps70
 go_wp2_with fail
 refine HDO.out.mono ?_
 rintro e w2 ⟨D, rfl, hR, hb⟩
 have HR := hidI hR
 have HB := hidI hb
 have c0 := coc_ hb 0
 have f0 := foc_ hb 0
 simp at c0
 clear hR hb
 by_cases hD : D = 0
 ·subst hD
  rw [askE_ok]
  unfold okE
  go_wp2_with fail
  refine leaves_cons (f := 135) (args := #[.pointer (some ⟨w.heap.size, 0, none⟩)]) (by simp) (by simp [go_sem]) ?_
  refine (tried1_idle w.heap.size _).mono ?_
  rintro e u' w'' ⟨rfl, rfl, rfl⟩
  have c1 := coc_ (scb_ HB.out (j := 0) (.int .i64 0)) 0
  simp at c1
  simp [Leaves, settle, results, Tryz.results70, go_sem, c1]
  exact ⟨w2, HR.out, HB.out, rfl⟩
 ·rw [askE_pan hD]
  unfold panE
  go_wp2_with fail
  refine leaves_cons (f := 135) (args := #[.pointer (some ⟨w.heap.size, 0, none⟩)]) (by simp) (by simp [go_sem]) ?_
  refine (tried1_pan w.heap.size D 0 [] _ c0 f0).mono ?_
  rintro e u' w'' ⟨rfl, rfl, rfl⟩
  have c1 := coc_ (scb_ HB.out (j := 0) (.int .i64 D)) 0
  simp at c1
  simp [Leaves, settle, results, Tryz.results70, go_sem, c1]
  exact ⟨w2, HR.out, HB.out, rfl⟩
end Go.Proofs.YtpoichgodamnkaaGreat
namespace Go.Proofs.YtpoichgodamnkaaGreat
open Go.RowKit Go.Maps
set_option linter.unusedVariables false
set_option maxRecDepth 100000
theorem stE_zero {p : PlanD} {s : StateD} (h : stE p s = 0) : chkP p = 0 ∧ s.takers.length ≤ 4 ∧ linesOk p.queues.length s.ready = true ∧ s.takers.all (takerOk p.queues.length) = true ∧ outsFrom s.takers s.nextTag (-1) s.outs = true ∧ countsOk s = true ∧ seqsOk s = true ∧ roomL p s = true ∧ roomT s = true ∧ sumsOk s = true := by
 unfold stE at h
 by_cases h1 : chkP p = 0
 ·rw [if_neg (by simp [h1])] at h
  by_cases h2 : 4 < s.takers.length
  ·rw [if_pos h2] at h; cases h
  ·rw [if_neg h2] at h
   by_cases h3 : formedB p s = false
   ·rw [if_pos h3] at h; cases h
   ·rw [if_neg h3] at h
    by_cases h4 : (roomL p s && roomT s) = false
    ·rw [if_pos h4] at h; cases h
    ·rw [if_neg h4] at h
     by_cases h5 : sumsOk s = false
     ·rw [if_pos h5] at h; cases h
     ·simp only [Bool.not_eq_false, Bool.and_eq_true] at h3 h4 h5
      unfold formedB at h3
      simp only [Bool.and_eq_true] at h3
      exact ⟨h1, by omega, h3.1.1.1.1, h3.1.1.1.2, h3.1.1.2, h3.1.2, h3.2, h4.1, h4.2, h5⟩
 ·rw [if_pos h1] at h; exact absurd h h1
theorem outs_all {ts : List TakerD} {nt : Int} : ∀ {xs : List OutD} {l : Int}, outsFrom ts nt l xs = true → ∀ o ∈ xs, (0 ≤ o.taker ∧ o.taker < ts.length) ∧ ∃ t, ts[o.taker.toNat]? = some t ∧ t.queue ≠ -1
 | [], _, _, o, ho => by simp at ho
 | x :: r, l, h, o, ho => by
  unfold outsFrom at h
  rw [Bool.and_eq_true] at h
  rcases List.mem_cons.1 ho with rfl | ho
  ·have h1 := h.1
   unfold outOk isNum at h1
   simp only [Bool.and_eq_true, decide_eq_true_eq] at h1
   refine ⟨h1.1.1.2, ?_⟩
   have h2 := h1.1.2
   cases ht : ts[o.taker.toNat]? with
   | none => rw [ht] at h2; cases h2
   | some t => rw [ht] at h2; simp at h2; exact ⟨t, rfl, h2.1⟩
  ·exact outs_all h.2 o ho
def heldL (xs : List OutD) (t : Int) : Nat := (xs.filter (fun o => decide (o.taker = t))).length
def sumH (s : StateD) : Nat → Nat
 | 0 => 0
 | k + 1 => sumH s k + heldN s (k : Int)
theorem held_more (k : Nat) : ∀ xs : List OutD, (xs.filter (fun o => decide (0 ≤ o.taker ∧ o.taker < ((k + 1 : Nat) : Int)))).length = (xs.filter (fun o => decide (0 ≤ o.taker ∧ o.taker < (k : Int)))).length + (xs.filter (fun o => decide (o.taker = (k : Int)))).length
 | [] => rfl
 | x :: r => by
  have ih := held_more k r
  simp only [List.filter_cons]
  by_cases h1 : 0 ≤ x.taker ∧ x.taker < (k : Int)
  ·have h2 : 0 ≤ x.taker ∧ x.taker < ((k + 1 : Nat) : Int) := by omega
   have h3 : ¬ x.taker = (k : Int) := by omega
   simp only [h1, h2, h3, decide_true, decide_false, if_true, Bool.false_eq_true, if_false, List.length_cons, and_self]; omega
  ·by_cases h3 : x.taker = (k : Int)
   ·have h2 : 0 ≤ x.taker ∧ x.taker < ((k + 1 : Nat) : Int) := by omega
    rw [if_pos (decide_eq_true h2), if_neg (by simpa using h1), if_pos (decide_eq_true h3)]
    simp only [List.length_cons]; omega
   ·have h2 : ¬ (0 ≤ x.taker ∧ x.taker < ((k + 1 : Nat) : Int)) := by omega
    rw [if_neg (by simpa using h2), if_neg (by simpa using h1), if_neg (by simpa using h3)]
    exact ih
theorem sumH_eq (s : StateD) : ∀ k, sumH s k = (s.outs.filter (fun o => decide (0 ≤ o.taker ∧ o.taker < (k : Int)))).length
 | 0 => by
  have : s.outs.filter (fun o => decide (0 ≤ o.taker ∧ o.taker < ((0 : Nat) : Int))) = [] := by
   rw [List.filter_eq_nil_iff]; intro o _; simp
  rw [this]; rfl
 | k + 1 => by
  rw [held_more]
  show sumH s k + heldN s k = _
  rw [sumH_eq s k]; rfl
theorem sumH_all {s : StateD} (h : outsFrom s.takers s.nextTag (-1) s.outs = true) : sumH s s.takers.length = s.outs.length := by
 rw [sumH_eq, List.filter_eq_self.2]
 intro o ho
 exact decide_eq_true (outs_all h o ho).1
end Go.Proofs.YtpoichgodamnkaaGreat
namespace Go.Proofs.YtpoichgodamnkaaGreat
set_option linter.unusedVariables false
set_option maxRecDepth 100000
theorem lineFrom_mk : ∀ {xs : List ItemD} {last : Int}, (∀ x ∈ xs, itemOk x = true ∧ last < x.seq) → xs.Pairwise (fun x y => x.seq < y.seq) → lineFrom last xs = true
 | [], last, _, _ => rfl
 | x :: r, last, h, hp => by
  obtain ⟨h1, h2⟩ := h x (by simp)
  obtain ⟨h3, h4⟩ := List.pairwise_cons.1 hp
  rw [lineFrom_yes h1 (by omega)]
  exact lineFrom_mk (fun y hy => ⟨(h y (by simp [hy])).1, h3 y hy⟩) h4
theorem lineFrom_items : ∀ {xs : List ItemD} {last : Int}, lineFrom last xs = true → ∀ x ∈ xs, itemOk x = true
 | [], last, _, x, hx => by simp at hx
 | y :: r, last, h, x, hx => by
  unfold lineFrom at h
  simp only [Bool.and_eq_true, decide_eq_true_eq] at h
  rcases List.mem_cons.1 hx with rfl | hx
  ·exact h.1.1
  ·exact lineFrom_items h.2 x hx
theorem lineOk_iff {xs : List ItemD} : lineOk xs = true ↔ (∀ x ∈ xs, itemOk x = true) ∧ xs.Pairwise (fun x y => x.seq < y.seq) :=
 ⟨fun h => ⟨lineFrom_items h, (lineFrom_rise h).1⟩, fun h => lineFrom_mk (fun x hx => ⟨h.1 x hx, by have := itemOk_seq (h.1 x hx); omega⟩) h.2⟩
theorem pushL_mem {xs : List ItemD} {x z : ItemD} : z ∈ pushL xs x ↔ z = x ∨ z ∈ xs := by
 unfold pushL
 simp only [List.mem_append, List.mem_singleton]
 have : z ∈ xs ↔ z ∈ xs.take (idxSeq x.seq xs) ∨ z ∈ xs.drop (idxSeq x.seq xs) := by
  conv => lhs; rw [← List.take_append_drop (idxSeq x.seq xs) xs]
  exact List.mem_append
 rw [this]
 constructor
 ·rintro ((h | h) | h)
  ·exact .inr (.inl h)
  ·exact .inl h
  ·exact .inr (.inr h)
 ·rintro (h | h | h)
  ·exact .inl (.inr h)
  ·exact .inl (.inl h)
  ·exact .inr h
theorem take_below {xs : List ItemD} {s : Int} : ∀ z ∈ xs.take (idxSeq s xs), z.seq < s := by
 intro z hz
 obtain ⟨j, hj, rfl⟩ := List.mem_iff_getElem.1 hz
 have hj' : j < idxSeq s xs := by rw [List.length_take] at hj; omega
 obtain ⟨h1, h2⟩ := idx_below hj'
 rw [List.getElem_take]; exact h2
theorem drop_above {xs : List ItemD} {s : Int} (hl : lineOk xs = true) (hh : pushHas s xs = false) : ∀ z ∈ xs.drop (idxSeq s xs), s < z.seq := by
 intro z hz
 obtain ⟨j, hj, rfl⟩ := List.mem_iff_getElem.1 hz
 rw [List.length_drop] at hj
 rw [List.getElem_drop]
 have h1 : idxSeq s xs < xs.length := by omega
 have h2 := idx_at (s := s) h1
 have h3 : xs[idxSeq s xs].seq ≠ s := by
  intro e
  have := has_yes hl h1 e
  rw [hh] at this; cases this
 rcases Nat.eq_zero_or_pos j with rfl | hj0
 ·simp only [Nat.add_zero]; omega
 ·have := lineOk_rise hl (i := idxSeq s xs) (j := idxSeq s xs + j) (by omega) (by omega)
  omega
theorem pushL_ok {xs : List ItemD} {x : ItemD} (hl : lineOk xs = true) (hx : itemOk x = true) (hh : pushHas x.seq xs = false) : lineOk (pushL xs x) = true := by
 obtain ⟨h1, h2⟩ := lineOk_iff.1 hl
 refine lineOk_iff.2 ⟨fun z hz => ?_, ?_⟩
 ·rcases pushL_mem.1 hz with rfl | hz
  ·exact hx
  ·exact h1 z hz
 ·unfold pushL
  rw [List.append_assoc, List.pairwise_append]
  refine ⟨h2.sublist (List.take_sublist _ _), ?_, ?_⟩
  ·rw [List.singleton_append, List.pairwise_cons]
   exact ⟨drop_above hl hh, h2.sublist (List.drop_sublist _ _)⟩
  ·intro a ha b hb
   have h3 := take_below a ha
   rcases List.mem_append.1 hb with hb | hb
   ·simp at hb; subst hb; exact h3
   ·have := drop_above hl hh b hb; omega
theorem has_iff {xs : List ItemD} {s : Int} (hl : lineOk xs = true) : pushHas s xs = true ↔ ∃ z ∈ xs, z.seq = s := by
 constructor
 ·intro h
  unfold pushHas at h
  cases he : xs[idxSeq s xs]? with
  | none => rw [he] at h; simp at h
  | some z => rw [he] at h; exact ⟨z, List.mem_of_getElem? he, by simpa using h⟩
 ·rintro ⟨z, hz, hs⟩
  obtain ⟨j, hj, rfl⟩ := List.mem_iff_getElem.1 hz
  exact has_yes hl hj hs
end Go.Proofs.YtpoichgodamnkaaGreat
namespace Go.Proofs.YtpoichgodamnkaaGreat
open Go.RowKit Go.Maps
set_option linter.unusedVariables false
set_option maxRecDepth 100000
def lineAt (s : StateD) (q : Nat) : List ItemD := s.ready.getD q []
def qAt (p : PlanD) (q : Nat) : QueueD := p.queues.getD q ⟨⟨#[]⟩, 0, 0⟩
structure RightX (p : PlanD) (s : StateD) (n : Int) : Prop where
 pl : chkP p = 0
 tk : s.takers.length ≤ 4
 len : s.ready.length = p.queues.length
 line : ∀ l ∈ s.ready, lineOk l = true
 tok : ∀ t ∈ s.takers, takerOk p.queues.length t = true
 outs : outsFrom s.takers s.nextTag (-1) s.outs = true
 ns : 0 ≤ s.nextSeq ∧ s.nextSeq ≤ 1048576
 nt : 0 ≤ s.nextTag ∧ s.nextTag ≤ 1048576
 ak : 0 ≤ s.acked
 dr : 0 ≤ s.dropped
 nodup : (seqsOf s).Nodup
 lt : ∀ z ∈ seqsOf s, z < s.nextSeq
 room : ∀ q, q < s.ready.length → ((lineAt s q).length : Int) ≤ (qAt p q).limit
 hold : ∀ k, k < s.takers.length → (heldN s k : Int) ≤ (s.takers.getD k ⟨0, 0⟩).most
 sum : s.came = (seqsOf s).length + n + s.acked + s.dropped
 cs : s.came = s.nextSeq
theorem right_of {p : PlanD} {s : StateD} (h : stE p s = 0) : RightX p s 0 := by
 obtain ⟨g1, g2, g3, g4, g5, g6, g7, g8, g9, g10⟩ := stE_zero h
 unfold linesOk at g3
 simp only [Bool.and_eq_true, decide_eq_true_eq, List.all_eq_true] at g3
 unfold countsOk countOk at g6
 simp only [Bool.and_eq_true, decide_eq_true_eq] at g6
 unfold seqsOk at g7
 simp only [Bool.and_eq_true, decide_eq_true_eq, List.all_eq_true] at g7
 unfold sumsOk at g10
 simp only [Bool.and_eq_true, decide_eq_true_eq] at g10
 refine ⟨g1, g2, g3.1, g3.2, List.all_eq_true.1 g4, g5, g6.1.1.1.1, g6.1.1.1.2, g6.1.2.1, g6.2.1, g7.1, g7.2, fun q hq => ?_, fun k hk => ?_, by omega, g10.2⟩
 ·have := List.all_eq_true.1 g8 q (List.mem_range.2 hq); rw [decide_eq_true_eq] at this; exact this
 ·have := List.all_eq_true.1 g9 k (List.mem_range.2 hk); rw [decide_eq_true_eq] at this; exact this
theorem RightX.ok {p : PlanD} {s : StateD} (h : RightX p s 0) : stE p s = 0 := by
 have hcnt : countsOk s = true := by
  unfold countsOk countOk
  simp only [Bool.and_eq_true, decide_eq_true_eq]
  have h1 := h.ns; have h2 := h.nt; have h3 := h.ak; have h4 := h.dr; have h5 := h.sum; have h6 := h.cs
  refine ⟨⟨⟨⟨h1, h2⟩, ?_⟩, ?_⟩, ?_⟩ <;> omega
 have hf : formedB p s = true := by
  unfold formedB
  simp only [Bool.and_eq_true]
  refine ⟨⟨⟨⟨?_, ?_⟩, h.outs⟩, hcnt⟩, ?_⟩
  ·unfold linesOk; simp only [Bool.and_eq_true, decide_eq_true_eq, List.all_eq_true]; exact ⟨h.len, h.line⟩
  ·exact List.all_eq_true.2 h.tok
  ·unfold seqsOk; simp only [Bool.and_eq_true, decide_eq_true_eq, List.all_eq_true]; exact ⟨h.nodup, h.lt⟩
 have h1 : roomL p s = true := List.all_eq_true.2 (fun q hq => decide_eq_true (h.room q (List.mem_range.1 hq)))
 have h2 : roomT s = true := List.all_eq_true.2 (fun k hk => decide_eq_true (h.hold k (List.mem_range.1 hk)))
 have h3 : sumsOk s = true := by
  unfold sumsOk; simp only [Bool.and_eq_true, decide_eq_true_eq]; exact ⟨by have := h.sum; omega, h.cs⟩
 unfold stE
 rw [if_neg (by simp [h.pl]), if_neg (by have := h.tk; omega), hf, h1, h2, h3]; rfl
theorem RightX.rp {p : PlanD} {s : StateD} {n : Int} (h : RightX p s n) : RightP p := chk_right h.pl
theorem set_split {α : Type} {xs : List α} {q : Nat} (h : q < xs.length) (y : α) : xs = xs.take q ++ xs[q] :: xs.drop (q + 1) ∧ xs.set q y = xs.take q ++ y :: xs.drop (q + 1) := by
 refine ⟨?_, List.set_eq_take_append_cons_drop.trans (if_pos h)⟩
 conv => lhs; rw [← List.take_append_drop q xs]
 rw [List.drop_eq_getElem_cons h]
theorem flat_set {β : Type} (f : List ItemD → List β) {xs : List (List ItemD)} {q : Nat} (h : q < xs.length) (y : List ItemD) : ∃ A B, xs.flatMap f = A ++ f xs[q] ++ B ∧ (xs.set q y).flatMap f = A ++ f y ++ B := by
 obtain ⟨h1, h2⟩ := set_split h y
 refine ⟨(xs.take q).flatMap f, (xs.drop (q + 1)).flatMap f, ?_, ?_⟩
 ·have e := congrArg (List.flatMap f) h1
  rw [List.flatMap_append, List.flatMap_cons, ← List.append_assoc] at e
  exact e
 ·rw [h2, List.flatMap_append, List.flatMap_cons, ← List.append_assoc]
theorem lineAt_get {s : StateD} {q : Nat} (h : q < s.ready.length) : lineAt s q = s.ready[q] := by unfold lineAt; rw [List.getD_eq_getElem?_getD, List.getElem?_eq_getElem h]; rfl
theorem lineAt_mem {s : StateD} {q : Nat} (h : q < s.ready.length) : lineAt s q ∈ s.ready := by rw [lineAt_get h]; exact List.getElem_mem h
theorem seqsOf_set (s : StateD) {q : Nat} (h : q < s.ready.length) (y : List ItemD) : ∃ A B, seqsOf s = A ++ (lineAt s q).map ItemD.seq ++ B ∧ seqsOf { s with ready := s.ready.set q y } = A ++ y.map ItemD.seq ++ B := by
 obtain ⟨A, B, h1, h2⟩ := flat_set (fun l => l.map ItemD.seq) h y
 refine ⟨A, B ++ s.outs.map (fun o => o.item.seq), ?_, ?_⟩
 ·unfold seqsOf; rw [h1, lineAt_get h]; simp
 ·unfold seqsOf; simp only; rw [h2]; simp
theorem lineAt_set {s : StateD} {q r : Nat} (h : q < s.ready.length) (y : List ItemD) (d : Int) : lineAt { s with ready := s.ready.set q y, dropped := d } r = if r = q then y else lineAt s r := by
 unfold lineAt
 simp only
 rw [List.getD_eq_getElem?_getD, List.getElem?_set, List.getD_eq_getElem?_getD]
 by_cases e : q = r
 ·subst e; rw [if_pos rfl, if_pos h, if_pos rfl]; rfl
 ·rw [if_neg e, if_neg (fun h => e h.symm)]
theorem itemOk_parts {x : ItemD} (h : itemOk x = true) : 0 ≤ x.seq ∧ x.seq < 1048576 ∧ kerr x.key.data.toList = 0 ∧ x.body.size ≤ 12 ∧ 0 ≤ x.deaths ∧ x.deaths ≤ 2 := by
 unfold itemOk itemNums at h; simp at h; omega
theorem itemOk_mk {x : ItemD} (h1 : 0 ≤ x.seq) (h2 : x.seq < 1048576) (h3 : kerr x.key.data.toList = 0) (h4 : x.body.size ≤ 12) (h5 : 0 ≤ x.deaths) (h6 : x.deaths ≤ 2) : itemOk x = true := by
 unfold itemOk itemNums; simp; omega
theorem qAt_get {p : PlanD} {q : Nat} (h : q < p.queues.length) : qAt p q = p.queues[q] := by unfold qAt; rw [List.getD_eq_getElem?_getD, List.getElem?_eq_getElem h]; rfl
theorem RightX.line6 {p : PlanD} {s : StateD} {n : Int} (h : RightX p s n) {l : List ItemD} (hl : l ∈ s.ready) : l.length ≤ 6 := by
 obtain ⟨q, hq, rfl⟩ := List.mem_iff_getElem.1 hl
 have h1 := h.room q hq
 rw [lineAt_get hq] at h1
 have hq' : q < p.queues.length := by rw [← h.len]; exact hq
 have h2 := h.rp.queues _ (List.getElem_mem hq')
 rw [qAt_get hq'] at h1
 omega
end Go.Proofs.YtpoichgodamnkaaGreat
namespace Go.Proofs.YtpoichgodamnkaaGreat
open Go.RowKit
set_option linter.unusedVariables false
set_option maxRecDepth 100000
def LineOwn (W : World) (n : Nat) (b : Option Addr) : Prop := b = none ∨ ∃ g o cur, b = some ⟨g, o, none⟩ ∧ n ≤ g ∧ W.heap[g]? = some (.cells cur 43 (0, 0))
structure LineV (W : World) (n : Nat) (xs : List ItemD) (v : Value) (b : Option Addr) (c : Nat) : Prop where
 v : v = .slice b xs.length c
 le : xs.length ≤ c
 cm : c ≤ maxLen
 nil : b = none → c = 0
 it : ItemsAt W b xs
 own : LineOwn W n b
structure LinesV (W : World) (n : Nat) (xss : List (List ItemD)) (vs : List Value) : Prop where
 len : vs.length = xss.length
 get : ∀ i (h : i < xss.length), ∃ v b c, vs[i]? = some v ∧ LineV W n xss[i] v b c
structure OwnSt (W : World) (n : Nat) (b1 b2 b3 : Option Addr) (m1 d1 m2 d2 m3 d3 : Nat) (s : StateD) : Prop where
 l1 : s.ready.length = m1
 l2 : s.outs.length = m2
 l3 : s.takers.length = m3
 x2 : m2 ≤ 100000000
 r1 : ∃ vs, W.ownsRow n 41 1 (.slice b1 m1 d1) m1 vs ∧ LinesV W n s.ready vs
 r2 : W.ownsRow n 91 8 (.slice b2 m2 d2) m2 (outCells s.outs)
 r3 : W.ownsRow n 93 2 (.slice b3 m3 d3) m3 (tkC_ s.takers)
structure FrameT (n t : Nat) (W W' : World) : Prop where
 os : W'.os = W.os
 tape : W'.tape = W.tape
 output : W'.output = W.output
 size : W.heap.size ≤ W'.heap.size
 block : ∀ k, k < n → k ≠ t → W'.heap[k]? = W.heap[k]?
theorem FrameT.refl (n t : Nat) (W : World) : FrameT n t W W := ⟨rfl, rfl, rfl, Nat.le_refl _, fun _ _ _ => rfl⟩
theorem FrameT.trans {n t : Nat} {A B C : World} (h : FrameT n t A B) (k : FrameT n t B C) : FrameT n t A C :=
 ⟨k.os.trans h.os, k.tape.trans h.tape, k.output.trans h.output, Nat.le_trans h.size k.size, fun i h1 h2 => (k.block i h1 h2).trans (h.block i h1 h2)⟩
theorem FrameT.of_below {n m t : Nat} {A B : World} (h : Below m A B) (hn : n ≤ m) : FrameT n t A B := ⟨h.os, h.tape, h.output, h.size, fun k h1 _ => h.block k (by omega)⟩
theorem FrameT.below {n m t : Nat} {A B : World} (h : FrameT n t A B) (hn : m ≤ n) (ht : m ≤ t) : Below m A B := ⟨h.os, h.tape, h.output, h.size, fun k h1 => h.block k (by omega) (by omega)⟩
theorem FrameT.setCell {n t : Nat} {A B : World} (h : FrameT n t A B) {p : Addr} (hp : n ≤ p.block ∨ p.block = t) (u : Value) : FrameT n t A (B.setCell p u) :=
 h.trans ⟨rfl, rfl, rfl, by simp [World.setCell], fun k h1 h2 => Below.heap_setCell _ _ _ _ (by omega)⟩
theorem FrameT.grown {n t : Nat} {A B C : World} {row : Option Nat} (h : FrameT n t A B) (hg : B.grownBy C row) (hn : n ≤ B.heap.size) (hr : ∀ k, row = some k → n ≤ k) : FrameT n t A C :=
 h.trans ⟨hg.os, hg.tape, hg.output, hg.size, fun k h1 h2 => hg.block k (by omega) (fun e => by have := hr k e.symm; omega)⟩
theorem LineOwn.keep {W W' : World} {n : Nat} {b : Option Addr} (h : LineOwn W n b) (hB : Below W.heap.size W W') : LineOwn W' n b := by
 rcases h with h | ⟨g, o, cur, h1, h2, h3⟩
 ·exact .inl h
 ·exact .inr ⟨g, o, cur, h1, h2, pkp_ h3 hB⟩
theorem LineV.keep {W W' : World} {n : Nat} {xs : List ItemD} {v : Value} {b : Option Addr} {c : Nat} (h : LineV W n xs v b c) (hB : Below W.heap.size W W') : LineV W' n xs v b c := ⟨h.v, h.le, h.cm, h.nil, h.it.keep hB, h.own.keep hB⟩
theorem LinesV.keep {W W' : World} {n : Nat} {xss : List (List ItemD)} {vs : List Value} (h : LinesV W n xss vs) (hB : Below W.heap.size W W') : LinesV W' n xss vs :=
 ⟨h.len, fun i hi => by obtain ⟨v, b, c, h1, h2⟩ := h.get i hi; exact ⟨v, b, c, h1, h2.keep hB⟩⟩
theorem OwnSt.keep {W W' : World} {n : Nat} {b1 b2 b3 : Option Addr} {m1 d1 m2 d2 m3 d3 : Nat} {s : StateD} (h : OwnSt W n b1 b2 b3 m1 d1 m2 d2 m3 d3 s) (hB : Below W.heap.size W W') : OwnSt W' n b1 b2 b3 m1 d1 m2 d2 m3 d3 s := by
 obtain ⟨vs, h1, h2⟩ := h.r1
 exact ⟨h.l1, h.l2, h.l3, h.x2, ⟨vs, cp2_ h1 hB, h2.keep hB⟩, cp2_ h.r2 hB, cp2_ h.r3 hB⟩
theorem LineOwn.lower {W : World} {n n' : Nat} {b : Option Addr} (h : LineOwn W n b) (hn : n' ≤ n) : LineOwn W n' b := by
 rcases h with h | ⟨g, o, cur, h1, h2, h3⟩
 ·exact .inl h
 ·exact .inr ⟨g, o, cur, h1, by omega, h3⟩
theorem LinesV.lower {W : World} {n n' : Nat} {xss : List (List ItemD)} {vs : List Value} (h : LinesV W n xss vs) (hn : n' ≤ n) : LinesV W n' xss vs :=
 ⟨h.len, fun i hi => by obtain ⟨v, b, c, h1, h2⟩ := h.get i hi; exact ⟨v, b, c, h1, h2.v, h2.le, h2.cm, h2.nil, h2.it, h2.own.lower hn⟩⟩
theorem OwnSt.lower {W : World} {n n' : Nat} {b1 b2 b3 : Option Addr} {m1 d1 m2 d2 m3 d3 : Nat} {s : StateD} (h : OwnSt W n b1 b2 b3 m1 d1 m2 d2 m3 d3 s) (hn : n' ≤ n) : OwnSt W n' b1 b2 b3 m1 d1 m2 d2 m3 d3 s := by
 obtain ⟨vs, h1, h2⟩ := h.r1
 exact ⟨h.l1, h.l2, h.l3, h.x2, ⟨vs, own_base h1 hn, h2.lower hn⟩, own_base h.r2 hn, own_base h.r3 hn⟩
theorem own_at {W : World} {base : Nat} {T : TypeId} {size : Nat} {a : Option Addr} {n c : Nat} {cs : List Value} (h : W.ownsRow base T size (.slice a n c) n cs) : RowAt W a cs := by
 obtain ⟨a', c', e, _, _, _, hr⟩ := own_row h
 cases e; exact hr
theorem own_le {W : World} {base : Nat} {T : TypeId} {size : Nat} {a : Option Addr} {n c : Nat} {cs : List Value} (h : W.ownsRow base T size (.slice a n c) n cs) : n ≤ c ∧ c ≤ maxLen ∧ (a = none → c = 0 ∧ n = 0) := by
 obtain ⟨a', c', e, h1, h2, h3, hr⟩ := own_row h
 cases e; exact ⟨h1, h2, h3⟩
theorem LinesV.at {W : World} {n : Nat} {xss : List (List ItemD)} {vs : List Value} (h : LinesV W n xss vs) {a : Option Addr} (hr : RowAt W a vs) : LinesAt W a xss := by
 rcases hr with hr | ⟨g, o, ha, hg, hr⟩
 ·refine .inl (List.length_eq_zero_iff.1 ?_)
  have := h.len; rw [hr] at this; simpa using this.symm
 ·refine .inr ⟨g, o, ha, hg, fun i hi => ?_⟩
  obtain ⟨v, b, c, h1, h2⟩ := h.get i hi
  exact ⟨b, c, by rw [hr _ _ h1, h2.v], h2.le, h2.cm, h2.nil, h2.it⟩
theorem OwnSt.state {W : World} {n : Nat} {b1 b2 b3 : Option Addr} {m1 d1 m2 d2 m3 d3 : Nat} {s : StateD} (h : OwnSt W n b1 b2 b3 m1 d1 m2 d2 m3 d3 s) : StateAt W b1 b2 b3 m1 m2 m3 s := by
 obtain ⟨vs, h1, h2⟩ := h.r1
 have g1 := own_le h1
 have g3 := own_le h.r3
 have := h.x2
 exact ⟨h.l1, h.l2, h.l3, by omega, by omega, by omega, h2.at (own_at h1), outs_row.2 (own_at h.r2), takers_row.2 (own_at h.r3)⟩
theorem row_other {W : World} {base : Nat} {T T' : TypeId} {size : Nat} {v : Value} {n : Nat} {cs : List Value} (h : W.ownsRow base T size v n cs) {B : Nat} {cur : Array Value} (hB : W.heap[B]? = some (.cells cur T' (0, 0))) (hT : T ≠ T') : v.ownBlock ≠ some B := by
 intro e
 rcases h.2 with ⟨rfl, _⟩ | ⟨g, cap, cur', rfl, _, hg, _⟩
 ·cases e
 ·have : g = B := by simpa [Value.ownBlock] using e
  subst this
  rw [hg] at hB
  cases hB; exact hT rfl
theorem row_keep {W W' : World} {base : Nat} {T : TypeId} {size : Nat} {v : Value} {n : Nat} {cs : List Value} (h : W.ownsRow base T size v n cs) (hk : ∀ k, v.ownBlock = some k → W'.heap[k]? = W.heap[k]?) : W'.ownsRow base T size v n cs := by
 refine ⟨h.1, ?_⟩
 rcases h.2 with h | ⟨g, cap, cur, h1, h2, h3, h4⟩
 ·exact .inl h
 ·exact .inr ⟨g, cap, cur, h1, h2, (hk g (by rw [h1]; rfl)).trans h3, h4⟩
theorem RowAt.keepBut {W W' : World} {a : Option Addr} {cs : List Value} (h : RowAt W a cs) (hs : W.heap.size ≤ W'.heap.size) (hk : ∀ g o, a = some ⟨g, o, none⟩ → W'.heap[g]? = W.heap[g]?) : RowAt W' a cs := by
 rcases h with h | ⟨g, o, ha, hg, h⟩
 ·exact .inl h
 ·exact .inr ⟨g, o, ha, Nat.lt_of_lt_of_le hg hs, fun j u hj => (World.cell?_of_block (w := W) (a := ⟨g, o + j, none⟩) (hk g o ha)).trans (h j u hj)⟩
structure KeepI (n : Nat) (W W' : World) : Prop where
 size : W.heap.size ≤ W'.heap.size
 block : ∀ g cur, n ≤ g → W.heap[g]? = some (.cells cur 43 (0, 0)) → W'.heap[g]? = W.heap[g]?
theorem KeepI.of_below {n : Nat} {W W' : World} (h : Below W.heap.size W W') : KeepI n W W' := ⟨h.size, fun g cur _ hg => h.block g (lth_ hg)⟩
theorem KeepI.trans {n : Nat} {A B C : World} (h : KeepI n A B) (k : KeepI n B C) : KeepI n A C := ⟨Nat.le_trans h.size k.size, fun g cur hn hg => (k.block g cur hn ((h.block g cur hn hg).trans hg)).trans (h.block g cur hn hg)⟩
theorem KeepI.setCell {n : Nat} {W : World} {B i : Nat} {cur : Array Value} {T : TypeId} (hB : W.heap[B]? = some (.cells cur T (0, 0))) (hT : T ≠ 43) (u : Value) : KeepI n W (W.setCell ⟨B, i, none⟩ u) :=
 ⟨by simp [World.setCell], fun g cur' _ hg => heap_setCell_other _ _ _ _ (fun e => by
  have e' : g = B := e
  rw [e', hB] at hg
  cases hg; exact hT rfl)⟩
theorem LineV.keepT {W W' : World} {n : Nat} {xs : List ItemD} {v : Value} {b : Option Addr} {c : Nat} (h2 : LineV W n xs v b c) (hk : KeepI n W W') : LineV W' n xs v b c := by
 refine ⟨h2.v, h2.le, h2.cm, h2.nil, ?_, ?_⟩
 ·refine items_row.2 ((items_row.1 h2.it).keepBut hk.size fun g o ha => ?_)
  rcases h2.own with e | ⟨g', o', cur, e, e2, e3⟩
  ·rw [e] at ha; cases ha
  ·rw [e] at ha; cases ha; exact hk.block g cur e2 e3
 ·rcases h2.own with e | ⟨g', o', cur, e, e2, e3⟩
  ·exact .inl e
  ·exact .inr ⟨g', o', cur, e, e2, (hk.block g' cur e2 e3).trans e3⟩
theorem LinesV.keepT {W W' : World} {n : Nat} {xss : List (List ItemD)} {vs : List Value} (h : LinesV W n xss vs) (hk : KeepI n W W') : LinesV W' n xss vs := by
 refine ⟨h.len, fun i hi => ?_⟩
 obtain ⟨v, b, c, h1, h2⟩ := h.get i hi
 exact ⟨v, b, c, h1, h2.keepT hk⟩
theorem own_block {W : World} {base : Nat} {T : TypeId} {size g n c : Nat} {cs : List Value} (h : W.ownsRow base T size (.slice (some ⟨g, 0, none⟩) n c) n cs) : base ≤ g ∧ ∃ cur, W.heap[g]? = some (.cells cur T (0, 0)) := by
 rcases h.2 with ⟨e, _⟩ | ⟨g2, cap, cur, e, hb, hg, _⟩
 ·cases e
 ·cases e; exact ⟨hb, cur, hg⟩
theorem KeepI.row {W : World} {base n : Nat} {T : TypeId} {size g m c : Nat} {cs : List Value} (h : W.ownsRow base T size (.slice (some ⟨g, 0, none⟩) m c) m cs) (hT : T ≠ 43) (i : Nat) (u : Value) : KeepI n W (W.setCell ⟨g, i, none⟩ u) := by
 obtain ⟨_, cur, hg⟩ := own_block h
 exact KeepI.setCell hg hT u
end Go.Proofs.YtpoichgodamnkaaGreat
