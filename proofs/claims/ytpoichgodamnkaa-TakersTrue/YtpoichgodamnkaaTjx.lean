import Derived.Test.YtpoichgodamnkaaTix
import Derived.Test.YtpoichgodamnkaaTdx
import Derived.Test.YtpoichgodamnkaaThx
namespace Go.Proofs.Ytpoichgodamnkaa
open Go.RowKit Go.Maps
set_option linter.unusedVariables false
set_option maxRecDepth 100000
theorem stE_zero {p : PlanD} {s : StateD} (h : stE p s = 0) : chkP p = 0 ∧ s.takers.length ≤ 4 ∧ linesOk p.queues.length s.ready = true ∧ s.takers.all (takerOk p.queues.length) = true ∧ outsFrom s.takers s.nextTag (-1) s.outs = true ∧ countsOk s = true ∧ seqsOk s = true ∧ roomL p s = true ∧ roomT s = true ∧ sumsOk s = true := by
 unfold stE at h
 by_cases h1 : chkP p = 0
 ·rw [if_neg (by simp [h1])] at h
  by_cases h2 : 4 < s.takers.length
  ·rw [if_pos h2] at h; cases h
  ·rw [if_neg h2] at h
   by_cases h3 : formedB p s = false
   ·rw [if_pos h3] at h; cases h
   ·rw [if_neg h3] at h
    by_cases h4 : (roomL p s && roomT s) = false
    ·rw [if_pos h4] at h; cases h
    ·rw [if_neg h4] at h
     by_cases h5 : sumsOk s = false
     ·rw [if_pos h5] at h; cases h
     ·simp only [Bool.not_eq_false, Bool.and_eq_true] at h3 h4 h5
      unfold formedB at h3
      simp only [Bool.and_eq_true] at h3
      exact ⟨h1, by omega, h3.1.1.1.1, h3.1.1.1.2, h3.1.1.2, h3.1.2, h3.2, h4.1, h4.2, h5⟩
 ·rw [if_pos h1] at h; exact absurd h h1
theorem outs_all {ts : List TakerD} {nt : Int} : ∀ {xs : List OutD} {l : Int}, outsFrom ts nt l xs = true → ∀ o ∈ xs, (0 ≤ o.taker ∧ o.taker < ts.length) ∧ ∃ t, ts[o.taker.toNat]? = some t ∧ t.queue ≠ -1
 | [], _, _, o, ho => by simp at ho
 | x :: r, l, h, o, ho => by
   unfold outsFrom at h
   rw [Bool.and_eq_true] at h
   rcases List.mem_cons.1 ho with rfl | ho
   ·have h1 := h.1
    unfold outOk isNum at h1
    simp only [Bool.and_eq_true, decide_eq_true_eq] at h1
    refine ⟨h1.1.1.2, ?_⟩
    have h2 := h1.1.2
    cases ht : ts[o.taker.toNat]? with
    | none => rw [ht] at h2; cases h2
    | some t => rw [ht] at h2; simp at h2; exact ⟨t, rfl, h2.1⟩
   ·exact outs_all h.2 o ho
def heldL (xs : List OutD) (t : Int) : Nat := (xs.filter (fun o => decide (o.taker = t))).length
def sumH (s : StateD) : Nat → Nat
 | 0 => 0
 | k + 1 => sumH s k + heldN s (k : Int)
theorem held_more (k : Nat) : ∀ xs : List OutD, (xs.filter (fun o => decide (0 ≤ o.taker ∧ o.taker < ((k + 1 : Nat) : Int)))).length = (xs.filter (fun o => decide (0 ≤ o.taker ∧ o.taker < (k : Int)))).length + (xs.filter (fun o => decide (o.taker = (k : Int)))).length
 | [] => rfl
 | x :: r => by
   have ih := held_more k r
   simp only [List.filter_cons]
   by_cases h1 : 0 ≤ x.taker ∧ x.taker < (k : Int)
   ·have h2 : 0 ≤ x.taker ∧ x.taker < ((k + 1 : Nat) : Int) := by omega
    have h3 : ¬ x.taker = (k : Int) := by omega
    simp only [h1, h2, h3, decide_true, decide_false, if_true, Bool.false_eq_true, if_false, List.length_cons, and_self]; omega
   ·by_cases h3 : x.taker = (k : Int)
    ·have h2 : 0 ≤ x.taker ∧ x.taker < ((k + 1 : Nat) : Int) := by omega
     rw [if_pos (decide_eq_true h2), if_neg (by simpa using h1), if_pos (decide_eq_true h3)]
     simp only [List.length_cons]; omega
    ·have h2 : ¬ (0 ≤ x.taker ∧ x.taker < ((k + 1 : Nat) : Int)) := by omega
     rw [if_neg (by simpa using h2), if_neg (by simpa using h1), if_neg (by simpa using h3)]
     exact ih
theorem sumH_eq (s : StateD) : ∀ k, sumH s k = (s.outs.filter (fun o => decide (0 ≤ o.taker ∧ o.taker < (k : Int)))).length
 | 0 => by
   have : s.outs.filter (fun o => decide (0 ≤ o.taker ∧ o.taker < ((0 : Nat) : Int))) = [] := by
    rw [List.filter_eq_nil_iff]; intro o _; simp
   rw [this]; rfl
 | k + 1 => by
   rw [held_more]
   show sumH s k + heldN s k = _
   rw [sumH_eq s k]; rfl
theorem sumH_all {s : StateD} (h : outsFrom s.takers s.nextTag (-1) s.outs = true) : sumH s s.takers.length = s.outs.length := by
 rw [sumH_eq, List.filter_eq_self.2]
 intro o ho
 exact decide_eq_true (outs_all h o ho).1
end Go.Proofs.Ytpoichgodamnkaa
namespace Go.Proofs.Ytpoichgodamnkaa
set_option linter.unusedVariables false
set_option maxRecDepth 100000
theorem lineFrom_mk : ∀ {xs : List ItemD} {last : Int}, (∀ x ∈ xs, itemOk x = true ∧ last < x.seq) → xs.Pairwise (fun x y => x.seq < y.seq) → lineFrom last xs = true
 | [], last, _, _ => rfl
 | x :: r, last, h, hp => by
   obtain ⟨h1, h2⟩ := h x (by simp)
   obtain ⟨h3, h4⟩ := List.pairwise_cons.1 hp
   rw [lineFrom_yes h1 (by omega)]
   exact lineFrom_mk (fun y hy => ⟨(h y (by simp [hy])).1, h3 y hy⟩) h4
theorem lineFrom_items : ∀ {xs : List ItemD} {last : Int}, lineFrom last xs = true → ∀ x ∈ xs, itemOk x = true
 | [], last, _, x, hx => by simp at hx
 | y :: r, last, h, x, hx => by
   unfold lineFrom at h
   simp only [Bool.and_eq_true, decide_eq_true_eq] at h
   rcases List.mem_cons.1 hx with rfl | hx
   ·exact h.1.1
   ·exact lineFrom_items h.2 x hx
theorem lineOk_iff {xs : List ItemD} : lineOk xs = true ↔ (∀ x ∈ xs, itemOk x = true) ∧ xs.Pairwise (fun x y => x.seq < y.seq) :=
 ⟨fun h => ⟨lineFrom_items h, (lineFrom_rise h).1⟩, fun h => lineFrom_mk (fun x hx => ⟨h.1 x hx, by have := itemOk_seq (h.1 x hx); omega⟩) h.2⟩
end Go.Proofs.Ytpoichgodamnkaa
namespace Go.Proofs.Ytpoichgodamnkaa
open Go.RowKit Go.Maps
set_option linter.unusedVariables false
set_option maxRecDepth 100000
def lineAt (s : StateD) (q : Nat) : List ItemD := s.ready.getD q []
def qAt (p : PlanD) (q : Nat) : QueueD := p.queues.getD q ⟨⟨#[]⟩, 0, 0⟩
structure RightX (p : PlanD) (s : StateD) (n : Int) : Prop where
 pl : chkP p = 0
 tk : s.takers.length ≤ 4
 len : s.ready.length = p.queues.length
 line : ∀ l ∈ s.ready, lineOk l = true
 tok : ∀ t ∈ s.takers, takerOk p.queues.length t = true
 outs : outsFrom s.takers s.nextTag (-1) s.outs = true
 ns : 0 ≤ s.nextSeq ∧ s.nextSeq ≤ 1048576
 nt : 0 ≤ s.nextTag ∧ s.nextTag ≤ 1048576
 ak : 0 ≤ s.acked
 dr : 0 ≤ s.dropped
 nodup : (seqsOf s).Nodup
 lt : ∀ z ∈ seqsOf s, z < s.nextSeq
 room : ∀ q, q < s.ready.length → ((lineAt s q).length : Int) ≤ (qAt p q).limit
 hold : ∀ k, k < s.takers.length → (heldN s k : Int) ≤ (s.takers.getD k ⟨0, 0⟩).most
 sum : s.came = (seqsOf s).length + n + s.acked + s.dropped
 cs : s.came = s.nextSeq
theorem right_of {p : PlanD} {s : StateD} (h : stE p s = 0) : RightX p s 0 := by
 obtain ⟨g1, g2, g3, g4, g5, g6, g7, g8, g9, g10⟩ := stE_zero h
 unfold linesOk at g3
 simp only [Bool.and_eq_true, decide_eq_true_eq, List.all_eq_true] at g3
 unfold countsOk countOk at g6
 simp only [Bool.and_eq_true, decide_eq_true_eq] at g6
 unfold seqsOk at g7
 simp only [Bool.and_eq_true, decide_eq_true_eq, List.all_eq_true] at g7
 unfold sumsOk at g10
 simp only [Bool.and_eq_true, decide_eq_true_eq] at g10
 refine ⟨g1, g2, g3.1, g3.2, List.all_eq_true.1 g4, g5, g6.1.1.1.1, g6.1.1.1.2, g6.1.2.1, g6.2.1, g7.1, g7.2, fun q hq => ?_, fun k hk => ?_, by omega, g10.2⟩
 ·have := List.all_eq_true.1 g8 q (List.mem_range.2 hq); rw [decide_eq_true_eq] at this; exact this
 ·have := List.all_eq_true.1 g9 k (List.mem_range.2 hk); rw [decide_eq_true_eq] at this; exact this
theorem RightX.ok {p : PlanD} {s : StateD} (h : RightX p s 0) : stE p s = 0 := by
 have hcnt : countsOk s = true := by
  unfold countsOk countOk
  simp only [Bool.and_eq_true, decide_eq_true_eq]
  have h1 := h.ns; have h2 := h.nt; have h3 := h.ak; have h4 := h.dr; have h5 := h.sum; have h6 := h.cs
  refine ⟨⟨⟨⟨h1, h2⟩, ?_⟩, ?_⟩, ?_⟩ <;> omega
 have hf : formedB p s = true := by
  unfold formedB
  simp only [Bool.and_eq_true]
  refine ⟨⟨⟨⟨?_, ?_⟩, h.outs⟩, hcnt⟩, ?_⟩
  ·unfold linesOk; simp only [Bool.and_eq_true, decide_eq_true_eq, List.all_eq_true]; exact ⟨h.len, h.line⟩
  ·exact List.all_eq_true.2 h.tok
  ·unfold seqsOk; simp only [Bool.and_eq_true, decide_eq_true_eq, List.all_eq_true]; exact ⟨h.nodup, h.lt⟩
 have h1 : roomL p s = true := List.all_eq_true.2 (fun q hq => decide_eq_true (h.room q (List.mem_range.1 hq)))
 have h2 : roomT s = true := List.all_eq_true.2 (fun k hk => decide_eq_true (h.hold k (List.mem_range.1 hk)))
 have h3 : sumsOk s = true := by
  unfold sumsOk; simp only [Bool.and_eq_true, decide_eq_true_eq]; exact ⟨by have := h.sum; omega, h.cs⟩
 unfold stE
 rw [if_neg (by simp [h.pl]), if_neg (by have := h.tk; omega), hf, h1, h2, h3]; rfl
theorem RightX.rp {p : PlanD} {s : StateD} {n : Int} (h : RightX p s n) : RightP p := chk_right h.pl
theorem set_split {α : Type} {xs : List α} {q : Nat} (h : q < xs.length) (y : α) : xs = xs.take q ++ xs[q] :: xs.drop (q + 1) ∧ xs.set q y = xs.take q ++ y :: xs.drop (q + 1) := by
 refine ⟨?_, List.set_eq_take_append_cons_drop.trans (if_pos h)⟩
 conv => lhs; rw [← List.take_append_drop q xs]
 rw [List.drop_eq_getElem_cons h]
theorem flat_set {β : Type} (f : List ItemD → List β) {xs : List (List ItemD)} {q : Nat} (h : q < xs.length) (y : List ItemD) : ∃ A B, xs.flatMap f = A ++ f xs[q] ++ B ∧ (xs.set q y).flatMap f = A ++ f y ++ B := by
 obtain ⟨h1, h2⟩ := set_split h y
 refine ⟨(xs.take q).flatMap f, (xs.drop (q + 1)).flatMap f, ?_, ?_⟩
 ·have e := congrArg (List.flatMap f) h1
  rw [List.flatMap_append, List.flatMap_cons, ← List.append_assoc] at e
  exact e
 ·rw [h2, List.flatMap_append, List.flatMap_cons, ← List.append_assoc]
theorem lineAt_get {s : StateD} {q : Nat} (h : q < s.ready.length) : lineAt s q = s.ready[q] := by unfold lineAt; rw [List.getD_eq_getElem?_getD, List.getElem?_eq_getElem h]; rfl
theorem lineAt_mem {s : StateD} {q : Nat} (h : q < s.ready.length) : lineAt s q ∈ s.ready := by rw [lineAt_get h]; exact List.getElem_mem h
theorem lineAt_set {s : StateD} {q r : Nat} (h : q < s.ready.length) (y : List ItemD) (d : Int) : lineAt { s with ready := s.ready.set q y, dropped := d } r = if r = q then y else lineAt s r := by
 unfold lineAt
 simp only
 rw [List.getD_eq_getElem?_getD, List.getElem?_set, List.getD_eq_getElem?_getD]
 by_cases e : q = r
 ·subst e; rw [if_pos rfl, if_pos h, if_pos rfl]; rfl
 ·rw [if_neg e, if_neg (fun h => e h.symm)]
theorem qAt_get {p : PlanD} {q : Nat} (h : q < p.queues.length) : qAt p q = p.queues[q] := by unfold qAt; rw [List.getD_eq_getElem?_getD, List.getElem?_eq_getElem h]; rfl
theorem RightX.line6 {p : PlanD} {s : StateD} {n : Int} (h : RightX p s n) {l : List ItemD} (hl : l ∈ s.ready) : l.length ≤ 6 := by
 obtain ⟨q, hq, rfl⟩ := List.mem_iff_getElem.1 hl
 have h1 := h.room q hq
 rw [lineAt_get hq] at h1
 have hq' : q < p.queues.length := by rw [← h.len]; exact hq
 have h2 := h.rp.queues _ (List.getElem_mem hq')
 rw [qAt_get hq'] at h1
 omega
end Go.Proofs.Ytpoichgodamnkaa
namespace Go.Proofs.Ytpoichgodamnkaa
open Go.RowKit
set_option linter.unusedVariables false
set_option maxRecDepth 100000
def LineOwn (W : World) (n : Nat) (b : Option Addr) : Prop := b = none ∨ ∃ g o cur, b = some ⟨g, o, none⟩ ∧ n ≤ g ∧ W.heap[g]? = some (.cells cur 51 (0, 0))
structure LineV (W : World) (n : Nat) (xs : List ItemD) (v : Value) (b : Option Addr) (c : Nat) : Prop where
 v : v = .slice b xs.length c
 le : xs.length ≤ c
 cm : c ≤ maxLen
 nil : b = none → c = 0
 it : ItemsAt W b xs
 own : LineOwn W n b
structure LinesV (W : World) (n : Nat) (xss : List (List ItemD)) (vs : List Value) : Prop where
 len : vs.length = xss.length
 get : ∀ i (h : i < xss.length), ∃ v b c, vs[i]? = some v ∧ LineV W n xss[i] v b c
structure OwnSt (W : World) (n : Nat) (b1 b2 b3 : Option Addr) (m1 d1 m2 d2 m3 d3 : Nat) (s : StateD) : Prop where
 l1 : s.ready.length = m1
 l2 : s.outs.length = m2
 l3 : s.takers.length = m3
 x2 : m2 ≤ 100000000
 r1 : ∃ vs, W.ownsRow n 49 1 (.slice b1 m1 d1) m1 vs ∧ LinesV W n s.ready vs
 r2 : W.ownsRow n 53 8 (.slice b2 m2 d2) m2 (outCells s.outs)
 r3 : W.ownsRow n 56 2 (.slice b3 m3 d3) m3 (tkC_ s.takers)
structure FrameT (n t : Nat) (W W' : World) : Prop where
 os : W'.os = W.os
 tape : W'.tape = W.tape
 output : W'.output = W.output
 size : W.heap.size ≤ W'.heap.size
 block : ∀ k, k < n → k ≠ t → W'.heap[k]? = W.heap[k]?
theorem FrameT.refl (n t : Nat) (W : World) : FrameT n t W W := ⟨rfl, rfl, rfl, Nat.le_refl _, fun _ _ _ => rfl⟩
theorem FrameT.trans {n t : Nat} {A B C : World} (h : FrameT n t A B) (k : FrameT n t B C) : FrameT n t A C :=
 ⟨k.os.trans h.os, k.tape.trans h.tape, k.output.trans h.output, Nat.le_trans h.size k.size, fun i h1 h2 => (k.block i h1 h2).trans (h.block i h1 h2)⟩
theorem FrameT.of_below {n m t : Nat} {A B : World} (h : Below m A B) (hn : n ≤ m) : FrameT n t A B := ⟨h.os, h.tape, h.output, h.size, fun k h1 _ => h.block k (by omega)⟩
theorem FrameT.below {n m t : Nat} {A B : World} (h : FrameT n t A B) (hn : m ≤ n) (ht : m ≤ t) : Below m A B := ⟨h.os, h.tape, h.output, h.size, fun k h1 => h.block k (by omega) (by omega)⟩
theorem FrameT.setCell {n t : Nat} {A B : World} (h : FrameT n t A B) {p : Addr} (hp : n ≤ p.block ∨ p.block = t) (u : Value) : FrameT n t A (B.setCell p u) :=
 h.trans ⟨rfl, rfl, rfl, by simp [World.setCell], fun k h1 h2 => Below.heap_setCell _ _ _ _ (by omega)⟩
theorem FrameT.grown {n t : Nat} {A B C : World} {row : Option Nat} (h : FrameT n t A B) (hg : B.grownBy C row) (hn : n ≤ B.heap.size) (hr : ∀ k, row = some k → n ≤ k) : FrameT n t A C :=
 h.trans ⟨hg.os, hg.tape, hg.output, hg.size, fun k h1 h2 => hg.block k (by omega) (fun e => by have := hr k e.symm; omega)⟩
theorem LineOwn.keep {W W' : World} {n : Nat} {b : Option Addr} (h : LineOwn W n b) (hB : Below W.heap.size W W') : LineOwn W' n b := by
 rcases h with h | ⟨g, o, cur, h1, h2, h3⟩
 ·exact .inl h
 ·exact .inr ⟨g, o, cur, h1, h2, pkp_ h3 hB⟩
theorem LineV.keep {W W' : World} {n : Nat} {xs : List ItemD} {v : Value} {b : Option Addr} {c : Nat} (h : LineV W n xs v b c) (hB : Below W.heap.size W W') : LineV W' n xs v b c := ⟨h.v, h.le, h.cm, h.nil, h.it.keep hB, h.own.keep hB⟩
theorem LinesV.keep {W W' : World} {n : Nat} {xss : List (List ItemD)} {vs : List Value} (h : LinesV W n xss vs) (hB : Below W.heap.size W W') : LinesV W' n xss vs :=
 ⟨h.len, fun i hi => by obtain ⟨v, b, c, h1, h2⟩ := h.get i hi; exact ⟨v, b, c, h1, h2.keep hB⟩⟩
theorem OwnSt.keep {W W' : World} {n : Nat} {b1 b2 b3 : Option Addr} {m1 d1 m2 d2 m3 d3 : Nat} {s : StateD} (h : OwnSt W n b1 b2 b3 m1 d1 m2 d2 m3 d3 s) (hB : Below W.heap.size W W') : OwnSt W' n b1 b2 b3 m1 d1 m2 d2 m3 d3 s := by
 obtain ⟨vs, h1, h2⟩ := h.r1
 exact ⟨h.l1, h.l2, h.l3, h.x2, ⟨vs, cp2_ h1 hB, h2.keep hB⟩, cp2_ h.r2 hB, cp2_ h.r3 hB⟩
theorem LineOwn.lower {W : World} {n n' : Nat} {b : Option Addr} (h : LineOwn W n b) (hn : n' ≤ n) : LineOwn W n' b := by
 rcases h with h | ⟨g, o, cur, h1, h2, h3⟩
 ·exact .inl h
 ·exact .inr ⟨g, o, cur, h1, by omega, h3⟩
theorem LinesV.lower {W : World} {n n' : Nat} {xss : List (List ItemD)} {vs : List Value} (h : LinesV W n xss vs) (hn : n' ≤ n) : LinesV W n' xss vs :=
 ⟨h.len, fun i hi => by obtain ⟨v, b, c, h1, h2⟩ := h.get i hi; exact ⟨v, b, c, h1, h2.v, h2.le, h2.cm, h2.nil, h2.it, h2.own.lower hn⟩⟩
theorem OwnSt.lower {W : World} {n n' : Nat} {b1 b2 b3 : Option Addr} {m1 d1 m2 d2 m3 d3 : Nat} {s : StateD} (h : OwnSt W n b1 b2 b3 m1 d1 m2 d2 m3 d3 s) (hn : n' ≤ n) : OwnSt W n' b1 b2 b3 m1 d1 m2 d2 m3 d3 s := by
 obtain ⟨vs, h1, h2⟩ := h.r1
 exact ⟨h.l1, h.l2, h.l3, h.x2, ⟨vs, own_base h1 hn, h2.lower hn⟩, own_base h.r2 hn, own_base h.r3 hn⟩
theorem own_at {W : World} {base : Nat} {T : TypeId} {size : Nat} {a : Option Addr} {n c : Nat} {cs : List Value} (h : W.ownsRow base T size (.slice a n c) n cs) : RowAt W a cs := by
 obtain ⟨a', c', e, _, _, _, hr⟩ := own_row h
 cases e; exact hr
theorem own_le {W : World} {base : Nat} {T : TypeId} {size : Nat} {a : Option Addr} {n c : Nat} {cs : List Value} (h : W.ownsRow base T size (.slice a n c) n cs) : n ≤ c ∧ c ≤ maxLen ∧ (a = none → c = 0 ∧ n = 0) := by
 obtain ⟨a', c', e, h1, h2, h3, hr⟩ := own_row h
 cases e; exact ⟨h1, h2, h3⟩
theorem LinesV.at {W : World} {n : Nat} {xss : List (List ItemD)} {vs : List Value} (h : LinesV W n xss vs) {a : Option Addr} (hr : RowAt W a vs) : LinesAt W a xss := by
 rcases hr with hr | ⟨g, o, ha, hg, hr⟩
 ·refine .inl (List.length_eq_zero_iff.1 ?_)
  have := h.len; rw [hr] at this; simpa using this.symm
 ·refine .inr ⟨g, o, ha, hg, fun i hi => ?_⟩
  obtain ⟨v, b, c, h1, h2⟩ := h.get i hi
  exact ⟨b, c, by rw [hr _ _ h1, h2.v], h2.le, h2.cm, h2.nil, h2.it⟩
theorem OwnSt.state {W : World} {n : Nat} {b1 b2 b3 : Option Addr} {m1 d1 m2 d2 m3 d3 : Nat} {s : StateD} (h : OwnSt W n b1 b2 b3 m1 d1 m2 d2 m3 d3 s) : StateAt W b1 b2 b3 m1 m2 m3 s := by
 obtain ⟨vs, h1, h2⟩ := h.r1
 have g1 := own_le h1
 have g3 := own_le h.r3
 have := h.x2
 exact ⟨h.l1, h.l2, h.l3, by omega, by omega, by omega, h2.at (own_at h1), outs_row.2 (own_at h.r2), takers_row.2 (own_at h.r3)⟩
theorem row_other {W : World} {base : Nat} {T T' : TypeId} {size : Nat} {v : Value} {n : Nat} {cs : List Value} (h : W.ownsRow base T size v n cs) {B : Nat} {cur : Array Value} (hB : W.heap[B]? = some (.cells cur T' (0, 0))) (hT : T ≠ T') : v.ownBlock ≠ some B := by
 intro e
 rcases h.2 with ⟨rfl, _⟩ | ⟨g, cap, cur', rfl, _, hg, _⟩
 ·cases e
 ·have : g = B := by simpa [Value.ownBlock] using e
  subst this
  rw [hg] at hB
  cases hB; exact hT rfl
theorem row_keep {W W' : World} {base : Nat} {T : TypeId} {size : Nat} {v : Value} {n : Nat} {cs : List Value} (h : W.ownsRow base T size v n cs) (hk : ∀ k, v.ownBlock = some k → W'.heap[k]? = W.heap[k]?) : W'.ownsRow base T size v n cs := by
 refine ⟨h.1, ?_⟩
 rcases h.2 with h | ⟨g, cap, cur, h1, h2, h3, h4⟩
 ·exact .inl h
 ·exact .inr ⟨g, cap, cur, h1, h2, (hk g (by rw [h1]; rfl)).trans h3, h4⟩
theorem RowAt.keepBut {W W' : World} {a : Option Addr} {cs : List Value} (h : RowAt W a cs) (hs : W.heap.size ≤ W'.heap.size) (hk : ∀ g o, a = some ⟨g, o, none⟩ → W'.heap[g]? = W.heap[g]?) : RowAt W' a cs := by
 rcases h with h | ⟨g, o, ha, hg, h⟩
 ·exact .inl h
 ·exact .inr ⟨g, o, ha, Nat.lt_of_lt_of_le hg hs, fun j u hj => (World.cell?_of_block (w := W) (a := ⟨g, o + j, none⟩) (hk g o ha)).trans (h j u hj)⟩
structure KeepI (n : Nat) (W W' : World) : Prop where
 size : W.heap.size ≤ W'.heap.size
 block : ∀ g cur, n ≤ g → W.heap[g]? = some (.cells cur 51 (0, 0)) → W'.heap[g]? = W.heap[g]?
theorem KeepI.of_below {n : Nat} {W W' : World} (h : Below W.heap.size W W') : KeepI n W W' := ⟨h.size, fun g cur _ hg => h.block g (lth_ hg)⟩
theorem KeepI.trans {n : Nat} {A B C : World} (h : KeepI n A B) (k : KeepI n B C) : KeepI n A C := ⟨Nat.le_trans h.size k.size, fun g cur hn hg => (k.block g cur hn ((h.block g cur hn hg).trans hg)).trans (h.block g cur hn hg)⟩
theorem KeepI.setCell {n : Nat} {W : World} {B i : Nat} {cur : Array Value} {T : TypeId} (hB : W.heap[B]? = some (.cells cur T (0, 0))) (hT : T ≠ 51) (u : Value) : KeepI n W (W.setCell ⟨B, i, none⟩ u) :=
 ⟨by simp [World.setCell], fun g cur' _ hg => heap_setCell_other _ _ _ _ (fun e => by
  have e' : g = B := e
  rw [e', hB] at hg
  cases hg; exact hT rfl)⟩
theorem LineV.keepT {W W' : World} {n : Nat} {xs : List ItemD} {v : Value} {b : Option Addr} {c : Nat} (h2 : LineV W n xs v b c) (hk : KeepI n W W') : LineV W' n xs v b c := by
 refine ⟨h2.v, h2.le, h2.cm, h2.nil, ?_, ?_⟩
 ·refine items_row.2 ((items_row.1 h2.it).keepBut hk.size fun g o ha => ?_)
  rcases h2.own with e | ⟨g', o', cur, e, e2, e3⟩
  ·rw [e] at ha; cases ha
  ·rw [e] at ha; cases ha; exact hk.block g cur e2 e3
 ·rcases h2.own with e | ⟨g', o', cur, e, e2, e3⟩
  ·exact .inl e
  ·exact .inr ⟨g', o', cur, e, e2, (hk.block g' cur e2 e3).trans e3⟩
theorem LinesV.keepT {W W' : World} {n : Nat} {xss : List (List ItemD)} {vs : List Value} (h : LinesV W n xss vs) (hk : KeepI n W W') : LinesV W' n xss vs := by
 refine ⟨h.len, fun i hi => ?_⟩
 obtain ⟨v, b, c, h1, h2⟩ := h.get i hi
 exact ⟨v, b, c, h1, h2.keepT hk⟩
theorem own_block {W : World} {base : Nat} {T : TypeId} {size g n c : Nat} {cs : List Value} (h : W.ownsRow base T size (.slice (some ⟨g, 0, none⟩) n c) n cs) : base ≤ g ∧ ∃ cur, W.heap[g]? = some (.cells cur T (0, 0)) := by
 rcases h.2 with ⟨e, _⟩ | ⟨g2, cap, cur, e, hb, hg, _⟩
 ·cases e
 ·cases e; exact ⟨hb, cur, hg⟩
theorem KeepI.row {W : World} {base n : Nat} {T : TypeId} {size g m c : Nat} {cs : List Value} (h : W.ownsRow base T size (.slice (some ⟨g, 0, none⟩) m c) m cs) (hT : T ≠ 51) (i : Nat) (u : Value) : KeepI n W (W.setCell ⟨g, i, none⟩ u) := by
 obtain ⟨_, cur, hg⟩ := own_block h
 exact KeepI.setCell hg hT u
end Go.Proofs.Ytpoichgodamnkaa
namespace Go.Proofs.Ytpoichgodamnkaa
open Go.RowKit Go.Maps
set_option linter.unusedVariables false
set_option maxRecDepth 100000
set_option maxHeartbeats 2000000
def PlV (W : World) (v : Value) (p : PlanD) : Prop := ∃ a1 a2 a3 n1 c1 n2 c2 n3 c3, v = .agg #[.slice a1 n1 c1, .slice a2 n2 c2, .slice a3 n3 c3] ∧ PlanAt W a1 a2 a3 n1 n2 n3 p
def StV (W : World) (v : Value) (s : StateD) : Prop := ∃ b1 b2 b3 m1 d1 m2 d2 m3 d3, v = .agg #[.slice b1 m1 d1, .slice b2 m2 d2, .slice b3 m3 d3, .int .i64 s.nextSeq, .int .i64 s.nextTag, .int .i64 s.came, .int .i64 s.acked, .int .i64 s.dropped] ∧ StateAt W b1 b2 b3 m1 m2 m3 s ∧ (b2 = none → d2 = 0) ∧ (b3 = none → d3 = 0)
def OwV (W : World) (n : Nat) (v : Value) (s : StateD) : Prop := ∃ b1 b2 b3 m1 d1 m2 d2 m3 d3, v = .agg #[.slice b1 m1 d1, .slice b2 m2 d2, .slice b3 m3 d3, .int .i64 s.nextSeq, .int .i64 s.nextTag, .int .i64 s.came, .int .i64 s.acked, .int .i64 s.dropped] ∧ OwnSt W n b1 b2 b3 m1 d1 m2 d2 m3 d3 s
theorem PlV.keep {W W' : World} {v : Value} {p : PlanD} (h : PlV W v p) (hB : Below W.heap.size W W') : PlV W' v p := by
 obtain ⟨a1, a2, a3, n1, c1, n2, c2, n3, c3, h1, h2⟩ := h
 exact ⟨a1, a2, a3, n1, c1, n2, c2, n3, c3, h1, h2.keep hB⟩
theorem StV.keep {W W' : World} {v : Value} {s : StateD} (h : StV W v s) (hB : Below W.heap.size W W') : StV W' v s := by
 obtain ⟨b1, b2, b3, m1, d1, m2, d2, m3, d3, h1, h2, h3⟩ := h
 exact ⟨b1, b2, b3, m1, d1, m2, d2, m3, d3, h1, h2.keep hB, h3⟩
theorem OwV.keep {W W' : World} {n : Nat} {v : Value} {s : StateD} (h : OwV W n v s) (hB : Below W.heap.size W W') : OwV W' n v s := by
 obtain ⟨b1, b2, b3, m1, d1, m2, d2, m3, d3, h1, h2⟩ := h
 exact ⟨b1, b2, b3, m1, d1, m2, d2, m3, d3, h1, h2.keep hB⟩
theorem OwV.lower {W : World} {n n' : Nat} {v : Value} {s : StateD} (h : OwV W n v s) (hn : n' ≤ n) : OwV W n' v s := by
 obtain ⟨b1, b2, b3, m1, d1, m2, d2, m3, d3, h1, h2⟩ := h
 exact ⟨b1, b2, b3, m1, d1, m2, d2, m3, d3, h1, h2.lower hn⟩
theorem OwnSt.nils {W : World} {n : Nat} {b1 b2 b3 : Option Addr} {m1 d1 m2 d2 m3 d3 : Nat} {s : StateD} (h : OwnSt W n b1 b2 b3 m1 d1 m2 d2 m3 d3 s) : (b2 = none → d2 = 0) ∧ (b3 = none → d3 = 0) :=
 ⟨fun e => ((own_le h.r2).2.2 e).1, fun e => ((own_le h.r3).2.2 e).1⟩
theorem OwV.st {W : World} {n : Nat} {v : Value} {s : StateD} (h : OwV W n v s) : StV W v s := by
 obtain ⟨b1, b2, b3, m1, d1, m2, d2, m3, d3, h1, h2⟩ := h
 exact ⟨b1, b2, b3, m1, d1, m2, d2, m3, d3, h1, h2.state, h2.nils⟩
theorem copyItem_any (xs : List ItemD) (a : Option Addr) (n c : Nat) (w : World) (hn : (itemCells xs).length = n * 5) (hb : n ≤ 100000000) (hz : a = none → c = 0 ∧ n = 0) (hp : RowAt w a (itemCells xs)) :
 Calls Try.prog 113 #[.slice a n c] w fun e w' => ∃ v, e = .returned v ∧ w'.ownsRow w.heap.size 51 5 v n (itemCells xs) ∧ Below w.heap.size w w' := by
 have HN := hidI hn
 have HP := hidI hp
 have HZ := hidI hz
 clear hn hp hz
 go_enter Try.func113, Try.ntmps113
 go_wp2_with (at_builtin; refine append_row elemItem (by kernel_rfl) _ _ rfl w.heap.size (.slice none 0 0) 0 [] rfl (World.ownsRow_nil _ _ _ _) a n c (itemCells xs) rfl HN.out HZ.out HP.out (itemCells_one xs) (by unfold maxLen; omega) (by omega) (Nat.le_refl _) ?_; intro v' w3 hown3 hgrow3 hblk)
 go_ret
 exact ⟨v', rfl, by simpa using hown3, (Below.refl _ _).grown hgrow3 (Nat.le_refl _) (by simp [Value.ownBlock])⟩
theorem copyOut_any (xs : List OutD) (a : Option Addr) (n c : Nat) (w : World) (hn : (outCells xs).length = n * 8) (hb : n ≤ 100000000) (hz : a = none → c = 0 ∧ n = 0) (hp : RowAt w a (outCells xs)) :
 Calls Try.prog 114 #[.slice a n c] w fun e w' => ∃ v, e = .returned v ∧ w'.ownsRow w.heap.size 53 8 v n (outCells xs) ∧ Below w.heap.size w w' := by
 have HN := hidI hn
 have HP := hidI hp
 have HZ := hidI hz
 clear hn hp hz
 go_enter Try.func114, Try.ntmps114
 go_wp2_with (at_builtin; refine append_row elemOut (by kernel_rfl) _ _ rfl w.heap.size (.slice none 0 0) 0 [] rfl (World.ownsRow_nil _ _ _ _) a n c (outCells xs) rfl HN.out HZ.out HP.out (outCells_one xs) (by unfold maxLen; omega) (by omega) (Nat.le_refl _) ?_; intro v' w3 hown3 hgrow3 hblk)
 go_ret
 exact ⟨v', rfl, by simpa using hown3, (Below.refl _ _).grown hgrow3 (Nat.le_refl _) (by simp [Value.ownBlock])⟩
theorem copyTaker_any (xs : List TakerD) (a : Option Addr) (n c : Nat) (w : World) (hn : (tkC_ xs).length = n * 2) (hb : n ≤ 100000000) (hz : a = none → c = 0 ∧ n = 0) (hp : RowAt w a (tkC_ xs)) :
 Calls Try.prog 115 #[.slice a n c] w fun e w' => ∃ v, e = .returned v ∧ w'.ownsRow w.heap.size 56 2 v n (tkC_ xs) ∧ Below w.heap.size w w' := by
 have HN := hidI hn
 have HP := hidI hp
 have HZ := hidI hz
 clear hn hp hz
 go_enter Try.func115, Try.ntmps115
 go_wp2_with (at_builtin; refine append_row elemTaker (by kernel_rfl) _ _ rfl w.heap.size (.slice none 0 0) 0 [] rfl (World.ownsRow_nil _ _ _ _) a n c (tkC_ xs) rfl HN.out HZ.out HP.out (takerCells_one xs) (by unfold maxLen; omega) (by omega) (Nat.le_refl _) ?_; intro v' w3 hown3 hgrow3 hblk)
 go_ret
 exact ⟨v', rfl, by simpa using hown3, (Below.refl _ _).grown hgrow3 (Nat.le_refl _) (by simp [Value.ownBlock])⟩
theorem letterS_any (q : Int) (b : ByteArray) (w : World) :
 Calls Try.prog 89 #[.int .i64 q, .string b] w fun e w' => e = .returned (.agg #[.int .i64 q, .string ⟨#[120, 46, 121]⟩, .string b, .bool false, .int .i64 0]) ∧ Below w.heap.size w w' := by
 go_enter Try.func89, Try.ntmps89
 go_wp2
 exact bodyPost_ret (v := .agg #[.int .i64 q, .string ⟨#[120, 46, 121]⟩, .string b, .bool false, .int .i64 0]) (by simp [results, Try.results89, go_sem]) rfl ⟨rfl, (by repeat (first | exact Below.refl _ _ | assumption | refine Below.drew ?_ | refine Below.alloc ?_ (by first | (simp; done) | (simp; omega) | omega) _ | refine Below.setCell ?_ (by first | (simp; done) | (simp; omega) | omega) _))⟩
theorem two_heap (w W : World) (A B : Obj) (h : W = (w.alloc A).alloc B) : W.heap.size = w.heap.size + 2 ∧ W.heap[w.heap.size]? = some A ∧ W.heap[w.heap.size + 1]? = some B ∧ Below w.heap.size w W := by
 subst h
 have hB := World.alloc_heap_new (w.alloc A) B
 simp only [World.size_alloc] at hB
 refine ⟨by simp only [World.size_alloc], ?_, hB, ((Below.refl _ _).alloc (Nat.le_refl _) _).alloc (by simp) _⟩
 rw [Below.heap_alloc _ _ _ (by simp only [World.size_alloc]; omega)]; exact World.alloc_heap_new w A
def bLine : List ItemD := [⟨2, ⟨#[120, 46, 121]⟩, ⟨#[116, 119, 111]⟩, false, 0⟩, ⟨3, ⟨#[120, 46, 121]⟩, ⟨#[116, 104, 114, 101, 101]⟩, false, 0⟩]
def busyS (o : OutD) (t0 t1 : TakerD) (ak : Int) : StateD := ⟨[bLine, [], []], [o], [t0, t1], 4, 6, 4, ak, 0⟩
def bOut (q : Int) : OutD := ⟨5, 1, 0, ⟨q, ⟨#[120, 46, 121]⟩, ⟨#[111, 110, 101]⟩, false, 0⟩⟩
structure BusyAt (W : World) (gI gR gO gT : Nat) (o : OutD) (t0 t1 : TakerD) : Prop where
 i : W.heap[gI]? = some (.cells #[.int .i64 2, .string ⟨#[120, 46, 121]⟩, .string ⟨#[116, 119, 111]⟩, .bool false, .int .i64 0, .int .i64 3, .string ⟨#[120, 46, 121]⟩, .string ⟨#[116, 104, 114, 101, 101]⟩, .bool false, .int .i64 0] 51 (0, 0))
 r : W.heap[gR]? = some (.cells #[.slice (some ⟨gI, 0, none⟩) 2 2, .slice none 0 0, .slice none 0 0] 49 (0, 0))
 o : W.heap[gO]? = some (.cells #[.int .i64 o.tag, .int .i64 o.taker, .int .i64 o.queue, .int .i64 o.item.seq, .string o.item.key, .string o.item.body, .bool o.item.again, .int .i64 o.item.deaths] 53 (0, 0))
 t : W.heap[gT]? = some (.cells #[.int .i64 t0.queue, .int .i64 t0.most, .int .i64 t1.queue, .int .i64 t1.most] 56 (0, 0))
theorem BusyAt.keep {W W' : World} {gI gR gO gT : Nat} {o : OutD} {t0 t1 : TakerD} (h : BusyAt W gI gR gO gT o t0 t1) (hB : Below W.heap.size W W') : BusyAt W' gI gR gO gT o t0 t1 := ⟨pkp_ h.i hB, pkp_ h.r hB, pkp_ h.o hB, pkp_ h.t hB⟩
theorem BusyAt.state {W : World} {gI gR gO gT : Nat} {o : OutD} {t0 t1 : TakerD} (h : BusyAt W gI gR gO gT o t0 t1) (ak : Int) : StateAt W (some ⟨gR, 0, none⟩) (some ⟨gO, 0, none⟩) (some ⟨gT, 0, none⟩) 3 1 2 (busyS o t0 t1 ak) := by
 refine ⟨rfl, rfl, rfl, by unfold maxLen; omega, by omega, by unfold maxLen; omega, ?_, ?_, ?_⟩
 ·refine .inr ⟨gR, 0, rfl, lth_ h.r, fun i hi => ?_⟩
  have hi3 : i < 3 := hi
  have hit : ItemsAt W (some ⟨gI, 0, none⟩) bLine := by
   refine .inr ⟨gI, 0, rfl, lth_ h.i, fun j hj => ?_⟩
   have hj2 : j < 2 := hj
   match j, hj2 with
   | 0, _ => exact ⟨coc_ h.i 0, coc_ h.i 1, coc_ h.i 2, coc_ h.i 3, coc_ h.i 4⟩
   | 1, _ => exact ⟨coc_ h.i 5, coc_ h.i 6, coc_ h.i 7, coc_ h.i 8, coc_ h.i 9⟩
  match i, hi3 with
  | 0, _ => exact ⟨some ⟨gI, 0, none⟩, 2, coc_ h.r 0, Nat.le_refl _, by unfold maxLen; omega, (fun e => by cases e), hit⟩
  | 1, _ => exact ⟨none, 0, coc_ h.r 1, Nat.le_refl _, by unfold maxLen; omega, fun _ => rfl, .inl rfl⟩
  | 2, _ => exact ⟨none, 0, coc_ h.r 2, Nat.le_refl _, by unfold maxLen; omega, fun _ => rfl, .inl rfl⟩
 ·refine .inr ⟨gO, 0, rfl, lth_ h.o, fun i hi => ?_⟩
  have hi1 : i < 1 := hi
  match i, hi1 with
  | 0, _ => exact ⟨coc_ h.o 0, coc_ h.o 1, coc_ h.o 2, coc_ h.o 3, coc_ h.o 4, coc_ h.o 5, coc_ h.o 6, coc_ h.o 7⟩
 ·refine .inr ⟨gT, 0, rfl, lth_ h.t, fun i hi => ?_⟩
  have hi2 : i < 2 := hi
  match i, hi2 with
  | 0, _ => exact ⟨coc_ h.t 0, coc_ h.t 1⟩
  | 1, _ => exact ⟨coc_ h.t 2, coc_ h.t 3⟩
theorem busy_any (w : World) : Calls Try.prog 41 #[] w fun e w' => ∃ gI gR gO gT, e = .returned (.agg #[.slice (some ⟨gR, 0, none⟩) 3 3, .slice (some ⟨gO, 0, none⟩) 1 1, .slice (some ⟨gT, 0, none⟩) 2 2, .int .i64 4, .int .i64 6, .int .i64 4, .int .i64 1, .int .i64 0]) ∧ BusyAt w' gI gR gO gT (bOut 1) ⟨-1, 1⟩ ⟨0, 2⟩ ∧ (w.heap.size ≤ gI ∧ w.heap.size ≤ gR ∧ w.heap.size ≤ gO ∧ w.heap.size ≤ gT) ∧ (gI ≠ gO ∧ gR ≠ gO ∧ gT ≠ gO ∧ gI ≠ gT ∧ gR ≠ gT) ∧ Below w.heap.size w w' := by
 obtain ⟨W0, hW0, hB0, hs0, hbx⟩ := s_boxed w #[.slice none 0 0, .slice none 0 0, .slice none 0 0, .int .i64 0, .int .i64 0, .int .i64 0, .int .i64 0, .int .i64 0]
 have HW0 := hidI hW0
 have BX := hidI hbx
 have s0 := hB0.size
 have hs0' : w.heap.size < W0.heap.size := by omega
 clear hW0 hbx hs0
 go_enter Try.func41, Try.ntmps41
 go_wp2_with fail
 rw [← HW0.out]
 refine (letterS_any _ _ _).mono ?_
 rintro e w1 ⟨rfl, k1⟩
 go_wp2_with fail
 refine (letterS_any _ _ _).mono ?_
 rintro e w2 ⟨rfl, k2'⟩
 have k2 := k1.trans (k2'.mono k1.size)
 have s2 := k2.size
 obtain ⟨W4, hW4⟩ : ∃ W4, W4 = (w2.alloc (.cells #[.int .i64 2, .string ⟨#[120, 46, 121]⟩, .string ⟨#[116, 119, 111]⟩, .bool false, .int .i64 0, .int .i64 3, .string ⟨#[120, 46, 121]⟩, .string ⟨#[116, 104, 114, 101, 101]⟩, .bool false, .int .i64 0] 51)).alloc (.cells #[.slice (some ⟨w2.heap.size, 0, none⟩) 2 2, .slice none 0 0, .slice none 0 0] 49) := ⟨_, rfl⟩
 obtain ⟨z4, hi4, hr4, k4'⟩ := two_heap w2 W4 _ _ hW4
 have HI4 := hidI hi4
 have HR4 := hidI hr4
 have HW4 := hidI hW4
 have k4 := k2.trans (k4'.mono s2)
 have HZ4 := hidI z4
 clear hW4 z4 k1 k2' hi4 hr4
 go_wp2_with fail
 rw [← HW4.out]
 refine (letterS_any _ _ _).mono ?_
 rintro e w5 ⟨rfl, k5'⟩
 have k5 := k4.trans (k5'.mono k4.size)
 have s5 := k5.size
 have s45 := k5'.size
 have q5 := BX.out w5 k5
 obtain ⟨y0, y1, y2, y3, y4, y5, y6, y7⟩ := st_cells q5
 have f0 := foc_ q5 0
 have f1 := foc_ q5 1
 have f2 := foc_ q5 2
 have f3 := foc_ q5 3
 have f4 := foc_ q5 4
 have f5 := foc_ q5 5
 have f6 := foc_ q5 6
 have f7 := foc_ q5 7
 have hlt5 : w.heap.size < w5.heap.size := by omega
 have HQ5 := hidI q5
 have HI5 := hidI (pkp_ HI4.out k5')
 have HR5 := hidI (pkp_ HR4.out k5')
 clear q5
 go_wp2_with fail
 generalize hW6 : World.setCell (World.setCell (World.setCell (World.setCell (World.setCell (World.setCell (World.setCell (World.setCell w5 _ _) _ _) _ _) _ _) _ _) _ _) _ _) _ _ = W6
 obtain ⟨b6, t6⟩ := store8 HQ5.out hW6
 have z6 : W6.heap.size = w5.heap.size := by rw [← hW6]; simp
 generalize hW7 : World.alloc (World.alloc W6 _) _ = W7
 obtain ⟨z7, ho7, ht7, k7'⟩ := two_heap W6 W7 _ _ hW7.symm
 rw [z6] at ho7 ht7
 have s6 := t6.size
 obtain ⟨x0, x1, x2, x3, x4, x5, x6, x7⟩ := st_cells (pkp_ b6 k7')
 have hz4 := HZ4.out
 have l8 : Below w.heap.size w W7 := ((hB0.trans (k5.mono s0)).trans (t6.below (by omega) (Nat.le_refl _))).trans (k7'.mono (by omega))
 have tb : ∀ k o, w5.heap[k]? = some o → k ≠ w.heap.size → W7.heap[k]? = some o := fun k o h hne => (k7'.block k (by have := lth_ h; omega)).trans ((t6.block k (lth_ h) hne).trans h)
 refine bodyPost_ret (v := .agg #[.slice (some ⟨w2.heap.size + 1, 0, none⟩) 3 3, .slice (some ⟨w5.heap.size, 0, none⟩) 1 1, .slice (some ⟨w5.heap.size + 1, 0, none⟩) 2 2, .int .i64 4, .int .i64 6, .int .i64 4, .int .i64 1, .int .i64 0]) (by simp [results, Try.results41, go_sem, x0, x1, x2, x3, x4, x5, x6, x7]) rfl ⟨w2.heap.size, w2.heap.size + 1, w5.heap.size, w5.heap.size + 1, rfl, ⟨?_, ?_, ?_, ?_⟩, by omega, by omega, l8⟩
 ·exact tb _ _ HI5.out (by omega)
 ·exact tb _ _ HR5.out (by omega)
 ·exact ho7
 ·exact ht7
end Go.Proofs.Ytpoichgodamnkaa
