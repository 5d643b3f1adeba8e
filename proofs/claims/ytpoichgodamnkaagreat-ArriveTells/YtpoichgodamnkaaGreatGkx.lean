import Derived.Test.YtpoichgodamnkaaGreatGjx
import Derived.RangeFuncNested
import Derived.RangeFuncBound
import Derived.RangeFuncCalls
import Derived.RangeFuncLeaves
import Derived.RangeFuncFrom
import Derived.Test.YtpoichgodamnkaaGreatGfx
import Derived.RangeFuncWrites
import Derived.RangeFuncBox
import Derived.Maps.OwnIn
import Derived.Maps.AppendAt
namespace Go.Proofs.YtpoichgodamnkaaGreat
open Go.RowKit Go.Maps
set_option linter.unusedVariables false
set_option maxRecDepth 100000
structure TypeT (T : TypeId) (W W' : World) : Prop where
  size : W.heap.size ≤ W'.heap.size
  block : ∀ (k : Nat) (cur : Array Value) (T' : TypeId), W.heap[k]? = some (Obj.cells cur T' (0, 0)) → T' ≠ T → W'.heap[k]? = W.heap[k]?
theorem TypeT.of_below {T : TypeId} {W W' : World} (h : Below W.heap.size W W') : TypeT T W W' := ⟨h.size, fun k cur T' hk _ => h.block k (lth_ hk)⟩
theorem TypeT.trans {T : TypeId} {A B C : World} (h : TypeT T A B) (k : TypeT T B C) : TypeT T A C := ⟨Nat.le_trans h.size k.size, fun i cur T' hi hT => (k.block i cur T' ((h.block i cur T' hi hT).trans hi) hT).trans (h.block i cur T' hi hT)⟩
theorem TypeT.setCell {T : TypeId} {W : World} {B i : Nat} {cur : Array Value} (hB : W.heap[B]? = some (.cells cur T (0, 0))) (u : Value) : TypeT T W (W.setCell ⟨B, i, none⟩ u) :=
  ⟨by simp [World.setCell], fun k cur' T' hk hT => heap_setCell_other _ _ _ _ (fun e => by
    have e' : k = B := e
    rw [e', hB] at hk
    cases hk; exact hT rfl)⟩
theorem TypeT.grown {T : TypeId} {W W' : World} {base size n : Nat} {v : Value} {cs : List Value} (h : W.ownsRow base T size v n cs) (hg : W.grownBy W' v.ownBlock) : TypeT T W W' :=
  ⟨hg.size, fun k cur' T' hk hT => hg.block k (lth_ hk) (fun e => row_other h hk (fun e => hT e.symm) e.symm)⟩
theorem TypeT.row {T T' : TypeId} {W W' : World} {base size n : Nat} {v : Value} {cs : List Value} (k : TypeT T W W') (h : W.ownsRow base T' size v n cs) (hT : T' ≠ T) : W'.ownsRow base T' size v n cs := by
  refine ⟨h.1, ?_⟩
  rcases h.2 with h | ⟨g, cap, cur, h1, h2, h3, h4⟩
  · exact .inl h
  · exact .inr ⟨g, cap, cur, h1, h2, (k.block g cur T' h3 hT).trans h3, h4⟩
theorem TypeT.keepI {T : TypeId} {n : Nat} {W W' : World} (k : TypeT T W W') (hT : 43 ≠ T) : KeepI n W W' := ⟨k.size, fun g cur _ hg => k.block g cur _ hg hT⟩
theorem OwnSt.typeT {T : TypeId} {W W' : World} {n : Nat} {b1 b2 b3 : Option Addr} {m1 d1 m2 d2 m3 d3 : Nat} {s : StateD} (h : OwnSt W n b1 b2 b3 m1 d1 m2 d2 m3 d3 s) (k : TypeT T W W') (hT : 43 ≠ T ∧ 91 ≠ T ∧ 93 ≠ T ∧ 41 ≠ T) : OwnSt W' n b1 b2 b3 m1 d1 m2 d2 m3 d3 s := by
  obtain ⟨vs, h1, h2⟩ := h.r1
  exact ⟨h.l1, h.l2, h.l3, h.x2, ⟨vs, k.row h1 hT.2.2.2, h2.keepT (k.keepI hT.1)⟩, k.row h.r2 hT.2.1, k.row h.r3 hT.2.2.1⟩
theorem takerCells_len (xs : List TakerD) : (tkC_ xs).length = xs.length * 2 := flat_length (f := TakerD.cells) (fun _ => rfl) xs
theorem outCells_len (xs : List OutD) : (outCells xs).length = xs.length * 8 := flat_length (f := OutD.cells) (fun _ => rfl) xs
theorem outCells_append (xs ys : List OutD) : outCells (xs ++ ys) = outCells xs ++ outCells ys := by unfold outCells; rw [List.flatMap_append]
theorem OwnSt.takers {W W' : World} {n : Nat} {b1 b2 b3 b3' : Option Addr} {m1 d1 m2 d2 m3 d3 m3' d3' : Nat} {s : StateD} {ts : List TakerD} (h : OwnSt W n b1 b2 b3 m1 d1 m2 d2 m3 d3 s) (k : TypeT 93 W W') (r : W'.ownsRow n 93 2 (.slice b3' m3' d3') m3' (tkC_ ts)) : OwnSt W' n b1 b2 b3' m1 d1 m2 d2 m3' d3' { s with takers := ts } := by
  obtain ⟨vs, h1, h2⟩ := h.r1
  refine ⟨h.l1, h.l2, ?_, h.x2, ⟨vs, k.row h1 (by decide), h2.keepT (k.keepI (by decide))⟩, k.row h.r2 (by decide), r⟩
  have := r.1
  rw [takerCells_len] at this
  show ts.length = m3'
  omega
theorem OwnSt.outs {W W' : World} {n : Nat} {b1 b2 b3 b2' : Option Addr} {m1 d1 m2 d2 m3 d3 m2' d2' : Nat} {s : StateD} {os : List OutD} (h : OwnSt W n b1 b2 b3 m1 d1 m2 d2 m3 d3 s) (k : TypeT 91 W W') (hx : m2' ≤ 100000000) (r : W'.ownsRow n 91 8 (.slice b2' m2' d2') m2' (outCells os)) : OwnSt W' n b1 b2' b3 m1 d1 m2' d2' m3 d3 { s with outs := os } := by
  obtain ⟨vs, h1, h2⟩ := h.r1
  refine ⟨h.l1, ?_, h.l3, hx, ⟨vs, k.row h1 (by decide), h2.keepT (k.keepI (by decide))⟩, r, k.row h.r3 (by decide)⟩
  have := r.1
  rw [outCells_len] at this
  show os.length = m2'
  omega
theorem OwnSt.line {W W' : World} {n g : Nat} {b2 b3 : Option Addr} {m1 d1 m2 d2 m3 d3 : Nat} {s : StateD} (h : OwnSt W n (some ⟨g, 0, none⟩) b2 b3 m1 d1 m2 d2 m3 d3 s) {q : Nat} (hq : q < s.ready.length) {xs : List ItemD} {v : Value} {b : Option Addr} {c : Nat} (hv : LineV W n xs v b c) (hW : W' = W.setCell ⟨g, q, none⟩ v) : OwnSt W' n (some ⟨g, 0, none⟩) b2 b3 m1 d1 m2 d2 m3 d3 { s with ready := s.ready.set q xs } := by
  obtain ⟨vs, h1, h2⟩ := h.r1
  obtain ⟨_, cur, hg⟩ := own_block h1
  have k : TypeT 41 W W' := by rw [hW]; exact TypeT.setCell hg v
  have hs := h1.stored q v
  have ki : KeepI n W W' := k.keepI (by decide)
  refine ⟨by show (s.ready.set q xs).length = m1; rw [List.length_set]; exact h.l1, h.l2, h.l3, h.x2, ⟨vs.set q v, by rw [hW]; exact hs.1, ?_⟩, k.row h.r2 (by decide), k.row h.r3 (by decide)⟩
  refine ⟨by show (vs.set q v).length = (s.ready.set q xs).length; rw [List.length_set, List.length_set]; exact h2.len, fun i hi => ?_⟩
  have hi' : i < s.ready.length := by simpa using hi
  by_cases e : i = q
  · subst e
    refine ⟨v, b, c, by rw [List.getElem?_set, if_pos rfl, if_pos (by rw [h2.len]; exact hi')], ?_⟩
    have : (s.ready.set i xs)[i]'hi = xs := List.getElem_set_self _
    rw [this]
    exact hv.keepT ki
  · obtain ⟨u, b', c', e1, e2⟩ := h2.get i hi'
    refine ⟨u, b', c', by rw [List.getElem?_set, if_neg (fun e' => e e'.symm)]; exact e1, ?_⟩
    have : (s.ready.set q xs)[i]'hi = s.ready[i] := List.getElem_set_ne (fun e' => e e'.symm) _
    rw [this]
    exact e2.keepT ki
theorem takerCells_set {xs : List TakerD} {k : Nat} (hk : k < xs.length) (x : TakerD) : ((tkC_ xs).set (k * 2) (.int .i64 x.queue)).set (k * 2 + 1) (.int .i64 x.most) = tkC_ (xs.set k x) := by
  apply List.ext_getElem?
  intro j
  rw [List.getElem?_set, List.getElem?_set]
  rcases Nat.lt_or_ge j (xs.length * 2) with h | h
  · obtain ⟨h1, h2, h3⟩ := flat_div (k := 2) (by omega) h
    have e1 := flat_at (f := TakerD.cells) (k := 2) (fun _ => rfl) xs _ h1 _ h2
    have e2 := flat_at (f := TakerD.cells) (k := 2) (fun _ => rfl) (xs.set k x) (j / 2) (by rw [List.length_set]; exact h1) _ h2
    rw [h3] at e1 e2
    have e3 : (tkC_ (xs.set k x))[j]? = _ := e2
    have e4 : (tkC_ xs)[j]? = _ := e1
    have hl : j < (tkC_ xs).length := by rw [takerCells_len]; exact h
    have hl2 : j < ((tkC_ xs).set (k * 2) (.int .i64 x.queue)).length := by rw [List.length_set]; exact hl
    rw [e3, e4]
    by_cases c1 : k * 2 + 1 = j
    · have a1 : j / 2 = k := by omega
      have a2 : j % 2 = 1 := by omega
      rw [if_pos c1, if_pos (by rw [c1]; exact hl2)]
      simp [a1, a2, TakerD.cells]
    · rw [if_neg c1]
      by_cases c2 : k * 2 = j
      · have a1 : j / 2 = k := by omega
        have a2 : j % 2 = 0 := by omega
        rw [if_pos c2, if_pos (by rw [c2]; exact hl)]
        simp [a1, a2, TakerD.cells]
      · rw [if_neg c2]
        have a1 : j / 2 ≠ k := by omega
        rw [List.getElem_set_ne (fun e => a1 e.symm)]
  · have hl : (tkC_ xs).length ≤ j := by rw [takerCells_len]; exact h
    rw [if_neg (by omega), if_neg (by omega), List.getElem?_eq_none hl, List.getElem?_eq_none (by rw [takerCells_len, List.length_set]; exact h)]
theorem OwnSt.taker {W W' : World} {n g : Nat} {b1 b2 : Option Addr} {m1 d1 m2 d2 m3 d3 : Nat} {s : StateD} (h : OwnSt W n b1 b2 (some ⟨g, 0, none⟩) m1 d1 m2 d2 m3 d3 s) {k : Nat} (hk : k < s.takers.length) (x : TakerD) (hW : W' = (W.setCell ⟨g, k * 2, none⟩ (.int .i64 x.queue)).setCell ⟨g, k * 2 + 1, none⟩ (.int .i64 x.most)) : OwnSt W' n b1 b2 (some ⟨g, 0, none⟩) m1 d1 m2 d2 m3 d3 { s with takers := s.takers.set k x } ∧ TypeT 93 W W' ∧ n ≤ g := by
  obtain ⟨hn, cur, hg⟩ := own_block h.r3
  have s1 := h.r3.stored (k * 2) (.int .i64 x.queue)
  obtain ⟨_, cur1, hg1⟩ := own_block s1.1
  have s2 := s1.1.stored (k * 2 + 1) (.int .i64 x.most)
  have kt : TypeT 93 W W' := by rw [hW]; exact (TypeT.setCell hg _).trans (TypeT.setCell hg1 _)
  refine ⟨h.takers kt ?_, kt, hn⟩
  rw [hW, ← takerCells_set hk]
  exact s2.1
theorem StBox.keep {W W' : World} {n t : Nat} {s : StateD} (h : StBox W n t s) (hB : Below W.heap.size W W') : StBox W' n t s := by
  obtain ⟨b1, b2, b3, m1, d1, m2, d2, m3, d3, h1, h2⟩ := h
  exact ⟨b1, b2, b3, m1, d1, m2, d2, m3, d3, pkp_ h1 hB, h2.keep hB⟩
theorem StBox.drew {W : World} {n t : Nat} {s : StateD} (h : StBox W n t s) : StBox W.drew n t s := h.keep (Below.refl _ _).drew
theorem FrameT.drew {n t : Nat} {A B : World} (h : FrameT n t A B) : FrameT n t A B.drew := ⟨h.os, h.tape, h.output, h.size, h.block⟩
theorem FrameT.typeSet {n t : Nat} {A B : World} (h : FrameT n t A B) {g i : Nat} (hg : n ≤ g) (u : Value) : FrameT n t A (B.setCell ⟨g, i, none⟩ u) := h.setCell (p := ⟨g, i, none⟩) (.inl hg) u
theorem StRes.turn {W W' : World} {n t : Nat} {v : Value} {E : Int} {s : StateD} {cur : Array Value} (h : StRes W n v E s) (ht : W.heap[t]? = some (.cells cur 31 (0, 0))) (k : TurnB t W W') : StRes W' n v E s := by
  refine ⟨fun e => ?_, h.2⟩
  obtain ⟨b1, b2, b3, m1, d1, m2, d2, m3, d3, h1, h2⟩ := h.1 e
  exact ⟨b1, b2, b3, m1, d1, m2, d2, m3, d3, h1, h2.turn ht (by decide) k⟩
theorem StRes.shape {W : World} {n : Nat} {v : Value} {E : Int} {s : StateD} (h : StRes W n v E s) : ∃ (x1 x2 x3 : Option Addr) (k1 e1 k2 e2 k3 e3 : Nat) (i1 i2 i3 i4 i5 : Int), v = .agg #[.slice x1 k1 e1, .slice x2 k2 e2, .slice x3 k3 e3, .int .i64 i1, .int .i64 i2, .int .i64 i3, .int .i64 i4, .int .i64 i5] := by
  by_cases hE : E = 0
  · obtain ⟨_, _, _, _, _, _, _, _, _, rfl, _⟩ := h.1 hE; exact ⟨_, _, _, _, _, _, _, _, _, _, _, _, _, _, rfl⟩
  · rw [h.2 hE]; exact ⟨_, _, _, _, _, _, _, _, _, _, _, _, _, _, rfl⟩
theorem OwnSt.same {W : World} {n : Nat} {b1 b2 b3 : Option Addr} {m1 d1 m2 d2 m3 d3 : Nat} {s s' : StateD} (h : OwnSt W n b1 b2 b3 m1 d1 m2 d2 m3 d3 s) (h1 : s'.ready = s.ready) (h2 : s'.outs = s.outs) (h3 : s'.takers = s.takers) : OwnSt W n b1 b2 b3 m1 d1 m2 d2 m3 d3 s' := by
  refine ⟨by rw [h1]; exact h.l1, by rw [h2]; exact h.l2, by rw [h3]; exact h.l3, h.x2, by rw [h1]; exact h.r1, by rw [h2]; exact h.r2, by rw [h3]; exact h.r3⟩
end Go.Proofs.YtpoichgodamnkaaGreat
namespace Go.Proofs.YtpoichgodamnkaaGreat
set_option linter.unusedVariables false
set_option maxRecDepth 100000
def Llt : List Nat → List Nat → Prop
  | [], _ => False
  | _ :: _, [] => False
  | a :: r, b :: s => a < b ∨ (a = b ∧ Llt r s)
theorem Llt_trans : ∀ {s t u : List Nat}, Llt s t → Llt t u → Llt s u
  | [], _, _, h, _ => h.elim
  | _ :: _, [], _, h, _ => h.elim
  | _ :: _, _ :: _, [], _, k => k.elim
  | a :: r, b :: s, c :: t, h, k => by
    rcases h with h | ⟨rfl, h⟩
    · rcases k with k | ⟨rfl, k⟩
      · exact .inl (by omega)
      · exact .inl h
    · rcases k with k | ⟨rfl, k⟩
      · exact .inl k
      · exact .inr ⟨rfl, Llt_trans h k⟩
theorem Llt_tri : ∀ {s t : List Nat}, s.length = t.length → Llt s t ∨ s = t ∨ Llt t s
  | [], [], _ => .inr (.inl rfl)
  | [], _ :: _, h => by simp at h
  | _ :: _, [], h => by simp at h
  | a :: r, b :: s, h => by
    rcases Nat.lt_trichotomy a b with h1 | rfl | h1
    · exact .inl (.inl h1)
    · rcases Llt_tri (s := r) (t := s) (by simpa using h) with h2 | rfl | h2
      · exact .inl (.inr ⟨rfl, h2⟩)
      · exact .inr (.inl rfl)
      · exact .inr (.inr (.inr ⟨rfl, h2⟩))
    · exact .inr (.inr (.inl h1))
theorem Llt_snoc : ∀ {s t : List Nat} {n m : Nat}, s.length = t.length → (Llt (s ++ [n]) (t ++ [m]) ↔ Llt s t ∨ (s = t ∧ n < m))
  | [], [], n, m, _ => by simp [Llt]
  | [], _ :: _, _, _, h => by simp at h
  | _ :: _, [], _, _, h => by simp at h
  | a :: r, b :: s, n, m, hl => by
    have ih := Llt_snoc (s := r) (t := s) (n := n) (m := m) (by simpa using hl)
    simp only [List.cons_append, Llt, ih, List.cons.injEq]
    constructor
    · rintro (h | ⟨h1, h | ⟨h2, h⟩⟩)
      · exact .inl (.inl h)
      · exact .inl (.inr ⟨h1, h⟩)
      · exact .inr ⟨⟨h1, h2⟩, h⟩
    · rintro ((h | ⟨h1, h⟩) | ⟨⟨h1, h2⟩, h⟩)
      · exact .inl h
      · exact .inr ⟨h1, .inl h⟩
      · exact .inr ⟨h1, .inr ⟨h2, h⟩⟩
def Slt (s t : List Nat) : Prop := s.length < t.length ∨ (s.length = t.length ∧ Llt s t)
theorem Slt_trans {s t u : List Nat} (h : Slt s t) (k : Slt t u) : Slt s u := by
  rcases h with h | ⟨h1, h⟩ <;> rcases k with k | ⟨k1, k⟩
  · exact .inl (by omega)
  · exact .inl (by omega)
  · exact .inl (by omega)
  · exact .inr ⟨by omega, Llt_trans h k⟩
theorem Slt_tri (s t : List Nat) : Slt s t ∨ s = t ∨ Slt t s := by
  rcases Nat.lt_trichotomy s.length t.length with h | h | h
  · exact .inl (.inl h)
  · rcases Llt_tri h with k | k | k
    · exact .inl (.inr ⟨h, k⟩)
    · exact .inr (.inl k)
    · exact .inr (.inr (.inr ⟨h.symm, k⟩))
  · exact .inr (.inr (.inl h))
theorem Slt_snoc {s t : List Nat} {n m : Nat} : Slt (s ++ [n]) (t ++ [m]) ↔ Slt s t ∨ (s = t ∧ n < m) := by
  unfold Slt
  simp only [List.length_append, List.length_cons, List.length_nil]
  constructor
  · rintro (h | ⟨h, k⟩)
    · exact .inl (.inl (by omega))
    · rcases (Llt_snoc (by omega)).1 k with k | k
      · exact .inl (.inr ⟨by omega, k⟩)
      · exact .inr k
  · rintro ((h | ⟨h, k⟩) | ⟨rfl, h⟩)
    · exact .inl (by omega)
    · exact .inr ⟨by omega, (Llt_snoc h).2 (.inl k)⟩
    · exact .inr ⟨rfl, (Llt_snoc rfl).2 (.inr ⟨rfl, h⟩)⟩
theorem Slt_nil {t : List Nat} {m : Nat} : Slt [] (t ++ [m]) := .inl (by simp)
inductive Path (A : Nat → Option (Nat × Nat)) (r : Nat) : List Nat → Nat → Prop
  | nil : Path A r [] r
  | snoc {s : List Nat} {u n v : Nat} : Path A r s u → A n = some (u, v) → Path A r (s ++ [n]) v
theorem Path.inv {A : Nat → Option (Nat × Nat)} {r v : Nat} {s : List Nat} (h : Path A r s v) : (s = [] ∧ v = r) ∨ ∃ s' u n, s = s' ++ [n] ∧ Path A r s' u ∧ A n = some (u, v) := by
  cases h with
  | nil => exact .inl ⟨rfl, rfl⟩
  | snoc h1 h2 => exact .inr ⟨_, _, _, rfl, h1, h2⟩
theorem Path.inv_snoc {A : Nat → Option (Nat × Nat)} {r v n : Nat} {s : List Nat} (h : Path A r (s ++ [n]) v) : ∃ u, Path A r s u ∧ A n = some (u, v) := by
  rcases h.inv with ⟨h1, _⟩ | ⟨s', u, m, h1, h2, h3⟩
  · simp at h1
  · have := List.append_inj' h1 rfl
    simp at this
    obtain ⟨rfl, rfl⟩ := this
    exact ⟨u, h2, h3⟩
abbrev Trails := List (Nat × List Nat)
def tstep (A : Nat → Option (Nat × Nat)) (u : Nat) (t : List Nat) (L : Trails) (n : Nat) : Trails :=
  match A n with
  | some (u', v) => if u' = u ∧ v ∉ L.map Prod.fst then L ++ [(v, t ++ [n])] else L
  | none => L
structure Came (A : Nat → Option (Nat × Nat)) (r : Nat) (L : Trails) (i n : Nat) : Prop where
  first : L[0]? = some (r, [])
  once : (L.map Prod.fst).Nodup
  path : ∀ x ∈ L, Path A r x.2 x.1
  prev : ∀ x ∈ L, x.2 = [] ∨ ∃ y ∈ L, ∃ m, x.2 = y.2 ++ [m]
  rise : L.Pairwise (fun x y => Slt x.2 y.2)
  least : ∀ x ∈ L, ∀ s, Path A r s x.1 → ¬ Slt s x.2
  shut : ∀ j (hj : j < L.length) m v, A m = some (L[j].1, v) → (j < i ∨ (j = i ∧ m < n)) → v ∈ L.map Prod.fst
  all : ∀ (hi : i < L.length) s v, Path A r s v → Slt s (L[i].2 ++ [n]) → v ∈ L.map Prod.fst
  below : ∀ (hi : i < L.length), ∀ x ∈ L, Slt x.2 (L[i].2 ++ [n])
theorem Came.start (A : Nat → Option (Nat × Nat)) (r : Nat) : Came A r [(r, [])] 0 0 where
  first := rfl
  once := by simp
  path := by intro x hx; simp at hx; subst hx; exact .nil
  prev := by intro x hx; simp at hx; subst hx; exact .inl rfl
  rise := by simp
  least := by
    intro x hx s _ h; simp at hx; subst hx
    rcases h with h | ⟨h, k⟩
    · simp at h
    · cases s <;> simp at h k; exact k
  shut := by intro j hj m v _ h; omega
  all := by
    intro hi s v hp h
    rcases hp.inv with ⟨rfl, rfl⟩ | ⟨s', u, m, rfl, _, _⟩
    · simp
    · rcases Slt_snoc.1 h with h | ⟨_, h⟩
      · rcases h with h | ⟨h, k⟩
        · simp at h
        · cases s' <;> simp at h k; exact k.elim
      · omega
  below := by intro hi x hx; simp at hx; subst hx; exact Slt_nil
theorem mem_get {L : Trails} {x : Nat × List Nat} (h : x ∈ L) : ∃ j, ∃ hj : j < L.length, L[j] = x := List.mem_iff_getElem.1 h
theorem Path_end {A : Nat → Option (Nat × Nat)} {r u v : Nat} {s : List Nat} (h : Path A r s u) (k : Path A r s v) : u = v := by
  rcases h.inv with ⟨rfl, rfl⟩ | ⟨s', x, n, rfl, _, h3⟩
  · rcases k.inv with ⟨_, rfl⟩ | ⟨s', x, n, h1, _, _⟩
    · rfl
    · simp at h1
  · obtain ⟨y, _, h4⟩ := k.inv_snoc
    rw [h3] at h4; simp at h4; exact h4.2
theorem Came.step {A : Nat → Option (Nat × Nat)} {r : Nat} {L : Trails} {i n : Nat} (h : Came A r L i n) (hi : i < L.length) : Came A r (tstep A L[i].1 L[i].2 L n) i (n + 1) ∧ (tstep A L[i].1 L[i].2 L n)[i]? = some L[i] := by
  have ends : ∀ {s : List Nat} {u : Nat}, Path A r s u → s = L[i].2 → u = L[i].1 := fun h1 e => by subst e; exact Path_end h1 (h.path _ (List.getElem_mem hi))
  have same : (∀ v, A n = some (L[i].1, v) → v ∈ L.map Prod.fst) → Came A r L i (n + 1) := by
    intro hv
    refine ⟨h.first, h.once, h.path, h.prev, h.rise, h.least, ?_, ?_, ?_⟩
    · intro j hj m v hA hm
      by_cases e : j = i ∧ m = n
      · obtain ⟨rfl, rfl⟩ := e; exact hv v hA
      · exact h.shut j hj m v hA (by omega)
    · intro hi' s v hp hs
      rcases hp.inv with ⟨rfl, rfl⟩ | ⟨s', u, m, rfl, h1, h2⟩
      · exact h.all hi' [] _ .nil Slt_nil
      · rcases Slt_snoc.1 hs with h3 | ⟨h3, h4⟩
        · exact h.all hi' _ v hp (Slt_snoc.2 (.inl h3))
        · by_cases e : m < n
          · exact h.all hi' _ v hp (Slt_snoc.2 (.inr ⟨h3, e⟩))
          · have e2 : m = n := by omega
            rw [ends h1 h3, e2] at h2
            exact hv v h2
    · intro hi' x hx
      exact Slt_trans (h.below hi' x hx) (Slt_snoc.2 (.inr ⟨rfl, by omega⟩))
  unfold tstep
  cases hA : A n with
  | none =>
    exact ⟨same (fun v hv => by rw [hA] at hv; cases hv), List.getElem?_eq_getElem hi⟩
  | some p =>
    obtain ⟨u', v⟩ := p
    dsimp only
    by_cases hc : u' = L[i].1 ∧ v ∉ L.map Prod.fst
    · rw [if_pos hc]
      obtain ⟨rfl, hv⟩ := hc
      have hpos : 0 < L.length := by omega
      have hget : ∀ j (hj : j < L.length), (L ++ [(v, L[i].2 ++ [n])])[j]'(by simp; omega) = L[j] := fun j hj => List.getElem_append_left hj
      have hold : ∀ {x : Nat}, x ∈ L.map Prod.fst → x ∈ (L ++ [(v, L[i].2 ++ [n])]).map Prod.fst := fun hx => by simp only [List.map_append, List.mem_append]; exact .inl hx
      have hnew : v ∈ (L ++ [(v, L[i].2 ++ [n])]).map Prod.fst := by simp
      refine ⟨⟨?_, ?_, ?_, ?_, ?_, ?_, ?_, ?_, ?_⟩, by rw [List.getElem?_append_left hi]; exact List.getElem?_eq_getElem hi⟩
      · rw [List.getElem?_append_left hpos]; exact h.first
      · rw [List.map_append, List.nodup_append]
        refine ⟨h.once, by simp, ?_⟩
        intro a ha b hb e
        simp at hb; subst hb; subst e; exact hv ha
      · intro x hx
        rcases List.mem_append.1 hx with hx | hx
        · exact h.path x hx
        · simp at hx; subst hx; exact .snoc (h.path _ (List.getElem_mem hi)) hA
      · intro x hx
        rcases List.mem_append.1 hx with hx | hx
        · rcases h.prev x hx with e | ⟨y, hy, m, e⟩
          · exact .inl e
          · exact .inr ⟨y, List.mem_append.2 (.inl hy), m, e⟩
        · simp at hx; subst hx; exact .inr ⟨L[i], List.mem_append.2 (.inl (List.getElem_mem hi)), n, rfl⟩
      · rw [List.pairwise_append]
        refine ⟨h.rise, by simp, ?_⟩
        intro a ha b hb
        simp at hb; subst hb; exact h.below hi a ha
      · intro x hx s hp hs
        rcases List.mem_append.1 hx with hx | hx
        · exact h.least x hx s hp hs
        · simp at hx; subst hx; exact hv (h.all hi s v hp hs)
      · intro j hj m v' hA' hm
        have hj' : j < L.length := by omega
        rw [hget j hj'] at hA'
        by_cases e : j = i ∧ m = n
        · obtain ⟨rfl, rfl⟩ := e; rw [hA] at hA'; simp at hA'; rw [← hA']; exact hnew
        · exact hold (h.shut j hj' m v' hA' (by omega))
      · intro hi' s v' hp hs
        rw [hget i hi] at hs
        rcases hp.inv with ⟨rfl, rfl⟩ | ⟨s', u, m, rfl, h1, h2⟩
        · exact hold (h.all hi [] _ .nil Slt_nil)
        · rcases Slt_snoc.1 hs with h3 | ⟨h3, h4⟩
          · exact hold (h.all hi _ v' hp (Slt_snoc.2 (.inl h3)))
          · by_cases e : m < n
            · exact hold (h.all hi _ v' hp (Slt_snoc.2 (.inr ⟨h3, e⟩)))
            · have e2 : m = n := by omega
              rw [ends h1 h3, e2, hA] at h2
              simp at h2; rw [← h2]; exact hnew
      · intro hi' x hx
        rw [hget i hi]
        rcases List.mem_append.1 hx with hx | hx
        · exact Slt_trans (h.below hi x hx) (Slt_snoc.2 (.inr ⟨rfl, by omega⟩))
        · simp at hx; subst hx; exact Slt_snoc.2 (.inr ⟨rfl, by omega⟩)
    · rw [if_neg hc]
      refine ⟨same (fun v' hv => ?_), List.getElem?_eq_getElem hi⟩
      rw [hA] at hv; simp at hv
      obtain ⟨rfl, rfl⟩ := hv
      exact Classical.not_not.1 (fun hn => hc ⟨rfl, hn⟩)
def tround (A : Nat → Option (Nat × Nat)) (nb : Nat) (x : Nat × List Nat) (L : Trails) : Trails := (List.range nb).foldl (tstep A x.1 x.2) L
theorem Came.steps {A : Nat → Option (Nat × Nat)} {r : Nat} {L : Trails} {i : Nat} (h : Came A r L i 0) (hi : i < L.length) : ∀ nb, Came A r (tround A nb L[i] L) i nb ∧ (tround A nb L[i] L)[i]? = some L[i]
  | 0 => ⟨h, List.getElem?_eq_getElem hi⟩
  | nb + 1 => by
    obtain ⟨h1, h2⟩ := h.steps hi nb
    unfold tround at h1 h2 ⊢
    rw [List.range_succ, List.foldl_append, List.foldl_cons, List.foldl_nil]
    obtain ⟨hi', e⟩ := List.getElem?_eq_some_iff.1 h2
    have := h1.step hi'
    rw [e] at this
    exact this
theorem Came.next {A : Nat → Option (Nat × Nat)} {r : Nat} {L : Trails} {i nb : Nat} (h : Came A r L i nb) (hi : i < L.length) (hnb : ∀ m p, A m = some p → m < nb) : Came A r L (i + 1) 0 where
  first := h.first
  once := h.once
  path := h.path
  prev := h.prev
  rise := h.rise
  least := h.least
  shut := by
    intro j hj m v hA hm
    have := hnb m _ hA
    exact h.shut j hj m v hA (by omega)
  all := by
    intro hi' s v hp hs
    rcases hp.inv with ⟨rfl, rfl⟩ | ⟨s', u, m, rfl, h1, h2⟩
    · exact h.all hi [] _ .nil Slt_nil
    · rcases Slt_snoc.1 hs with h3 | ⟨_, h4⟩
      · have hu := h.all hi s' u h1 (Slt_trans h3 (h.below hi _ (List.getElem_mem hi')))
        obtain ⟨x, hx, rfl⟩ := List.mem_map.1 hu
        obtain ⟨j, hj, rfl⟩ := mem_get hx
        have hl := h.least _ hx s' h1
        have hji : j < i + 1 := by
          rcases Nat.lt_or_ge j (i + 1) with h | h5
          · exact h
          · exfalso
            rcases Nat.eq_or_lt_of_le h5 with e | e
            · subst e; exact hl h3
            · exact hl (Slt_trans h3 (List.pairwise_iff_getElem.1 h.rise _ _ hi' hj e))
        exact h.shut j hj m v h2 (by have := hnb m _ h2; omega)
      · omega
  below := by
    intro hi' x hx
    rcases h.prev x hx with e | ⟨y, hy, m, e⟩
    · rw [e]; exact Slt_nil
    · have h1 := h.below hi x hx
      rw [e] at h1 ⊢
      have h2 := List.pairwise_iff_getElem.1 h.rise i (i + 1) hi hi' (by omega)
      rcases Slt_snoc.1 h1 with h3 | ⟨h3, _⟩
      · exact Slt_snoc.2 (.inl (Slt_trans h3 h2))
      · rw [h3]; exact Slt_snoc.2 (.inl h2)
inductive Reached (A : Nat → Option (Nat × Nat)) (nb r : Nat) : Trails → Nat → Prop
  | start : Reached A nb r [(r, [])] 0
  | next {L : Trails} {i : Nat} (h : Reached A nb r L i) (hi : i < L.length) : Reached A nb r (tround A nb L[i] L) (i + 1)
theorem Reached.came {A : Nat → Option (Nat × Nat)} {nb r : Nat} (hnb : ∀ m p, A m = some p → m < nb) {L : Trails} {i : Nat} (h : Reached A nb r L i) : Came A r L i 0 ∧ i ≤ L.length := by
  induction h with
  | start => exact ⟨Came.start A r, by simp⟩
  | next h hi ih =>
    obtain ⟨h1, h2⟩ := ih.1.steps hi nb
    obtain ⟨hi', _⟩ := List.getElem?_eq_some_iff.1 h2
    exact ⟨h1.next hi' hnb, by omega⟩
theorem nodup_le : ∀ (n : Nat) (l : List Nat), l.Nodup → (∀ x ∈ l, x < n) → l.length ≤ n
  | 0, l, _, h => by
    cases l with
    | nil => simp
    | cons x r => have := h x (by simp); omega
  | n + 1, l, hn, h => by
    by_cases hm : n ∈ l
    · have := nodup_le n (l.erase n) (hn.erase n) (fun x hx => by
        have h1 := (hn.mem_erase_iff).1 hx
        have := h x h1.2
        have := h1.1
        omega)
      rw [List.length_erase_of_mem hm] at this
      omega
    · have := nodup_le n l hn (fun x hx => by
        have := h x hx
        have : x ≠ n := fun e => hm (e ▸ hx)
        omega)
      omega
structure Found (A : Nat → Option (Nat × Nat)) (r : Nat) (L : Trails) : Prop where
  came : ∃ i, L.length ≤ i ∧ Came A r L i 0
theorem Reached.found {A : Nat → Option (Nat × Nat)} {nb r : Nat} (hnb : ∀ m p, A m = some p → m < nb) {L : Trails} {i : Nat} (h : Reached A nb r L i) (hi : ¬ i < L.length) : Found A r L := ⟨i, by omega, (h.came hnb).1⟩
theorem Found.all {A : Nat → Option (Nat × Nat)} {r : Nat} {L : Trails} (h : Found A r L) {s : List Nat} {v : Nat} (hp : Path A r s v) : v ∈ L.map Prod.fst := by
  obtain ⟨i, hi, h⟩ := h
  induction hp with
  | nil => have := h.first; exact List.mem_map.2 ⟨(r, []), List.mem_of_getElem? this, rfl⟩
  | snoc h1 h2 ih =>
    obtain ⟨x, hx, rfl⟩ := List.mem_map.1 ih
    obtain ⟨j, hj, rfl⟩ := mem_get hx
    exact h.shut j hj _ _ h2 (by omega)
theorem Found.mem {A : Nat → Option (Nat × Nat)} {r : Nat} {L : Trails} (h : Found A r L) {v : Nat} : v ∈ L.map Prod.fst ↔ ∃ s, Path A r s v := by
  constructor
  · intro hv
    obtain ⟨x, hx, rfl⟩ := List.mem_map.1 hv
    obtain ⟨i, hi, h⟩ := h
    exact ⟨_, h.path x hx⟩
  · rintro ⟨s, hs⟩; exact h.all hs
theorem Came.short {A : Nat → Option (Nat × Nat)} {r : Nat} {L : Trails} {i n : Nat} (h : Came A r L i n) : ∀ (k j : Nat) (hj : j < L.length), j < k → L[j].2.length ≤ j
  | 0, j, hj, hk => by omega
  | k + 1, j, hj, hk => by
    rcases h.prev _ (List.getElem_mem hj) with e | ⟨y, hy, m, e⟩
    · rw [e]; simp
    · obtain ⟨j', hj', rfl⟩ := mem_get hy
      have hlt : j' < j := by
        rcases Nat.lt_trichotomy j' j with h1 | h1 | h1
        · exact h1
        · subst h1; have := congrArg List.length e; simp at this
        · exfalso
          have := List.pairwise_iff_getElem.1 h.rise j j' hj hj' h1
          rw [e] at this
          rcases this with h2 | ⟨h2, _⟩ <;> simp at h2
          omega
      have := h.short k j' hj' (by omega)
      rw [e]; simp; omega
def Way (A : Nat → Option (Nat × Nat)) (F : Nat → Option Nat) (r : Nat) (s : List Nat) : Prop := ∃ s' u m, s = s' ++ [m] ∧ Path A r s' u ∧ F m = some u
theorem Found.least {A : Nat → Option (Nat × Nat)} {F : Nat → Option Nat} {r : Nat} {L : Trails} (h : Found A r L) {j m : Nat} (hj : j < L.length) (hF : F m = some L[j].1)
    (hno : ∀ j' (hj' : j' < j) m', F m' ≠ some L[j'].1) (hm : ∀ m', m' < m → F m' ≠ some L[j].1) : Way A F r (L[j].2 ++ [m]) ∧ (∀ t, Way A F r t → ¬ Slt t (L[j].2 ++ [m])) ∧ (L[j].2 ++ [m]).length ≤ L.length := by
  obtain ⟨i, hi, hc⟩ := h.came
  refine ⟨⟨_, _, m, rfl, hc.path _ (List.getElem_mem hj), hF⟩, ?_, ?_⟩
  · rintro t ⟨s, u, m', rfl, hp, hF'⟩ hs
    have hu := h.all hp
    obtain ⟨x, hx, rfl⟩ := List.mem_map.1 hu
    obtain ⟨j', hj', rfl⟩ := mem_get hx
    have hl := hc.least _ hx s hp
    have hge : j ≤ j' := by
      rcases Nat.lt_or_ge j' j with h1 | h1
      · exact absurd hF' (hno j' h1 m')
      · exact h1
    rcases Nat.eq_or_lt_of_le hge with e | e
    · subst e
      rcases Slt_snoc.1 hs with h1 | ⟨_, h1⟩
      · exact hl h1
      · exact hm m' h1 hF'
    · have h2 := List.pairwise_iff_getElem.1 hc.rise j j' hj hj' e
      rcases Slt_snoc.1 hs with h1 | ⟨h1, _⟩
      · exact hl (Slt_trans h1 h2)
      · rw [h1] at hl; exact hl h2
  · have := hc.short (j + 1) j hj (by omega)
    simp; omega
theorem Found.none {A : Nat → Option (Nat × Nat)} {F : Nat → Option Nat} {r : Nat} {L : Trails} (h : Found A r L) (hno : ∀ j (hj : j < L.length) m, F m ≠ some L[j].1) (t : List Nat) : ¬ Way A F r t := by
  rintro ⟨s, u, m, rfl, hp, hF⟩
  obtain ⟨x, hx, rfl⟩ := List.mem_map.1 (h.all hp)
  obtain ⟨j, hj, rfl⟩ := mem_get hx
  exact hno j hj m hF
end Go.Proofs.YtpoichgodamnkaaGreat
namespace Go.Proofs.YtpoichgodamnkaaGreat
open Go.RowKit Go.Shelf
set_option linter.unusedVariables false
set_option maxRecDepth 100000
set_option maxHeartbeats 1000000
attribute [local go_sem] Oper.semAt_some
def rtE (p : PlanD) (v : Int) (key : ByteArray) : Int := if chkP p = 0 then (if isNum v p.posts.length = true then kerr key.data.toList else 5) else chkP p
def bAt (p : PlanD) (n : Nat) : BindD := p.binds.getD n ⟨0, false, 0, ⟨#[]⟩⟩
def BindD.val (b : BindD) : Value := .agg #[.int .i64 b.src, .bool b.toPost, .int .i64 b.dst, .string b.pat]
def goesB (p : PlanD) (key : ByteArray) (v : Int) (n : Nat) : Bool := decide ((bAt p n).src = v) && fitP p n key
def fitTo (p : PlanD) (key : ByteArray) (v : Int) (k : Nat) : List Nat := (List.range k).filter (goesB p key v)
def fitIdx (p : PlanD) (key : ByteArray) (v : Int) : List Nat := fitTo p key v p.binds.length
theorem fitTo_succ (p : PlanD) (key : ByteArray) (v : Int) (k : Nat) : fitTo p key v (k + 1) = fitTo p key v k ++ if goesB p key v k = true then [k] else [] := by
  unfold fitTo; rw [List.range_succ, List.filter_append]
  cases h : goesB p key v k <;> simp [h]
theorem fitTo_yes {p : PlanD} {key : ByteArray} {v : Int} {k : Nat} (h : goesB p key v k = true) : fitTo p key v (k + 1) = fitTo p key v k ++ [k] := by rw [fitTo_succ, if_pos h]
theorem fitTo_no {p : PlanD} {key : ByteArray} {v : Int} {k : Nat} (h : goesB p key v k = false) : fitTo p key v (k + 1) = fitTo p key v k := by rw [fitTo_succ, h]; simp
theorem fitTo_pre (p : PlanD) (key : ByteArray) (v : Int) {k m : Nat} (h : k ≤ m) : fitTo p key v k <+: fitTo p key v m := by
  induction m with
  | zero => have : k = 0 := by omega
            subst this; exact List.prefix_refl _
  | succ m ih =>
    by_cases e : k = m + 1
    · subst e; exact List.prefix_refl _
    · rw [fitTo_succ]; exact (ih (by omega)).trans (List.prefix_append _ _)
theorem rtcheck_any (p : PlanD) (a1 a2 a3 : Option Addr) (n1 c1 n2 c2 n3 c3 : Nat) (v : Int) (key : ByteArray) (w : World) (hp : PlanAt w a1 a2 a3 n1 n2 n3 p) :
    Calls Tryz.prog 86 #[.agg #[.slice a1 n1 c1, .slice a2 n2 c2, .slice a3 n3 c3], .int .i64 v, .string key] w fun e w' => e = .returned (.int .i64 (rtE p v key)) ∧ Below w.heap.size w w' := by
  obtain ⟨W1, hW1, hBw, hs1, hbx⟩ := plan_boxed w (.slice a1 n1 c1) (.slice a2 n2 c2) (.slice a3 n3 c3) 26
  have HW1 : Hid (W1 = _) := hW1
  have HP1 : Hid (PlanAt W1 a1 a2 a3 n1 n2 n3 p) := hp.keep hBw
  have BX : Hid (∀ W, Below W1.heap.size W1 W → W.cell? ⟨w.heap.size, 0, none⟩ = some (.slice a1 n1 c1) ∧ W.cell? ⟨w.heap.size, 1, none⟩ = some (.slice a2 n2 c2) ∧ W.cell? ⟨w.heap.size, 2, none⟩ = some (.slice a3 n3 c3)) := hbx
  have s1 := hBw.size
  have hl1 := hp.l1
  clear hW1 hp hbx hs1
  obtain ⟨d, hd⟩ : ∃ d, d = chkP p := ⟨_, rfl⟩
  have HD : Hid (d = chkP p) := hd
  by_cases h0 : d = 0
  · have F1 : rtE p v key = if isNum v n1 = true then kerr key.data.toList else 5 := by unfold rtE; rw [if_pos (by rw [← hd]; exact h0), hl1]
    clear hd
    subst h0
    cases hnum : isNum v n1 with
    | false =>
      rw [hnum] at F1
      rw [F1]
      clear F1
      have hor : v < 0 ∨ (¬ v < 0 ∧ (n1 : Int) ≤ v) := by unfold isNum at hnum; simp at hnum; omega
      clear hnum hl1
      rcases hor with h | ⟨h, h2⟩
      all_goals
        go_enter Tryz.func86, Tryz.ntmps86
        go_wp2_with fail
        rw [← HW1.out]
        refine (check_any p _ _ _ _ _ _ _ _ _ _ HP1.out.l1 HP1.out.l2 HP1.out.l3 HP1.out.sz HP1.out.p1 HP1.out.p2 HP1.out.p3).mono ?_
        rintro e w2 ⟨rfl, hB2⟩
        rw [← HD.out]
        obtain ⟨d0, d1, d2⟩ := BX.out w2 hB2
        go_wp2_with fail
        go_ret
        exact ⟨rfl, hBw.trans (hB2.mono s1)⟩
    | true =>
      rw [hnum] at F1
      have h1 : ¬ v < 0 := by unfold isNum at hnum; simp at hnum; omega
      have h2 : ¬ (n1 : Int) ≤ v := by unfold isNum at hnum; simp at hnum; omega
      obtain ⟨dk, hdk⟩ : ∃ dk, dk = kerr key.data.toList := ⟨_, rfl⟩
      rw [if_pos rfl, ← hdk] at F1
      rw [F1]
      have HC : Hid (∀ w, Calls Tryz.prog 151 #[.string key] w fun e w' => ∃ v, e = .returned (.tuple #[v, .int .i64 dk]) ∧ Below w.heap.size w w') := fun w => by
        rw [hdk]
        by_cases hk : kerr key.data.toList = 0
        · refine (splitK_ok key _ rfl w hk).mono ?_
          rintro e w' ⟨g, cap, rfl, _, _, _, _, hB⟩
          exact ⟨_, by rw [hk], hB⟩
        · refine (splitK_err key w hk).mono ?_
          rintro e w' ⟨rfl, hB⟩
          exact ⟨_, rfl, hB⟩
      clear F1 hnum hl1 hdk
      go_enter Tryz.func86, Tryz.ntmps86
      go_wp2_with fail
      rw [← HW1.out]
      refine (check_any p _ _ _ _ _ _ _ _ _ _ HP1.out.l1 HP1.out.l2 HP1.out.l3 HP1.out.sz HP1.out.p1 HP1.out.p2 HP1.out.p3).mono ?_
      rintro e w2 ⟨rfl, hB2⟩
      rw [← HD.out]
      obtain ⟨d0, d1, d2⟩ := BX.out w2 hB2
      go_wp2_with fail
      refine (HC.out _).mono ?_
      rintro e w3 ⟨u, rfl, hB3⟩
      go_wp2_with fail
      go_ret
      exact ⟨rfl, hBw.trans ((hB2.trans (hB3.mono hB2.size)).mono s1)⟩
  · have F1 : rtE p v key = d := by unfold rtE; rw [if_neg (by rw [← hd]; exact h0), hd]
    have h0' : (d != 0) = true := bne_iff_ne.2 h0
    rw [F1]
    clear h0 hd F1 hl1
    go_enter Tryz.func86, Tryz.ntmps86
    go_wp2_with fail
    rw [← HW1.out]
    refine (check_any p _ _ _ _ _ _ _ _ _ _ HP1.out.l1 HP1.out.l2 HP1.out.l3 HP1.out.sz HP1.out.p1 HP1.out.p2 HP1.out.p3).mono ?_
    rintro e w2 ⟨rfl, hB2⟩
    rw [← HD.out]
    go_wp2_with fail
    go_ret
    exact ⟨rfl, hBw.trans (hB2.mono s1)⟩
theorem routeError_any (p : PlanD) (a1 a2 a3 : Option Addr) (n1 c1 n2 c2 n3 c3 : Nat) (v : Int) (key : ByteArray) (w : World) (hp : PlanAt w a1 a2 a3 n1 n2 n3 p) :
    Calls Tryz.prog 84 #[.agg #[.slice a1 n1 c1, .slice a2 n2 c2, .slice a3 n3 c3], .int .i64 v, .string key] w fun e w' => e = .returned (.int .i64 (rtE p v key)) ∧ Below w.heap.size w w' := by
  obtain ⟨W1, hW1, hBw, hs1, hbx⟩ := plan_boxed w (.slice a1 n1 c1) (.slice a2 n2 c2) (.slice a3 n3 c3) 26
  have HW1 : Hid (W1 = _) := hW1
  have HP1 : Hid (PlanAt W1 a1 a2 a3 n1 n2 n3 p) := hp.keep hBw
  have BX : Hid (∀ W, Below W1.heap.size W1 W → W.cell? ⟨w.heap.size, 0, none⟩ = some (.slice a1 n1 c1) ∧ W.cell? ⟨w.heap.size, 1, none⟩ = some (.slice a2 n2 c2) ∧ W.cell? ⟨w.heap.size, 2, none⟩ = some (.slice a3 n3 c3)) := hbx
  have s1 := hBw.size
  have hl1 := hp.l1
  clear hW1 hp hbx hs1
  obtain ⟨d, hd⟩ : ∃ d, d = chkP p := ⟨_, rfl⟩
  have HD : Hid (d = chkP p) := hd
  by_cases h0 : d = 0
  · have F1 : rtE p v key = if isNum v n1 = true then kerr key.data.toList else 5 := by unfold rtE; rw [if_pos (by rw [← hd]; exact h0), hl1]
    have h4 : n1 ≤ 4 := by have := (chk_right (by rw [← hd]; exact h0)).few.1; rw [hl1] at this; exact this
    clear hd
    subst h0
    cases hnum : isNum v n1 with
    | false =>
      have hin : inR v 0 ((n1 : Int) - 1) = false := by rw [inR_num]; exact hnum
      rw [hnum] at F1
      rw [F1]
      clear F1 hnum hl1
      go_enter Tryz.func84, Tryz.ntmps84
      go_wp2_with fail
      rw [← HW1.out]
      refine (rcheck_any p _ _ _ _ _ _ _ _ _ _ HP1.out.l1 HP1.out.l2 HP1.out.l3 HP1.out.sz HP1.out.p1 HP1.out.p2 HP1.out.p3).mono ?_
      rintro e w2 ⟨rfl, hB2⟩
      rw [← HD.out]
      obtain ⟨d0, d1, d2⟩ := BX.out w2 hB2
      go_wp2_with (go_at_call 103; refine (within_any _ _ _ _).mono ?_; rintro e w3 ⟨rfl, rfl⟩)
      go_ret
      exact ⟨rfl, hBw.trans (hB2.mono s1)⟩
    | true =>
      have hin : inR v 0 ((n1 : Int) - 1) = true := by rw [inR_num]; exact hnum
      obtain ⟨dk, hdk⟩ : ∃ dk, dk = kerr key.data.toList := ⟨_, rfl⟩
      have HK : Hid (dk = kerr key.data.toList) := hdk
      rw [hnum, if_pos rfl, ← hdk] at F1
      rw [F1]
      clear F1 hnum hl1 hdk
      go_enter Tryz.func84, Tryz.ntmps84
      go_wp2_with fail
      rw [← HW1.out]
      refine (rcheck_any p _ _ _ _ _ _ _ _ _ _ HP1.out.l1 HP1.out.l2 HP1.out.l3 HP1.out.sz HP1.out.p1 HP1.out.p2 HP1.out.p3).mono ?_
      rintro e w2 ⟨rfl, hB2⟩
      rw [← HD.out]
      obtain ⟨d0, d1, d2⟩ := BX.out w2 hB2
      go_wp2_with (first
        | (go_at_call 103; refine (within_any _ _ _ _).mono ?_; rintro e w3 ⟨rfl, rfl⟩)
        | (go_at_call 133; refine (keyError_any _ _).mono ?_; rintro e w4 ⟨rfl, hB4⟩; rw [← HK.out]))
      go_ret
      exact ⟨rfl, hBw.trans ((hB2.trans (hB4.mono hB2.size)).mono s1)⟩
  · have F1 : rtE p v key = d := by unfold rtE; rw [if_neg (by rw [← hd]; exact h0), hd]
    have h0' : (d != 0) = true := bne_iff_ne.2 h0
    rw [F1]
    clear h0 hd F1 hl1
    go_enter Tryz.func84, Tryz.ntmps84
    go_wp2_with fail
    rw [← HW1.out]
    refine (rcheck_any p _ _ _ _ _ _ _ _ _ _ HP1.out.l1 HP1.out.l2 HP1.out.l3 HP1.out.sz HP1.out.p1 HP1.out.p2 HP1.out.p3).mono ?_
    rintro e w2 ⟨rfl, hB2⟩
    rw [← HD.out]
    go_wp2_with fail
    go_ret
    exact ⟨rfl, hBw.trans (hB2.mono s1)⟩
end Go.Proofs.YtpoichgodamnkaaGreat
namespace Go.Proofs.YtpoichgodamnkaaGreat
open Go.RowKit Go.Shelf
set_option linter.unusedVariables false
set_option maxRecDepth 100000
set_option maxHeartbeats 2000000
attribute [local go_sem] Oper.semAt_some
theorem Below.grows {W W' : World} (h : Below W.heap.size W W') : W.grownBy W' none := ⟨h.os, h.tape, h.output, h.size, fun k hk _ => h.block k hk⟩
theorem hidIt {p : Prop} (h : p) : Hid p := h
structure KeepF (n0 B : Nat) (W W' : World) : Prop where
  below : Below n0 W W'
  box : ∀ j, j < 3 → W'.heap[B + j]? = W.heap[B + j]?
theorem KeepF.refl (n0 B : Nat) (W : World) : KeepF n0 B W W := ⟨Below.refl _ _, fun _ _ => rfl⟩
theorem KeepF.trans {n0 B : Nat} {X Y Z : World} (h : KeepF n0 B X Y) (k : KeepF n0 B Y Z) : KeepF n0 B X Z := ⟨h.below.trans k.below, fun j hj => (k.box j hj).trans (h.box j hj)⟩
theorem KeepF.of_below {n0 B b : Nat} {W W' : World} (h : Below b W W') (h0 : n0 ≤ b) (hb : B + 3 ≤ b) : KeepF n0 B W W' := ⟨h.mono h0, fun j hj => h.block _ (by omega)⟩
structure FitBoxes (W : World) (B : Nat) (a1 a2 a3 : Option Addr) (n1 c1 n2 c2 n3 c3 : Nat) (v : Int) (key : ByteArray) : Prop where
  p : W.heap[B]? = some (.cells #[.slice a1 n1 c1, .slice a2 n2 c2, .slice a3 n3 c3] 26 (0, 0))
  v : W.heap[B + 1]? = some (.cells #[.int .i64 v] 3 (0, 0))
  k : W.heap[B + 2]? = some (.cells #[.string key] 9 (0, 0))
theorem FitBoxes.keep {W W' : World} {n0 B : Nat} {a1 a2 a3 : Option Addr} {n1 c1 n2 c2 n3 c3 : Nat} {v : Int} {key : ByteArray} (h : FitBoxes W B a1 a2 a3 n1 c1 n2 c2 n3 c3 v key) (k : KeepF n0 B W W') : FitBoxes W' B a1 a2 a3 n1 c1 n2 c2 n3 c3 v key :=
  ⟨(k.box 0 (by omega)).trans h.p, (k.box 1 (by omega)).trans h.v, (k.box 2 (by omega)).trans h.k⟩
theorem cell_of {W : World} {b : Nat} {cs : Array Value} {t : TypeId} (h : W.heap[b]? = some (.cells cs t (0, 0))) (i : Nat) : W.cell? ⟨b, i, none⟩ = cs[i]? := by
  unfold World.cell?; simp only; rw [h]; simp
theorem fitB_right {p : PlanD} {key : ByteArray} (hc : chkP p = 0) (hk : kerr key.data.toList = 0) {k : Nat} (h : k < p.binds.length) : fitB p k key = fitP p k key := by
  have e : fitE p k key = 0 := by
    unfold fitE; rw [if_pos hc, if_pos (by unfold isNum; simp; omega), hk]
  unfold fitB; rw [if_pos e, Int.toNat_natCast]
theorem bAt_get {p : PlanD} {k : Nat} (h : k < p.binds.length) : bAt p k = p.binds[k] := by unfold bAt; simp [List.getD, h]
theorem fitting_in (n : Nat) (v1 v2 v3 : Value) (v : Int) (key : ByteArray) (w : World) :
    CallsIn Fence.wide n Tryz.prog 88 #[.agg #[v1, v2, v3], .int .i64 v, .string key] w fun e w' => e = .returned (.func (.func 152) #[] #[.pointer (some ⟨w.heap.size, 0, none⟩), .pointer (some ⟨w.heap.size + 1, 0, none⟩), .pointer (some ⟨w.heap.size + 1 + 1, 0, none⟩)]) ∧ w' = ((w.alloc (.cells #[v1, v2, v3] 26)).alloc (.cells #[.int .i64 v] 3)).alloc (.cells #[.string key] 9) := by
  refine callsIn_of_wp Tryz.func88 rfl trivial ?_ rfl
  simp only [Tryz.ntmps88, List.size_toArray, List.length_cons, List.length_nil, Nat.reduceAdd, Nat.reduceSub, Array.replicate_succ, Array.replicate_zero, List.push_toArray, List.append_toArray, List.nil_append, List.cons_append]
  gi_wp2
  go_ret
  exact ⟨rfl, rfl⟩
theorem fitting_boxes (w : World) (a1 a2 a3 : Option Addr) (n1 c1 n2 c2 n3 c3 : Nat) (v : Int) (key : ByteArray) : ∃ W, W = ((w.alloc (.cells #[.slice a1 n1 c1, .slice a2 n2 c2, .slice a3 n3 c3] 26)).alloc (.cells #[.int .i64 v] 3)).alloc (.cells #[.string key] 9) ∧
    FitBoxes W w.heap.size a1 a2 a3 n1 c1 n2 c2 n3 c3 v key ∧ Below w.heap.size w W ∧ W.heap.size = w.heap.size + 3 := by
  refine ⟨_, rfl, ⟨?_, ?_, ?_⟩, ?_, by simp⟩
  · rw [Below.heap_alloc _ _ _ (by simp; omega), Below.heap_alloc _ _ _ (by simp)]; exact World.alloc_heap_new w _
  · rw [Below.heap_alloc _ _ _ (by simp)]; have := World.alloc_heap_new (w.alloc (.cells #[.slice a1 n1 c1, .slice a2 n2 c2, .slice a3 n3 c3] 26)) (.cells #[.int .i64 v] 3); rw [World.size_alloc] at this; exact this
  · have := World.alloc_heap_new ((w.alloc (.cells #[.slice a1 n1 c1, .slice a2 n2 c2, .slice a3 n3 c3] 26)).alloc (.cells #[.int .i64 v] 3)) (.cells #[.string key] 9); rw [World.size_alloc, World.size_alloc] at this; exact this
  · exact (((Below.refl _ _).alloc (Nat.le_refl _) _).alloc (by simp) _).alloc (by simp; omega) _
theorem fitting1_in (n : Nat) (hn : 1 ≤ n) (l B : Nat) (p : PlanD) (a1 a2 a3 : Option Addr) (n1 c1 n2 c2 n3 c3 : Nat) (v : Int) (key : ByteArray) (w0 : World) (hc : chkP p = 0) (hk : kerr key.data.toList = 0) (hp : PlanAt w0 a1 a2 a3 n1 n2 n3 p) (hB0 : w0.heap.size ≤ B)
    (J Jx : List Nat → World → Prop) (W : World) (hWB : B + 3 ≤ W.heap.size) (h0W : Below w0.heap.size w0 W) (hbx : FitBoxes W B a1 a2 a3 n1 c1 n2 c2 n3 c3 v key)
    (hJ : AbidesFrom W.heap.size J)
    (hY : ∀ pre x W1, J pre W1 → pre.length < (fitIdx p key v).length → YieldAt Fence.wide (n - 1) Tryz.prog l #[.int .i64 (x : Nat), (bAt p x).val] W1 fun e W' =>
      (e = .returned (.bool true) ∧ J (pre ++ [x]) W' ∧ KeepF w0.heap.size B W1 W') ∨ (e = .returned (.bool false) ∧ Jx (pre ++ [x]) W'))
    (h0 : J [] W) :
    CallsIn Fence.wide n Tryz.prog 152 #[.func (.yield l) #[] #[], .pointer (some ⟨B, 0, none⟩), .pointer (some ⟨B + 1, 0, none⟩), .pointer (some ⟨B + 1 + 1, 0, none⟩)] W fun e W' => (∃ v, e = .returned v) ∧
      ((∃ ys, ys = fitIdx p key v ∧ J ys W') ∨ (∃ pre, pre <+: fitIdx p key v ∧ Jx pre W')) := by
  have HP : Hid (PlanAt w0 a1 a2 a3 n1 n2 n3 p) := hp
  have HBX : Hid (FitBoxes W B a1 a2 a3 n1 c1 n2 c2 n3 c3 v key) := hbx
  have HFP : Hid (∀ k, k < p.binds.length → fitB p k key = fitP p k key) := fun k h => fitB_right hc hk h
  have hl3 : p.binds.length = n3 := hp.l3
  have HL3 : Hid (p.binds.length = n3) := hl3
  have h10 : n3 ≤ 10 := by have := (chk_right hc).few.2.2; omega
  have HJ : Hid (AbidesFrom W.heap.size J) := hJ
  have HY := hidIt hY
  have b0 := cell_of hbx.p 0
  have b2 := cell_of hbx.p 2
  simp at b0 b2
  clear hp hbx hc hk hl3 hJ hY
  refine callsIn_of_wp Tryz.func152 rfl trivial ?_ rfl
  simp only [Tryz.ntmps152, List.size_toArray, List.length_cons, List.length_nil, Nat.reduceAdd, Nat.reduceSub, Array.replicate_succ, Array.replicate_zero, List.push_toArray, List.append_toArray, List.nil_append, List.cons_append]
  gi_wp2
  gi_loopw [12] (fun iv wr => ∃ (k : Nat), k ≤ n3 ∧ iv = .int .i64 k ∧ J (fitTo p key v k) wr ∧ KeepF w0.heap.size B W wr) (fun iv _ => n3 - (intOf iv).toNat)
  case atStart => exact ⟨0, Nat.zero_le _, rfl, h0, KeepF.refl _ _ _⟩
  case round =>
    obtain ⟨k, hk, rfl, hJs, hKf⟩ := hrel
    have hwr := hKf.below.size
    obtain ⟨x0, x1, x2⟩ := HBX.out.keep hKf
    have e0 := cell_of x0 0
    have e1 := cell_of x0 1
    have e2 := cell_of x0 2
    have e3 := cell_of x1 0
    have e4 : wr.cell? ⟨B + 1 + 1, 0, none⟩ = some (.string key) := cell_of x2 0
    simp at e0 e1 e2 e3
    by_cases hlt : k < n3
    · have hkl : k < p.binds.length := by rw [HL3.out]; exact hlt
      have hB0r : Below w0.heap.size w0 wr := h0W.trans hKf.below
      obtain ⟨g, o, rfl, hg, hx⟩ := HP.out.p3.cells (by omega)
      obtain ⟨z1, z2, z3, z4⟩ := hx k hkl
      obtain ⟨y, hy⟩ : ∃ y, y = p.binds[k] := ⟨_, rfl⟩
      rw [← hy] at z1 z2 z3 z4
      have HYB : Hid (bAt p k = y) := by show bAt p k = y; rw [bAt_get hkl, hy]
      have y1 := (hB0r.cell (p := ⟨g, _, none⟩) hg).trans z1
      have y2 := (hB0r.cell (p := ⟨g, _, none⟩) hg).trans z2
      have y3 := (hB0r.cell (p := ⟨g, _, none⟩) hg).trans z3
      have y4 := (hB0r.cell (p := ⟨g, _, none⟩) hg).trans z4
      have hgr : g < wr.heap.size := Nat.lt_of_lt_of_le hg hB0r.size
      have k0 : B < wr.heap.size := by omega
      have k1 : B + 1 < wr.heap.size := by omega
      have k2 : B + 1 + 1 < wr.heap.size := by omega
      clear hx z1 z2 z3 z4 hy
      obtain ⟨f, tp, t, pt⟩ := y
      dsimp only at y1 y2 y3 y4
      have j1 : (0 : Int) ≤ (k : Int) := by omega
      have j2 : (k : Int) < n3 := by omega
      obtain ⟨W1, hW1⟩ : ∃ W1, W1 = wr.alloc (.cells #[.int .i64 f, .bool tp, .int .i64 t, .string pt] 122) := ⟨_, rfl⟩
      have HW1 : Hid (W1 = _) := hW1
      have hBa : Below wr.heap.size wr W1 := by rw [hW1]; exact (Below.refl _ _).alloc (Nat.le_refl _) _
      have hsa : wr.heap.size + 1 ≤ W1.heap.size := by rw [hW1]; simp
      have hnew : W1.heap[wr.heap.size]? = some (.cells #[.int .i64 f, .bool tp, .int .i64 t, .string pt] 122 (0, 0)) := by rw [hW1]; exact World.alloc_heap_new wr _
      clear hW1
      by_cases hf : f = v
      · subst hf
        have hJ1 : J (fitTo p key f k) W1 := HJ.out _ wr _ none hJs (Below.grows hBa) (fun r e => by cases e)
        have HPr : Hid (PlanAt W1 a1 a2 (some ⟨g, o, none⟩) n1 n2 n3 p) := HP.out.keep (hB0r.trans (hBa.mono hB0r.size))
        clear hJs
        gi_wp2_with fail
        refine ⟨trivial, ?_⟩
        rw [← HW1.out]
        refine (callsIn_wide.2 (fits_any p _ _ _ _ _ _ _ _ _ _ _ _ HPr.out)).mono ?_
        rintro e W2 ⟨rfl, hB2⟩
        rw [HFP.out k hkl]
        have hJ2 : J (fitTo p key f k) W2 := HJ.out _ W1 _ none hJ1 (Below.grows hB2) (fun r e => by cases e)
        have hB12 : Below wr.heap.size wr W2 := hBa.trans (hB2.mono hBa.size)
        have hK2 : KeepF w0.heap.size B W W2 := hKf.trans (KeepF.of_below hB12 (by omega) (by omega))
        have hnew2 : W2.heap[wr.heap.size]? = some (.cells #[.int .i64 f, .bool tp, .int .i64 t, .string pt] 122 (0, 0)) := (hB2.block _ (by omega)).trans hnew
        have m0 := cell_of hnew2 0
        have m1 := cell_of hnew2 1
        have m2 := cell_of hnew2 2
        have m3 := cell_of hnew2 3
        simp at m0 m1 m2 m3
        clear e0 e1 e2 e3 e4 x0 x1 x2 y1 y2 y3 y4 hnew hnew2 b0 b2 hJ1
        cases hfit : fitP p k key with
        | false =>
          have HG : Hid (fitTo p key f (k + 1) = fitTo p key f k) := fitTo_no (by unfold goesB; rw [hfit]; simp)
          clear hfit
          gi_wp2
          refine ⟨fun f h => (nomatch h), ?_⟩
          gi_wp2
          go_roundw
          case rel => exact ⟨k + 1, by omega, by go_num, by rw [HG.out]; exact hJ2, hK2⟩
          case measure => simp [intOf]; omega
        | true =>
          have hgo : goesB p key f k = true := by unfold goesB; rw [HYB.out, hfit]; simp
          have HG : Hid (fitTo p key f (k + 1) = fitTo p key f k ++ [k]) := fitTo_yes hgo
          have HPre : Hid (fitTo p key f k ++ [k] <+: fitIdx p key f) := by
            show fitTo p key f k ++ [k] <+: fitIdx p key f
            rw [← fitTo_yes hgo]; unfold fitIdx; exact fitTo_pre p key f (by omega)
          have hlen : (fitTo p key f k).length < (fitIdx p key f).length := by
            have := HPre.out.length_le; simp at this; omega
          obtain ⟨fn, tmps, assign, body, hy, hR⟩ := HY.out _ k W2 hJ2 hlen
          have hval : (bAt p k).val = .agg #[.int .i64 f, .bool tp, .int .i64 t, .string pt] := by rw [HYB.out]; rfl
          rw [hval] at hy
          clear hfit hgo hval hJ2 hlen
          gi_wp2
          refine hR.mono ?_
          rintro e W3 (⟨rfl, hJ3, hK3⟩ | ⟨rfl, hJx3⟩)
          · gi_wp2
            go_roundw
            case rel => exact ⟨k + 1, by omega, by go_num, by rw [HG.out]; exact hJ3, hK2.trans hK3⟩
            case measure => simp [intOf]; omega
          · gi_wp2
            refine bodyPost_ret (results_none rfl _ _ _) rfl ?_
            exact ⟨⟨_, rfl⟩, .inr ⟨_, HPre.out, hJx3⟩⟩
      · have HG : Hid (fitTo p key v (k + 1) = fitTo p key v k) := fitTo_no (by unfold goesB; rw [HYB.out]; simp [hf])
        have hf' : (f != v) = true := bne_iff_ne.2 hf
        have HJ1 : Hid (J (fitTo p key v k) W1) := HJ.out _ wr _ none hJs (Below.grows hBa) (fun r e => by cases e)
        clear hJs hf
        gi_wp2
        rw [← HW1.out]
        go_roundw
        case rel => exact ⟨k + 1, by omega, by go_num, by rw [HG.out]; exact HJ1.out, hKf.trans (KeepF.of_below hBa (by omega) (by omega))⟩
        case measure => simp [intOf]; omega
    · have HE : Hid (fitTo p key v k = fitIdx p key v) := by show fitTo p key v k = _; unfold fitIdx; rw [HL3.out]; congr 1; omega
      gi_wp2
      go_end0
      exact ⟨⟨_, rfl⟩, .inl ⟨_, HE.out, hJs⟩⟩
theorem fit_stops (n : Nat) (hn : 1 ≤ n) (B : Nat) (p : PlanD) (a1 a2 a3 : Option Addr) (n1 c1 n2 c2 n3 c3 : Nat) (v : Int) (key : ByteArray) (w0 w : World) (hc : chkP p = 0) (hk : kerr key.data.toList = 0) (hp : PlanAt w0 a1 a2 a3 n1 n2 n3 p) (hB0 : w0.heap.size ≤ B)
    (hWB : B + 3 ≤ w.heap.size) (h0W : Below w0.heap.size w0 w) (hbx : FitBoxes w B a1 a2 a3 n1 c1 n2 c2 n3 c3 v key) :
    SeqStopsK Fence.wide n Tryz.prog 152 #[.pointer (some ⟨B, 0, none⟩), .pointer (some ⟨B + 1, 0, none⟩), .pointer (some ⟨B + 1 + 1, 0, none⟩)] (fun x : Nat => #[.int .i64 (x : Nat), (bAt p x).val]) (KeepF w0.heap.size B) (fun ys => ys = fitIdx p key v) (fun pre => pre <+: fitIdx p key v) (fitIdx p key v).length w := fun l J Jx W hW hJ _ hY h0 =>
  fitting1_in n hn l B p a1 a2 a3 n1 c1 n2 c2 n3 c3 v key w0 hc hk hp hB0 J Jx W (by have := hW.size; omega) (h0W.trans (hW.mono h0W.size)) (hbx.keep (KeepF.of_below (n0 := 0) hW (Nat.zero_le _) hWB)) hJ hY h0
theorem keepF_b {n0 B : Nat} {w : World} (hn : n0 ≤ w.heap.size) (hB : B + 3 ≤ w.heap.size) (W : World) (l : Nat) (o o' : Obj) (hl : w.heap.size ≤ l) (h : W.heap[l]? = some o) : KeepF n0 B W (W.putObj l o') :=
  ⟨⟨rfl, rfl, rfl, by simp [World.putObj], fun k hk => World.putObj_heap_other (by omega)⟩, fun j hj => World.putObj_heap_other (by omega)⟩
end Go.Proofs.YtpoichgodamnkaaGreat
namespace Go.Proofs.YtpoichgodamnkaaGreat
open Go.RowKit Go.Shelf Go.Maps
set_option linter.unusedVariables false
set_option maxRecDepth 100000
structure Turn (X : Nat → Prop) (W W' : World) : Prop where
  os : W'.os = W.os
  tape : W'.tape = W.tape
  output : W'.output = W.output
  size : W.heap.size ≤ W'.heap.size
  block : ∀ k, k < W.heap.size → ¬ X k → W'.heap[k]? = W.heap[k]?
theorem Turn.refl (X : Nat → Prop) (W : World) : Turn X W W := ⟨rfl, rfl, rfl, Nat.le_refl _, fun _ _ _ => rfl⟩
theorem Turn.trans {X Y : Nat → Prop} {A B C : World} (h : Turn X A B) (k : Turn Y B C) (hy : ∀ i, i < A.heap.size → Y i → X i) : Turn X A C :=
  ⟨k.os.trans h.os, k.tape.trans h.tape, k.output.trans h.output, Nat.le_trans h.size k.size, fun i hi hx => (k.block i (Nat.lt_of_lt_of_le hi h.size) (fun y => hx (hy i hi y))).trans (h.block i hi hx)⟩
theorem Turn.of_grown {X : Nat → Prop} {W W' : World} {row : Option Nat} (h : W.grownBy W' row) (hx : ∀ r, row = some r → X r) : Turn X W W' :=
  ⟨h.os, h.tape, h.output, h.size, fun k hk hn => h.block k hk (fun e => hn (hx k e.symm))⟩
theorem Turn.of_below {W W' : World} (X : Nat → Prop) (h : Below W.heap.size W W') : Turn X W W' := ⟨h.os, h.tape, h.output, h.size, fun k hk _ => h.block k hk⟩
theorem Turn.mono {X Y : Nat → Prop} {W W' : World} (h : Turn X W W') (hy : ∀ i, i < W.heap.size → X i → Y i) : Turn Y W W' := ⟨h.os, h.tape, h.output, h.size, fun k hk hn => h.block k hk (fun x => hn (hy k hk x))⟩
theorem Turn.below {X : Nat → Prop} {n : Nat} {W W' : World} (h : Turn X W W') (hn : n ≤ W.heap.size) (hx : ∀ i, X i → n ≤ i) : Below n W W' :=
  ⟨h.os, h.tape, h.output, h.size, fun k hk => h.block k (by omega) (fun x => by have := hx k x; omega)⟩
theorem Turn.boxed {X : Nat → Prop} {W W' : World} (h : Turn X W W') {B : Nat} {t : TypeId} {v : Value} (hb : Boxed W B t v) (hx : ¬ X B) : Boxed W' B t v := (h.block B hb.lt hx).trans hb
theorem Turn.row {X : Nat → Prop} {W W' : World} (h : Turn X W W') {base : Nat} {e : TypeId} {size : Nat} {v : Value} {n : Nat} {xs : List Value} (hr : W.ownsRow base e size v n xs) (hx : ∀ g, v.ownBlock = some g → ¬ X g) : W'.ownsRow base e size v n xs := by
  refine ⟨hr.1, ?_⟩
  rcases hr.2 with h1 | ⟨g, cap, cur, rfl, h2, h3, h4⟩
  · exact .inl h1
  · exact .inr ⟨g, cap, cur, rfl, h2, (h.block g (Array.getElem?_eq_some_iff.1 h3).1 (hx g rfl)).trans h3, h4⟩
theorem Turn.map {X : Nat → Prop} {W W' : World} (h : Turn X W W') {P : Program} {k : TypeId} {R : Value → Option (DataW Unit × List MemPlace)} {b n : Nat} {D : DataW Unit} (hm : W.ownsMap P k R b n D) (hx : ¬ X b) : W'.ownsMap P k R b n D := by
  obtain ⟨es, cl, h1, h2⟩ := hm
  exact ⟨es, cl, (h.block b (Array.getElem?_eq_some_iff.1 h1).1 hx).trans h1, h2⟩
def markOf (D : Nat) : Deferred := { target := .collected D, args := #[] }
structure Marks (n0 : Nat) (Ds : List Nat) (W : World) : Prop where
  once : Ds.Nodup
  there : ∀ D ∈ Ds, n0 ≤ D ∧ W.heap[D]? = some (.deferred (some []))
theorem Marks.lt {n0 : Nat} {Ds : List Nat} {W : World} (h : Marks n0 Ds W) : ∀ D ∈ Ds, D < W.heap.size := fun D hD => (Array.getElem?_eq_some_iff.1 (h.there D hD).2).1
theorem Marks.turn {n0 : Nat} {Ds : List Nat} {X : Nat → Prop} {W W' : World} (h : Marks n0 Ds W) (t : Turn X W W') (hx : ∀ D ∈ Ds, ¬ X D) : Marks n0 Ds W' :=
  ⟨h.once, fun D hD => ⟨(h.there D hD).1, (t.block D (h.lt D hD) (hx D hD)).trans (h.there D hD).2⟩⟩
theorem Marks.cons {n0 : Nat} {Ds : List Nat} {W : World} (h : Marks n0 Ds W) {D : Nat} (h1 : D ∉ Ds) (h2 : n0 ≤ D) (h3 : W.heap[D]? = some (.deferred (some []))) : Marks n0 (D :: Ds) W :=
  ⟨List.nodup_cons.2 ⟨h1, h.once⟩, fun E hE => by
    rcases List.mem_cons.1 hE with rfl | hE
    · exact ⟨h2, h3⟩
    · exact h.there E hE⟩
theorem leaves_marks {F : Fence} {n : Nat} {P : Program} {fn : Func} {tmps : Array Value} {R : Ending → World → Prop} {n0 : Nat} : ∀ {Ds : List Nat} {W : World}, Marks n0 Ds W →
    (∀ W', Turn (fun k => k ∈ Ds) W W' → LeavesInM F n P fn tmps R [] .returning W') → LeavesInM F n P fn tmps R (Ds.map markOf) .returning W
  | [], W, _, h => h W (Turn.refl _ _)
  | D :: Ds, W, hm, h => by
    obtain ⟨h1, h2⟩ := List.nodup_cons.1 hm.once
    have hD := (hm.there D (by simp)).2
    refine ⟨by simp, .inl ⟨D, _, rfl, run_takeDeferred hD, ?_⟩⟩
    have t1 : Turn (fun k => k = D) W (W.putObj D (.deferred none)) := Turn.of_grown (grownBy_putObj' W D _) (fun r e => by cases e; rfl)
    refine leaves_marks (n0 := n0) (Ds := Ds) ⟨h2, fun E hE => ⟨(hm.there E (by simp [hE])).1, ?_⟩⟩ (fun W' hW' => h W' ?_)
    · exact (World.putObj_heap_other (k := E) (r := D) (fun e => h1 (by rw [← e]; exact hE))).trans (hm.there E (by simp [hE])).2
    · exact (t1.mono (Y := fun k => k ∈ D :: Ds) (fun i _ e => by subst e; exact List.mem_cons_self)).trans hW' (fun i _ hi => by exact List.mem_cons_of_mem _ hi)
def lastBy (t : List Nat) : Int := match t.getLast? with | none => -1 | some n => (n : Int)
def byD (L : Trails) : DataW Unit := L.foldl (fun D x => D.put (.int .i64 (x.1 : Nat)) (.lit (.int .i64 (lastBy x.2)))) (.map [])
theorem byD_snoc (L : Trails) (x : Nat × List Nat) : byD (L ++ [x]) = (byD L).put (.int .i64 (x.1 : Nat)) (.lit (.int .i64 (lastBy x.2))) := by unfold byD; rw [List.foldl_append]; rfl
theorem lastBy_snoc (t : List Nat) (n : Nat) : lastBy (t ++ [n]) = n := by unfold lastBy; simp
theorem byD_isMap (L : Trails) : IsMap (byD L) := by
  unfold byD
  have : ∀ (L : Trails) (D : DataW Unit), IsMap D → IsMap (L.foldl (fun D x => D.put (.int .i64 (x.1 : Nat)) (.lit (.int .i64 (lastBy x.2)))) D) := by
    intro L
    induction L with
    | nil => intro D h; exact h
    | cons x r ih => intro D h; exact ih _ (h.put _ _)
  exact this L _ isMap_empty
theorem lit_ne {a b : Nat} (h : a ≠ b) : (Lit.int .i64 (a : Int)) ≠ Lit.int .i64 (b : Int) := fun e => h (by injection e with _ e; omega)
theorem snoc_ind {α : Type} {p : List α → Prop} (h0 : p []) (h1 : ∀ l x, p l → p (l ++ [x])) (l : List α) : p l := by
  have : ∀ (m : List α), p m.reverse := by
    intro m
    induction m with
    | nil => exact h0
    | cons x r ih => rw [List.reverse_cons]; exact h1 _ x ih
  have := this l.reverse
  rwa [List.reverse_reverse] at this
theorem byD_has (L : Trails) (v : Nat) : has (byD L) (.int .i64 (v : Nat)) = decide (v ∈ L.map Prod.fst) := by
  induction L using snoc_ind with
  | h0 => simp [byD, has]
  | h1 L x ih =>
    rw [byD_snoc]
    by_cases e : x.1 = v
    · subst e; rw [has_put_same (k := Lit.int .i64 (x.1 : Nat)) (byD_isMap L) trivial]; simp
    · rw [has_put_other (lit_ne (fun h => e h.symm)), ih]
      rw [Bool.eq_iff_iff]; simp; omega
end Go.Proofs.YtpoichgodamnkaaGreat
