/- Worlds in which only some blocks have turned; the marks that ranges over functions leave. -/
import Derived.RangeFuncWrites
import Derived.RangeFuncBox
import Derived.Maps.OwnIn
import Derived.Maps.AppendAt
import Derived.Test.YthhkpgnjpieckaaRj
namespace Go.Proofs.Ythhkpgnjpieckaa
set_option linter.unusedVariables false
set_option maxRecDepth 100000
open Go.RowKit Go.Shelf Go.Maps

/-- Of what was there only the blocks of X have turned. -/
structure Turn (X : Nat → Prop) (W W' : World) : Prop where
  os : W'.os = W.os
  tape : W'.tape = W.tape
  output : W'.output = W.output
  size : W.heap.size ≤ W'.heap.size
  block : ∀ k, k < W.heap.size → ¬ X k → W'.heap[k]? = W.heap[k]?
theorem Turn.refl (X : Nat → Prop) (W : World) : Turn X W W := ⟨rfl, rfl, rfl, Nat.le_refl _, fun _ _ _ => rfl⟩
theorem Turn.trans {X Y : Nat → Prop} {A B C : World} (h : Turn X A B) (k : Turn Y B C) (hy : ∀ i, i < A.heap.size → Y i → X i) : Turn X A C :=
  ⟨k.os.trans h.os, k.tape.trans h.tape, k.output.trans h.output, Nat.le_trans h.size k.size, fun i hi hx => (k.block i (Nat.lt_of_lt_of_le hi h.size) (fun y => hx (hy i hi y))).trans (h.block i hi hx)⟩
theorem Turn.of_grown {X : Nat → Prop} {W W' : World} {row : Option Nat} (h : W.grownBy W' row) (hx : ∀ r, row = some r → X r) : Turn X W W' :=
  ⟨h.os, h.tape, h.output, h.size, fun k hk hn => h.block k hk (fun e => hn (hx k e.symm))⟩
theorem Turn.of_below {W W' : World} (X : Nat → Prop) (h : Below W.heap.size W W') : Turn X W W' := ⟨h.os, h.tape, h.output, h.size, fun k hk _ => h.block k hk⟩
theorem Turn.mono {X Y : Nat → Prop} {W W' : World} (h : Turn X W W') (hy : ∀ i, i < W.heap.size → X i → Y i) : Turn Y W W' := ⟨h.os, h.tape, h.output, h.size, fun k hk hn => h.block k hk (fun x => hn (hy k hk x))⟩
theorem Turn.below {X : Nat → Prop} {n : Nat} {W W' : World} (h : Turn X W W') (hn : n ≤ W.heap.size) (hx : ∀ i, X i → n ≤ i) : Below n W W' :=
  ⟨h.os, h.tape, h.output, h.size, fun k hk => h.block k (by omega) (fun x => by have := hx k x; omega)⟩
theorem Turn.boxed {X : Nat → Prop} {W W' : World} (h : Turn X W W') {B : Nat} {t : TypeId} {v : Value} (hb : Boxed W B t v) (hx : ¬ X B) : Boxed W' B t v := (h.block B hb.lt hx).trans hb
theorem Turn.row {X : Nat → Prop} {W W' : World} (h : Turn X W W') {base : Nat} {e : TypeId} {size : Nat} {v : Value} {n : Nat} {xs : List Value} (hr : W.ownsRow base e size v n xs) (hx : ∀ g, v.ownBlock = some g → ¬ X g) : W'.ownsRow base e size v n xs := by
  refine ⟨hr.1, ?_⟩
  rcases hr.2 with h1 | ⟨g, cap, cur, rfl, h2, h3, h4⟩
  · exact .inl h1
  · exact .inr ⟨g, cap, cur, rfl, h2, (h.block g (Array.getElem?_eq_some_iff.1 h3).1 (hx g rfl)).trans h3, h4⟩
theorem Turn.map {X : Nat → Prop} {W W' : World} (h : Turn X W W') {P : Program} {k : TypeId} {R : Value → Option (DataW Unit × List MemPlace)} {b n : Nat} {D : DataW Unit} (hm : W.ownsMap P k R b n D) (hx : ¬ X b) : W'.ownsMap P k R b n D := by
  obtain ⟨es, cl, h1, h2⟩ := hm
  exact ⟨es, cl, (h.block b (Array.getElem?_eq_some_iff.1 h1).1 hx).trans h1, h2⟩

/-- The marks that ranges over functions have left, one a range. -/
def markOf (D : Nat) : Deferred := { target := .collected D, args := #[] }
structure Marks (n0 : Nat) (Ds : List Nat) (W : World) : Prop where
  once : Ds.Nodup
  there : ∀ D ∈ Ds, n0 ≤ D ∧ W.heap[D]? = some (.deferred (some []))
theorem Marks.lt {n0 : Nat} {Ds : List Nat} {W : World} (h : Marks n0 Ds W) : ∀ D ∈ Ds, D < W.heap.size := fun D hD => (Array.getElem?_eq_some_iff.1 (h.there D hD).2).1
theorem Marks.turn {n0 : Nat} {Ds : List Nat} {X : Nat → Prop} {W W' : World} (h : Marks n0 Ds W) (t : Turn X W W') (hx : ∀ D ∈ Ds, ¬ X D) : Marks n0 Ds W' :=
  ⟨h.once, fun D hD => ⟨(h.there D hD).1, (t.block D (h.lt D hD) (hx D hD)).trans (h.there D hD).2⟩⟩
theorem Marks.cons {n0 : Nat} {Ds : List Nat} {W : World} (h : Marks n0 Ds W) {D : Nat} (h1 : D ∉ Ds) (h2 : n0 ≤ D) (h3 : W.heap[D]? = some (.deferred (some []))) : Marks n0 (D :: Ds) W :=
  ⟨List.nodup_cons.2 ⟨h1, h.once⟩, fun E hE => by
    rcases List.mem_cons.1 hE with rfl | hE
    · exact ⟨h2, h3⟩
    · exact h.there E hE⟩
theorem leaves_marks {F : Fence} {n : Nat} {P : Program} {fn : Func} {tmps : Array Value} {R : Ending → World → Prop} {n0 : Nat} : ∀ {Ds : List Nat} {W : World}, Marks n0 Ds W →
    (∀ W', Turn (fun k => k ∈ Ds) W W' → LeavesInM F n P fn tmps R [] .returning W') → LeavesInM F n P fn tmps R (Ds.map markOf) .returning W
  | [], W, _, h => h W (Turn.refl _ _)
  | D :: Ds, W, hm, h => by
    obtain ⟨h1, h2⟩ := List.nodup_cons.1 hm.once
    have hD := (hm.there D (by simp)).2
    refine ⟨by simp, .inl ⟨D, _, rfl, run_takeDeferred hD, ?_⟩⟩
    have t1 : Turn (fun k => k = D) W (W.putObj D (.deferred none)) := Turn.of_grown (grownBy_putObj' W D _) (fun r e => by cases e; rfl)
    refine leaves_marks (n0 := n0) (Ds := Ds) ⟨h2, fun E hE => ⟨(hm.there E (by simp [hE])).1, ?_⟩⟩ (fun W' hW' => h W' ?_)
    · exact (World.putObj_heap_other (k := E) (r := D) (fun e => h1 (by rw [← e]; exact hE))).trans (hm.there E (by simp [hE])).2
    · exact (t1.mono (Y := fun k => k ∈ D :: Ds) (fun i _ e => by subst e; exact List.mem_cons_self)).trans hW' (fun i _ hi => by exact List.mem_cons_of_mem _ hi)

/-- What the map says by which bind each post is come to. -/
def lastBy (t : List Nat) : Int := match t.getLast? with | none => -1 | some n => (n : Int)
def byD (L : Trails) : DataW Unit := L.foldl (fun D x => D.put (.int .i64 (x.1 : Nat)) (.lit (.int .i64 (lastBy x.2)))) (.map [])
theorem byD_snoc (L : Trails) (x : Nat × List Nat) : byD (L ++ [x]) = (byD L).put (.int .i64 (x.1 : Nat)) (.lit (.int .i64 (lastBy x.2))) := by unfold byD; rw [List.foldl_append]; rfl
theorem lastBy_snoc (t : List Nat) (n : Nat) : lastBy (t ++ [n]) = n := by unfold lastBy; simp
theorem byD_isMap (L : Trails) : IsMap (byD L) := by
  unfold byD
  have : ∀ (L : Trails) (D : DataW Unit), IsMap D → IsMap (L.foldl (fun D x => D.put (.int .i64 (x.1 : Nat)) (.lit (.int .i64 (lastBy x.2)))) D) := by
    intro L
    induction L with
    | nil => intro D h; exact h
    | cons x r ih => intro D h; exact ih _ (h.put _ _)
  exact this L _ isMap_empty
theorem lit_ne {a b : Nat} (h : a ≠ b) : (Lit.int .i64 (a : Int)) ≠ Lit.int .i64 (b : Int) := fun e => h (by injection e with _ e; omega)
/-- A property of a list by its last. -/
theorem snoc_ind {α : Type} {p : List α → Prop} (h0 : p []) (h1 : ∀ l x, p l → p (l ++ [x])) (l : List α) : p l := by
  have : ∀ (m : List α), p m.reverse := by
    intro m
    induction m with
    | nil => exact h0
    | cons x r ih => rw [List.reverse_cons]; exact h1 _ x ih
  have := this l.reverse
  rwa [List.reverse_reverse] at this
theorem byD_has (L : Trails) (v : Nat) : has (byD L) (.int .i64 (v : Nat)) = decide (v ∈ L.map Prod.fst) := by
  induction L using snoc_ind with
  | h0 => simp [byD, has]
  | h1 L x ih =>
    rw [byD_snoc]
    by_cases e : x.1 = v
    · subst e; rw [has_put_same (k := Lit.int .i64 (x.1 : Nat)) (byD_isMap L) trivial]; simp
    · rw [has_put_other (lit_ne (fun h => e h.symm)), ih]
      rw [Bool.eq_iff_iff]; simp; omega
theorem byD_at (L : Trails) (h : (L.map Prod.fst).Nodup) : ∀ x ∈ L, ∀ z, (byD L).atKey (.int .i64 (x.1 : Nat)) z = .lit (.int .i64 (lastBy x.2)) := by
  induction L using snoc_ind with
  | h0 => intro x hx; simp at hx
  | h1 L y ih =>
    intro x hx z
    rw [List.map_append, List.nodup_append] at h
    rw [byD_snoc]
    rcases List.mem_append.1 hx with hx | hx
    · have hne : x.1 ≠ y.1 := h.2.2 x.1 (List.mem_map.2 ⟨x, hx, rfl⟩) y.1 (by simp)
      rw [atKey_put_other (lit_ne hne)]
      exact ih h.1 x hx z
    · simp at hx; subst hx
      exact atKey_put_same (k := Lit.int .i64 (x.1 : Nat)) (byD_isMap L) trivial _ _
end Go.Proofs.Ythhkpgnjpieckaa
