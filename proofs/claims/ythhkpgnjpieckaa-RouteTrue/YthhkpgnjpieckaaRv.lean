/- route.Queues: what it has in hand. -/
import Derived.Test.YthhkpgnjpieckaaRu
namespace Go.Proofs.Ythhkpgnjpieckaa
set_option linter.unusedVariables false
set_option maxRecDepth 100000
open Go.RowKit Go.Maps

/-- The queues of some binds, one behind the other. -/
def qL (p : PlanD) (J : List Nat) : List Int := (J.filter (fun n => !(bAt p n).toPost)).map (fun n => (bAt p n).dst)
theorem qL_snoc_q {p : PlanD} {J : List Nat} {n : Nat} (h : (bAt p n).toPost = false) : qL p (J ++ [n]) = qL p J ++ [(bAt p n).dst] := by unfold qL; rw [List.filter_append]; simp [h]
theorem qL_snoc_p {p : PlanD} {J : List Nat} {n : Nat} (h : (bAt p n).toPost = true) : qL p (J ++ [n]) = qL p J := by unfold qL; rw [List.filter_append]; simp [h]
theorem qL_len (p : PlanD) (J : List Nat) : (qL p J).length ≤ J.length := by unfold qL; rw [List.length_map]; exact List.length_filter_le _ _
/-- The binds of some posts. -/
def bindsOf (p : PlanD) (key : ByteArray) (L : Trails) : List Nat := L.flatMap (fun x => fitIdx p key (x.1 : Nat))
theorem fitIdx_mem {p : PlanD} {key : ByteArray} {v : Int} {n : Nat} : n ∈ fitIdx p key v ↔ n < p.binds.length ∧ (bAt p n).src = v ∧ fitP p n key = true := by
  unfold fitIdx fitTo goesB; simp
theorem bindsOf_mem {p : PlanD} {key : ByteArray} {L : Trails} {n : Nat} : n ∈ bindsOf p key L ↔ ∃ x ∈ L, n < p.binds.length ∧ (bAt p n).src = (x.1 : Nat) ∧ fitP p n key = true := by
  unfold bindsOf; simp [fitIdx_mem]
theorem bindsOf_nodup {p : PlanD} {key : ByteArray} : ∀ {L : Trails}, (L.map Prod.fst).Nodup → (bindsOf p key L).Nodup
  | [], _ => by simp [bindsOf]
  | x :: r, h => by
    rw [List.map_cons, List.nodup_cons] at h
    have e : bindsOf p key (x :: r) = fitIdx p key (x.1 : Nat) ++ bindsOf p key r := by simp [bindsOf]
    rw [e, List.nodup_append]
    refine ⟨?_, bindsOf_nodup h.2, fun a ha b hb hab => ?_⟩
    · unfold fitIdx fitTo; exact List.Pairwise.filter _ List.nodup_range
    · subst hab
      obtain ⟨_, h1, _⟩ := fitIdx_mem.1 ha
      obtain ⟨y, hy, _, h2, _⟩ := bindsOf_mem.1 hb
      exact h.1 (List.mem_map.2 ⟨y, hy, by omega⟩)
theorem bindsOf_len {p : PlanD} {key : ByteArray} {L : Trails} (h : (L.map Prod.fst).Nodup) : (bindsOf p key L).length ≤ p.binds.length :=
  nodup_le _ _ (bindsOf_nodup h) (fun n hn => by obtain ⟨_, _, h1, _⟩ := bindsOf_mem.1 hn; exact h1)
theorem bindsOf_take {p : PlanD} {key : ByteArray} {L : Trails} {i : Nat} (h : i < L.length) : bindsOf p key (L.take (i + 1)) = bindsOf p key (L.take i) ++ fitIdx p key (L[i].1 : Nat) := by
  unfold bindsOf; rw [List.take_succ_eq_append_getElem h, List.flatMap_append]; simp

/-- The queues to which the key comes, rising. -/
structure QueuesIs (p : PlanD) (key : ByteArray) (v : Nat) (zs : List Int) : Prop where
  rise : zs.Pairwise (· < ·)
  mem : ∀ z, z ∈ zs ↔ ∃ n, n < p.binds.length ∧ fitP p n key = true ∧ (bAt p n).toPost = false ∧ (bAt p n).dst = z ∧ ∃ s, Path (arcOf p key) v s (bAt p n).src.toNat
theorem QueuesIs.uniq {p : PlanD} {key : ByteArray} {v : Nat} {xs ys : List Int} (hx : QueuesIs p key v xs) (hy : QueuesIs p key v ys) : xs = ys :=
  rise_uniq hx.rise hy.rise (fun z => by rw [hx.mem, hy.mem])
theorem queues_of {p : PlanD} {key : ByteArray} (hr : RightP p) {v : Nat} {L : Trails} {i : Nat} (h : Reached (arcOf p key) p.binds.length v L i) (hi : ¬ i < L.length) {ys : List Int} (hs : ys.Pairwise (· < ·)) (hm : ∀ z, z ∈ ys ↔ z ∈ qL p (bindsOf p key L)) : QueuesIs p key v ys := by
  have hf := h.found arc_lt hi
  refine ⟨hs, fun z => ?_⟩
  rw [hm]
  unfold qL
  simp only [List.mem_map, List.mem_filter, bindsOf_mem, Bool.not_eq_true']
  constructor
  · rintro ⟨n, ⟨⟨x, hx, h1, h2, h3⟩, h4⟩, h5⟩
    refine ⟨n, h1, h3, h4, h5, hf.mem.1 ?_⟩
    rw [h2, Int.toNat_natCast]; exact List.mem_map.2 ⟨x, hx, rfl⟩
  · rintro ⟨n, h1, h3, h4, h5, h6⟩
    obtain ⟨x, hx, h7⟩ := List.mem_map.1 (hf.mem.2 h6)
    have hs : 0 ≤ (bAt p n).src := by rw [bAt_get h1]; exact (hr.src _ (List.getElem_mem h1)).1
    exact ⟨n, ⟨⟨x, hx, h1, by omega, h3⟩, h4⟩, h5⟩

/-- A row in a box, all else of w4 as it was. -/
structure QSt (w4 : World) (b2 : Nat) (u : Value) (l : List Int) (Ds : List Nat) (W : World) : Prop where
  keep : Turn (fun k => k = b2) w4 W
  lbox : Boxed W b2 45 u
  row : W.ownsRow w4.heap.size 3 1 u l.length (l.map (Value.int .i64))
  marks : Marks w4.heap.size Ds W
theorem QSt.rowAt {w4 : World} {b2 : Nat} {u : Value} {l : List Int} {Ds : List Nat} {W : World} (h : QSt w4 b2 u l Ds W) {g : Nat} (hg : u.ownBlock = some g) : w4.heap.size ≤ g ∧ (∃ cur, W.heap[g]? = some (.cells cur 3 (0, 0))) := by
  rcases h.row.2 with ⟨rfl, _⟩ | ⟨g', cap, cur, rfl, h2, h3, _⟩
  · simp [Value.ownBlock] at hg
  · simp only [Value.ownBlock, Option.some.injEq] at hg; subst hg; exact ⟨h2, cur, h3⟩
theorem QSt.row_ne {w4 : World} {b2 : Nat} {u : Value} {l : List Int} {Ds : List Nat} {W : World} (h : QSt w4 b2 u l Ds W) {g : Nat} (hg : u.ownBlock = some g) : g ≠ b2 ∧ g ∉ Ds := by
  obtain ⟨h1, cur, h2⟩ := h.rowAt hg
  refine ⟨fun e => ?_, fun e => ?_⟩
  · have := h.lbox; unfold Boxed at this; rw [← e, h2] at this; simp at this
  · have := (h.marks.there g e).2; rw [h2] at this; simp at this
theorem QSt.mark_ne {w4 : World} {b2 : Nat} {u : Value} {l : List Int} {Ds : List Nat} {W : World} (h : QSt w4 b2 u l Ds W) {D : Nat} (hD : D ∈ Ds) : D ≠ b2 := fun e => by
  have h2 := (h.marks.there D hD).2
  have := h.lbox; unfold Boxed at this; rw [← e, h2] at this; simp at this
theorem QSt.turn {w4 : World} {b2 : Nat} {u : Value} {l : List Int} {Ds : List Nat} {W W' : World} {X : Nat → Prop} (h : QSt w4 b2 u l Ds W) (t : Turn X W W') (hx : ∀ k, k < w4.heap.size → ¬ X k) (h2 : ¬ X b2)
    (hg : ∀ g, u.ownBlock = some g → ¬ X g) (hD : ∀ D ∈ Ds, ¬ X D) : QSt w4 b2 u l Ds W' :=
  ⟨h.keep.trans t (fun i hi e => absurd e (hx i hi)), t.boxed h.lbox h2, t.row h.row hg, h.marks.turn t hD⟩
theorem QSt.below {w4 : World} {b2 : Nat} {u : Value} {l : List Int} {Ds : List Nat} {W W' : World} (h : QSt w4 b2 u l Ds W) (hB : Below W.heap.size W W') : QSt w4 b2 u l Ds W' :=
  h.turn (X := fun _ => False) (Turn.of_below _ hB) (fun _ _ => id) id (fun _ _ => id) (fun _ _ => id)
theorem QSt.other {w4 : World} {b2 : Nat} {u : Value} {l : List Int} {Ds : List Nat} {W W' : World} {row : Option Nat} {S : Nat} (h : QSt w4 b2 u l Ds W) (hg : W.grownBy W' row) (hr : ∀ r, row = some r → S ≤ r ∧ ∃ o : Obj, W.heap[r]? = some o ∧ o.isCells = false)
    (hS : w4.heap.size ≤ S) (hb : b2 < S) (hDs : ∀ D ∈ Ds, D < S) : QSt w4 b2 u l Ds W' := by
  refine h.turn (X := fun k => row = some k) (Turn.of_grown hg (fun r e => e)) (fun k hk e => by have := (hr k e).1; omega) (fun e => by have := (hr _ e).1; omega) (fun g hg' e => ?_) (fun D hD e => by have := (hr _ e).1; have := hDs D hD; omega)
  obtain ⟨_, cur, h2⟩ := h.rowAt hg'
  obtain ⟨_, o, h3, h4⟩ := hr g e
  rw [h2] at h3; cases h3; cases h4
theorem QSt.push {w4 : World} {b2 : Nat} {u u' : Value} {l : List Int} {Ds : List Nat} {W Wc : World} {z : Int} {tmp : Obj} (h : QSt w4 b2 u l Ds W) (hb : b2 < w4.heap.size)
    (hc : (W.alloc tmp).grownBy Wc u.ownBlock) (hr : Wc.ownsRow w4.heap.size 3 1 u' (l.length + 1) (l.map (Value.int .i64) ++ [.int .i64 z])) :
    Boxed Wc b2 45 u ∧ QSt w4 b2 u' (l ++ [z]) Ds (Wc.setCell ⟨b2, 0, none⟩ u') ∧ Turn (fun k => k = b2 ∨ u.ownBlock = some k) W (Wc.setCell ⟨b2, 0, none⟩ u') := by
  have t2 : Turn (fun _ => False) W (W.alloc tmp) := Turn.of_grown (World.grownBy_alloc W tmp none) (fun r e => by cases e)
  have t3 : Turn (fun k => u.ownBlock = some k) (W.alloc tmp) Wc := Turn.of_grown hc (fun r e => e)
  have t4 : Turn (fun k => k = b2) Wc (Wc.setCell ⟨b2, 0, none⟩ u') := Turn.of_grown (grownBy_setCell' Wc _ u') (fun r e => by cases e; rfl)
  have t23 : Turn (fun k => u.ownBlock = some k) W Wc := (t2.mono (fun _ _ e => e.elim)).trans t3 (fun _ _ e => e)
  have t : Turn (fun k => k = b2 ∨ u.ownBlock = some k) W (Wc.setCell ⟨b2, 0, none⟩ u') := (t23.mono (fun _ _ e => .inr e)).trans t4 (fun _ _ e => .inl e)
  have hlb : Boxed Wc b2 45 u := t23.boxed h.lbox (fun e => (h.row_ne e).1 rfl)
  have hu' : ∀ g, u'.ownBlock = some g → g ≠ b2 := fun g hg e => by have := (hr.lt g hg).1; omega
  refine ⟨hlb, ⟨h.keep.trans t (fun i hi e => ?_), hlb.set u', ?_, h.marks.turn t (fun D hD e => ?_)⟩, t⟩
  · rcases e with e | e
    · exact e
    · have := (h.rowAt e).1; omega
  · have := t4.row hr (fun g hg => hu' g hg)
    simpa using this
  · rcases e with e | e
    · exact h.mark_ne hD e
    · exact (h.row_ne e).2 hD
theorem QSt.keepF {w4 : World} {n0 b2 B : Nat} {u : Value} {l : List Int} {Ds : List Nat} {W W' : World} (h : QSt w4 b2 u l Ds W) (t : Turn (fun k => k = b2 ∨ u.ownBlock = some k) W W')
    (hn : n0 ≤ b2) (hw : n0 ≤ w4.heap.size) (hb : b2 < w4.heap.size) (hB : w4.heap.size ≤ B) (hW : B + 3 ≤ W.heap.size) (hg : ∀ g, u.ownBlock = some g → g < B ∨ B + 3 ≤ g) : KeepF n0 B W W' := by
  refine ⟨t.below (by omega) (fun k e => ?_), fun j hj => t.block _ (by omega) (fun e => ?_)⟩
  · rcases e with rfl | e
    · exact hn
    · have := (h.rowAt e).1; omega
  · rcases e with e | e
    · omega
    · have := hg _ e; omega
theorem QSt.keepsFrom {w4 : World} {b2 S : Nat} {u : Value} {l : List Int} {Ds : List Nat} {W W' : World} (h : QSt w4 b2 u l Ds W) (t : Turn (fun k => k = b2 ∨ u.ownBlock = some k) W W') (hS : b2 < S) : KeepsFrom S W W' := by
  refine ⟨t.size, fun k o hk ho hc => (t.block k (Array.getElem?_eq_some_iff.1 ho).1 (fun e => ?_)).trans ho⟩
  rcases e with e | e
  · omega
  · obtain ⟨_, cur, h2⟩ := h.rowAt e
    rw [h2] at ho; cases ho; cases hc
end Go.Proofs.Ythhkpgnjpieckaa
