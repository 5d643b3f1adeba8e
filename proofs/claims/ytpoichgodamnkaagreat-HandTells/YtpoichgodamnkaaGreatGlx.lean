import Derived.Stop.RegionWithIn
import Derived.Sort.QuietIn
import Derived.Test.YtpoichgodamnkaaGreatGkx
import Derived.RegionTactic
import Derived.Deep.QuietTactic
import Derived.BigQuiet
import Derived.Lib.SliceRun
namespace Go.Proofs.YtpoichgodamnkaaGreat
open Go.RowKit Go.Shelf Go.Maps
set_option linter.unusedVariables false
set_option maxRecDepth 100000
set_option maxHeartbeats 2000000
attribute [local go_sem] Oper.semAt_some
def arcOf (p : PlanD) (key : ByteArray) (n : Nat) : Option (Nat × Nat) := if n < p.binds.length ∧ fitP p n key = true ∧ (bAt p n).toPost = true then some ((bAt p n).src.toNat, (bAt p n).dst.toNat) else none
theorem arc_lt {p : PlanD} {key : ByteArray} : ∀ m q, arcOf p key m = some q → m < p.binds.length := by
  intro m q h; unfold arcOf at h; split at h
  · rename_i h1; exact h1.1
  · cases h
def cstep (p : PlanD) (t : List Nat) (L : Trails) (n : Nat) : Trails := if (bAt p n).toPost = true ∧ (bAt p n).dst.toNat ∉ L.map Prod.fst then L ++ [((bAt p n).dst.toNat, t ++ [n])] else L
theorem fold_round {p : PlanD} {key : ByteArray} (hr : RightP p) (u : Nat) (t : List Nat) (L : Trails) : (fitIdx p key (u : Int)).foldl (cstep p t) L = tround (arcOf p key) p.binds.length (u, t) L := by
  unfold fitIdx fitTo tround
  rw [List.foldl_filter]
  have : ∀ (l : List Nat) (L : Trails), (∀ n ∈ l, n < p.binds.length) → l.foldl (fun x y => if goesB p key (u : Int) y = true then cstep p t x y else x) L = l.foldl (tstep (arcOf p key) u t) L := by
    intro l
    induction l with
    | nil => intro L _; rfl
    | cons n r ih =>
      intro L hl
      rw [List.foldl_cons, List.foldl_cons]
      have hn : n < p.binds.length := hl n (by simp)
      have e : (if goesB p key (u : Int) n = true then cstep p t L n else L) = tstep (arcOf p key) u t L n := by
        have hs : 0 ≤ (bAt p n).src := by rw [bAt_get hn]; exact (hr.src _ (List.getElem_mem hn)).1
        have h3' : (bAt p n).src.toNat = u ↔ (bAt p n).src = (u : Int) := by omega
        unfold tstep
        by_cases h1 : fitP p n key = true ∧ (bAt p n).toPost = true
        · have ea : arcOf p key n = some ((bAt p n).src.toNat, (bAt p n).dst.toNat) := by unfold arcOf; rw [if_pos ⟨hn, h1⟩]
          rw [ea]
          dsimp only
          by_cases h3 : (bAt p n).src = (u : Int)
          · rw [if_pos (by unfold goesB; simp [h3, h1.1])]
            unfold cstep
            by_cases hm : (bAt p n).dst.toNat ∈ L.map Prod.fst
            · rw [if_neg (fun h => h.2 hm), if_neg (fun h => h.2 hm)]
            · rw [if_pos ⟨h1.2, hm⟩, if_pos ⟨h3'.2 h3, hm⟩]
          · rw [if_neg (by unfold goesB; simp [h3]), if_neg (fun h => h3 (h3'.1 h.1))]
        · have ea : arcOf p key n = none := by unfold arcOf; rw [if_neg (fun h => h1 h.2)]
          rw [ea]
          dsimp only
          by_cases hg : goesB p key (u : Int) n = true
          · rw [if_pos hg]
            have hf : fitP p n key = true := by unfold goesB at hg; simp at hg; exact hg.2
            unfold cstep
            rw [if_neg (fun h => h1 ⟨hf, h.1⟩)]
          · rw [if_neg hg]
      rw [e]
      exact ih _ (fun m hm => hl m (by simp [hm]))
  exact this _ L (fun n hn => by simpa using hn)
theorem Tryz.infoInt : (Tryz.prog.info? 3).map (fun i => (i.zero, i.size, i.bytes)) = some (some (.int .i64 0), 1, 8) := by kernel_rfl
theorem zero3 (w : World) : (zeroValue 3).run Tryz.prog w = .ok (.int .i64 0) w := by kernel_rfl
theorem tp_lt {p : PlanD} {y : Nat} (h : (bAt p y).toPost = true) : y < p.binds.length := by
  by_cases hx : y < p.binds.length
  · exact hx
  · have : bAt p y = ⟨0, false, 0, ⟨#[]⟩⟩ := by unfold bAt; simp [List.getD, List.getElem?_eq_none (Nat.not_lt.1 hx)]
    rw [this] at h; cases h
theorem key3 : Keyed Tryz.prog 3 := int_keyed Tryz.underlying3
theorem addr_add2 (g o j : Nat) : (⟨g, o, none⟩ : Addr).add j = ⟨g, o + j, none⟩ := by unfold Addr.add; split <;> simp_all
def calmly (Q : Exit → Act → World → Prop) : Exit → Act → World → Prop
  | .panic _, _, _ => False
  | e, a, w => Q e a w
theorem calmly_out {Q : Exit → Act → World → Prop} : ∀ e a w, calmly Q e a w → Q e a w := fun e a w h => by cases e <;> first | exact h | exact h.elim
theorem own_base' {W : World} {base base' : Nat} {e : TypeId} {size : Nat} {v : Value} {n : Nat} {xs : List Value} (h : W.ownsRow base e size v n xs) (hb : base' ≤ base) : W.ownsRow base' e size v n xs := by
  refine ⟨h.1, ?_⟩
  rcases h.2 with h | ⟨g, cap, cur, h1, h2, h3⟩
  · exact .inl h
  · exact .inr ⟨g, cap, cur, h1, Nat.le_trans hb h2, h3⟩
abbrev ints (L : Trails) : List Value := L.map (fun x => .int .i64 (x.1 : Nat))
structure RSt (w : World) (pv : Array Value) (b4 : Nat) (u : Value) (L : Trails) (Ds : List Nat) (W : World) : Prop where
  below : Below w.heap.size w W
  pbox : W.heap[w.heap.size]? = some (.cells pv 26 (0, 0))
  lbox : Boxed W (w.heap.size + 1 + 1) 48 u
  row : W.ownsRow (w.heap.size + 1) 3 1 u L.length (ints L)
  map : W.ownsMap Tryz.prog 3 (plainElem Tryz.prog 3) (w.heap.size + 1 + 1 + 1) L.length (byD L)
  mbox : Boxed W b4 115 (.map (some (w.heap.size + 1 + 1 + 1)))
  b4 : w.heap.size + 1 + 1 + 1 < b4
  marks : Marks (w.heap.size + 1) Ds W
theorem RSt.mapAt {w : World} {pv : Array Value} {b4 : Nat} {u : Value} {L : Trails} {Ds : List Nat} {W : World} (h : RSt w pv b4 u L Ds W) : ∃ es cl, W.heap[w.heap.size + 1 + 1 + 1]? = some (.map es cl) := by
  obtain ⟨es, cl, h1, _⟩ := h.map; exact ⟨es, cl, h1⟩
theorem RSt.rowAt {w : World} {pv : Array Value} {b4 : Nat} {u : Value} {L : Trails} {Ds : List Nat} {W : World} (h : RSt w pv b4 u L Ds W) {g : Nat} (hg : u.ownBlock = some g) : w.heap.size + 1 ≤ g ∧ (∃ cur, W.heap[g]? = some (.cells cur 3 (0, 0))) := by
  rcases h.row.2 with ⟨rfl, _⟩ | ⟨g', cap, cur, rfl, h2, h3, _⟩
  · simp [Value.ownBlock] at hg
  · simp only [Value.ownBlock, Option.some.injEq] at hg; subst hg; exact ⟨h2, cur, h3⟩
theorem RSt.row_ne {w : World} {pv : Array Value} {b4 : Nat} {u : Value} {L : Trails} {Ds : List Nat} {W : World} (h : RSt w pv b4 u L Ds W) {g : Nat} (hg : u.ownBlock = some g) : g ≠ w.heap.size ∧ g ≠ w.heap.size + 1 + 1 ∧ g ≠ w.heap.size + 1 + 1 + 1 ∧ g ≠ b4 ∧ g ∉ Ds := by
  obtain ⟨h1, cur, h2⟩ := h.rowAt hg
  refine ⟨by omega, fun e => ?_, fun e => ?_, fun e => ?_, fun e => ?_⟩
  · have := h.lbox; unfold Boxed at this; rw [← e, h2] at this; simp at this
  · obtain ⟨es, cl, h3⟩ := h.mapAt; rw [← e, h2] at h3; simp at h3
  · have := h.mbox; unfold Boxed at this; rw [← e, h2] at this; simp at this
  · have := (h.marks.there g e).2; rw [h2] at this; simp at this
theorem RSt.mark_ne {w : World} {pv : Array Value} {b4 : Nat} {u : Value} {L : Trails} {Ds : List Nat} {W : World} (h : RSt w pv b4 u L Ds W) {D : Nat} (hD : D ∈ Ds) : D ≠ w.heap.size ∧ D ≠ w.heap.size + 1 + 1 ∧ D ≠ w.heap.size + 1 + 1 + 1 ∧ D ≠ b4 := by
  obtain ⟨h1, h2⟩ := h.marks.there D hD
  refine ⟨by omega, fun e => ?_, fun e => ?_, fun e => ?_⟩
  · have := h.lbox; unfold Boxed at this; rw [← e, h2] at this; simp at this
  · obtain ⟨es, cl, h3⟩ := h.mapAt; rw [← e, h2] at h3; simp at h3
  · have := h.mbox; unfold Boxed at this; rw [← e, h2] at this; simp at this
theorem RSt.turn {w : World} {pv : Array Value} {b4 : Nat} {u : Value} {L : Trails} {Ds : List Nat} {W W' : World} {X : Nat → Prop} (h : RSt w pv b4 u L Ds W) (t : Turn X W W') (hx : ∀ k, X k → w.heap.size ≤ k)
    (h0 : ¬ X w.heap.size) (h2 : ¬ X (w.heap.size + 1 + 1)) (h3 : ¬ X (w.heap.size + 1 + 1 + 1)) (h4 : ¬ X b4) (hg : ∀ g, u.ownBlock = some g → ¬ X g) (hD : ∀ D ∈ Ds, ¬ X D) : RSt w pv b4 u L Ds W' :=
  ⟨h.below.trans (t.below h.below.size hx), (t.block _ (Array.getElem?_eq_some_iff.1 h.pbox).1 h0).trans h.pbox, t.boxed h.lbox h2, t.row h.row hg, t.map h.map h3, t.boxed h.mbox h4, h.b4, h.marks.turn t hD⟩
theorem RSt.keep {w : World} {pv : Array Value} {b4 : Nat} {u : Value} {L : Trails} {Ds : List Nat} {W W' : World} (h : RSt w pv b4 u L Ds W) (hB : Below W.heap.size W W') : RSt w pv b4 u L Ds W' :=
  h.turn (X := fun _ => False) (Turn.of_below _ hB) (fun _ e => e.elim) id id id id (fun _ _ => id) (fun _ _ => id)
theorem RSt.other {w : World} {pv : Array Value} {b4 : Nat} {u : Value} {L : Trails} {Ds : List Nat} {W W' : World} {row : Option Nat} {S : Nat} (h : RSt w pv b4 u L Ds W) (hg : W.grownBy W' row) (hr : ∀ r, row = some r → S ≤ r ∧ ∃ o : Obj, W.heap[r]? = some o ∧ o.isCells = false)
    (hS : b4 < S) (hDs : ∀ D ∈ Ds, D < S) : RSt w pv b4 u L Ds W' := by
  have hb4 := h.b4
  refine h.turn (X := fun k => row = some k) (Turn.of_grown hg (fun r e => e)) (fun k e => by have := (hr k e).1; omega) (fun e => by have := (hr _ e).1; omega) (fun e => by have := (hr _ e).1; omega) (fun e => by have := (hr _ e).1; omega) (fun e => by have := (hr _ e).1; omega) (fun g hg' e => ?_) (fun D hD e => by have := (hr _ e).1; have := hDs D hD; omega)
  obtain ⟨_, cur, h2⟩ := h.rowAt hg'
  obtain ⟨_, o, h3, h4⟩ := hr g e
  rw [h2] at h3; cases h3; cases h4
theorem RSt.push {w : World} {pv : Array Value} {b4 : Nat} {u u' : Value} {L : Trails} {Ds : List Nat} {W Wa Wc : World} {x : Nat × List Nat} {tmp : Obj} (h : RSt w pv b4 u L Ds W)
    (ha : W.grownBy Wa (some (w.heap.size + 1 + 1 + 1))) (hm : Wa.ownsMap Tryz.prog 3 (plainElem Tryz.prog 3) (w.heap.size + 1 + 1 + 1) (L.length + 1) (byD (L ++ [x])))
    (hc : (Wa.alloc tmp).grownBy Wc u.ownBlock) (hr : Wc.ownsRow (w.heap.size + 1) 3 1 u' (L.length + 1) (ints L ++ [.int .i64 (x.1 : Nat)])) (hl : u'.ownBlock = u.ownBlock ∨ u'.ownBlock = some (Wa.alloc tmp).heap.size) :
    Boxed Wc (w.heap.size + 1 + 1) 48 u ∧ RSt w pv b4 u' (L ++ [x]) Ds (Wc.setCell ⟨w.heap.size + 1 + 1, 0, none⟩ u') ∧ Turn (fun k => k = w.heap.size + 1 + 1 ∨ k = w.heap.size + 1 + 1 + 1 ∨ u.ownBlock = some k) W (Wc.setCell ⟨w.heap.size + 1 + 1, 0, none⟩ u') := by
  have hb4 := h.b4
  have t1 : Turn (fun k => k = w.heap.size + 1 + 1 + 1) W Wa := Turn.of_grown ha (fun r e => by cases e; rfl)
  have t2 : Turn (fun _ => False) Wa (Wa.alloc tmp) := Turn.of_grown (World.grownBy_alloc Wa tmp none) (fun r e => by cases e)
  have t3 : Turn (fun k => u.ownBlock = some k) (Wa.alloc tmp) Wc := Turn.of_grown hc (fun r e => e)
  have t4 : Turn (fun k => k = w.heap.size + 1 + 1) Wc (Wc.setCell ⟨w.heap.size + 1 + 1, 0, none⟩ u') := Turn.of_grown (grownBy_setCell' Wc _ u') (fun r e => by cases e; rfl)
  have t12 : Turn (fun k => k = w.heap.size + 1 + 1 + 1) W (Wa.alloc tmp) := t1.trans t2 (fun _ _ e => e.elim)
  have t13 : Turn (fun k => k = w.heap.size + 1 + 1 + 1 ∨ u.ownBlock = some k) W Wc := (t12.mono (fun _ _ e => .inl e)).trans t3 (fun _ _ e => .inr e)
  have t14 : Turn (fun k => k = w.heap.size + 1 + 1 ∨ k = w.heap.size + 1 + 1 + 1 ∨ u.ownBlock = some k) W (Wc.setCell ⟨w.heap.size + 1 + 1, 0, none⟩ u') := (t13.mono (fun _ _ e => .inr e)).trans t4 (fun _ _ e => .inl e)
  have hlb : Boxed Wc (w.heap.size + 1 + 1) 48 u := t13.boxed h.lbox (fun e => by
    rcases e with e | e
    · omega
    · exact (h.row_ne e).2.1 rfl)
  have hsz : W.heap.size ≤ (Wa.alloc tmp).heap.size := t12.size
  have hlW : w.heap.size + 1 + 1 < W.heap.size := h.lbox.lt
  have hu' : ∀ g, u'.ownBlock = some g → g ≠ w.heap.size + 1 + 1 := fun g hg e => by
    rcases hl with h1 | h1
    · rw [h1] at hg; exact (h.row_ne hg).2.1 e
    · rw [h1] at hg; simp only [Option.some.injEq] at hg; omega
  refine ⟨hlb, ⟨h.below.trans (t14.below h.below.size (fun k e => ?_)), ?_, ?_, ?_, ?_, ?_, h.b4, ?_⟩, t14⟩
  · rcases e with rfl | rfl | e
    · omega
    · omega
    · have := (h.rowAt e).1; omega
  · refine (t14.block _ (by omega) (fun e => ?_)).trans h.pbox
    rcases e with e | e | e
    · omega
    · omega
    · exact (h.row_ne e).1 rfl
  · exact hlb.set u'
  · have := t4.row hr (fun g hg => hu' g hg)
    simpa [ints] using this
  · have h3 : Wc.ownsMap Tryz.prog 3 (plainElem Tryz.prog 3) (w.heap.size + 1 + 1 + 1) (L.length + 1) (byD (L ++ [x])) := t3.map (t2.map hm id) (fun e => (h.row_ne e).2.2.1 rfl)
    have := t4.map h3 (by omega)
    simpa using this
  · refine t14.boxed h.mbox (fun e => ?_)
    rcases e with e | e | e
    · omega
    · omega
    · exact (h.row_ne e).2.2.2.1 rfl
  · refine h.marks.turn t14 (fun D hD e => ?_)
    rcases e with e | e | e
    · exact (h.mark_ne hD).2.1 e
    · exact (h.mark_ne hD).2.2.1 e
    · exact (h.row_ne e).2.2.2.2 hD
theorem reached_in {p : PlanD} {key : ByteArray} (hr : RightP p) {v : Nat} (hv : v < p.posts.length) {L : Trails} {i : Nat} (h : Reached (arcOf p key) p.binds.length v L i) : (∀ x ∈ L, x.1 < p.posts.length) ∧ L.length ≤ p.posts.length ∧ i ≤ L.length := by
  have hc := h.came arc_lt
  have hm : ∀ x ∈ L, x.1 < p.posts.length := by
    intro x hx
    rcases (hc.1.path x hx).inv with ⟨_, e⟩ | ⟨s, u, n, _, _, e⟩
    · omega
    · unfold arcOf at e
      split at e
      · rename_i h1
        simp at e
        have hd := hr.dst _ (List.getElem_mem h1.1)
        rw [← bAt_get h1.1, h1.2.2] at hd
        simp only [if_true] at hd
        omega
      · cases e
  exact ⟨hm, by have := nodup_le p.posts.length (L.map Prod.fst) hc.1.once (fun y hy => by obtain ⟨x, hx, rfl⟩ := List.mem_map.1 hy; exact hm x hx); simpa using this, hc.2⟩
theorem reach_begin (w W4 W5 : World) (pv : Array Value) (v : Nat) (hW4 : W4 = (((w.alloc (.cells pv 26)).alloc (.cells #[.int .i64 (v : Nat)] 3)).alloc (.cells #[.slice (some ⟨w.heap.size + 1, 0, none⟩) 1 1] 48)).alloc (.map #[] 0))
    (hown : W5.ownsMap Tryz.prog 3 (plainElem Tryz.prog 3) (w.heap.size + 1 + 1 + 1) 1 (byD [(v, [])])) (hg : W4.grownBy W5 (some (w.heap.size + 1 + 1 + 1))) :
    RSt w pv W5.heap.size (.slice (some ⟨w.heap.size + 1, 0, none⟩) 1 1) [(v, [])] [] (W5.alloc (.cells #[.map (some (w.heap.size + 1 + 1 + 1))] 115)) := by
  have hs : W4.heap.size = w.heap.size + 1 + 1 + 1 + 1 := by rw [hW4]; simp
  have q0 : W4.heap[w.heap.size]? = some (.cells pv 26 (0, 0)) := by
    rw [hW4, Below.heap_alloc _ _ _ (by simp; omega), Below.heap_alloc _ _ _ (by simp; omega), Below.heap_alloc _ _ _ (by simp)]; exact World.alloc_heap_new w _
  have q1 : W4.heap[w.heap.size + 1]? = some (.cells #[.int .i64 (v : Nat)] 3 (0, 0)) := by
    rw [hW4, Below.heap_alloc _ _ _ (by simp), Below.heap_alloc _ _ _ (by simp)]
    have := World.alloc_heap_new (w.alloc (.cells pv 26)) (.cells #[.int .i64 (v : Nat)] 3)
    rw [World.size_alloc] at this; exact this
  have q2 : W4.heap[w.heap.size + 1 + 1]? = some (.cells #[.slice (some ⟨w.heap.size + 1, 0, none⟩) 1 1] 48 (0, 0)) := by
    rw [hW4, Below.heap_alloc _ _ _ (by simp)]
    have := World.alloc_heap_new ((w.alloc (.cells pv 26)).alloc (.cells #[.int .i64 (v : Nat)] 3)) (.cells #[.slice (some ⟨w.heap.size + 1, 0, none⟩) 1 1] 48)
    rw [World.size_alloc, World.size_alloc] at this; exact this
  have hB4 : Below w.heap.size w W4 := by
    rw [hW4]
    exact ((((Below.refl _ _).alloc (Nat.le_refl _) _).alloc (by simp) _).alloc (by simp; omega) _).alloc (by simp; omega) _
  have t5 : Turn (fun k => k = w.heap.size + 1 + 1 + 1) W4 W5 := Turn.of_grown hg (fun r e => by cases e; rfl)
  have t6 : Turn (fun _ => False) W5 (W5.alloc (.cells #[.map (some (w.heap.size + 1 + 1 + 1))] 115)) := Turn.of_grown (World.grownBy_alloc W5 _ none) (fun r e => by cases e)
  have t : Turn (fun k => k = w.heap.size + 1 + 1 + 1) W4 (W5.alloc (.cells #[.map (some (w.heap.size + 1 + 1 + 1))] 115)) := t5.trans t6 (fun _ _ e => e.elim)
  have s5 := t5.size
  refine ⟨hB4.trans (t.below (by omega) (fun k e => by omega)), (t.block _ (by omega) (by omega)).trans q0, (t.block _ (by omega) (by omega)).trans q2, ?_, t6.map hown id, Boxed.new W5 _ _, by omega, ⟨List.nodup_nil, fun D hD => by simp at hD⟩⟩
  refine ⟨rfl, .inr ⟨w.heap.size + 1, 1, #[.int .i64 (v : Nat)], rfl, Nat.le_refl _, (t.block _ (by omega) (by omega)).trans q1, Nat.le_refl _, by unfold maxLen; omega, rfl, rfl⟩⟩
theorem wf_nat {n : Nat} (h : n ≤ 9223372036854775807) : (Lit.int .i64 (n : Int)).wf = true := by simp [Lit.wf, IntKind.min, IntKind.max, IntKind.bits, IntKind.signed]; omega
theorem dst_ok {p : PlanD} (hr : RightP p) (x : Nat) (h : (bAt p x).toPost = true) : 0 ≤ (bAt p x).dst ∧ (bAt p x).dst < p.posts.length := by
  by_cases hx : x < p.binds.length
  · have hd := hr.dst _ (List.getElem_mem hx)
    rw [← bAt_get hx, h] at hd
    simpa using hd
  · have : bAt p x = ⟨0, false, 0, ⟨#[]⟩⟩ := by unfold bAt; simp [List.getD, List.getElem?_eq_none (Nat.not_lt.1 hx)]
    rw [this] at h; cases h
theorem cstep_len (p : PlanD) (t : List Nat) : ∀ (pre : List Nat) (L : Trails), (pre.foldl (cstep p t) L).length ≤ L.length + pre.length
  | [], L => by simp
  | x :: r, L => by
    have := cstep_len p t r (cstep p t L x)
    have h2 : (cstep p t L x).length ≤ L.length + 1 := by unfold cstep; split <;> simp
    rw [List.foldl_cons]; simp only [List.length_cons]; omega
theorem fitIdx_len {p : PlanD} {key : ByteArray} {v : Int} (h : p.binds.length ≤ 10) : (fitIdx p key v).length ≤ 10 := by
  unfold fitIdx fitTo
  have := List.length_filter_le (goesB p key v) (List.range p.binds.length)
  simp at this; omega
theorem keepF_turn {w : World} {pv : Array Value} {b4 B : Nat} {u : Value} {L : Trails} {Ds : List Nat} {W W' : World} (h : RSt w pv b4 u L Ds W) (t : Turn (fun k => k = w.heap.size + 1 + 1 ∨ k = w.heap.size + 1 + 1 + 1 ∨ u.ownBlock = some k) W W')
    (hB : b4 < B) (hW : B + 3 ≤ W.heap.size) (hg : ∀ g, u.ownBlock = some g → g < B ∨ B + 3 ≤ g) : KeepF w.heap.size B W W' := by
  have hb4 := h.b4
  refine ⟨t.below h.below.size (fun k e => ?_), fun j hj => t.block _ (by omega) (fun e => ?_)⟩
  · rcases e with rfl | rfl | e
    · omega
    · omega
    · have := (h.rowAt e).1; omega
  · rcases e with e | e | e
    · omega
    · omega
    · have := hg _ e; omega
theorem keepsFrom_turn {w : World} {pv : Array Value} {b4 S : Nat} {u : Value} {L : Trails} {Ds : List Nat} {W W' : World} (h : RSt w pv b4 u L Ds W) (t : Turn (fun k => k = w.heap.size + 1 + 1 ∨ k = w.heap.size + 1 + 1 + 1 ∨ u.ownBlock = some k) W W')
    (hS : b4 < S) : KeepsFrom S W W' := by
  have hb4 := h.b4
  refine ⟨t.size, fun k o hk ho hc => (t.block k (Array.getElem?_eq_some_iff.1 ho).1 (fun e => ?_)).trans ho⟩
  rcases e with e | e | e
  · omega
  · omega
  · obtain ⟨_, cur, h2⟩ := h.rowAt e
    rw [h2] at ho; cases ho; cases hc
theorem reach_in (p : PlanD) (a1 a2 a3 : Option Addr) (n1 c1 n2 c2 n3 c3 : Nat) (v : Nat) (key : ByteArray) (w : World) (hc : chkP p = 0) (hk : kerr key.data.toList = 0) (hv : v < n1) (hp : PlanAt w a1 a2 a3 n1 n2 n3 p) :
    CallsIn Fence.wide 6 Tryz.prog 87 #[.agg #[.slice a1 n1 c1, .slice a2 n2 c2, .slice a3 n3 c3], .int .i64 (v : Nat), .string key] w fun e w' => ∃ u b L i, e = .returned (.tuple #[u, .map (some b)]) ∧ Reached (arcOf p key) p.binds.length v L i ∧ ¬ i < L.length ∧ w'.ownsRow w.heap.size 3 1 u L.length (ints L) ∧ w'.ownsMap Tryz.prog 3 (plainElem Tryz.prog 3) b L.length (byD L) ∧ w.heap.size ≤ b ∧ Below w.heap.size w w' := by
  have hr := chk_right hc
  have h4 : n1 ≤ 4 := by have := hr.few.1; rw [hp.l1] at this; exact this
  have HR : Hid (∀ {L : Trails} {i : Nat}, Reached (arcOf p key) p.binds.length v L i → (∀ x ∈ L, x.1 < n1) ∧ L.length ≤ n1 ∧ i ≤ L.length) := fun h => by
    have := reached_in hr (by rw [hp.l1]; exact hv) h; rw [hp.l1] at this; exact this
  have HRP : Hid (RightP p) := hr
  have HP : Hid (PlanAt w a1 a2 a3 n1 n2 n3 p) := hp
  have HCK : Hid (chkP p = 0 ∧ kerr key.data.toList = 0) := ⟨hc, hk⟩
  obtain ⟨W4, hW4⟩ : ∃ W4, W4 = (((w.alloc (.cells #[.slice a1 n1 c1, .slice a2 n2 c2, .slice a3 n3 c3] 26)).alloc (.cells #[.int .i64 (v : Nat)] 3)).alloc (.cells #[.slice (some ⟨w.heap.size + 1, 0, none⟩) 1 1] 48)).alloc (.map #[] 0) := ⟨_, rfl⟩
  have hmade : W4.ownsMap Tryz.prog 3 (plainElem (H := Unit) Tryz.prog 3) (w.heap.size + 1 + 1 + 1) 0 (.map []) := by
    have := World.ownsMap_made (H := Unit) ((((w.alloc (.cells #[.slice a1 n1 c1, .slice a2 n2 c2, .slice a3 n3 c3] 26)).alloc (.cells #[.int .i64 (v : Nat)] 3)).alloc (.cells #[.slice (some ⟨w.heap.size + 1, 0, none⟩) 1 1] 48))) Tryz.prog 3 (plainElem Tryz.prog 3)
    rw [hW4]; simpa using this
  obtain ⟨W5, hrun, hown5, hgrow5⟩ := hmade.update key3 Tryz.underlying115 (by unfold maxLen; omega) (keyOf_int_mk Tryz.underlying3 (wf_nat (n := v) (by omega))) (plainElem_int (a := -1) Tryz.underlying3 (by decide))
  have hst := reach_begin w W4 W5 _ v hW4 (by have e : byD [(v, [])] = (DataW.map []).put (.int .i64 (v : Nat)) (.lit (.int .i64 (-1))) := rfl
                                              rw [e]; exact hown5) hgrow5
  have HW4 : Hid (W4 = _) := hW4
  have HRUN := hidIt hrun
  have hmm := @run_makeMap Tryz.prog
  clear hW4 hmade hrun hown5 hgrow5 hp hc hk hr
  refine callsIn_of_wp_marks Tryz.func87 rfl trivial (Go.wpIn_mono ?_ calmly_out) rfl
  simp only [Tryz.ntmps87, List.size_toArray, List.length_cons, List.length_nil, Nat.reduceAdd, Nat.reduceSub, Array.replicate_succ, Array.replicate_zero, List.push_toArray, List.append_toArray, List.nil_append, List.cons_append]
  gi_wp2_with fail
  rw [← HW4.out, HRUN.out]
  clear hmm
  gi_wp2_with fail
  obtain ⟨W6, hW6⟩ : ∃ W6, W6 = W5.alloc (.cells #[.map (some (w.heap.size + 1 + 1 + 1))] 115) := ⟨_, rfl⟩
  rw [← hW6] at hst ⊢
  clear hW6
  refine wpIn_loop (fun a W => ∃ (i : Nat) (L : Trails) (Ds : List Nat) (u u11 u12 u13 u14 u20 u21 u22 u23 u24 u25 u26 u27 u28 u29 u30 u31 u32 u33 u34 u35 u36 u37 u38 u39 u40 u41 u42 u43 u44 u45 u46 u47 u48 u49 u50 u51 u52 u53 u54 u55 : Value), a = { tmps := #[.agg #[.slice a1 n1 c1, .slice a2 n2 c2, .slice a3 n3 c3], .int .i64 (v : Nat), .string key, .pointer (some ⟨w.heap.size, 0, none⟩), undef, undef, .slice none 0 0, .map none, .pointer (some ⟨w.heap.size + 1 + 1, 0, none⟩), .pointer (some ⟨W5.heap.size, 0, none⟩), (.int .i64 (i : Nat)), u11, u12, u13, u14, .int .i64 (v : Nat), .slice (some ⟨w.heap.size + 1, 0, none⟩) 1 1, .map (some (w.heap.size + 1 + 1 + 1)), .int .i64 (v : Nat), .map (some (w.heap.size + 1 + 1 + 1)), u20, u21, u22, u23, u24, u25, u26, u27, u28, u29, u30, u31, u32, u33, u34, u35, u36, u37, u38, u39, u40, u41, u42, u43, u44, u45, u46, u47, u48, u49, u50, u51, u52, u53, u54, u55, undef, undef], defers := Ds.map markOf } ∧ Reached (arcOf p key) p.binds.length v L i ∧ RSt w #[.slice a1 n1 c1, .slice a2 n2 c2, .slice a3 n3 c3] W5.heap.size u L Ds W) (fun a _ => 5 - (intOf (a.tmps.getD 10 undef)).toNat) ⟨0, _, [], _, _, _, _, _, _, _, _, _, _, _, _, _, _, _, _, _, _, _, _, _, _, _, _, _, _, _, _, _, _, _, _, _, _, _, _, _, _, _, _, _, rfl, .start, hst⟩ ?_
  rintro a W ⟨i, L, Ds, u, u11, u12, u13, u14, u20, u21, u22, u23, u24, u25, u26, u27, u28, u29, u30, u31, u32, u33, u34, u35, u36, u37, u38, u39, u40, u41, u42, u43, u44, u45, u46, u47, u48, u49, u50, u51, u52, u53, u54, u55, rfl, hre, hs⟩
  obtain ⟨hL1, hL2, hL3⟩ := HR.out hre
  have lc := hs.lbox.cell
  obtain ⟨au, cu, rfl, hcu, hau⟩ : ∃ au cu, u = .slice au L.length cu ∧ L.length ≤ cu ∧ (L.length = 0 ∨ ∃ g, au = some ⟨g, 0, none⟩) := by
    rcases hs.row.2 with ⟨rfl, h0⟩ | ⟨g, cap, cur, rfl, _, _, h1, _⟩
    · exact ⟨none, 0, by rw [h0], by omega, .inl h0⟩
    · exact ⟨_, cap, rfl, h1, .inr ⟨g, rfl⟩⟩
  by_cases hlt : i < L.length
  · obtain ⟨g, rfl⟩ : ∃ g, au = some ⟨g, 0, none⟩ := by
      rcases hau with h | h
      · omega
      · exact h
    have e0 := cell_of hs.pbox 0
    have e1 := cell_of hs.pbox 1
    have e2 := cell_of hs.pbox 2
    simp at e0 e1 e2
    obtain ⟨x, t, hxt⟩ : ∃ x t, L[i] = (x, t) := ⟨_, _, rfl⟩
    have hxi : (ints L)[i]? = some (.int .i64 (x : Nat)) := by simp [ints, hlt, hxt]
    have e3 : W.cell? ⟨g, i, none⟩ = some (.int .i64 (x : Nat)) := by
      have := hs.row.cells (g := g) rfl i _ hxi
      simpa [addr_add2] using this
    have j1 : (0 : Int) ≤ (i : Int) := by omega
    have j2 : (i : Int) < (L.length : Int) := by omega
    clear hxi hau
    obtain ⟨Wf0, hWf0, fb0, hBf0, hsf0⟩ := fitting_boxes W a1 a2 a3 n1 c1 n2 c2 n3 c3 (x : Nat) key
    have HWF0 : Hid (Wf0 = _) := hWf0
    obtain ⟨Wf, hWf⟩ : ∃ Wf, Wf = Wf0.drew := ⟨_, rfl⟩
    have HWF : Hid (Wf = Wf0.drew) := hWf
    have fb : FitBoxes Wf W.heap.size a1 a2 a3 n1 c1 n2 c2 n3 c3 (x : Nat) key := by rw [hWf]; exact ⟨fb0.p, fb0.v, fb0.k⟩
    have hsW : Wf.heap.size = W.heap.size + 3 := by rw [hWf]; exact hsf0
    have hBW : Below W.heap.size W Wf := by rw [hWf]; exact hBf0.drew
    clear hWf0 hWf fb0 hBf0 hsf0
    have hsF : RSt w #[.slice a1 n1 c1, .slice a2 n2 c2, .slice a3 n3 c3] W5.heap.size (.slice (some ⟨g, 0, none⟩) L.length cu) L Ds Wf := hs.keep hBW
    have hb4 := hs.b4
    have hb4W := hs.mbox.lt
    have hgW : g < W.heap.size := (hs.row.lt g rfl).2
    have hDW := hs.marks.lt
    have HX : Hid (L[i] = (x, t)) := hxt
    clear hxt
    gi_wp2_with fail
    gi_region_with (refine ⟨trivial, ?_⟩; gi_at_call 88; refine (fitting_in _ _ _ _ _ _ _).mono ?_; rintro e w' ⟨rfl, rfl⟩)
    all_goals
      clear e0 e1 e2 e3 lc
      gi_wp2_with fail
      rw [← HWF0.out, ← HWF.out]
      refine wpIn_rangeFunc_ownH rfl (by omega) (gf := 152) (lb := #[.pointer (some ⟨W.heap.size, 0, none⟩), .pointer (some ⟨W.heap.size + 1, 0, none⟩), .pointer (some ⟨W.heap.size + 1 + 1, 0, none⟩)]) rfl trivial (enters_of Tryz.func152 (by kernel_rfl) rfl)
        (fit_stops 5 (by omega) W.heap.size p a1 a2 a3 n1 c1 n2 c2 n3 c3 (x : Nat) key w Wf HCK.out.1 HCK.out.2 HP.out hs.below.size (by omega) hsF.below fb) (fun h k => h.trans k) (fun W' l o o' hl ho _ _ => keepF_b (by have := hs.below.size; omega) (by omega) W' l o o' hl ho) (Below.refl _ _) (fun _ => rfl)
        (fun pre W' => ∃ u', RSt w #[.slice a1 n1 c1, .slice a2 n2 c2, .slice a3 n3 c3] W5.heap.size u' (pre.foldl (cstep p t) L) Ds W' ∧ (∀ g', u'.ownBlock = some g' → g' < W.heap.size ∨ W.heap.size + 3 ≤ g') ∧ Wf.heap.size ≤ W'.heap.size)
        (fun _ _ _ => False)
        (fun pre W' W'' row hI hg hr => by
          obtain ⟨u', h1, h2, h3⟩ := hI
          exact ⟨u', h1.other hg hr (by omega) (fun D hD => by have := hDW D hD; omega), h2, Nat.le_trans h3 hg.size⟩)
        (fun _ _ _ _ _ h _ _ => h)
        ⟨_, hsF, fun g' e => by simp only [Value.ownBlock, Option.some.injEq] at e; left; omega, Nat.le_refl _⟩
        (fun y a' W' => ∃ Bx, W.heap.size + 3 ≤ Bx ∧ W'.heap[Bx]? = some (.cells #[.int .i64 (bAt p y).src, .bool (bAt p y).toPost, .int .i64 (bAt p y).dst, .string (bAt p y).pat] 122 (0, 0)) ∧ a' = { tmps := #[.agg #[.slice a1 n1 c1, .slice a2 n2 c2, .slice a3 n3 c3], .int .i64 (v : Nat), .string key, .pointer (some ⟨w.heap.size, 0, none⟩), undef, undef, .slice none 0 0, .map none, .pointer (some ⟨w.heap.size + 1 + 1, 0, none⟩), .pointer (some ⟨W5.heap.size, 0, none⟩), .int .i64 (i : Nat), .int .i64 (y : Nat), .pointer (some ⟨Bx, 0, none⟩), u13, u14, .int .i64 (v : Nat), .slice (some ⟨w.heap.size + 1, 0, none⟩) 1 1, .map (some (w.heap.size + 1 + 1 + 1)), .int .i64 (v : Nat), .map (some (w.heap.size + 1 + 1 + 1)), .int .i64 (i : Nat), .slice (some ⟨g, 0, none⟩) L.length cu, .int .i64 (L.length : Nat), .bool true, u24, u25, .agg #[.slice a1 n1 c1, .slice a2 n2 c2, .slice a3 n3 c3], .slice (some ⟨g, 0, none⟩) L.length cu, .int .i64 (i : Nat), .pointer (some ⟨g, i, none⟩), .int .i64 (x : Nat), .string key, .func (.func 152) #[] #[.pointer (some ⟨W.heap.size, 0, none⟩), .pointer (some ⟨W.heap.size + 1, 0, none⟩), .pointer (some ⟨W.heap.size + 1 + 1, 0, none⟩)], .int .i64 (y : Nat), (bAt p y).val, u35, u36, u37, u38, u39, u40, u41, u42, u43, u44, u45, u46, u47, u48, u49, u50, u51, u52, u53, u54, u55, undef, undef], defers := [] })
        (fun y a' _ W' W'' row hA hg hr => by
          obtain ⟨Bx, h1, h2, h3⟩ := hA
          refine ⟨Bx, h1, (hg.block Bx (Array.getElem?_eq_some_iff.1 h2).1 (fun e => ?_)).trans h2, h3⟩
          obtain ⟨_, o, h4, h5⟩ := hr Bx e.symm
          rw [h2] at h4; cases h4; cases h5)
        ?assign ?body ?done ?stop
      case stop => rintro D c pre W' _ _ h _; exact h.elim
      case assign =>
        rintro l pre y W' K ⟨u', h1, h2, h3⟩ hK
        dsimp only [BindD.val]
        gi_wp2
        have hBa : Below W'.heap.size W' (W'.alloc (.cells #[.int .i64 (bAt p y).src, .bool (bAt p y).toPost, .int .i64 (bAt p y).dst, .string (bAt p y).pat] 122)) := (Below.refl _ _).alloc (Nat.le_refl _) _
        exact hK _ _ ((KeepsOthers.alloc _ _).from _) (KeepF.of_below hBa h1.below.size (by omega)) ⟨u', h1.keep hBa, h2, Nat.le_trans h3 hBa.size⟩ ⟨W'.heap.size, by omega, World.alloc_heap_new W' _, rfl⟩
      case body =>
        rintro l pre y a' W' hl _ ⟨u', h1, h2, h3⟩ ⟨Bx, hBx, hcell, rfl⟩ hlen
        have hfold : (pre ++ [y]).foldl (cstep p t) L = cstep p t (pre.foldl (cstep p t) L) y := by rw [List.foldl_append]; rfl
        have hL' := cstep_len p t pre L
        have h10 := fitIdx_len (p := p) (key := key) (v := (x : Nat)) HRP.out.few.2.2
        obtain ⟨L', hLe⟩ : ∃ L', L' = pre.foldl (cstep p t) L := ⟨_, rfl⟩
        rw [← hLe] at h1 hL' hfold
        have HFO : Hid ((pre ++ [y]).foldl (cstep p t) L = cstep p t L' y) := hfold
        have hL'' : L'.length ≤ 20 := by omega
        have m0 := cell_of hcell 0
        have m1 := cell_of hcell 1
        have m2 := cell_of hcell 2
        have m3 := cell_of hcell 3
        simp at m0 m1 m2 m3
        have lc' := h1.lbox.cell
        have mc' := h1.mbox.cell
        have HDO := hidIt (dst_ok HRP.out y)
        clear hfold hLe hL'
        cases htp : (bAt p y).toPost with
        | false =>
          have HC : Hid (cstep p t L' y = L') := by show cstep p t L' y = L'; unfold cstep; rw [htp]; simp
          rw [htp] at m1
          gi_wp2
          exact ⟨KeepsFrom.refl _ _, KeepF.refl _ _ _, u', by rw [HFO.out, HC.out]; exact h1, h2, h3⟩
        | true =>
          rw [htp] at m1
          obtain ⟨hd0, hd1⟩ := HDO.out htp
          obtain ⟨z, hz⟩ := Int.eq_ofNat_of_zero_le hd0
          have hz' : Hid ((bAt p y).dst = (z : Nat)) := hz
          rw [hz] at m2 hd1
          have hz4 : z ≤ 1000 := by have := HRP.out.few.1; omega
          have hkey : keyOf Tryz.prog 3 (.int .i64 (z : Nat)) = some (.int .i64 (z : Nat)) := keyOf_int_mk Tryz.underlying3 (wf_nat (by omega))
          have hhas := byD_has L' z
          have hy10 : y < 1000 := by have := tp_lt htp; have := HRP.out.few.2.2; omega
          have HZ : Hid ((bAt p y).dst.toNat = z) := by show (bAt p y).dst.toNat = z; omega
          by_cases hin : z ∈ L'.map Prod.fst
          · have hh : has (byD L') (.int .i64 (z : Nat)) = true := by rw [hhas]; simpa using hin
            have HC : Hid (cstep p t L' y = L') := by show cstep p t L' y = L'; unfold cstep; rw [if_neg (fun h => h.2 (by rw [HZ.out]; exact hin))]
            clear hhas hin htp hz
            gi_wp2_with (gi_at_lookup; refine wpListIn_lookup_own_ok_int _ rfl _ _ 115 rfl 3 3 .i64 key3 Tryz.underlying115 Tryz.underlying3 (zero3 _) (w.heap.size + 1 + 1 + 1) _ _ rfl h1.map _ _ rfl hkey ?_; intro c hat hwc; rw [hh])
            exact ⟨KeepsFrom.refl _ _, KeepF.refl _ _ _, u', by rw [HFO.out, HC.out]; exact h1, h2, h3⟩
          · have hh : has (byD L') (.int .i64 (z : Nat)) = false := by rw [hhas]; simpa using hin
            have HC : Hid (cstep p t L' y = L' ++ [(z, t ++ [y])]) := by show cstep p t L' y = _; unfold cstep; rw [if_pos ⟨htp, by rw [HZ.out]; exact hin⟩, HZ.out]
            have HPUT : Hid ((byD L').put (.int .i64 (z : Nat)) (.lit (.int .i64 (y : Nat))) = byD (L' ++ [(z, t ++ [y])])) := by show _ = _; rw [byD_snoc, lastBy_snoc]
            obtain ⟨i0, hi0, hz0, hz1, hz2⟩ := info_parts Tryz.infoInt
            have hB4 := h1.b4
            have hsz' := h1.mbox.lt
            have hBxne : Bx ≠ w.heap.size + 1 + 1 + 1 := by omega
            clear hhas hin htp hz
            gi_wp2_with (first
              | (gi_at_lookup; refine wpListIn_lookup_own_ok_int _ rfl _ _ 115 rfl 3 3 .i64 key3 Tryz.underlying115 Tryz.underlying3 (zero3 _) (w.heap.size + 1 + 1 + 1) _ _ rfl h1.map _ _ rfl hkey ?_; intro c hat hwc; rw [hh])
              | (gi_at_mapUpdate; refine wpListIn_mapUpdate_own _ rfl _ _ _ 115 rfl 3 3 key3 Tryz.underlying115 (plainElem Tryz.prog 3) (w.heap.size + 1 + 1 + 1) L'.length (byD L') rfl h1.map (by unfold maxLen; omega) _ _ _ rfl rfl hkey _ [] (plainElem_int Tryz.underlying3 (wf_nat (n := y) (by omega))) ?_; intro wa hma hga; have t1 : Turn (fun k => k = w.heap.size + 1 + 1 + 1) W' wa := Turn.of_grown hga (fun r e => by cases e; rfl); have lca := (t1.boxed h1.lbox (by omega)).cell; have hca := (t1.block Bx (Array.getElem?_eq_some_iff.1 hcell).1 hBxne).trans hcell; have m2a := cell_of hca 2; rw [hz'.out] at m2a; have hra := t1.row h1.row (fun g' e h => (h1.row_ne e).2.2.1 h); have hsa := t1.size)
              | (gi_at_builtin; refine wpListIn_append_own_at _ rfl _ _ 48 rfl (w.heap.size + 1) 3 i0 (.int .i64 0) 1 8 Tryz.underlying48 hi0 hz0 hz1 hz2 rfl (by decide) _ _ _ rfl (hra.alloc _) ⟨wa.heap.size, 0, none⟩ 1 1 [.int .i64 (z : Nat)] rfl rfl (cell_one_new _ _ _) (by simp [Value.oneCell']) (by unfold maxLen; omega) (by omega) (by simp; omega) ?_; intro v' wc hown' hgrow _ hat'; obtain ⟨gn, capn, rfl⟩ := ownsRow_succ hown'; rw [HPUT.out] at hma; obtain ⟨hbx', hst', hturn⟩ := h1.push hga hma hgrow (by simpa using hown') hat'; have hc1 := hbx'.cell; have hf1 := hbx'.frozen))
            exact ⟨keepsFrom_turn h1 hturn (by omega), keepF_turn h1 hturn (by omega) (by omega) h2, _, by rw [HFO.out, HC.out]; exact hst', fun g' e => by
              rcases (show Value.ownBlock (.slice (some ⟨gn, 0, none⟩) (L'.length + 1) capn) = u'.ownBlock ∨ Value.ownBlock (.slice (some ⟨gn, 0, none⟩) (L'.length + 1) capn) = some (wa.alloc _).heap.size from hat') with e2 | e2
              · exact h2 g' (e2.symm.trans e)
              · rw [e2] at e; simp only [Option.some.injEq, World.size_alloc] at e; omega, Nat.le_trans h3 hturn.size⟩
      case done =>
        rintro D ys W' hD hys ⟨u', h1, h2, h3⟩ hmark
        rw [hys, fold_round HRP.out] at h1
        have hre' := Reached.next hre hlt
        rw [HX.out] at hre'
        have h1' : RSt w #[.slice a1 n1 c1, .slice a2 n2 c2, .slice a3 n3 c3] W5.heap.size u' (tround (arcOf p key) p.binds.length (x, t) L) (D :: Ds) W' := ⟨h1.below, h1.pbox, h1.lbox, h1.row, h1.map, h1.mbox, h1.b4, h1.marks.cons (fun h => by have := hDW D h; omega) (by omega) hmark⟩
        clear h1 hys
        gi_wp2_with fail
        exact ⟨⟨i + 1, _, D :: Ds, u', _, _, _, _, _, _, _, _, _, _, _, _, _, _, _, _, _, _, _, _, _, _, _, _, _, _, _, _, _, _, _, _, _, _, _, _, _, _, _, _, rfl, hre', h1'⟩, by simp [intOf]; omega⟩
  · have mc := hs.mbox.cell
    gi_wp2_with fail
    gi_quiet (fail)
    gi_wp2_with fail
    refine leaves_marks (n0 := w.heap.size + 1) (Ds := Ds) ⟨hs.marks.once, hs.marks.there⟩ (fun W' hW' => ?_)
    have hs' : RSt w #[.slice a1 n1 c1, .slice a2 n2 c2, .slice a3 n3 c3] W5.heap.size (.slice au L.length cu) L [] W' := RSt.turn (W := W) (X := fun k => k ∈ Ds) ⟨hs.below, hs.pbox, hs.lbox, hs.row, hs.map, hs.mbox, hs.b4, ⟨List.nodup_nil, fun D hD => by simp at hD⟩⟩ ⟨hW'.os, hW'.tape, hW'.output, hW'.size, hW'.block⟩ (fun k h => by have := (hs.marks.there k h).1; omega) (fun h => (hs.mark_ne h).1 rfl) (fun h => (hs.mark_ne h).2.1 rfl) (fun h => (hs.mark_ne h).2.2.1 rfl) (fun h => (hs.mark_ne h).2.2.2 rfl) (fun g' e h => (hs.row_ne e).2.2.2.2 h) (fun D hD => by simp at hD)
    exact ⟨_, results_tmp2 rfl _ _ _, _, _, L, i, rfl, hre, hlt, own_base' hs'.row (by omega), hs'.map, by omega, hs'.below⟩
end Go.Proofs.YtpoichgodamnkaaGreat
namespace Go.Proofs.YtpoichgodamnkaaGreat
open Go.RowKit
set_option linter.unusedVariables false
set_option maxRecDepth 100000
set_option maxHeartbeats 2000000
def IntRow (W : World) (g : Nat) (zs : List Int) : Prop := ∃ cur, W.heap[g]? = some (.cells cur 3 (0, 0)) ∧ ∀ i (h : i < zs.length), cur[i]? = some (.int .i64 zs[i])
theorem IntRow.lt {W : World} {g : Nat} {zs : List Int} (h : IntRow W g zs) : g < W.heap.size := by obtain ⟨cur, h1, _⟩ := h; exact (Array.getElem?_eq_some_iff.1 h1).1
theorem IntRow.cell {W : World} {g : Nat} {zs : List Int} (h : IntRow W g zs) {i : Nat} (hi : i < zs.length) : W.cell? ⟨g, i, none⟩ = some (.int .i64 zs[i]) := by
  obtain ⟨cur, h1, h2⟩ := h; rw [cell_of h1, h2 i hi]
theorem IntRow.free {W : World} {g : Nat} {zs : List Int} (h : IntRow W g zs) (i : Nat) : W.frozen? ⟨g, i, none⟩ = false := by
  obtain ⟨cur, h1, _⟩ := h; simp [World.frozen?, h1]
theorem IntRow.keep {W W' : World} {g : Nat} {zs : List Int} (h : IntRow W g zs) (e : W'.heap[g]? = W.heap[g]?) : IntRow W' g zs := by
  obtain ⟨cur, h1, h2⟩ := h; exact ⟨cur, e.trans h1, h2⟩
theorem IntRow.set {W : World} {g : Nat} {zs : List Int} (h : IntRow W g zs) {i : Nat} (hi : i < zs.length) (x : Int) : IntRow (W.setCell ⟨g, i, none⟩ (.int .i64 x)) g (zs.set i x) := by
  obtain ⟨cur, h1, h2⟩ := h
  refine ⟨_, heap_setCell_same W g i cur 3 _ h1, fun j hj => ?_⟩
  rw [List.length_set] at hj
  by_cases e : i = j
  · subst e
    have hc := h2 i hi
    have hlt := (Array.getElem?_eq_some_iff.1 hc).1
    simp [hlt]
  · rw [Array.getElem?_setIfInBounds_ne e, h2 j hj, List.getElem_set_ne e]
theorem setCell_turn (W : World) (g i : Nat) (v : Value) : Turn (fun k => k = g) W (W.setCell ⟨g, i, none⟩ v) :=
  ⟨rfl, rfl, rfl, by simp [World.setCell], fun k _ hk => Below.heap_setCell _ _ _ _ (fun e => hk (by first | exact e | exact e.symm))⟩
theorem isNaN_any (x : Int) (w : World) : Calls Tryz.prog 222 #[.int .i64 x] w fun e w' => e = .returned (.bool false) ∧ w' = w := by
  go_enter Tryz.func222, Tryz.ntmps222
  go_wp2
  go_ret
  exact ⟨rfl, rfl⟩
theorem less_any (x y : Int) (w : World) : Calls Tryz.prog 198 #[.int .i64 x, .int .i64 y] w fun e w' => e = .returned (.bool (decide (x < y))) ∧ w' = w := by
  go_enter Tryz.func198, Tryz.ntmps198
  go_wp2_with (go_at_call 222; refine (isNaN_any _ _).mono ?_; rintro e w' ⟨rfl, rfl⟩)
  go_ret
  exact ⟨rfl, rfl⟩
def SortedTo (ys : List Int) (k : Nat) : Prop := ∀ a b (hab : a < b) (hb : b < ys.length), b < k → ys[a]'(Nat.lt_trans hab hb) ≤ ys[b]
structure ButOne (ys : List Int) (j k : Nat) : Prop where
  rise : ∀ a b (hab : a < b) (hb : b < ys.length), b ≤ k → a ≠ j → b ≠ j → ys[a]'(Nat.lt_trans hab hb) ≤ ys[b]
  least : ∀ b (hjb : j < b) (hb : b < ys.length), b ≤ k → ys[j]'(Nat.lt_trans hjb hb) ≤ ys[b]
theorem ButOne.start {ys : List Int} {k : Nat} (h : SortedTo ys k) : ButOne ys k k := ⟨fun a b hab hb hk ha hb' => h a b hab hb (by omega), fun b h1 hb h2 => by omega⟩
theorem ButOne.done {ys : List Int} {j k : Nat} (h : ButOne ys j k) (hj : ∀ (h0 : 0 < j) (h1 : j < ys.length), ys[j - 1]'(by omega) ≤ ys[j]) : SortedTo ys (k + 1) := by
  intro a b hab hb hk
  by_cases ha : a = j
  · subst ha; exact h.least b hab hb (by omega)
  · by_cases hb' : b = j
    · subst hb'
      have h1 := hj (by omega) hb
      by_cases e : a = b - 1
      · subst e; exact h1
      · exact Int.le_trans (h.rise a (b - 1) (by omega) (by omega) (by omega) ha (by omega)) h1
    · exact h.rise a b hab hb (by omega) ha hb'
def swapL (ys : List Int) (j : Nat) (h : j + 1 < ys.length) : List Int := (ys.set (j + 1) ys[j]).set j ys[j + 1]
theorem swapL_len (ys : List Int) (j : Nat) (h : j + 1 < ys.length) : (swapL ys j h).length = ys.length := by simp [swapL]
theorem swapL_perm (ys : List Int) (j : Nat) (h : j + 1 < ys.length) : (swapL ys j h).Perm ys := by
  have h1 := Array.swap_perm (xs := ys.toArray) (i := j + 1) (j := j) (by simpa using h) (by simp; omega)
  have h2 := h1.toList
  rw [Array.toList_swap] at h2
  simpa [swapL] using h2
theorem swapL_get (ys : List Int) (j : Nat) (h : j + 1 < ys.length) (a : Nat) (ha : a < ys.length) : (swapL ys j h)[a]'(by rw [swapL_len]; exact ha) = if a = j then ys[j + 1] else if a = j + 1 then ys[j] else ys[a] := by
  unfold swapL
  by_cases e : j = a
  · subst e; simp
  · by_cases e2 : j + 1 = a
    · subst e2; simp
    · have e' : ¬ a = j := fun h => e h.symm
      have e2' : ¬ a = j + 1 := fun h => e2 h.symm
      simp [e, e2, e', e2']
theorem ButOne.swap {ys : List Int} {j k : Nat} (h : ButOne ys (j + 1) k) (hj : j + 1 < ys.length) (hk : j + 1 ≤ k) (hlt : ys[j + 1] < ys[j]) : ButOne (swapL ys j hj) j k := by
  constructor
  · intro a b hab hb hbk ha hb'
    have hb2 : b < ys.length := by rw [swapL_len] at hb; exact hb
    rw [swapL_get ys j hj a (by omega), swapL_get ys j hj b hb2, if_neg ha, if_neg hb']
    by_cases e1 : a = j + 1
    · rw [if_pos e1, if_neg (by omega)]
      exact h.rise j b (by omega) hb2 hbk (by omega) (by omega)
    · rw [if_neg e1]
      by_cases e2 : b = j + 1
      · rw [if_pos e2]; exact h.rise a j (by omega) (by omega) (by omega) e1 (by omega)
      · rw [if_neg e2]; exact h.rise a b hab hb2 hbk e1 e2
  · intro b hjb hb hbk
    have hb2 : b < ys.length := by rw [swapL_len] at hb; exact hb
    rw [swapL_get ys j hj j (by omega), swapL_get ys j hj b hb2, if_pos rfl, if_neg (by omega)]
    by_cases e2 : b = j + 1
    · rw [if_pos e2]; omega
    · rw [if_neg e2]; exact h.least b (by omega) hb2 hbk
theorem ins_any (zs : List Int) (g n c : Nat) (w : World) (hn : zs.length = n) (h12 : n ≤ 12) (hrow : IntRow w g zs) :
    Calls Tryz.prog 192 #[.slice (some ⟨g, 0, none⟩) n c, .int .i64 0, .int .i64 n] w fun e w' => (∃ v, e = .returned v) ∧ ∃ ys, ys.Perm zs ∧ SortedTo ys n ∧ IntRow w' g ys ∧ Turn (fun k => k = g) w w' := by
  have HN : Hid (zs.length = n) := hn
  clear hn
  go_enter Tryz.func192, Tryz.ntmps192
  go_wp2
  go_loopw [6, 7] (fun i _ wr => ∃ (k : Nat) (ys : List Int), 1 ≤ k ∧ (k ≤ n ∨ k = 1) ∧ i = .int .i64 k ∧ ys.Perm zs ∧ SortedTo ys k ∧ IntRow wr g ys ∧ Turn (fun k => k = g) w wr) (fun i _ _ => n - (intOf i).toNat)
  case atStart => exact ⟨1, zs, by omega, .inr rfl, rfl, List.Perm.refl _, fun a b h1 hb h2 => by omega, hrow, Turn.refl _ _⟩
  case round =>
    obtain ⟨k, ys, hk1, hk2, rfl, hpm, hso, hrw, htn⟩ := hrel
    have hyl : ys.length = n := by rw [hpm.length_eq, HN.out]
    have HPS : Hid (ys.Perm zs ∧ SortedTo ys k ∧ ys.length = n) := ⟨hpm, hso, hyl⟩
    clear hpm hso hyl
    by_cases hlt : k < n
    · go_wp2
      go_loopw [7] (fun jv wr2 => ∃ (j : Nat) (ys : List Int), j ≤ k ∧ jv = .int .i64 j ∧ ys.Perm zs ∧ ButOne ys j k ∧ IntRow wr2 g ys ∧ Turn (fun k => k = g) w wr2) (fun jv _ => (intOf jv).toNat)
      case atStart => exact ⟨k, ys, Nat.le_refl _, rfl, HPS.out.1, ButOne.start HPS.out.2.1, hrw, htn⟩
      case round =>
        clear hrw htn HPS ys
        obtain ⟨j, ys, hjk, rfl, hpm, hbo, hrw, htn⟩ := hrel
        have hyl : ys.length = n := by rw [hpm.length_eq, HN.out]
        have HPS : Hid (ys.Perm zs ∧ ButOne ys j k ∧ ys.length = n) := ⟨hpm, hbo, hyl⟩
        rcases Nat.eq_zero_or_pos j with hj0 | hj0
        · subst hj0
          have HF : Hid (SortedTo ys (k + 1)) := hbo.done (fun h _ => by omega)
          clear hpm hbo hyl
          go_wp2
          go_quiet ((go_at_call 198; exact Calls.quiet_of_same (less_any _ _ _)))
          go_wp2
          go_roundw
          case rel => exact ⟨k + 1, ys, by omega, .inl (by omega), by go_num, HPS.out.1, HF.out, hrw.keep rfl, ⟨htn.os, htn.tape, htn.output, htn.size, htn.block⟩⟩
          case measure => simp [intOf]; omega
        · obtain ⟨j', rfl⟩ : ∃ j', j = j' + 1 := ⟨j - 1, by omega⟩
          have hjl : j' + 1 < ys.length := by omega
          have c1 := hrw.cell hjl
          have c0 := hrw.cell (show j' < ys.length by omega)
          have f1 := hrw.free (j' + 1)
          have f0 := hrw.free j'
          obtain ⟨x1, hx1⟩ : ∃ x, x = ys[j' + 1] := ⟨_, rfl⟩
          obtain ⟨x0, hx0⟩ : ∃ x, x = ys[j'] := ⟨_, rfl⟩
          rw [← hx1] at c1
          rw [← hx0] at c0
          have HX : Hid (x1 = ys[j' + 1] ∧ x0 = ys[j']) := ⟨hx1, hx0⟩
          have j1 : (j' : Int) + 1 < n := by omega
          have j0 : (j' : Int) < n := by omega
          have jz : (0 : Int) < (j' : Int) + 1 := by omega
          have jz2 : (0 : Int) ≤ (j' : Int) + 1 := by omega
          have jw : IntKind.i64.wrap ((j' : Int) + 1 - 1) = (j' : Int) := by rw [IntKind.wrap_i64]; omega
          have jw2 : IntKind.i64.wrap (j' : Int) = (j' : Int) := by rw [IntKind.wrap_i64]; omega
          by_cases hless : x1 < x0
          · have hd : decide (x1 < x0) = true := by simpa using hless
            have HB : Hid (ButOne (swapL ys j' hjl) j' k) := hbo.swap hjl hjk (by rw [← hx1, ← hx0]; exact hless)
            clear hpm hbo hyl hx1 hx0 hless
            go_wp2
            go_quiet ((go_at_call 198; exact Calls.quiet_of_same (less_any _ _ _)))
            go_wp2_with fail
            go_region
            go_wp2
            have hrw2 : IntRow (((wr.drewN (nq + 1)).setCell ⟨g, j' + 1, none⟩ (.int .i64 x0)).setCell ⟨g, j', none⟩ (.int .i64 x1)) g (swapL ys j' hjl) := by
              have hr1 : IntRow (wr.drewN (nq + 1)) g ys := hrw.keep rfl
              have hr2 := hr1.set hjl x0
              have hr3 := hr2.set (i := j') (by rw [List.length_set]; omega) x1
              unfold swapL; rw [← HX.out.1, ← HX.out.2]; exact hr3
            have htn2 : Turn (fun k => k = g) w (((wr.drewN (nq + 1)).setCell ⟨g, j' + 1, none⟩ (.int .i64 x0)).setCell ⟨g, j', none⟩ (.int .i64 x1)) := by
              have t0 : Turn (fun k => k = g) w (wr.drewN (nq + 1)) := ⟨htn.os, htn.tape, htn.output, htn.size, htn.block⟩
              exact (t0.trans (setCell_turn _ _ _ _) (fun _ _ e => e)).trans (setCell_turn _ _ _ _) (fun _ _ e => e)
            go_roundw
            case rel => exact ⟨j', swapL ys j' hjl, by omega, by go_num, (swapL_perm ys j' hjl).trans HPS.out.1, HB.out, hrw2, htn2⟩
            case measure => simp [intOf]
          · have hd : decide (x1 < x0) = false := by simpa using hless
            have HF : Hid (SortedTo ys (k + 1)) := hbo.done (fun _ _ => by simp only [Nat.add_sub_cancel]; rw [← hx1, ← hx0]; omega)
            clear hpm hbo hyl hx1 hx0 hless
            go_wp2
            go_quiet ((go_at_call 198; exact Calls.quiet_of_same (less_any _ _ _)))
            go_wp2
            go_roundw
            case rel => exact ⟨k + 1, ys, by omega, .inl (by omega), by go_num, HPS.out.1, HF.out, hrw.keep rfl, ⟨htn.os, htn.tape, htn.output, htn.size, htn.block⟩⟩
            case measure => simp [intOf]; omega
    · go_wp2
      go_end0
      exact ⟨⟨_, rfl⟩, ys, HPS.out.1, fun a b h1 hb h2 => HPS.out.2.1 a b h1 hb (by have := HPS.out.2.2; omega), hrw, htn⟩
theorem len64_any (n : Nat) (w : World) (h12 : n ≤ 12) : Calls Tryz.prog 202 #[.int .u64 n] w fun e w' => (∃ k : Int, e = .returned (.int .i64 k)) ∧ w' = w := by
  have h : n = 0 ∨ n = 1 ∨ n = 2 ∨ n = 3 ∨ n = 4 ∨ n = 5 ∨ n = 6 ∨ n = 7 ∨ n = 8 ∨ n = 9 ∨ n = 10 ∨ n = 11 ∨ n = 12 := by omega
  rcases h with rfl | rfl | rfl | rfl | rfl | rfl | rfl | rfl | rfl | rfl | rfl | rfl | rfl
  all_goals
    go_enter Tryz.func202, Tryz.ntmps202
    go_wp2
    go_ret
    exact ⟨⟨_, rfl⟩, rfl⟩
theorem len_any (n : Nat) (w : World) (h12 : n ≤ 12) : Calls Tryz.prog 155 #[.int .u64 n] w fun e w' => (∃ k : Int, e = .returned (.int .i64 k)) ∧ w' = w := by
  go_enter Tryz.func155, Tryz.ntmps155
  go_wp2_with (go_at_call 202; refine (len64_any _ _ h12).mono ?_; rintro e w' ⟨⟨k, rfl⟩, rfl⟩)
  go_ret
  exact ⟨⟨_, rfl⟩, rfl⟩
theorem pdq_any (zs : List Int) (g n c : Nat) (k : Int) (w : World) (hn : zs.length = n) (h12 : n ≤ 12) (hrow : IntRow w g zs) :
    Calls Tryz.prog 154 #[.slice (some ⟨g, 0, none⟩) n c, .int .i64 0, .int .i64 n, .int .i64 k] w fun e w' => (∃ v, e = .returned v) ∧ ∃ ys, ys.Perm zs ∧ SortedTo ys n ∧ IntRow w' g ys ∧ Turn (fun k => k = g) w w' := by
  have HI := hidIt (ins_any zs g n c w hn h12 hrow)
  have h12' : (n : Int) ≤ 12 := by omega
  have hw : IntKind.i64.wrap ((n : Int) - 0) = (n : Int) := by rw [IntKind.wrap_i64]; omega
  clear hn hrow h12
  go_enter Tryz.func154, Tryz.ntmps154
  go_wp2_with fail
  go_loopw [1, 2] (fun x y wr => x = .int .i64 0 ∧ y = .int .i64 n ∧ wr = w) (fun _ _ _ => 0)
  case atStart => exact ⟨rfl, rfl, rfl⟩
  case round =>
    obtain ⟨rfl, rfl, rfl⟩ := hrel
    go_wp2_with fail
    refine HI.out.mono ?_
    rintro e w2 ⟨⟨u, rfl⟩, hr⟩
    go_wp2_with fail
    refine bodyPost_ret (results_none rfl _ _ _) rfl ?_
    exact ⟨⟨_, rfl⟩, hr⟩
theorem sort_any (zs : List Int) (g n c : Nat) (w : World) (hn : zs.length = n) (h12 : n ≤ 12) (hrow : IntRow w g zs) :
    Calls Tryz.prog 89 #[.slice (some ⟨g, 0, none⟩) n c] w fun e w' => (∃ v, e = .returned v) ∧ ∃ ys, ys.Perm zs ∧ SortedTo ys n ∧ IntRow w' g ys ∧ Turn (fun k => k = g) w w' := by
  have HI := hidIt (fun k => pdq_any zs g n c k w hn h12 hrow)
  have hw : IntKind.u64.wrap (n : Int) = (n : Int) := by rw [IntKind.wrap_u64]; omega
  clear hn hrow
  go_enter Tryz.func89, Tryz.ntmps89
  go_wp2_with fail
  refine (len_any n _ h12).mono ?_
  rintro e w2 ⟨⟨k, rfl⟩, rfl⟩
  go_wp2_with fail
  refine (HI.out _).mono ?_
  rintro e w3 ⟨⟨u, rfl⟩, hr⟩
  go_wp2_with fail
  go_end0
  exact ⟨⟨_, rfl⟩, hr⟩
theorem ret_sl {a : Option Addr} {m n c : Nat} (h : m = n) : Ending.returned (.slice a m c) = .returned (.slice a n c) := by rw [h]
theorem IntRow.out {W : World} {g : Nat} {zs : List Int} (h : IntRow W g zs) {i : Nat} (hi : zs.length ≤ i) (v : Value) : IntRow (W.setCell ⟨g, i, none⟩ v) g zs := by
  obtain ⟨cur, h1, h2⟩ := h
  refine ⟨_, heap_setCell_same W g i cur 3 _ h1, fun j hj => ?_⟩
  rw [Array.getElem?_setIfInBounds_ne (by omega), h2 j hj]
theorem IntRow.outs {g : Nat} {zs : List Int} : ∀ (vs : List Value) (o : Nat) {W : World}, IntRow W g zs → zs.length ≤ o → IntRow (W.setCells g o vs) g zs
  | [], _, _, h, _ => h
  | v :: r, o, W, h, ho => by unfold World.setCells; exact IntRow.outs r (o + 1) (h.out ho v) (by omega)
theorem setCells_turn (g : Nat) : ∀ (vs : List Value) (o : Nat) (W : World), Turn (fun k => k = g) W (W.setCells g o vs)
  | [], _, _ => Turn.refl _ _
  | v :: r, o, W => by unfold World.setCells; exact (setCell_turn W g o v).trans (setCells_turn g r (o + 1) _) (fun _ _ e => e)
theorem IntRow.take {W : World} {g : Nat} {zs : List Int} (h : IntRow W g zs) (k : Nat) : IntRow W g (zs.take k) := by
  obtain ⟨cur, h1, h2⟩ := h
  exact ⟨cur, h1, fun i hi => by rw [List.length_take] at hi; rw [h2 i (by omega), List.getElem_take]⟩
structure Comp (zs ys : List Int) (k q : Nat) : Prop where
  len : ys.length = zs.length
  k0 : 1 ≤ k
  kq : k ≤ q - 1
  qn : q ≤ zs.length
  same : ∀ i (h : i < zs.length), q - 1 ≤ i → ys[i]'(by omega) = zs[i]
  rise : (ys.take k).Pairwise (· < ·)
  mem : ∀ z, z ∈ ys.take k ↔ z ∈ zs.take q
  last : ∀ (h : k - 1 < ys.length) (h2 : q - 1 < zs.length), ys[k - 1] = zs[q - 1]
theorem Comp.skip {zs ys : List Int} {k q : Nat} (h : Comp zs ys k q) (hq : q < zs.length) (e : zs[q] = zs[q - 1]'(by omega)) : Comp zs ys k (q + 1) := by
  have hk := h.k0
  have hkq := h.kq
  refine ⟨h.len, h.k0, by omega, by omega, fun i hi h1 => h.same i hi (by omega), h.rise, fun z => ?_, fun h1 h2 => ?_⟩
  · rw [h.mem, List.take_succ_eq_append_getElem hq, List.mem_append]
    constructor
    · exact .inl
    · rintro (h1 | h1)
      · exact h1
      · rw [List.mem_singleton] at h1; subst h1
        rw [e]
        have : zs[q - 1]'(by omega) = (zs.take q)[q - 1]'(by rw [List.length_take]; omega) := by rw [List.getElem_take]
        rw [this]; exact List.getElem_mem _
  · have := h.last h1 (by omega)
    simp only [Nat.add_sub_cancel]; rw [e]; exact this
theorem take_lt {ys : List Int} {k : Nat} (h : (ys.take k).Pairwise (· < ·)) (hk : 1 ≤ k) (hl : k ≤ ys.length) : ∀ a ∈ ys.take k, a ≤ ys[k - 1]'(by omega) := by
  intro a ha
  obtain ⟨i, hi, rfl⟩ := List.mem_iff_getElem.1 ha
  rw [List.length_take] at hi
  rw [List.getElem_take]
  by_cases e : i = k - 1
  · subst e; exact Int.le_refl _
  · have := List.pairwise_iff_getElem.1 h i (k - 1) (by rw [List.length_take]; omega) (by rw [List.length_take]; omega) (by omega)
    rw [List.getElem_take, List.getElem_take] at this
    omega
theorem Comp.take {zs ys : List Int} {k q : Nat} (h : Comp zs ys k q) (hq : q < zs.length) (e : zs[q - 1]'(by omega) < zs[q]) : Comp zs (ys.set k zs[q]) (k + 1) (q + 1) := by
  have hk := h.k0
  have hkq := h.kq
  have hl := h.len
  have ht : (ys.set k zs[q]).take (k + 1) = ys.take k ++ [zs[q]] := by
    rw [List.take_succ_eq_append_getElem (by simp; omega), List.take_set_of_le (by omega)]
    simp
  refine ⟨by simp [hl], by omega, by omega, by omega, fun i hi h1 => ?_, ?_, fun z => ?_, fun h1 h2 => ?_⟩
  · rw [List.getElem_set_ne (by omega)]; exact h.same i hi (by omega)
  · rw [ht, List.pairwise_append]
    refine ⟨h.rise, by simp, fun a ha b hb => ?_⟩
    rw [List.mem_singleton] at hb; subst hb
    have h3 := take_lt h.rise hk (by omega) a ha
    have h4 := h.last (by omega) (by omega)
    omega
  · rw [ht, List.mem_append, h.mem, List.take_succ_eq_append_getElem hq, List.mem_append]
  · simp
theorem Comp.first {zs : List Int} {k : Nat} (hk : 1 ≤ k) (hl : k < zs.length) (hr : (zs.take k).Pairwise (· < ·)) (e : zs[k] = zs[k - 1]'(by omega)) : Comp zs zs k (k + 1) := by
  refine ⟨rfl, hk, by omega, by omega, fun _ _ _ => rfl, hr, fun z => ?_, fun h1 h2 => ?_⟩
  · rw [List.take_succ_eq_append_getElem hl, List.mem_append]
    constructor
    · exact .inl
    · rintro (h1 | h1)
      · exact h1
      · rw [List.mem_singleton] at h1; subst h1
        rw [e]
        have : zs[k - 1]'(by omega) = (zs.take k)[k - 1]'(by rw [List.length_take]; omega) := by rw [List.getElem_take]
        rw [this]; exact List.getElem_mem _
  · simp only [Nat.add_sub_cancel]; exact e.symm
theorem compact_any (zs : List Int) (g n c : Nat) (w : World) (hn : zs.length = n) (h12 : n ≤ 12) (hnc : n ≤ c) (hso : SortedTo zs n) (hrow : IntRow w g zs) :
    Calls Tryz.prog 90 #[.slice (some ⟨g, 0, none⟩) n c] w fun e w' => ∃ ys : List Int, ∃ c', e = .returned (.slice (some ⟨g, 0, none⟩) ys.length c') ∧ ys.length ≤ 12 ∧ ys.Pairwise (· < ·) ∧ (∀ z, z ∈ ys ↔ z ∈ zs) ∧ IntRow w' g ys ∧ Turn (fun k => k = g) w w' := by
  have HN : Hid (zs.length = n) := hn
  have HSO : Hid (SortedTo zs n) := hso
  by_cases h2 : (n : Int) < 2
  · have hp : zs.Pairwise (· < ·) := by
      match zs, hn with
      | [], _ => simp
      | [x], _ => simp
      | x :: y :: r, h => simp at h; omega
    have HP : Hid (zs.Pairwise (· < ·)) := hp
    clear hn hso hp
    go_enter Tryz.func90, Tryz.ntmps90
    go_wp2
    go_ret
    exact ⟨zs, c, ret_sl HN.out.symm, by have := HN.out; omega, HP.out, fun z => Iff.rfl, hrow, Turn.refl _ _⟩
  · clear hn hso
    go_enter Tryz.func90, Tryz.ntmps90
    go_wp2
    go_loopw [3] (fun i wr => ∃ (k : Nat), 1 ≤ k ∧ k ≤ n ∧ i = .int .i64 k ∧ (zs.take k).Pairwise (· < ·) ∧ IntRow wr g zs ∧ Turn (fun k => k = g) w wr) (fun i _ => n - (intOf i).toNat)
    case atStart => exact ⟨1, by omega, by omega, rfl, by match zs with | [] => simp | x :: r => simp, hrow, Turn.refl _ _⟩
    case round =>
      clear hrow
      obtain ⟨k, hk1, hk2, rfl, hri, hrw, htn⟩ := hrel
      have HRI : Hid ((zs.take k).Pairwise (· < ·)) := hri
      clear hri
      by_cases hlt : k < n
      · obtain ⟨k', rfl⟩ : ∃ k', k = k' + 1 := ⟨k - 1, by omega⟩
        have hkl : k' + 1 < zs.length := by rw [HN.out]; exact hlt
        have cc1 := hrw.cell hkl
        have cc0 := hrw.cell (show k' < zs.length by omega)
        obtain ⟨x1, hx1⟩ : ∃ x, x = zs[k' + 1] := ⟨_, rfl⟩
        obtain ⟨x0, hx0⟩ : ∃ x, x = zs[k'] := ⟨_, rfl⟩
        rw [← hx1] at cc1
        rw [← hx0] at cc0
        have HX : Hid (x1 = zs[k' + 1] ∧ x0 = zs[k']) := ⟨hx1, hx0⟩
        have hle : x0 ≤ x1 := by rw [hx0, hx1]; exact HSO.out k' (k' + 1) (by omega) hkl (by omega)
        have j1 : (k' : Int) + 1 < n := by omega
        have j0 : (k' : Int) < n := by omega
        have jz : (0 : Int) ≤ (k' : Int) + 1 := by omega
        have jw2 : IntKind.i64.wrap (k' : Int) = (k' : Int) := by rw [IntKind.wrap_i64]; omega
        by_cases he : x1 = x0
        · have hd : (x1 == x0) = true := by simpa using he
          have HCo : Hid (Comp zs zs (k' + 1) (k' + 1 + 1)) := Comp.first (by omega) hkl HRI.out (by simp only [Nat.add_sub_cancel]; rw [← hx1, ← hx0]; exact he)
          have hck : ¬ c = k' + 1 := by omega
          have jc : (k' : Int) + 1 ≤ n := by omega
          have jn : (n : Int) ≤ c := by omega
          clear hx1 hx0 he hle
          go_wp2
          go_quiet (fail)
          go_wp2_with fail
          go_loopw [3, 5] (fun kv qv wr2 => ∃ (k q : Nat) (ys : List Int), 1 ≤ q ∧ q ≤ n - (k' + 1) ∧ kv = .int .i64 k ∧ qv = .int .i64 q ∧ Comp zs ys k (k' + 1 + q) ∧ IntRow wr2 g ys ∧ Turn (fun k => k = g) w wr2) (fun _ qv _ => n - (intOf qv).toNat)
          case atStart => exact ⟨k' + 1, 1, zs, by omega, by omega, rfl, rfl, HCo.out, hrw.keep rfl, ⟨htn.os, htn.tape, htn.output, htn.size, htn.block⟩⟩
          case round =>
            clear hrw htn HCo HX cc0 cc1
            obtain ⟨k, q, ys, hq1, hq2, rfl, rfl, hco, hrw, htn⟩ := hrel
            have HCo : Hid (Comp zs ys k (k' + 1 + q)) := hco
            have hk0 := hco.k0
            have hkq := hco.kq
            have hyl : ys.length = n := by rw [hco.len, HN.out]
            have HYL : Hid (ys.length = n) := hyl
            by_cases hql : q < n - (k' + 1)
            · obtain ⟨q', rfl⟩ : ∃ q', q = q' + 1 := ⟨q - 1, by omega⟩
              have hzl : k' + 1 + (q' + 1) < zs.length := by rw [HN.out]; omega
              have e1 := hco.same (k' + 1 + (q' + 1)) hzl (by omega)
              have e0 := hco.same (k' + 1 + q') (by omega) (by omega)
              have cc1 := hrw.cell (show k' + 1 + (q' + 1) < ys.length by omega)
              have cc0 := hrw.cell (show k' + 1 + q' < ys.length by omega)
              rw [e1] at cc1
              rw [e0] at cc0
              have ff := hrw.free k
              have ck := hrw.cell (show k < ys.length by omega)
              obtain ⟨x1, hx1⟩ : ∃ x, x = zs[k' + 1 + (q' + 1)] := ⟨_, rfl⟩
              obtain ⟨x0, hx0⟩ : ∃ x, x = zs[k' + 1 + q'] := ⟨_, rfl⟩
              rw [← hx1] at cc1
              rw [← hx0] at cc0
              obtain ⟨xk, hxk⟩ : ∃ x, x = ys[k] := ⟨_, rfl⟩
              rw [← hxk] at ck
              have hle : x0 ≤ x1 := by rw [hx0, hx1]; exact HSO.out _ _ (by omega) hzl (by omega)
              have i1 : (q' : Int) + 1 < ((n - (k' + 1) : Nat) : Int) := by omega
              have i2 : (q' : Int) < ((n - (k' + 1) : Nat) : Int) := by omega
              have i3 : (0 : Int) ≤ (q' : Int) + 1 := by omega
              have i4 : IntKind.i64.wrap (q' : Int) = (q' : Int) := by rw [IntKind.wrap_i64]; omega
              have i5 : (k : Int) < n := by omega
              have i6 : (0 : Int) ≤ (k : Int) := by omega
              by_cases he : x1 = x0
              · have hd : (x1 != x0) = false := by simpa using he
                have HS : Hid (Comp zs ys k (k' + 1 + (q' + 1 + 1))) := hco.skip hzl (by simp only [← Nat.add_assoc, Nat.add_sub_cancel]; simp only [← Nat.add_assoc] at hx1; rw [← hx1, ← hx0]; exact he)
                clear hx1 hx0 hxk he hle hco e1 e0 hyl
                go_wp2
                go_quiet (fail)
                go_wp2
                go_roundw
                case rel => exact ⟨k, q' + 1 + 1, ys, by omega, by omega, rfl, by go_num, HS.out, hrw.keep rfl, ⟨htn.os, htn.tape, htn.output, htn.size, htn.block⟩⟩
                case measure => simp [intOf]; omega
              · have hd : (x1 != x0) = true := by simpa using he
                have HS : Hid (Comp zs (ys.set k x1) (k + 1) (k' + 1 + (q' + 1 + 1))) := by
                  have := hco.take hzl (by simp only [← Nat.add_assoc, Nat.add_sub_cancel]; simp only [← Nat.add_assoc] at hx1; rw [← hx1, ← hx0]; omega)
                  rw [← hx1] at this; exact this
                clear hx1 hx0 hxk he hle hco e1 e0 hyl
                go_wp2
                go_quiet (fail)
                go_wp2
                have hr2 : IntRow ((wr.drewN nq).setCell ⟨g, k, none⟩ (.int .i64 x1)) g (ys.set k x1) := IntRow.set (W := wr.drewN nq) (hrw.keep rfl) (by have := HYL.out; omega) x1
                have ht2 : Turn (fun k => k = g) w ((wr.drewN nq).setCell ⟨g, k, none⟩ (.int .i64 x1)) := Turn.trans (B := wr.drewN nq) ⟨htn.os, htn.tape, htn.output, htn.size, htn.block⟩ (setCell_turn _ _ _ _) (fun _ _ e => e)
                go_roundw
                case rel => exact ⟨k + 1, q' + 1 + 1, ys.set k x1, by omega, by omega, by go_num, by go_num, HS.out, hr2, ht2⟩
                case measure => simp [intOf]; omega
            · have hqe : k' + 1 + q = n := by omega
              have hclear : ∀ ty, (Builtin.clear_ #[48] ty #[.slice (some ⟨g, k, none⟩) (n - k) (c - k)]).run Tryz.prog wr = .ok (.tuple #[]) (wr.setCells g k (List.replicate (n - k) (.int .i64 0))) := fun ty =>
                Lib.run_clear_slice wr 48 3 ty (.int .i64 0) Tryz.underlying48 zero3 rfl rfl g k (n - k) (c - k) (by omega) (fun j hj => by rw [hrw.cell (show k + j < ys.length by omega)]; rfl) (fun j hj => hrw.free _)
              have hck2 : ¬ c = k := by omega
              have i5 : (k : Int) ≤ n := by omega
              have i6 : (0 : Int) ≤ (k : Int) := by omega
              have i7 : (k : Int) ≤ c := by omega
              have hr2 : IntRow (wr.setCells g k (List.replicate (n - k) (.int .i64 0))) g (ys.take k) := IntRow.outs _ k (hrw.take k) (by rw [List.length_take]; omega)
              have ht2 : Turn (fun k => k = g) w (wr.setCells g k (List.replicate (n - k) (.int .i64 0))) := htn.trans (setCells_turn g _ _ _) (fun _ _ e => e)
              have HR2 := hidIt (And.intro hr2 ht2)
              clear hr2 ht2 hco hyl
              go_wp2
              go_ret
              have hco := HCo.out
              exact ⟨ys.take k, c, ret_sl (by rw [List.length_take, HYL.out]; omega), by rw [List.length_take, HYL.out]; omega, hco.rise, fun z => by rw [hco.mem, List.take_of_length_le (by rw [HN.out]; omega)], HR2.out.1, HR2.out.2⟩
        · have hd : (x1 == x0) = false := by simpa using he
          have HNx : Hid ((zs.take (k' + 1 + 1)).Pairwise (· < ·)) := by
            show (zs.take (k' + 1 + 1)).Pairwise (· < ·)
            rw [List.take_succ_eq_append_getElem hkl, List.pairwise_append]
            refine ⟨HRI.out, by simp, fun a ha b hb => ?_⟩
            rw [List.mem_singleton] at hb; subst hb
            have h3 := take_lt HRI.out (by omega) (by omega) a ha
            simp only [Nat.add_sub_cancel] at h3
            rw [← hx0] at h3; rw [← hx1]; omega
          clear hx1 hx0 he hle
          go_wp2
          go_quiet (fail)
          go_wp2
          go_roundw
          case rel => exact ⟨k' + 1 + 1, by omega, by omega, by go_num, HNx.out, hrw.keep rfl, ⟨htn.os, htn.tape, htn.output, htn.size, htn.block⟩⟩
          case measure => simp [intOf]; omega
      · have hkn : k = n := by omega
        have HP : Hid (zs.Pairwise (· < ·)) := by have := HRI.out; rw [List.take_of_length_le (by rw [HN.out]; omega)] at this; exact this
        go_wp2
        go_ret
        exact ⟨zs, c, ret_sl HN.out.symm, by have := HN.out; omega, HP.out, fun z => Iff.rfl, hrw, htn⟩
theorem ins_none (a : Option Addr) (c : Nat) (w : World) : Calls Tryz.prog 192 #[.slice a 0 c, .int .i64 0, .int .i64 0] w fun e w' => (∃ v, e = .returned v) ∧ w' = w := by
  go_enter Tryz.func192, Tryz.ntmps192
  go_wp2
  go_loopw [6, 7] (fun i _ wr => i = .int .i64 1 ∧ wr = w) (fun _ _ _ => 0)
  case atStart => exact ⟨rfl, rfl⟩
  case round =>
    obtain ⟨rfl, rfl⟩ := hrel
    go_wp2
    go_end0
    exact ⟨⟨_, rfl⟩, rfl⟩
theorem pdq_none (a : Option Addr) (c : Nat) (k : Int) (w : World) : Calls Tryz.prog 154 #[.slice a 0 c, .int .i64 0, .int .i64 0, .int .i64 k] w fun e w' => (∃ v, e = .returned v) ∧ w' = w := by
  go_enter Tryz.func154, Tryz.ntmps154
  go_wp2_with fail
  go_loopw [1, 2] (fun x y wr => x = .int .i64 0 ∧ y = .int .i64 0 ∧ wr = w) (fun _ _ _ => 0)
  case atStart => exact ⟨rfl, rfl, rfl⟩
  case round =>
    obtain ⟨rfl, rfl, rfl⟩ := hrel
    go_wp2_with fail
    refine (ins_none _ _ _).mono ?_
    rintro e w2 ⟨⟨u, rfl⟩, rfl⟩
    go_wp2_with fail
    refine bodyPost_ret (results_none rfl _ _ _) rfl ?_
    exact ⟨⟨_, rfl⟩, rfl⟩
theorem sort_none (a : Option Addr) (c : Nat) (w : World) : Calls Tryz.prog 89 #[.slice a 0 c] w fun e w' => (∃ v, e = .returned v) ∧ w' = w := by
  go_enter Tryz.func89, Tryz.ntmps89
  go_wp2_with fail
  refine (len_any 0 _ (by omega)).mono ?_
  rintro e w2 ⟨⟨k, rfl⟩, rfl⟩
  go_wp2_with fail
  refine (pdq_none _ _ _ _).mono ?_
  rintro e w3 ⟨⟨u, rfl⟩, rfl⟩
  go_wp2_with fail
  go_end0
  exact ⟨⟨_, rfl⟩, rfl⟩
theorem compact_none (a : Option Addr) (c : Nat) (w : World) : Calls Tryz.prog 90 #[.slice a 0 c] w fun e w' => e = .returned (.slice a 0 c) ∧ w' = w := by
  go_enter Tryz.func90, Tryz.ntmps90
  go_wp2
  go_ret
  exact ⟨rfl, rfl⟩
end Go.Proofs.YtpoichgodamnkaaGreat
namespace Go.Proofs.YtpoichgodamnkaaGreat
open Go.RowKit Go.Maps
set_option linter.unusedVariables false
set_option maxRecDepth 100000
def IntsAt (W : World) (a : Option Addr) (zs : List Int) : Prop := zs = [] ∨ ∃ g, a = some ⟨g, 0, none⟩ ∧ g < W.heap.size ∧ ∀ i (h : i < zs.length), W.cell? ⟨g, i, none⟩ = some (.int .i64 zs[i])
theorem IntsAt.keep {W W' : World} {a : Option Addr} {zs : List Int} (h : IntsAt W a zs) (hB : Below W.heap.size W W') : IntsAt W' a zs := by
  rcases h with h | ⟨g, ha, hg, h⟩
  · exact .inl h
  · exact .inr ⟨g, ha, Nat.lt_of_lt_of_le hg hB.size, fun i hi => (hB.cell (p := ⟨g, i, none⟩) hg).trans (h i hi)⟩
theorem IntRow.ints {W : World} {g : Nat} {zs : List Int} (h : IntRow W g zs) : IntsAt W (some ⟨g, 0, none⟩) zs := .inr ⟨g, rfl, h.lt, fun i hi => h.cell hi⟩
theorem row_ints {W : World} {base : Nat} {u : Value} {zs : List Int} {n : Nat} (h : W.ownsRow base 3 1 u n (zs.map (Value.int .i64))) (hne : zs ≠ []) : ∃ g c, u = .slice (some ⟨g, 0, none⟩) zs.length c ∧ base ≤ g ∧ zs.length ≤ c ∧ c ≤ maxLen ∧ IntRow W g zs := by
  have hn : n = zs.length := by have := h.1; simp at this; omega
  subst hn
  rcases h.2 with ⟨rfl, h0⟩ | ⟨g, cap, cur, rfl, hb, hg, h1, h2, _⟩
  · exact absurd (List.length_eq_zero_iff.1 h0) hne
  · refine ⟨g, cap, rfl, hb, h1, h2, cur, hg, fun i hi => ?_⟩
    have hc := h.cells (g := g) rfl i (.int .i64 zs[i]) (by simp [hi])
    rw [addr_add2, Nat.zero_add, cell_of hg] at hc
    exact hc
structure PostsIs (p : PlanD) (key : ByteArray) (v : Nat) (zs : List Int) : Prop where
  rise : zs.Pairwise (· < ·)
  mem : ∀ z, z ∈ zs ↔ ∃ x : Nat, z = x ∧ ∃ s, Path (arcOf p key) v s x
theorem rise_uniq {xs ys : List Int} (hx : xs.Pairwise (· < ·)) (hy : ys.Pairwise (· < ·)) (h : ∀ z, z ∈ xs ↔ z ∈ ys) : xs = ys := by
  have nx : xs.Nodup := hx.imp (fun h => by omega)
  have ny : ys.Nodup := hy.imp (fun h => by omega)
  exact ((List.perm_ext_iff_of_nodup nx ny).2 h).eq_of_pairwise (le := (· < ·)) (fun a b _ _ h1 h2 => by omega) hx hy
theorem PostsIs.uniq {p : PlanD} {key : ByteArray} {v : Nat} {xs ys : List Int} (hx : PostsIs p key v xs) (hy : PostsIs p key v ys) : xs = ys :=
  rise_uniq hx.rise hy.rise (fun z => by rw [hx.mem, hy.mem])
def intsL (L : Trails) : List Int := L.map (fun x => (x.1 : Int))
theorem ints_eq (L : Trails) : ints L = (intsL L).map (Value.int .i64) := by simp [ints, intsL]
theorem rt_zero {p : PlanD} {v : Int} {key : ByteArray} (h : rtE p v key = 0) : chkP p = 0 ∧ kerr key.data.toList = 0 ∧ 0 ≤ v ∧ v < p.posts.length := by
  unfold rtE at h
  by_cases h1 : chkP p = 0
  · rw [if_pos h1] at h
    by_cases h2 : isNum v p.posts.length = true
    · rw [if_pos h2] at h; have := isNum_iff.1 h2; exact ⟨h1, h, this⟩
    · rw [if_neg h2] at h; cases h
  · rw [if_neg h1] at h; exact absurd h h1
def qL (p : PlanD) (J : List Nat) : List Int := (J.filter (fun n => !(bAt p n).toPost)).map (fun n => (bAt p n).dst)
theorem qL_snoc_q {p : PlanD} {J : List Nat} {n : Nat} (h : (bAt p n).toPost = false) : qL p (J ++ [n]) = qL p J ++ [(bAt p n).dst] := by unfold qL; rw [List.filter_append]; simp [h]
theorem qL_snoc_p {p : PlanD} {J : List Nat} {n : Nat} (h : (bAt p n).toPost = true) : qL p (J ++ [n]) = qL p J := by unfold qL; rw [List.filter_append]; simp [h]
theorem qL_len (p : PlanD) (J : List Nat) : (qL p J).length ≤ J.length := by unfold qL; rw [List.length_map]; exact List.length_filter_le _ _
def bindsOf (p : PlanD) (key : ByteArray) (L : Trails) : List Nat := L.flatMap (fun x => fitIdx p key (x.1 : Nat))
theorem fitIdx_mem {p : PlanD} {key : ByteArray} {v : Int} {n : Nat} : n ∈ fitIdx p key v ↔ n < p.binds.length ∧ (bAt p n).src = v ∧ fitP p n key = true := by
  unfold fitIdx fitTo goesB; simp
theorem bindsOf_mem {p : PlanD} {key : ByteArray} {L : Trails} {n : Nat} : n ∈ bindsOf p key L ↔ ∃ x ∈ L, n < p.binds.length ∧ (bAt p n).src = (x.1 : Nat) ∧ fitP p n key = true := by
  unfold bindsOf; simp [fitIdx_mem]
theorem bindsOf_nodup {p : PlanD} {key : ByteArray} : ∀ {L : Trails}, (L.map Prod.fst).Nodup → (bindsOf p key L).Nodup
  | [], _ => by simp [bindsOf]
  | x :: r, h => by
    rw [List.map_cons, List.nodup_cons] at h
    have e : bindsOf p key (x :: r) = fitIdx p key (x.1 : Nat) ++ bindsOf p key r := by simp [bindsOf]
    rw [e, List.nodup_append]
    refine ⟨?_, bindsOf_nodup h.2, fun a ha b hb hab => ?_⟩
    · unfold fitIdx fitTo; exact List.Pairwise.filter _ List.nodup_range
    · subst hab
      obtain ⟨_, h1, _⟩ := fitIdx_mem.1 ha
      obtain ⟨y, hy, _, h2, _⟩ := bindsOf_mem.1 hb
      exact h.1 (List.mem_map.2 ⟨y, hy, by omega⟩)
theorem bindsOf_len {p : PlanD} {key : ByteArray} {L : Trails} (h : (L.map Prod.fst).Nodup) : (bindsOf p key L).length ≤ p.binds.length :=
  nodup_le _ _ (bindsOf_nodup h) (fun n hn => by obtain ⟨_, _, h1, _⟩ := bindsOf_mem.1 hn; exact h1)
theorem bindsOf_take {p : PlanD} {key : ByteArray} {L : Trails} {i : Nat} (h : i < L.length) : bindsOf p key (L.take (i + 1)) = bindsOf p key (L.take i) ++ fitIdx p key (L[i].1 : Nat) := by
  unfold bindsOf; rw [List.take_succ_eq_append_getElem h, List.flatMap_append]; simp
structure QueuesIs (p : PlanD) (key : ByteArray) (v : Nat) (zs : List Int) : Prop where
  rise : zs.Pairwise (· < ·)
  mem : ∀ z, z ∈ zs ↔ ∃ n, n < p.binds.length ∧ fitP p n key = true ∧ (bAt p n).toPost = false ∧ (bAt p n).dst = z ∧ ∃ s, Path (arcOf p key) v s (bAt p n).src.toNat
theorem QueuesIs.uniq {p : PlanD} {key : ByteArray} {v : Nat} {xs ys : List Int} (hx : QueuesIs p key v xs) (hy : QueuesIs p key v ys) : xs = ys :=
  rise_uniq hx.rise hy.rise (fun z => by rw [hx.mem, hy.mem])
theorem queues_of {p : PlanD} {key : ByteArray} (hr : RightP p) {v : Nat} {L : Trails} {i : Nat} (h : Reached (arcOf p key) p.binds.length v L i) (hi : ¬ i < L.length) {ys : List Int} (hs : ys.Pairwise (· < ·)) (hm : ∀ z, z ∈ ys ↔ z ∈ qL p (bindsOf p key L)) : QueuesIs p key v ys := by
  have hf := h.found arc_lt hi
  refine ⟨hs, fun z => ?_⟩
  rw [hm]
  unfold qL
  simp only [List.mem_map, List.mem_filter, bindsOf_mem, Bool.not_eq_true']
  constructor
  · rintro ⟨n, ⟨⟨x, hx, h1, h2, h3⟩, h4⟩, h5⟩
    refine ⟨n, h1, h3, h4, h5, hf.mem.1 ?_⟩
    rw [h2, Int.toNat_natCast]; exact List.mem_map.2 ⟨x, hx, rfl⟩
  · rintro ⟨n, h1, h3, h4, h5, h6⟩
    obtain ⟨x, hx, h7⟩ := List.mem_map.1 (hf.mem.2 h6)
    have hs : 0 ≤ (bAt p n).src := by rw [bAt_get h1]; exact (hr.src _ (List.getElem_mem h1)).1
    exact ⟨n, ⟨⟨x, hx, h1, by omega, h3⟩, h4⟩, h5⟩
structure QSt (w4 : World) (b2 : Nat) (u : Value) (l : List Int) (Ds : List Nat) (W : World) : Prop where
  keep : Turn (fun k => k = b2) w4 W
  lbox : Boxed W b2 48 u
  row : W.ownsRow w4.heap.size 3 1 u l.length (l.map (Value.int .i64))
  marks : Marks w4.heap.size Ds W
theorem QSt.rowAt {w4 : World} {b2 : Nat} {u : Value} {l : List Int} {Ds : List Nat} {W : World} (h : QSt w4 b2 u l Ds W) {g : Nat} (hg : u.ownBlock = some g) : w4.heap.size ≤ g ∧ (∃ cur, W.heap[g]? = some (.cells cur 3 (0, 0))) := by
  rcases h.row.2 with ⟨rfl, _⟩ | ⟨g', cap, cur, rfl, h2, h3, _⟩
  · simp [Value.ownBlock] at hg
  · simp only [Value.ownBlock, Option.some.injEq] at hg; subst hg; exact ⟨h2, cur, h3⟩
theorem QSt.row_ne {w4 : World} {b2 : Nat} {u : Value} {l : List Int} {Ds : List Nat} {W : World} (h : QSt w4 b2 u l Ds W) {g : Nat} (hg : u.ownBlock = some g) : g ≠ b2 ∧ g ∉ Ds := by
  obtain ⟨h1, cur, h2⟩ := h.rowAt hg
  refine ⟨fun e => ?_, fun e => ?_⟩
  · have := h.lbox; unfold Boxed at this; rw [← e, h2] at this; simp at this
  · have := (h.marks.there g e).2; rw [h2] at this; simp at this
theorem QSt.mark_ne {w4 : World} {b2 : Nat} {u : Value} {l : List Int} {Ds : List Nat} {W : World} (h : QSt w4 b2 u l Ds W) {D : Nat} (hD : D ∈ Ds) : D ≠ b2 := fun e => by
  have h2 := (h.marks.there D hD).2
  have := h.lbox; unfold Boxed at this; rw [← e, h2] at this; simp at this
theorem QSt.turn {w4 : World} {b2 : Nat} {u : Value} {l : List Int} {Ds : List Nat} {W W' : World} {X : Nat → Prop} (h : QSt w4 b2 u l Ds W) (t : Turn X W W') (hx : ∀ k, k < w4.heap.size → ¬ X k) (h2 : ¬ X b2)
    (hg : ∀ g, u.ownBlock = some g → ¬ X g) (hD : ∀ D ∈ Ds, ¬ X D) : QSt w4 b2 u l Ds W' :=
  ⟨h.keep.trans t (fun i hi e => absurd e (hx i hi)), t.boxed h.lbox h2, t.row h.row hg, h.marks.turn t hD⟩
theorem QSt.below {w4 : World} {b2 : Nat} {u : Value} {l : List Int} {Ds : List Nat} {W W' : World} (h : QSt w4 b2 u l Ds W) (hB : Below W.heap.size W W') : QSt w4 b2 u l Ds W' :=
  h.turn (X := fun _ => False) (Turn.of_below _ hB) (fun _ _ => id) id (fun _ _ => id) (fun _ _ => id)
theorem QSt.other {w4 : World} {b2 : Nat} {u : Value} {l : List Int} {Ds : List Nat} {W W' : World} {row : Option Nat} {S : Nat} (h : QSt w4 b2 u l Ds W) (hg : W.grownBy W' row) (hr : ∀ r, row = some r → S ≤ r ∧ ∃ o : Obj, W.heap[r]? = some o ∧ o.isCells = false)
    (hS : w4.heap.size ≤ S) (hb : b2 < S) (hDs : ∀ D ∈ Ds, D < S) : QSt w4 b2 u l Ds W' := by
  refine h.turn (X := fun k => row = some k) (Turn.of_grown hg (fun r e => e)) (fun k hk e => by have := (hr k e).1; omega) (fun e => by have := (hr _ e).1; omega) (fun g hg' e => ?_) (fun D hD e => by have := (hr _ e).1; have := hDs D hD; omega)
  obtain ⟨_, cur, h2⟩ := h.rowAt hg'
  obtain ⟨_, o, h3, h4⟩ := hr g e
  rw [h2] at h3; cases h3; cases h4
theorem QSt.push {w4 : World} {b2 : Nat} {u u' : Value} {l : List Int} {Ds : List Nat} {W Wc : World} {z : Int} {tmp : Obj} (h : QSt w4 b2 u l Ds W) (hb : b2 < w4.heap.size)
    (hc : (W.alloc tmp).grownBy Wc u.ownBlock) (hr : Wc.ownsRow w4.heap.size 3 1 u' (l.length + 1) (l.map (Value.int .i64) ++ [.int .i64 z])) :
    Boxed Wc b2 48 u ∧ QSt w4 b2 u' (l ++ [z]) Ds (Wc.setCell ⟨b2, 0, none⟩ u') ∧ Turn (fun k => k = b2 ∨ u.ownBlock = some k) W (Wc.setCell ⟨b2, 0, none⟩ u') := by
  have t2 : Turn (fun _ => False) W (W.alloc tmp) := Turn.of_grown (World.grownBy_alloc W tmp none) (fun r e => by cases e)
  have t3 : Turn (fun k => u.ownBlock = some k) (W.alloc tmp) Wc := Turn.of_grown hc (fun r e => e)
  have t4 : Turn (fun k => k = b2) Wc (Wc.setCell ⟨b2, 0, none⟩ u') := Turn.of_grown (grownBy_setCell' Wc _ u') (fun r e => by cases e; rfl)
  have t23 : Turn (fun k => u.ownBlock = some k) W Wc := (t2.mono (fun _ _ e => e.elim)).trans t3 (fun _ _ e => e)
  have t : Turn (fun k => k = b2 ∨ u.ownBlock = some k) W (Wc.setCell ⟨b2, 0, none⟩ u') := (t23.mono (fun _ _ e => .inr e)).trans t4 (fun _ _ e => .inl e)
  have hlb : Boxed Wc b2 48 u := t23.boxed h.lbox (fun e => (h.row_ne e).1 rfl)
  have hu' : ∀ g, u'.ownBlock = some g → g ≠ b2 := fun g hg e => by have := (hr.lt g hg).1; omega
  refine ⟨hlb, ⟨h.keep.trans t (fun i hi e => ?_), hlb.set u', ?_, h.marks.turn t (fun D hD e => ?_)⟩, t⟩
  · rcases e with e | e
    · exact e
    · have := (h.rowAt e).1; omega
  · have := t4.row hr (fun g hg => hu' g hg)
    simpa using this
  · rcases e with e | e
    · exact h.mark_ne hD e
    · exact (h.row_ne e).2 hD
theorem QSt.keepF {w4 : World} {n0 b2 B : Nat} {u : Value} {l : List Int} {Ds : List Nat} {W W' : World} (h : QSt w4 b2 u l Ds W) (t : Turn (fun k => k = b2 ∨ u.ownBlock = some k) W W')
    (hn : n0 ≤ b2) (hw : n0 ≤ w4.heap.size) (hb : b2 < w4.heap.size) (hB : w4.heap.size ≤ B) (hW : B + 3 ≤ W.heap.size) (hg : ∀ g, u.ownBlock = some g → g < B ∨ B + 3 ≤ g) : KeepF n0 B W W' := by
  refine ⟨t.below (by omega) (fun k e => ?_), fun j hj => t.block _ (by omega) (fun e => ?_)⟩
  · rcases e with rfl | e
    · exact hn
    · have := (h.rowAt e).1; omega
  · rcases e with e | e
    · omega
    · have := hg _ e; omega
theorem QSt.keepsFrom {w4 : World} {b2 S : Nat} {u : Value} {l : List Int} {Ds : List Nat} {W W' : World} (h : QSt w4 b2 u l Ds W) (t : Turn (fun k => k = b2 ∨ u.ownBlock = some k) W W') (hS : b2 < S) : KeepsFrom S W W' := by
  refine ⟨t.size, fun k o hk ho hc => (t.block k (Array.getElem?_eq_some_iff.1 ho).1 (fun e => ?_)).trans ho⟩
  rcases e with e | e
  · omega
  · obtain ⟨_, cur, h2⟩ := h.rowAt e
    rw [h2] at ho; cases ho; cases hc
end Go.Proofs.YtpoichgodamnkaaGreat
