/- route.reach. -/
import Derived.Stop.RegionWithIn
import Derived.Sort.QuietIn
import Derived.Test.YthhkpgnjpieckaaRk
namespace Go.Proofs.Ythhkpgnjpieckaa
set_option linter.unusedVariables false
set_option maxRecDepth 100000
open Go.RowKit Go.Shelf Go.Maps
attribute [local go_sem] Oper.semAt_some

/-- The binds by which the key goes on to posts. -/
def arcOf (p : PlanD) (key : ByteArray) (n : Nat) : Option (Nat × Nat) := if n < p.binds.length ∧ fitP p n key = true ∧ (bAt p n).toPost = true then some ((bAt p n).src.toNat, (bAt p n).dst.toNat) else none
theorem arc_lt {p : PlanD} {key : ByteArray} : ∀ m q, arcOf p key m = some q → m < p.binds.length := by
  intro m q h; unfold arcOf at h; split at h
  · rename_i h1; exact h1.1
  · cases h
def cstep (p : PlanD) (t : List Nat) (L : Trails) (n : Nat) : Trails := if (bAt p n).toPost = true ∧ (bAt p n).dst.toNat ∉ L.map Prod.fst then L ++ [((bAt p n).dst.toNat, t ++ [n])] else L
theorem fold_round {p : PlanD} {key : ByteArray} (hr : RightP p) (u : Nat) (t : List Nat) (L : Trails) : (fitIdx p key (u : Int)).foldl (cstep p t) L = tround (arcOf p key) p.binds.length (u, t) L := by
  unfold fitIdx fitTo tround
  rw [List.foldl_filter]
  have : ∀ (l : List Nat) (L : Trails), (∀ n ∈ l, n < p.binds.length) → l.foldl (fun x y => if goesB p key (u : Int) y = true then cstep p t x y else x) L = l.foldl (tstep (arcOf p key) u t) L := by
    intro l
    induction l with
    | nil => intro L _; rfl
    | cons n r ih =>
      intro L hl
      rw [List.foldl_cons, List.foldl_cons]
      have hn : n < p.binds.length := hl n (by simp)
      have e : (if goesB p key (u : Int) n = true then cstep p t L n else L) = tstep (arcOf p key) u t L n := by
        have hs : 0 ≤ (bAt p n).src := by rw [bAt_get hn]; exact (hr.src _ (List.getElem_mem hn)).1
        have h3' : (bAt p n).src.toNat = u ↔ (bAt p n).src = (u : Int) := by omega
        unfold tstep
        by_cases h1 : fitP p n key = true ∧ (bAt p n).toPost = true
        · have ea : arcOf p key n = some ((bAt p n).src.toNat, (bAt p n).dst.toNat) := by unfold arcOf; rw [if_pos ⟨hn, h1⟩]
          rw [ea]
          dsimp only
          by_cases h3 : (bAt p n).src = (u : Int)
          · rw [if_pos (by unfold goesB; simp [h3, h1.1])]
            unfold cstep
            by_cases hm : (bAt p n).dst.toNat ∈ L.map Prod.fst
            · rw [if_neg (fun h => h.2 hm), if_neg (fun h => h.2 hm)]
            · rw [if_pos ⟨h1.2, hm⟩, if_pos ⟨h3'.2 h3, hm⟩]
          · rw [if_neg (by unfold goesB; simp [h3]), if_neg (fun h => h3 (h3'.1 h.1))]
        · have ea : arcOf p key n = none := by unfold arcOf; rw [if_neg (fun h => h1 h.2)]
          rw [ea]
          dsimp only
          by_cases hg : goesB p key (u : Int) n = true
          · rw [if_pos hg]
            have hf : fitP p n key = true := by unfold goesB at hg; simp at hg; exact hg.2
            unfold cstep
            rw [if_neg (fun h => h1 ⟨hf, h.1⟩)]
          · rw [if_neg hg]
      rw [e]
      exact ih _ (fun m hm => hl m (by simp [hm]))
  exact this _ L (fun n hn => by simpa using hn)

theorem wpListIn_insert_own {F : Fence} {nF : Nat} {H : Type} {P : Program} (w : World) {ops : Array Oper} {rest : List Oper} {o : Oper} {a : Act} {Q : Exit → Act → World → Prop}
    (hg : o.guard = none) (m x v : Operand) (t : TypeId) (hop : o.op = Op.insert t m x v)
    (k e : TypeId) (K : Keyed P k) (ht : P.underlying t = some (.map k e)) (R : Value → Option (DataW H × List MemPlace)) (b n : Nat) (D : DataW H)
    (hm : a.eval m = .map (some b)) (hown : w.ownsMap P k R b n D) (hn : n < maxLen) (key val : Value) (kl : Lit) (hx : a.eval x = key) (hv : a.eval v = val) (hkey : keyOf P k key = some kl)
    (d : DataW H) (ps : List MemPlace) (hval : R val = some (d, ps))
    (hK : ∀ w', w'.ownsMap P k R b (n + 1) (D.put kl d) → w.grownBy w' (some b) → wpListIn F nF P ops Q rest (a.put o.dst undef) w') :
    wpListIn F nF P ops Q (o :: rest) a w := by
  refine wpListIn_plain hg fun K' hK' => ?_
  obtain ⟨w', hrun, r1, r2⟩ := hown.update K ht hn hkey hval
  unfold Oper.wpIn
  refine ⟨by simp [Oper.about, hop], ?_⟩
  rw [Oper.semAt_plain F _ _ (by rw [hop]; intro c hc'; cases hc')]
  simp [execOp, hop, hm, hx, hv, hrun, Result.andThen]
  exact hK' _ _ (hK w' r1 r2)

theorem Try.infoInt : (Try.prog.info? 3).map (fun i => (i.zero, i.size, i.bytes)) = some (some (.int .i64 0), 1, 8) := by kernel_rfl
theorem zero3 (w : World) : (zeroValue 3).run Try.prog w = .ok (.int .i64 0) w := by kernel_rfl
theorem tp_lt {p : PlanD} {y : Nat} (h : (bAt p y).toPost = true) : y < p.binds.length := by
  by_cases hx : y < p.binds.length
  · exact hx
  · have : bAt p y = ⟨0, false, 0, ⟨#[]⟩⟩ := by unfold bAt; simp [List.getD, List.getElem?_eq_none (Nat.not_lt.1 hx)]
    rw [this] at h; cases h
theorem key3 : Keyed Try.prog 3 := int_keyed Try.underlying3

theorem addr_add2 (g o j : Nat) : (⟨g, o, none⟩ : Addr).add j = ⟨g, o + j, none⟩ := by unfold Addr.add; split <;> simp_all
/-- No panic leaves it. -/
def calmly (Q : Exit → Act → World → Prop) : Exit → Act → World → Prop
  | .panic _, _, _ => False
  | e, a, w => Q e a w
theorem calmly_out {Q : Exit → Act → World → Prop} : ∀ e a w, calmly Q e a w → Q e a w := fun e a w h => by cases e <;> first | exact h | exact h.elim
theorem own_base' {W : World} {base base' : Nat} {e : TypeId} {size : Nat} {v : Value} {n : Nat} {xs : List Value} (h : W.ownsRow base e size v n xs) (hb : base' ≤ base) : W.ownsRow base' e size v n xs := by
  refine ⟨h.1, ?_⟩
  rcases h.2 with h | ⟨g, cap, cur, h1, h2, h3⟩
  · exact .inl h
  · exact .inr ⟨g, cap, cur, h1, Nat.le_trans hb h2, h3⟩
abbrev ints (L : Trails) : List Value := L.map (fun x => .int .i64 (x.1 : Nat))
/-- Where reach has its things: the plan's box, the row's box, the map, the map's box. -/
structure RSt (w : World) (pv : Array Value) (b4 : Nat) (u : Value) (L : Trails) (Ds : List Nat) (W : World) : Prop where
  below : Below w.heap.size w W
  pbox : W.heap[w.heap.size]? = some (.cells pv 40 (0, 0))
  lbox : Boxed W (w.heap.size + 1 + 1) 45 u
  row : W.ownsRow (w.heap.size + 1) 3 1 u L.length (ints L)
  map : W.ownsMap Try.prog 3 (plainElem Try.prog 3) (w.heap.size + 1 + 1 + 1) L.length (byD L)
  mbox : Boxed W b4 104 (.map (some (w.heap.size + 1 + 1 + 1)))
  b4 : w.heap.size + 1 + 1 + 1 < b4
  marks : Marks (w.heap.size + 1) Ds W
theorem RSt.mapAt {w : World} {pv : Array Value} {b4 : Nat} {u : Value} {L : Trails} {Ds : List Nat} {W : World} (h : RSt w pv b4 u L Ds W) : ∃ es cl, W.heap[w.heap.size + 1 + 1 + 1]? = some (.map es cl) := by
  obtain ⟨es, cl, h1, _⟩ := h.map; exact ⟨es, cl, h1⟩
theorem RSt.rowAt {w : World} {pv : Array Value} {b4 : Nat} {u : Value} {L : Trails} {Ds : List Nat} {W : World} (h : RSt w pv b4 u L Ds W) {g : Nat} (hg : u.ownBlock = some g) : w.heap.size + 1 ≤ g ∧ (∃ cur, W.heap[g]? = some (.cells cur 3 (0, 0))) := by
  rcases h.row.2 with ⟨rfl, _⟩ | ⟨g', cap, cur, rfl, h2, h3, _⟩
  · simp [Value.ownBlock] at hg
  · simp only [Value.ownBlock, Option.some.injEq] at hg; subst hg; exact ⟨h2, cur, h3⟩
theorem RSt.row_ne {w : World} {pv : Array Value} {b4 : Nat} {u : Value} {L : Trails} {Ds : List Nat} {W : World} (h : RSt w pv b4 u L Ds W) {g : Nat} (hg : u.ownBlock = some g) : g ≠ w.heap.size ∧ g ≠ w.heap.size + 1 + 1 ∧ g ≠ w.heap.size + 1 + 1 + 1 ∧ g ≠ b4 ∧ g ∉ Ds := by
  obtain ⟨h1, cur, h2⟩ := h.rowAt hg
  refine ⟨by omega, fun e => ?_, fun e => ?_, fun e => ?_, fun e => ?_⟩
  · have := h.lbox; unfold Boxed at this; rw [← e, h2] at this; simp at this
  · obtain ⟨es, cl, h3⟩ := h.mapAt; rw [← e, h2] at h3; simp at h3
  · have := h.mbox; unfold Boxed at this; rw [← e, h2] at this; simp at this
  · have := (h.marks.there g e).2; rw [h2] at this; simp at this
theorem RSt.mark_ne {w : World} {pv : Array Value} {b4 : Nat} {u : Value} {L : Trails} {Ds : List Nat} {W : World} (h : RSt w pv b4 u L Ds W) {D : Nat} (hD : D ∈ Ds) : D ≠ w.heap.size ∧ D ≠ w.heap.size + 1 + 1 ∧ D ≠ w.heap.size + 1 + 1 + 1 ∧ D ≠ b4 := by
  obtain ⟨h1, h2⟩ := h.marks.there D hD
  refine ⟨by omega, fun e => ?_, fun e => ?_, fun e => ?_⟩
  · have := h.lbox; unfold Boxed at this; rw [← e, h2] at this; simp at this
  · obtain ⟨es, cl, h3⟩ := h.mapAt; rw [← e, h2] at h3; simp at h3
  · have := h.mbox; unfold Boxed at this; rw [← e, h2] at this; simp at this
/-- What turns none of them keeps them. -/
theorem RSt.turn {w : World} {pv : Array Value} {b4 : Nat} {u : Value} {L : Trails} {Ds : List Nat} {W W' : World} {X : Nat → Prop} (h : RSt w pv b4 u L Ds W) (t : Turn X W W') (hx : ∀ k, X k → w.heap.size ≤ k)
    (h0 : ¬ X w.heap.size) (h2 : ¬ X (w.heap.size + 1 + 1)) (h3 : ¬ X (w.heap.size + 1 + 1 + 1)) (h4 : ¬ X b4) (hg : ∀ g, u.ownBlock = some g → ¬ X g) (hD : ∀ D ∈ Ds, ¬ X D) : RSt w pv b4 u L Ds W' :=
  ⟨h.below.trans (t.below h.below.size hx), (t.block _ (Array.getElem?_eq_some_iff.1 h.pbox).1 h0).trans h.pbox, t.boxed h.lbox h2, t.row h.row hg, t.map h.map h3, t.boxed h.mbox h4, h.b4, h.marks.turn t hD⟩
theorem RSt.keep {w : World} {pv : Array Value} {b4 : Nat} {u : Value} {L : Trails} {Ds : List Nat} {W W' : World} (h : RSt w pv b4 u L Ds W) (hB : Below W.heap.size W W') : RSt w pv b4 u L Ds W' :=
  h.turn (X := fun _ => False) (Turn.of_below _ hB) (fun _ e => e.elim) id id id id (fun _ _ => id) (fun _ _ => id)
/-- A block that is no cells, beyond these, may turn. -/
theorem RSt.other {w : World} {pv : Array Value} {b4 : Nat} {u : Value} {L : Trails} {Ds : List Nat} {W W' : World} {row : Option Nat} {S : Nat} (h : RSt w pv b4 u L Ds W) (hg : W.grownBy W' row) (hr : ∀ r, row = some r → S ≤ r ∧ ∃ o : Obj, W.heap[r]? = some o ∧ o.isCells = false)
    (hS : b4 < S) (hDs : ∀ D ∈ Ds, D < S) : RSt w pv b4 u L Ds W' := by
  have hb4 := h.b4
  refine h.turn (X := fun k => row = some k) (Turn.of_grown hg (fun r e => e)) (fun k e => by have := (hr k e).1; omega) (fun e => by have := (hr _ e).1; omega) (fun e => by have := (hr _ e).1; omega) (fun e => by have := (hr _ e).1; omega) (fun e => by have := (hr _ e).1; omega) (fun g hg' e => ?_) (fun D hD e => by have := (hr _ e).1; have := hDs D hD; omega)
  obtain ⟨_, cur, h2⟩ := h.rowAt hg'
  obtain ⟨_, o, h3, h4⟩ := hr g e
  rw [h2] at h3; cases h3; cases h4
/-- One post more. -/
theorem RSt.push {w : World} {pv : Array Value} {b4 : Nat} {u u' : Value} {L : Trails} {Ds : List Nat} {W Wa Wc : World} {x : Nat × List Nat} {tmp : Obj} (h : RSt w pv b4 u L Ds W)
    (ha : W.grownBy Wa (some (w.heap.size + 1 + 1 + 1))) (hm : Wa.ownsMap Try.prog 3 (plainElem Try.prog 3) (w.heap.size + 1 + 1 + 1) (L.length + 1) (byD (L ++ [x])))
    (hc : (Wa.alloc tmp).grownBy Wc u.ownBlock) (hr : Wc.ownsRow (w.heap.size + 1) 3 1 u' (L.length + 1) (ints L ++ [.int .i64 (x.1 : Nat)])) (hl : u'.ownBlock = u.ownBlock ∨ u'.ownBlock = some (Wa.alloc tmp).heap.size) :
    Boxed Wc (w.heap.size + 1 + 1) 45 u ∧ RSt w pv b4 u' (L ++ [x]) Ds (Wc.setCell ⟨w.heap.size + 1 + 1, 0, none⟩ u') ∧ Turn (fun k => k = w.heap.size + 1 + 1 ∨ k = w.heap.size + 1 + 1 + 1 ∨ u.ownBlock = some k) W (Wc.setCell ⟨w.heap.size + 1 + 1, 0, none⟩ u') := by
  have hb4 := h.b4
  have t1 : Turn (fun k => k = w.heap.size + 1 + 1 + 1) W Wa := Turn.of_grown ha (fun r e => by cases e; rfl)
  have t2 : Turn (fun _ => False) Wa (Wa.alloc tmp) := Turn.of_grown (World.grownBy_alloc Wa tmp none) (fun r e => by cases e)
  have t3 : Turn (fun k => u.ownBlock = some k) (Wa.alloc tmp) Wc := Turn.of_grown hc (fun r e => e)
  have t4 : Turn (fun k => k = w.heap.size + 1 + 1) Wc (Wc.setCell ⟨w.heap.size + 1 + 1, 0, none⟩ u') := Turn.of_grown (grownBy_setCell' Wc _ u') (fun r e => by cases e; rfl)
  have t12 : Turn (fun k => k = w.heap.size + 1 + 1 + 1) W (Wa.alloc tmp) := t1.trans t2 (fun _ _ e => e.elim)
  have t13 : Turn (fun k => k = w.heap.size + 1 + 1 + 1 ∨ u.ownBlock = some k) W Wc := (t12.mono (fun _ _ e => .inl e)).trans t3 (fun _ _ e => .inr e)
  have t14 : Turn (fun k => k = w.heap.size + 1 + 1 ∨ k = w.heap.size + 1 + 1 + 1 ∨ u.ownBlock = some k) W (Wc.setCell ⟨w.heap.size + 1 + 1, 0, none⟩ u') := (t13.mono (fun _ _ e => .inr e)).trans t4 (fun _ _ e => .inl e)
  have hlb : Boxed Wc (w.heap.size + 1 + 1) 45 u := t13.boxed h.lbox (fun e => by
    rcases e with e | e
    · omega
    · exact (h.row_ne e).2.1 rfl)
  have hsz : W.heap.size ≤ (Wa.alloc tmp).heap.size := t12.size
  have hlW : w.heap.size + 1 + 1 < W.heap.size := h.lbox.lt
  have hu' : ∀ g, u'.ownBlock = some g → g ≠ w.heap.size + 1 + 1 := fun g hg e => by
    rcases hl with h1 | h1
    · rw [h1] at hg; exact (h.row_ne hg).2.1 e
    · rw [h1] at hg; simp only [Option.some.injEq] at hg; omega
  refine ⟨hlb, ⟨h.below.trans (t14.below h.below.size (fun k e => ?_)), ?_, ?_, ?_, ?_, ?_, h.b4, ?_⟩, t14⟩
  · rcases e with rfl | rfl | e
    · omega
    · omega
    · have := (h.rowAt e).1; omega
  · refine (t14.block _ (by omega) (fun e => ?_)).trans h.pbox
    rcases e with e | e | e
    · omega
    · omega
    · exact (h.row_ne e).1 rfl
  · exact hlb.set u'
  · have := t4.row hr (fun g hg => hu' g hg)
    simpa [ints] using this
  · have h3 : Wc.ownsMap Try.prog 3 (plainElem Try.prog 3) (w.heap.size + 1 + 1 + 1) (L.length + 1) (byD (L ++ [x])) := t3.map (t2.map hm id) (fun e => (h.row_ne e).2.2.1 rfl)
    have := t4.map h3 (by omega)
    simpa using this
  · refine t14.boxed h.mbox (fun e => ?_)
    rcases e with e | e | e
    · omega
    · omega
    · exact (h.row_ne e).2.2.2.1 rfl
  · refine h.marks.turn t14 (fun D hD e => ?_)
    rcases e with e | e | e
    · exact (h.mark_ne hD).2.1 e
    · exact (h.mark_ne hD).2.2.1 e
    · exact (h.row_ne e).2.2.2.2 hD

theorem reached_in {p : PlanD} {key : ByteArray} (hr : RightP p) {v : Nat} (hv : v < p.posts.length) {L : Trails} {i : Nat} (h : Reached (arcOf p key) p.binds.length v L i) : (∀ x ∈ L, x.1 < p.posts.length) ∧ L.length ≤ p.posts.length ∧ i ≤ L.length := by
  have hc := h.came arc_lt
  have hm : ∀ x ∈ L, x.1 < p.posts.length := by
    intro x hx
    rcases (hc.1.path x hx).inv with ⟨_, e⟩ | ⟨s, u, n, _, _, e⟩
    · omega
    · unfold arcOf at e
      split at e
      · rename_i h1
        simp at e
        have hd := hr.dst _ (List.getElem_mem h1.1)
        rw [← bAt_get h1.1, h1.2.2] at hd
        simp only [if_true] at hd
        omega
      · cases e
  exact ⟨hm, by have := nodup_le p.posts.length (L.map Prod.fst) hc.1.once (fun y hy => by obtain ⟨x, hx, rfl⟩ := List.mem_map.1 hy; exact hm x hx); simpa using this, hc.2⟩

theorem reach_begin (w W4 W5 : World) (pv : Array Value) (v : Nat) (hW4 : W4 = (((w.alloc (.cells pv 40)).alloc (.cells #[.int .i64 (v : Nat)] 3)).alloc (.cells #[.slice (some ⟨w.heap.size + 1, 0, none⟩) 1 1] 45)).alloc (.map #[] 0))
    (hown : W5.ownsMap Try.prog 3 (plainElem Try.prog 3) (w.heap.size + 1 + 1 + 1) 1 (byD [(v, [])])) (hg : W4.grownBy W5 (some (w.heap.size + 1 + 1 + 1))) :
    RSt w pv W5.heap.size (.slice (some ⟨w.heap.size + 1, 0, none⟩) 1 1) [(v, [])] [] (W5.alloc (.cells #[.map (some (w.heap.size + 1 + 1 + 1))] 104)) := by
  have hs : W4.heap.size = w.heap.size + 1 + 1 + 1 + 1 := by rw [hW4]; simp
  have q0 : W4.heap[w.heap.size]? = some (.cells pv 40 (0, 0)) := by
    rw [hW4, Below.heap_alloc _ _ _ (by simp; omega), Below.heap_alloc _ _ _ (by simp; omega), Below.heap_alloc _ _ _ (by simp)]; exact World.alloc_heap_new w _
  have q1 : W4.heap[w.heap.size + 1]? = some (.cells #[.int .i64 (v : Nat)] 3 (0, 0)) := by
    rw [hW4, Below.heap_alloc _ _ _ (by simp), Below.heap_alloc _ _ _ (by simp)]
    have := World.alloc_heap_new (w.alloc (.cells pv 40)) (.cells #[.int .i64 (v : Nat)] 3)
    rw [World.size_alloc] at this; exact this
  have q2 : W4.heap[w.heap.size + 1 + 1]? = some (.cells #[.slice (some ⟨w.heap.size + 1, 0, none⟩) 1 1] 45 (0, 0)) := by
    rw [hW4, Below.heap_alloc _ _ _ (by simp)]
    have := World.alloc_heap_new ((w.alloc (.cells pv 40)).alloc (.cells #[.int .i64 (v : Nat)] 3)) (.cells #[.slice (some ⟨w.heap.size + 1, 0, none⟩) 1 1] 45)
    rw [World.size_alloc, World.size_alloc] at this; exact this
  have hB4 : Below w.heap.size w W4 := by
    rw [hW4]
    exact ((((Below.refl _ _).alloc (Nat.le_refl _) _).alloc (by simp) _).alloc (by simp; omega) _).alloc (by simp; omega) _
  have t5 : Turn (fun k => k = w.heap.size + 1 + 1 + 1) W4 W5 := Turn.of_grown hg (fun r e => by cases e; rfl)
  have t6 : Turn (fun _ => False) W5 (W5.alloc (.cells #[.map (some (w.heap.size + 1 + 1 + 1))] 104)) := Turn.of_grown (World.grownBy_alloc W5 _ none) (fun r e => by cases e)
  have t : Turn (fun k => k = w.heap.size + 1 + 1 + 1) W4 (W5.alloc (.cells #[.map (some (w.heap.size + 1 + 1 + 1))] 104)) := t5.trans t6 (fun _ _ e => e.elim)
  have s5 := t5.size
  refine ⟨hB4.trans (t.below (by omega) (fun k e => by omega)), (t.block _ (by omega) (by omega)).trans q0, (t.block _ (by omega) (by omega)).trans q2, ?_, t6.map hown id, Boxed.new W5 _ _, by omega, ⟨List.nodup_nil, fun D hD => by simp at hD⟩⟩
  refine ⟨rfl, .inr ⟨w.heap.size + 1, 1, #[.int .i64 (v : Nat)], rfl, Nat.le_refl _, (t.block _ (by omega) (by omega)).trans q1, Nat.le_refl _, by unfold maxLen; omega, rfl, rfl⟩⟩

theorem wf_nat {n : Nat} (h : n ≤ 9223372036854775807) : (Lit.int .i64 (n : Int)).wf = true := by simp [Lit.wf, IntKind.min, IntKind.max, IntKind.bits, IntKind.signed]; omega

theorem dst_ok {p : PlanD} (hr : RightP p) (x : Nat) (h : (bAt p x).toPost = true) : 0 ≤ (bAt p x).dst ∧ (bAt p x).dst < p.posts.length := by
  by_cases hx : x < p.binds.length
  · have hd := hr.dst _ (List.getElem_mem hx)
    rw [← bAt_get hx, h] at hd
    simpa using hd
  · have : bAt p x = ⟨0, false, 0, ⟨#[]⟩⟩ := by unfold bAt; simp [List.getD, List.getElem?_eq_none (Nat.not_lt.1 hx)]
    rw [this] at h; cases h
theorem cstep_len (p : PlanD) (t : List Nat) : ∀ (pre : List Nat) (L : Trails), (pre.foldl (cstep p t) L).length ≤ L.length + pre.length
  | [], L => by simp
  | x :: r, L => by
    have := cstep_len p t r (cstep p t L x)
    have h2 : (cstep p t L x).length ≤ L.length + 1 := by unfold cstep; split <;> simp
    rw [List.foldl_cons]; simp only [List.length_cons]; omega
theorem fitIdx_len {p : PlanD} {key : ByteArray} {v : Int} (h : p.binds.length ≤ 10) : (fitIdx p key v).length ≤ 10 := by
  unfold fitIdx fitTo
  have := List.length_filter_le (goesB p key v) (List.range p.binds.length)
  simp at this; omega
/-- What a round of the inner loop keeps. -/
theorem keepF_turn {w : World} {pv : Array Value} {b4 B : Nat} {u : Value} {L : Trails} {Ds : List Nat} {W W' : World} (h : RSt w pv b4 u L Ds W) (t : Turn (fun k => k = w.heap.size + 1 + 1 ∨ k = w.heap.size + 1 + 1 + 1 ∨ u.ownBlock = some k) W W')
    (hB : b4 < B) (hW : B + 3 ≤ W.heap.size) (hg : ∀ g, u.ownBlock = some g → g < B ∨ B + 3 ≤ g) : KeepF w.heap.size B W W' := by
  have hb4 := h.b4
  refine ⟨t.below h.below.size (fun k e => ?_), fun j hj => t.block _ (by omega) (fun e => ?_)⟩
  · rcases e with rfl | rfl | e
    · omega
    · omega
    · have := (h.rowAt e).1; omega
  · rcases e with e | e | e
    · omega
    · omega
    · have := hg _ e; omega
theorem keepsFrom_turn {w : World} {pv : Array Value} {b4 S : Nat} {u : Value} {L : Trails} {Ds : List Nat} {W W' : World} (h : RSt w pv b4 u L Ds W) (t : Turn (fun k => k = w.heap.size + 1 + 1 ∨ k = w.heap.size + 1 + 1 + 1 ∨ u.ownBlock = some k) W W')
    (hS : b4 < S) : KeepsFrom S W W' := by
  have hb4 := h.b4
  refine ⟨t.size, fun k o hk ho hc => (t.block k (Array.getElem?_eq_some_iff.1 ho).1 (fun e => ?_)).trans ho⟩
  rcases e with e | e | e
  · omega
  · omega
  · obtain ⟨_, cur, h2⟩ := h.rowAt e
    rw [h2] at ho; cases ho; cases hc

set_option maxRecDepth 100000 in
set_option maxHeartbeats 2000000 in
theorem reach_in (p : PlanD) (a1 a2 a3 : Option Addr) (n1 c1 n2 c2 n3 c3 : Nat) (v : Nat) (key : ByteArray) (w : World) (hc : chkP p = 0) (hk : kerr key.data.toList = 0) (hv : v < n1) (hp : PlanAt w a1 a2 a3 n1 n2 n3 p) :
    CallsIn Fence.wide 6 Try.prog 78 #[.agg #[.slice a1 n1 c1, .slice a2 n2 c2, .slice a3 n3 c3], .int .i64 (v : Nat), .string key] w fun e w' => ∃ u b L i, e = .returned (.tuple #[u, .map (some b)]) ∧ Reached (arcOf p key) p.binds.length v L i ∧ ¬ i < L.length ∧ w'.ownsRow w.heap.size 3 1 u L.length (ints L) ∧ w'.ownsMap Try.prog 3 (plainElem Try.prog 3) b L.length (byD L) ∧ w.heap.size ≤ b ∧ Below w.heap.size w w' := by
  have hr := chk_right hc
  have h4 : n1 ≤ 4 := by have := hr.few.1; rw [hp.l1] at this; exact this
  have HR : Hid (∀ {L : Trails} {i : Nat}, Reached (arcOf p key) p.binds.length v L i → (∀ x ∈ L, x.1 < n1) ∧ L.length ≤ n1 ∧ i ≤ L.length) := fun h => by
    have := reached_in hr (by rw [hp.l1]; exact hv) h; rw [hp.l1] at this; exact this
  have HRP : Hid (RightP p) := hr
  have HP : Hid (PlanAt w a1 a2 a3 n1 n2 n3 p) := hp
  have HCK : Hid (chkP p = 0 ∧ kerr key.data.toList = 0) := ⟨hc, hk⟩
  obtain ⟨W4, hW4⟩ : ∃ W4, W4 = (((w.alloc (.cells #[.slice a1 n1 c1, .slice a2 n2 c2, .slice a3 n3 c3] 40)).alloc (.cells #[.int .i64 (v : Nat)] 3)).alloc (.cells #[.slice (some ⟨w.heap.size + 1, 0, none⟩) 1 1] 45)).alloc (.map #[] 0) := ⟨_, rfl⟩
  have hmade : W4.ownsMap Try.prog 3 (plainElem (H := Unit) Try.prog 3) (w.heap.size + 1 + 1 + 1) 0 (.map []) := by
    have := World.ownsMap_made (H := Unit) ((((w.alloc (.cells #[.slice a1 n1 c1, .slice a2 n2 c2, .slice a3 n3 c3] 40)).alloc (.cells #[.int .i64 (v : Nat)] 3)).alloc (.cells #[.slice (some ⟨w.heap.size + 1, 0, none⟩) 1 1] 45))) Try.prog 3 (plainElem Try.prog 3)
    rw [hW4]; simpa using this
  obtain ⟨W5, hrun, hown5, hgrow5⟩ := hmade.update key3 Try.underlying104 (by unfold maxLen; omega) (keyOf_int_mk Try.underlying3 (wf_nat (n := v) (by omega))) (plainElem_int (a := -1) Try.underlying3 (by decide))
  have hst := reach_begin w W4 W5 _ v hW4 (by have e : byD [(v, [])] = (DataW.map []).put (.int .i64 (v : Nat)) (.lit (.int .i64 (-1))) := rfl
                                              rw [e]; exact hown5) hgrow5
  have HW4 : Hid (W4 = _) := hW4
  have HRUN := hidIt hrun
  have hmm := @run_makeMap Try.prog
  clear hW4 hmade hrun hown5 hgrow5 hp hc hk hr
  refine callsIn_of_wp_marks Try.func78 rfl trivial (Go.wpIn_mono ?_ calmly_out) rfl
  simp only [Try.ntmps78, List.size_toArray, List.length_cons, List.length_nil, Nat.reduceAdd, Nat.reduceSub, Array.replicate_succ, Array.replicate_zero, List.push_toArray, List.append_toArray, List.nil_append, List.cons_append]
  gi_wp2_with fail
  rw [← HW4.out, HRUN.out]
  clear hmm
  gi_wp2_with fail
  obtain ⟨W6, hW6⟩ : ∃ W6, W6 = W5.alloc (.cells #[.map (some (w.heap.size + 1 + 1 + 1))] 104) := ⟨_, rfl⟩
  rw [← hW6] at hst ⊢
  clear hW6
  refine wpIn_loop (fun a W => ∃ (i : Nat) (L : Trails) (Ds : List Nat) (u u11 u12 u13 u14 u20 u21 u22 u23 u24 u25 u26 u27 u28 u29 u30 u31 u32 u33 u34 u35 u36 u37 u38 u39 u40 u41 u42 u43 u44 u45 u46 u47 u48 u49 u50 u51 u52 u53 u54 u55 : Value), a = { tmps := #[.agg #[.slice a1 n1 c1, .slice a2 n2 c2, .slice a3 n3 c3], .int .i64 (v : Nat), .string key, .pointer (some ⟨w.heap.size, 0, none⟩), undef, undef, .slice none 0 0, .map none, .pointer (some ⟨w.heap.size + 1 + 1, 0, none⟩), .pointer (some ⟨W5.heap.size, 0, none⟩), (.int .i64 (i : Nat)), u11, u12, u13, u14, .int .i64 (v : Nat), .slice (some ⟨w.heap.size + 1, 0, none⟩) 1 1, .map (some (w.heap.size + 1 + 1 + 1)), .int .i64 (v : Nat), .map (some (w.heap.size + 1 + 1 + 1)), u20, u21, u22, u23, u24, u25, u26, u27, u28, u29, u30, u31, u32, u33, u34, u35, u36, u37, u38, u39, u40, u41, u42, u43, u44, u45, u46, u47, u48, u49, u50, u51, u52, u53, u54, u55, undef, undef], defers := Ds.map markOf } ∧ Reached (arcOf p key) p.binds.length v L i ∧ RSt w #[.slice a1 n1 c1, .slice a2 n2 c2, .slice a3 n3 c3] W5.heap.size u L Ds W) (fun a _ => 5 - (intOf (a.tmps.getD 10 undef)).toNat) ⟨0, _, [], _, _, _, _, _, _, _, _, _, _, _, _, _, _, _, _, _, _, _, _, _, _, _, _, _, _, _, _, _, _, _, _, _, _, _, _, _, _, _, _, _, rfl, .start, hst⟩ ?_
  rintro a W ⟨i, L, Ds, u, u11, u12, u13, u14, u20, u21, u22, u23, u24, u25, u26, u27, u28, u29, u30, u31, u32, u33, u34, u35, u36, u37, u38, u39, u40, u41, u42, u43, u44, u45, u46, u47, u48, u49, u50, u51, u52, u53, u54, u55, rfl, hre, hs⟩
  obtain ⟨hL1, hL2, hL3⟩ := HR.out hre
  have lc := hs.lbox.cell
  obtain ⟨au, cu, rfl, hcu, hau⟩ : ∃ au cu, u = .slice au L.length cu ∧ L.length ≤ cu ∧ (L.length = 0 ∨ ∃ g, au = some ⟨g, 0, none⟩) := by
    rcases hs.row.2 with ⟨rfl, h0⟩ | ⟨g, cap, cur, rfl, _, _, h1, _⟩
    · exact ⟨none, 0, by rw [h0], by omega, .inl h0⟩
    · exact ⟨_, cap, rfl, h1, .inr ⟨g, rfl⟩⟩
  by_cases hlt : i < L.length
  · obtain ⟨g, rfl⟩ : ∃ g, au = some ⟨g, 0, none⟩ := by
      rcases hau with h | h
      · omega
      · exact h
    have e0 := cell_of hs.pbox 0
    have e1 := cell_of hs.pbox 1
    have e2 := cell_of hs.pbox 2
    simp at e0 e1 e2
    obtain ⟨x, t, hxt⟩ : ∃ x t, L[i] = (x, t) := ⟨_, _, rfl⟩
    have hxi : (ints L)[i]? = some (.int .i64 (x : Nat)) := by simp [ints, hlt, hxt]
    have e3 : W.cell? ⟨g, i, none⟩ = some (.int .i64 (x : Nat)) := by
      have := hs.row.cells (g := g) rfl i _ hxi
      simpa [addr_add2] using this
    have j1 : (0 : Int) ≤ (i : Int) := by omega
    have j2 : (i : Int) < (L.length : Int) := by omega
    clear hxi hau
    obtain ⟨Wf0, hWf0, fb0, hBf0, hsf0⟩ := fitting_boxes W a1 a2 a3 n1 c1 n2 c2 n3 c3 (x : Nat) key
    have HWF0 : Hid (Wf0 = _) := hWf0
    obtain ⟨Wf, hWf⟩ : ∃ Wf, Wf = Wf0.drew := ⟨_, rfl⟩
    have HWF : Hid (Wf = Wf0.drew) := hWf
    have fb : FitBoxes Wf W.heap.size a1 a2 a3 n1 c1 n2 c2 n3 c3 (x : Nat) key := by rw [hWf]; exact ⟨fb0.p, fb0.v, fb0.k⟩
    have hsW : Wf.heap.size = W.heap.size + 3 := by rw [hWf]; exact hsf0
    have hBW : Below W.heap.size W Wf := by rw [hWf]; exact hBf0.drew
    clear hWf0 hWf fb0 hBf0 hsf0
    have hsF : RSt w #[.slice a1 n1 c1, .slice a2 n2 c2, .slice a3 n3 c3] W5.heap.size (.slice (some ⟨g, 0, none⟩) L.length cu) L Ds Wf := hs.keep hBW
    have hb4 := hs.b4
    have hb4W := hs.mbox.lt
    have hgW : g < W.heap.size := (hs.row.lt g rfl).2
    have hDW := hs.marks.lt
    have HX : Hid (L[i] = (x, t)) := hxt
    clear hxt
    gi_wp2_with fail
    gi_region_with (refine ⟨trivial, ?_⟩; gi_at_call 80; refine (fitting_in _ _ _ _ _ _ _).mono ?_; rintro e w' ⟨rfl, rfl⟩)
    all_goals
      clear e0 e1 e2 e3 lc
      gi_wp2_with fail
      rw [← HWF0.out, ← HWF.out]
      refine wpIn_rangeFunc_ownH rfl (by omega) (gf := 116) (lb := #[.pointer (some ⟨W.heap.size, 0, none⟩), .pointer (some ⟨W.heap.size + 1, 0, none⟩), .pointer (some ⟨W.heap.size + 1 + 1, 0, none⟩)]) rfl trivial (enters_of Try.func116 (by kernel_rfl) rfl)
        (fit_stops 5 (by omega) W.heap.size p a1 a2 a3 n1 c1 n2 c2 n3 c3 (x : Nat) key w Wf HCK.out.1 HCK.out.2 HP.out hs.below.size (by omega) hsF.below fb) (fun h k => h.trans k) (fun W' l o o' hl ho _ _ => keepF_b (by have := hs.below.size; omega) (by omega) W' l o o' hl ho) (Below.refl _ _) (fun _ => rfl)
        (fun pre W' => ∃ u', RSt w #[.slice a1 n1 c1, .slice a2 n2 c2, .slice a3 n3 c3] W5.heap.size u' (pre.foldl (cstep p t) L) Ds W' ∧ (∀ g', u'.ownBlock = some g' → g' < W.heap.size ∨ W.heap.size + 3 ≤ g') ∧ Wf.heap.size ≤ W'.heap.size)
        (fun _ _ _ => False)
        (fun pre W' W'' row hI hg hr => by
          obtain ⟨u', h1, h2, h3⟩ := hI
          exact ⟨u', h1.other hg hr (by omega) (fun D hD => by have := hDW D hD; omega), h2, Nat.le_trans h3 hg.size⟩)
        (fun _ _ _ _ _ h _ _ => h)
        ⟨_, hsF, fun g' e => by simp only [Value.ownBlock, Option.some.injEq] at e; left; omega, Nat.le_refl _⟩
        (fun y a' W' => ∃ Bx, W.heap.size + 3 ≤ Bx ∧ W'.heap[Bx]? = some (.cells #[.int .i64 (bAt p y).src, .bool (bAt p y).toPost, .int .i64 (bAt p y).dst, .string (bAt p y).pat] 55 (0, 0)) ∧ a' = { tmps := #[.agg #[.slice a1 n1 c1, .slice a2 n2 c2, .slice a3 n3 c3], .int .i64 (v : Nat), .string key, .pointer (some ⟨w.heap.size, 0, none⟩), undef, undef, .slice none 0 0, .map none, .pointer (some ⟨w.heap.size + 1 + 1, 0, none⟩), .pointer (some ⟨W5.heap.size, 0, none⟩), .int .i64 (i : Nat), .int .i64 (y : Nat), .pointer (some ⟨Bx, 0, none⟩), u13, u14, .int .i64 (v : Nat), .slice (some ⟨w.heap.size + 1, 0, none⟩) 1 1, .map (some (w.heap.size + 1 + 1 + 1)), .int .i64 (v : Nat), .map (some (w.heap.size + 1 + 1 + 1)), .int .i64 (i : Nat), .slice (some ⟨g, 0, none⟩) L.length cu, .int .i64 (L.length : Nat), .bool true, u24, u25, .agg #[.slice a1 n1 c1, .slice a2 n2 c2, .slice a3 n3 c3], .slice (some ⟨g, 0, none⟩) L.length cu, .int .i64 (i : Nat), .pointer (some ⟨g, i, none⟩), .int .i64 (x : Nat), .string key, .func (.func 116) #[] #[.pointer (some ⟨W.heap.size, 0, none⟩), .pointer (some ⟨W.heap.size + 1, 0, none⟩), .pointer (some ⟨W.heap.size + 1 + 1, 0, none⟩)], .int .i64 (y : Nat), (bAt p y).val, u35, u36, u37, u38, u39, u40, u41, u42, u43, u44, u45, u46, u47, u48, u49, u50, u51, u52, u53, u54, u55, undef, undef], defers := [] })
        (fun y a' _ W' W'' row hA hg hr => by
          obtain ⟨Bx, h1, h2, h3⟩ := hA
          refine ⟨Bx, h1, (hg.block Bx (Array.getElem?_eq_some_iff.1 h2).1 (fun e => ?_)).trans h2, h3⟩
          obtain ⟨_, o, h4, h5⟩ := hr Bx e.symm
          rw [h2] at h4; cases h4; cases h5)
        ?assign ?body ?done ?stop
      case stop => rintro D c pre W' _ _ h _; exact h.elim
      case assign =>
        rintro l pre y W' K ⟨u', h1, h2, h3⟩ hK
        dsimp only [BindD.val]
        gi_wp2
        have hBa : Below W'.heap.size W' (W'.alloc (.cells #[.int .i64 (bAt p y).src, .bool (bAt p y).toPost, .int .i64 (bAt p y).dst, .string (bAt p y).pat] 55)) := (Below.refl _ _).alloc (Nat.le_refl _) _
        exact hK _ _ ((KeepsOthers.alloc _ _).from _) (KeepF.of_below hBa h1.below.size (by omega)) ⟨u', h1.keep hBa, h2, Nat.le_trans h3 hBa.size⟩ ⟨W'.heap.size, by omega, World.alloc_heap_new W' _, rfl⟩
      case body =>
        rintro l pre y a' W' hl _ ⟨u', h1, h2, h3⟩ ⟨Bx, hBx, hcell, rfl⟩ hlen
        have hfold : (pre ++ [y]).foldl (cstep p t) L = cstep p t (pre.foldl (cstep p t) L) y := by rw [List.foldl_append]; rfl
        have hL' := cstep_len p t pre L
        have h10 := fitIdx_len (p := p) (key := key) (v := (x : Nat)) HRP.out.few.2.2
        obtain ⟨L', hLe⟩ : ∃ L', L' = pre.foldl (cstep p t) L := ⟨_, rfl⟩
        rw [← hLe] at h1 hL' hfold
        have HFO : Hid ((pre ++ [y]).foldl (cstep p t) L = cstep p t L' y) := hfold
        have hL'' : L'.length ≤ 20 := by omega
        have m0 := cell_of hcell 0
        have m1 := cell_of hcell 1
        have m2 := cell_of hcell 2
        have m3 := cell_of hcell 3
        simp at m0 m1 m2 m3
        have lc' := h1.lbox.cell
        have mc' := h1.mbox.cell
        have HDO := hidIt (dst_ok HRP.out y)
        clear hfold hLe hL'
        cases htp : (bAt p y).toPost with
        | false =>
          have HC : Hid (cstep p t L' y = L') := by show cstep p t L' y = L'; unfold cstep; rw [htp]; simp
          rw [htp] at m1
          gi_wp2
          exact ⟨KeepsFrom.refl _ _, KeepF.refl _ _ _, u', by rw [HFO.out, HC.out]; exact h1, h2, h3⟩
        | true =>
          rw [htp] at m1
          obtain ⟨hd0, hd1⟩ := HDO.out htp
          obtain ⟨z, hz⟩ := Int.eq_ofNat_of_zero_le hd0
          have hz' : Hid ((bAt p y).dst = (z : Nat)) := hz
          rw [hz] at m2 hd1
          have hz4 : z ≤ 1000 := by have := HRP.out.few.1; omega
          have hkey : keyOf Try.prog 3 (.int .i64 (z : Nat)) = some (.int .i64 (z : Nat)) := keyOf_int_mk Try.underlying3 (wf_nat (by omega))
          have hhas := byD_has L' z
          have hy10 : y < 1000 := by have := tp_lt htp; have := HRP.out.few.2.2; omega
          have HZ : Hid ((bAt p y).dst.toNat = z) := by show (bAt p y).dst.toNat = z; omega
          by_cases hin : z ∈ L'.map Prod.fst
          · have hh : has (byD L') (.int .i64 (z : Nat)) = true := by rw [hhas]; simpa using hin
            have HC : Hid (cstep p t L' y = L') := by show cstep p t L' y = L'; unfold cstep; rw [if_neg (fun h => h.2 (by rw [HZ.out]; exact hin))]
            clear hhas hin htp hz
            gi_wp2_with (gi_at_lookup; refine wpListIn_lookup_own_ok_int _ rfl _ _ 104 rfl 3 3 .i64 key3 Try.underlying104 Try.underlying3 (zero3 _) (w.heap.size + 1 + 1 + 1) _ _ rfl h1.map _ _ rfl hkey ?_; intro c hat hwc; rw [hh])
            exact ⟨KeepsFrom.refl _ _, KeepF.refl _ _ _, u', by rw [HFO.out, HC.out]; exact h1, h2, h3⟩
          · have hh : has (byD L') (.int .i64 (z : Nat)) = false := by rw [hhas]; simpa using hin
            have HC : Hid (cstep p t L' y = L' ++ [(z, t ++ [y])]) := by show cstep p t L' y = _; unfold cstep; rw [if_pos ⟨htp, by rw [HZ.out]; exact hin⟩, HZ.out]
            have HPUT : Hid ((byD L').put (.int .i64 (z : Nat)) (.lit (.int .i64 (y : Nat))) = byD (L' ++ [(z, t ++ [y])])) := by show _ = _; rw [byD_snoc, lastBy_snoc]
            obtain ⟨i0, hi0, hz0, hz1, hz2⟩ := info_parts Try.infoInt
            have hB4 := h1.b4
            have hsz' := h1.mbox.lt
            have hBxne : Bx ≠ w.heap.size + 1 + 1 + 1 := by omega
            clear hhas hin htp hz
            gi_wp2_with (first
              | (gi_at_lookup; refine wpListIn_lookup_own_ok_int _ rfl _ _ 104 rfl 3 3 .i64 key3 Try.underlying104 Try.underlying3 (zero3 _) (w.heap.size + 1 + 1 + 1) _ _ rfl h1.map _ _ rfl hkey ?_; intro c hat hwc; rw [hh])
              | (gi_at_mapUpdate; refine wpListIn_mapUpdate_own _ rfl _ _ _ 104 rfl 3 3 key3 Try.underlying104 (plainElem Try.prog 3) (w.heap.size + 1 + 1 + 1) L'.length (byD L') rfl h1.map (by unfold maxLen; omega) _ _ _ rfl rfl hkey _ [] (plainElem_int Try.underlying3 (wf_nat (n := y) (by omega))) ?_; intro wa hma hga; have t1 : Turn (fun k => k = w.heap.size + 1 + 1 + 1) W' wa := Turn.of_grown hga (fun r e => by cases e; rfl); have lca := (t1.boxed h1.lbox (by omega)).cell; have hca := (t1.block Bx (Array.getElem?_eq_some_iff.1 hcell).1 hBxne).trans hcell; have m2a := cell_of hca 2; rw [hz'.out] at m2a; have hra := t1.row h1.row (fun g' e h => (h1.row_ne e).2.2.1 h); have hsa := t1.size)
              | (gi_at_builtin; refine wpListIn_append_own_at _ rfl _ _ 45 rfl (w.heap.size + 1) 3 i0 (.int .i64 0) 1 8 Try.underlying45 hi0 hz0 hz1 hz2 rfl (by decide) _ _ _ rfl (hra.alloc _) ⟨wa.heap.size, 0, none⟩ 1 1 [.int .i64 (z : Nat)] rfl rfl (cell_one_new _ _ _) (by simp [Value.oneCell']) (by unfold maxLen; omega) (by omega) (by simp; omega) ?_; intro v' wc hown' hgrow _ hat'; obtain ⟨gn, capn, rfl⟩ := ownsRow_succ hown'; rw [HPUT.out] at hma; obtain ⟨hbx', hst', hturn⟩ := h1.push hga hma hgrow (by simpa using hown') hat'; have hc1 := hbx'.cell; have hf1 := hbx'.frozen))
            exact ⟨keepsFrom_turn h1 hturn (by omega), keepF_turn h1 hturn (by omega) (by omega) h2, _, by rw [HFO.out, HC.out]; exact hst', fun g' e => by
              rcases (show Value.ownBlock (.slice (some ⟨gn, 0, none⟩) (L'.length + 1) capn) = u'.ownBlock ∨ Value.ownBlock (.slice (some ⟨gn, 0, none⟩) (L'.length + 1) capn) = some (wa.alloc _).heap.size from hat') with e2 | e2
              · exact h2 g' (e2.symm.trans e)
              · rw [e2] at e; simp only [Option.some.injEq, World.size_alloc] at e; omega, Nat.le_trans h3 hturn.size⟩
      case done =>
        rintro D ys W' hD hys ⟨u', h1, h2, h3⟩ hmark
        rw [hys, fold_round HRP.out] at h1
        have hre' := Reached.next hre hlt
        rw [HX.out] at hre'
        have h1' : RSt w #[.slice a1 n1 c1, .slice a2 n2 c2, .slice a3 n3 c3] W5.heap.size u' (tround (arcOf p key) p.binds.length (x, t) L) (D :: Ds) W' := ⟨h1.below, h1.pbox, h1.lbox, h1.row, h1.map, h1.mbox, h1.b4, h1.marks.cons (fun h => by have := hDW D h; omega) (by omega) hmark⟩
        clear h1 hys
        gi_wp2_with fail
        exact ⟨⟨i + 1, _, D :: Ds, u', _, _, _, _, _, _, _, _, _, _, _, _, _, _, _, _, _, _, _, _, _, _, _, _, _, _, _, _, _, _, _, _, _, _, _, _, _, _, _, _, rfl, hre', h1'⟩, by simp [intOf]; omega⟩
  · have mc := hs.mbox.cell
    gi_wp2_with fail
    gi_quiet (fail)
    gi_wp2_with fail
    refine leaves_marks (n0 := w.heap.size + 1) (Ds := Ds) ⟨hs.marks.once, hs.marks.there⟩ (fun W' hW' => ?_)
    have hs' : RSt w #[.slice a1 n1 c1, .slice a2 n2 c2, .slice a3 n3 c3] W5.heap.size (.slice au L.length cu) L [] W' := RSt.turn (W := W) (X := fun k => k ∈ Ds) ⟨hs.below, hs.pbox, hs.lbox, hs.row, hs.map, hs.mbox, hs.b4, ⟨List.nodup_nil, fun D hD => by simp at hD⟩⟩ ⟨hW'.os, hW'.tape, hW'.output, hW'.size, hW'.block⟩ (fun k h => by have := (hs.marks.there k h).1; omega) (fun h => (hs.mark_ne h).1 rfl) (fun h => (hs.mark_ne h).2.1 rfl) (fun h => (hs.mark_ne h).2.2.1 rfl) (fun h => (hs.mark_ne h).2.2.2 rfl) (fun g' e h => (hs.row_ne e).2.2.2.2 h) (fun D hD => by simp at hD)
    exact ⟨_, results_tmp2 rfl _ _ _, _, _, L, i, rfl, hre, hlt, own_base' hs'.row (by omega), hs'.map, by omega, hs'.below⟩
end Go.Proofs.Ythhkpgnjpieckaa
