/- The walk of the law RouteMore. -/
import Derived.Deep.RegionHeld3
import Derived.Deep.DeepCutAuto
import Derived.Test.YthhkpgnjpieckaaBl
import Derived.Test.YthhkpgnjpieckaaHk
namespace Go.Proofs.Ythhkpgnjpieckaa
set_option linter.unusedVariables false
set_option maxRecDepth 100000
open Go.RowKit Go.Maps

theorem nil_binds {W : World} {a : Option Addr} {xs : List BindD} (e : a = none) (h : BindsAt W a xs) : xs = [] := by
  rcases h with h | ⟨_, _, h, _⟩
  · exact h
  · rw [e] at h; cases h
theorem take_mem_succ {zs : List Int} {k : Nat} {q : Int} (h : k < zs.length) : decide (q ∈ zs.take (k + 1)) = (decide (q ∈ zs.take k) || (zs[k] == q)) := by
  rw [List.take_succ_eq_append_getElem h, Bool.eq_iff_iff]
  simp only [decide_eq_true_eq, Bool.or_eq_true, beq_iff_eq, List.mem_append, List.mem_singleton]
  exact or_congr Iff.rfl eq_comm
theorem cell_block {W W' : World} {g : Nat} (h : W'.heap[g]? = W.heap[g]?) {i : Nat} : W'.cell? ⟨g, i, none⟩ = W.cell? ⟨g, i, none⟩ := by
  unfold World.cell?; simp only [h]
theorem binds_one (w : World) (b : BindD) : BindsAt (w.alloc (.cells #[.int .i64 b.src, .bool b.toPost, .int .i64 b.dst, .string b.pat] 55)) (some ⟨w.heap.size, 0, none⟩) [b] := by
  have h := World.alloc_heap_new w (.cells #[.int .i64 b.src, .bool b.toPost, .int .i64 b.dst, .string b.pat] 55)
  refine .inr ⟨w.heap.size, 0, rfl, by simp, fun i hi => ?_⟩
  have e : i = 0 := by simp at hi; omega
  subst e
  exact ⟨cell_of_cells h 0, cell_of_cells h 1, cell_of_cells h 2, cell_of_cells h 3⟩
theorem BindsAt.grown {W W' : World} {g : Nat} {ys : List BindD} {row : Option Nat} (h : BindsAt W (some ⟨g, 0, none⟩) ys) (hg : W.grownBy W' row) (hr : ¬ some g = row) : BindsAt W' (some ⟨g, 0, none⟩) ys := by
  rcases h with h | ⟨g', o, ha, hlt, h⟩
  · exact .inl h
  · cases ha
    have hb := hg.block g hlt hr
    have hc : ∀ i, W'.cell? ⟨g, i, none⟩ = W.cell? ⟨g, i, none⟩ := fun i => cell_block hb
    exact .inr ⟨g, 0, rfl, Nat.lt_of_lt_of_le hlt hg.size, fun i hi => ⟨(hc _).trans (h i hi).1, (hc _).trans (h i hi).2.1, (hc _).trans (h i hi).2.2.1, (hc _).trans (h i hi).2.2.2⟩⟩
theorem row_ne {g k n c : Nat} (h : g < k ∨ k < g) : ¬ some k = (Value.slice (some ⟨g, 0, none⟩) n c).ownBlock := fun e => by simp only [Value.ownBlock, Option.some.injEq] at e; omega
theorem row_keep {w1 w2 : World} {base : Nat} {v : Value} {n : Nat} {xs : List Value} {e : TypeId} {size : Nat} (h : w1.ownsRow base e size v n xs) (hB : Below w1.heap.size w1 w2) : w2.ownsRow base e size v n xs := (Turn.of_below (fun _ => False) hB).row h (fun _ _ => id)
theorem below_undrew {wr W : World} (h : Below wr.drew.heap.size wr.drew W) : Below wr.heap.size wr W := ⟨h.os, h.tape, h.output, h.size, h.block⟩
theorem turn_undrew {X : Nat → Prop} {wr W : World} (h : Turn X wr.drew W) : Turn X wr W := ⟨h.os, h.tape, h.output, h.size, h.block⟩
theorem more_at {W : World} {a1 a2 a3 aM : Option Addr} {n1 n2 n3 : Nat} {p : PlanD} {b : BindD} (h : PlanAt W a1 a2 a3 n1 n2 n3 p) {W' : World} (hB : Below W.heap.size W W') (hb : BindsAt W' aM (p.binds ++ [b])) : PlanAt W' a1 a2 aM n1 n2 (n3 + 1) (p.more b) :=
  ⟨h.l1, h.l2, by rw [more_len, h.l3], h.sz, h.p1.keep hB, h.p2.keep hB, hb⟩
structure Boxes (W : World) (P B : Nat) (v1 v2 v3 : Value) (b : BindD) : Prop where
  plan : W.heap[P]? = some (.cells #[v1, v2, v3] 40 (0, 0))
  bind : W.heap[B]? = some (.cells #[.int .i64 b.src, .bool b.toPost, .int .i64 b.dst, .string b.pat] 55 (0, 0))

theorem three_heap (w W3 : World) (A B C : Obj) (h : W3 = ((w.alloc A).alloc B).alloc C) : W3.heap.size = w.heap.size + 3 ∧ W3.heap[w.heap.size]? = some A ∧ W3.heap[w.heap.size + 1]? = some B ∧ W3.heap[w.heap.size + 1 + 1]? = some C ∧ Below w.heap.size w W3 := by
  subst h
  have hB := World.alloc_heap_new (w.alloc A) B
  have hC := World.alloc_heap_new ((w.alloc A).alloc B) C
  simp only [World.size_alloc] at hB hC
  refine ⟨by simp only [World.size_alloc], ?_, ?_, hC, ?_⟩
  · rw [Below.heap_alloc _ _ _ (by simp only [World.size_alloc]; omega), Below.heap_alloc _ _ _ (by simp only [World.size_alloc]; omega)]; exact World.alloc_heap_new w A
  · rw [Below.heap_alloc _ _ _ (by simp only [World.size_alloc]; omega)]; exact hB
  · exact (((Below.refl _ _).alloc (Nat.le_refl _) _).alloc (by simp) _).alloc (by simp; omega) _

set_option maxRecDepth 100000 in
set_option maxHeartbeats 1000000 in
theorem walk_RouteMore (p : PlanD) (a1 a2 a3 : Option Addr) (n1 c1 n2 c2 n3 c3 : Nat) (v : Int) (key : ByteArray) (b : BindD) (w : World) (hp : PlanAt w a1 a2 a3 n1 n2 n3 p) (hz3 : a3 = none → c3 = 0) (hn3 : n3 * 40 ≤ 140737488351232) :
    Calls Try.prog 12 #[.agg #[.slice a1 n1 c1, .slice a2 n2 c2, .slice a3 n3 c3], .int .i64 v, .string key, .agg #[.int .i64 b.src, .bool b.toPost, .int .i64 b.dst, .string b.pat]] w fun e w' => e = .returned (.bool true) ∧ Below w.heap.size w w' := by
  obtain ⟨wr, hwr⟩ : ∃ wr, wr = ((w.alloc (.cells #[.slice a1 n1 c1, .slice a2 n2 c2, .slice a3 n3 c3] 40)).alloc (.cells #[.int .i64 b.src, .bool b.toPost, .int .i64 b.dst, .string b.pat] 55)).alloc (.cells #[.slice a1 n1 c1, .slice a2 n2 c2, .slice a3 n3 c3] 40) := ⟨_, rfl⟩
  obtain ⟨hs3, hX, hBb, hYY, hBw⟩ := three_heap w wr _ _ _ hwr
  have HWR : Hid (wr = _) := hwr
  obtain ⟨bb, hbb⟩ : ∃ bb, bb = w.heap.size + 1 := ⟨_, rfl⟩
  have HX := hidIt hX
  have HYY := hidIt ((congrArg (fun i : Nat => wr.heap[i + 1]?) hbb).trans hYY)
  have HB := hidIt ((congrArg (fun i : Nat => wr.heap[i]?) hbb).trans hBb)
  have hlX : w.heap.size < wr.heap.size := by omega
  have hlB : bb < wr.heap.size := by omega
  have hlY : bb + 1 < wr.heap.size := by omega
  have HP : Hid (PlanAt wr a1 a2 a3 n1 n2 n3 p) := hp.keep hBw
  have HBW := hidIt hBw
  have HPW := hidIt hp
  have HSRC : Hid (p.binds.length = n3 ∧ (a3 = none → c3 = 0 ∧ p.binds = []) ∧ BindsAt wr a3 p.binds) := ⟨hp.l3, fun e => ⟨hz3 e, nil_binds e HP.out.p3⟩, HP.out.p3⟩
  have s0 := hBw.size
  clear hwr hX hBb hYY hp hBw
  go_enter Try.func12, Try.ntmps12
  go_wp2_with fail
  rw [← HWR.out, ← hbb]
  have hb1 : w.heap.size < bb := by omega
  have hs3' : w.heap.size + 3 ≤ wr.heap.size := by omega
  clear hbb hs3
  have HY : Hid (wr.heap[(bb + 1)]? = some (.cells #[.slice a1 n1 c1, .slice a2 n2 c2, .slice a3 n3 c3] 40 (0, 0))) := HYY.out
  have SS : Hid (∀ W, Below wr.heap.size wr W → W.cell? ⟨w.heap.size, 2, none⟩ = some (.slice a3 n3 c3) ∧ W.cell? ⟨bb, 0, none⟩ = some (.int .i64 b.src) ∧ W.cell? ⟨bb, 1, none⟩ = some (.bool b.toPost) ∧ W.cell? ⟨bb, 2, none⟩ = some (.int .i64 b.dst) ∧ W.cell? ⟨bb, 3, none⟩ = some (.string b.pat)) := fun W hW => by
    have x := (hW.block w.heap.size hlX).trans HX.out
    have y := (hW.block bb hlB).trans HB.out
    exact ⟨cell_of_cells x 2, cell_of_cells y 0, cell_of_cells y 1, cell_of_cells y 2, cell_of_cells y 3⟩
  have ST : Hid (∀ W, Turn (fun k => k = (bb + 1)) wr W → W.cell? ⟨w.heap.size, 2, none⟩ = some (.slice a3 n3 c3) ∧ W.cell? ⟨bb, 0, none⟩ = some (.int .i64 b.src) ∧ W.cell? ⟨bb, 1, none⟩ = some (.bool b.toPost) ∧ W.cell? ⟨bb, 2, none⟩ = some (.int .i64 b.dst) ∧ W.cell? ⟨bb, 3, none⟩ = some (.string b.pat)) := fun W hW => by
    have x := (hW.block w.heap.size hlX (by omega)).trans HX.out
    have y := (hW.block bb hlB (by omega)).trans HB.out
    exact ⟨cell_of_cells x 2, cell_of_cells y 0, cell_of_cells y 1, cell_of_cells y 2, cell_of_cells y 3⟩
  have MEET : Hid (∀ W aM cM, W.heap[(bb + 1)]? = some (.cells #[.slice a1 n1 c1, .slice a2 n2 c2, .slice aM (n3 + 1) cM] 40 (0, 0)) → BindsAt W aM (p.binds ++ [b]) → (aM = none → cM = 0 ∧ p.binds ++ [b] = []) → Turn (fun k => k = (bb + 1)) wr W → ∃ aM cM, W.heap[(bb + 1)]? = some (.cells #[.slice a1 n1 c1, .slice a2 n2 c2, .slice aM (n3 + 1) cM] 40 (0, 0)) ∧ BindsAt W aM (p.binds ++ [b]) ∧ (aM = none → cM = 0 ∧ p.binds ++ [b] = []) ∧ Turn (fun k => k = (bb + 1)) wr W) := fun W aM cM x1 x2 x3 x4 => ⟨aM, cM, x1, x2, x3, x4⟩
  go_cut [] (fun wx => ∃ aM cM, wx.heap[(bb + 1)]? = some (.cells #[.slice a1 n1 c1, .slice a2 n2 c2, .slice aM (n3 + 1) cM] 40 (0, 0)) ∧ BindsAt wx aM (p.binds ++ [b]) ∧ (aM = none → cM = 0 ∧ p.binds ++ [b] = []) ∧ Turn (fun k => k = (bb + 1)) wr wx)
  case first =>
    refine wp_region_held_drew (S := fun w' => w'.cell? ⟨w.heap.size, 2, none⟩ = some (.slice a3 n3 c3) ∧ w'.cell? ⟨bb, 0, none⟩ = some (.int .i64 b.src) ∧ w'.cell? ⟨bb, 1, none⟩ = some (.bool b.toPost) ∧ w'.cell? ⟨bb, 2, none⟩ = some (.int .i64 b.dst) ∧ w'.cell? ⟨bb, 3, none⟩ = some (.string b.pat)) (by kernel_rfl) (SS.out _ (Below.refl _ _).drew) (fun hHeld => ?_)
    obtain ⟨w3, hw3⟩ : ∃ w3, w3 = wr.drew := ⟨_, rfl⟩
    have HBS : Hid (p.binds.length = n3 ∧ (a3 = none → c3 = 0 ∧ p.binds = []) ∧ ∀ W, Below w3.heap.size w3 W → BindsAt W a3 p.binds) := ⟨HSRC.out.1, HSRC.out.2.1, fun W hW => by rw [hw3] at hW; exact HSRC.out.2.2.keep (below_undrew hW)⟩
    have SS := hidIt (fun W (hW : Below w3.heap.size w3 W) => SS.out W (below_undrew (hw3 ▸ hW)))
    have ST := hidIt (fun W (hW : Turn (fun k => k = (bb + 1)) w3 W) => ST.out W (turn_undrew (hw3 ▸ hW)))
    have HY := hidIt ((congrArg (fun W : World => W.heap[(bb + 1)]?) hw3).trans HY.out)
    have MEET := hidIt (fun W aM cM x1 x2 x3 (hW : Turn (fun k => k = (bb + 1)) w3 W) => MEET.out W aM cM x1 x2 x3 (turn_undrew (hw3 ▸ hW)))
    have hl3 : (bb + 1) < w3.heap.size := by rw [hw3]; exact hlY
    rw [← hw3] at hHeld ⊢
    clear hw3
    refine tk 1 ?_
    refine tk 2 ?_
    refine tk 4 ?_
    refine wpAnyH_ready (rs := [0, 5]) (by kernel_rfl) (by simp) ?_
    refine AllReadyH.cons rfl (fun K hK => ?_) (AllReadyH.cons rfl (fun K hK => ?_) AllReadyH.nil)
    · go_simp
      have o1 := World.ownsRow_made (base := w3.heap.size) (e := 55) (size := 4) w3 #[] 0 (by omega) (Nat.zero_le _) rfl
      obtain ⟨w4, hmw4⟩ : ∃ w4, w4 = w3.alloc (.cells #[] 55) := ⟨_, rfl⟩
      have lqw4 : Below w3.heap.size w3 w4 := by rw [hmw4]; exact (Below.refl _ _).alloc (Nat.le_refl _) _
      have zw4 : w3.heap.size + 1 ≤ w4.heap.size := by rw [hmw4]; simp
      rw [← hmw4] at o1 ⊢
      clear hmw4
      have lw4 : Below w3.heap.size w3 w4 := lqw4
      refine hK.out _ _ (SS.out _ lw4) (fun hHw4 => ?_)
      clear hK K
      (try simp only [Act.put, List.getElem_toArray, List.getElem_cons_succ, List.getElem_cons_zero, List.setIfInBounds_toArray, List.set_cons_zero, List.set_cons_succ])
      refine wpAnyH_ready (rs := [3, 5]) (by kernel_rfl) (by simp) ?_
      refine AllReadyH.cons rfl (fun K hK => ?_) (AllReadyH.cons rfl (fun K hK => ?_) AllReadyH.nil)
      · refine step_append_binds (by kernel_rfl) _ _ rfl w3.heap.size _ 0 [] rfl o1 a3 n3 c3 p.binds rfl HBS.out.1 HBS.out.2.1 (HBS.out.2.2 _ lw4) (by omega) (by omega) ?_
        intro v3 w5 o3 g3 _
        rw [Nat.zero_add, List.nil_append] at o3
        have zw5 := g3.size
        have lw5 : Below w3.heap.size w3 w5 := lw4.grown g3 (by omega) (fun k e => by cases e; exact Nat.le_refl _)
        refine hK.out _ _ (SS.out _ lw5) (fun hHw5 => ?_)
        clear hK K
        (try simp only [Act.put, List.getElem_toArray, List.getElem_cons_succ, List.getElem_cons_zero, List.setIfInBounds_toArray, List.set_cons_zero, List.set_cons_succ])
        refine wpAnyH_ready (rs := [5]) (by kernel_rfl) (by simp) ?_
        refine AllReadyH.cons rfl (fun K hK => ?_) AllReadyH.nil
        go_simp
        have q1 := binds_one w5 b
        obtain ⟨w6, hmw6⟩ : ∃ w6, w6 = w5.alloc (.cells #[.int .i64 b.src, .bool b.toPost, .int .i64 b.dst, .string b.pat] 55) := ⟨_, rfl⟩
        have lqw6 : Below w5.heap.size w5 w6 := by rw [hmw6]; exact (Below.refl _ _).alloc (Nat.le_refl _) _
        have zw6 : w5.heap.size + 1 ≤ w6.heap.size := by rw [hmw6]; simp
        rw [← hmw6] at q1 ⊢
        clear hmw6
        have lw6 : Below w3.heap.size w3 w6 := lw5.trans (lqw6.mono (by omega))
        refine hK.out _ _ (SS.out _ lw6) (fun hHw6 => ?_)
        clear hK K
        (try simp only [Act.put, List.getElem_toArray, List.getElem_cons_succ, List.getElem_cons_zero, List.setIfInBounds_toArray, List.set_cons_zero, List.set_cons_succ])
        refine wpAnyH_ready (rs := [6]) (by kernel_rfl) (by simp) ?_
        refine AllReadyH.cons rfl (fun K hK => ?_) AllReadyH.nil
        refine step_append_binds (by kernel_rfl) _ _ rfl w3.heap.size _ _ _ rfl (row_keep o3 lqw6) _ 1 1 [b] rfl rfl (fun e => by cases e) q1 (by omega) (by omega) ?_
        intro v6 w7 o6 g6 _
        have zw7 := g6.size
        have lw7 : Below w3.heap.size w3 w7 := lw6.grown g6 (by omega) (own_ge (row_keep o3 lqw6))
        refine hK.out _ _ (SS.out _ lw7) (fun hHw7 => ?_)
        clear hK K
        (try simp only [Act.put, List.getElem_toArray, List.getElem_cons_succ, List.getElem_cons_zero, List.setIfInBounds_toArray, List.set_cons_zero, List.set_cons_succ])
        obtain ⟨-, a6, c6, rfl, -⟩ := own_binds o6
        refine tk 7 ?_
        refine wpAnyH_ready (rs := [8]) (by kernel_rfl) (by simp) ?_
        refine AllReadyH.cons rfl (fun K hK => ?_) AllReadyH.nil
        have hy6 := (lw7.block (bb + 1) hl3).trans HY.out
        have e8 := cell_of_cells hy6 2
        have f8 := free_of_cells hy6 2
        simp at e8
        go_simp
        have hy8 := setCell_block hy6 (j := 2) (.slice a6 (n3 + 1) c6)
        have t8 : Turn (fun k => k = (bb + 1)) w7 (w7.setCell ⟨(bb + 1), 2, none⟩ (.slice a6 (n3 + 1) c6)) := setCell_turn _ _ _ _
        have o8 := t8.row o6 (fun g hg e => by have := own_ge o6 g hg; omega)
        have t08 : Turn (fun k => k = (bb + 1)) w3 (w7.setCell ⟨(bb + 1), 2, none⟩ (.slice a6 (n3 + 1) c6)) := (Turn.of_below _ lw7).trans t8 (fun i _ e => e)
        obtain ⟨w8, hmw8⟩ : ∃ w8, w8 = w7.setCell ⟨(bb + 1), 2, none⟩ (.slice a6 (n3 + 1) c6) := ⟨_, rfl⟩
        rw [← hmw8] at hy8 o8 t08 ⊢
        clear hmw8 t8
        obtain ⟨-, a9, c9, e9, -, -, z9, b9⟩ := own_binds o8
        cases e9
        refine hK.out _ _ (ST.out _ t08) (fun hH8 => ?_)
        clear hK K
        refine wpAnyH_done (by kernel_rfl) ?_ _
        go_wp2_with fail
        go_meet
        case rel => exact MEET.out _ a6 c6 (by rw [hy8]; simp) (by simpa using b9) z9 t08
      · go_simp
        have q1 := binds_one w4 b
        obtain ⟨w5, hmw5⟩ : ∃ w5, w5 = w4.alloc (.cells #[.int .i64 b.src, .bool b.toPost, .int .i64 b.dst, .string b.pat] 55) := ⟨_, rfl⟩
        have lqw5 : Below w4.heap.size w4 w5 := by rw [hmw5]; exact (Below.refl _ _).alloc (Nat.le_refl _) _
        have zw5 : w4.heap.size + 1 ≤ w5.heap.size := by rw [hmw5]; simp
        rw [← hmw5] at q1 ⊢
        clear hmw5
        have lw5 : Below w3.heap.size w3 w5 := lw4.trans (lqw5.mono (by omega))
        refine hK.out _ _ (SS.out _ lw5) (fun hHw5 => ?_)
        clear hK K
        (try simp only [Act.put, List.getElem_toArray, List.getElem_cons_succ, List.getElem_cons_zero, List.setIfInBounds_toArray, List.set_cons_zero, List.set_cons_succ])
        refine wpAnyH_ready (rs := [3]) (by kernel_rfl) (by simp) ?_
        refine AllReadyH.cons rfl (fun K hK => ?_) AllReadyH.nil
        refine step_append_binds (by kernel_rfl) _ _ rfl w3.heap.size _ 0 [] rfl (row_keep o1 lqw5) a3 n3 c3 p.binds rfl HBS.out.1 HBS.out.2.1 (HBS.out.2.2 _ lw5) (by omega) (by omega) ?_
        intro v3 w6 o3 g3 _
        rw [Nat.zero_add, List.nil_append] at o3
        have zw6 := g3.size
        have lw6 : Below w3.heap.size w3 w6 := lw5.grown g3 (by omega) (fun k e => by cases e; exact Nat.le_refl _)
        refine hK.out _ _ (SS.out _ lw6) (fun hHw6 => ?_)
        clear hK K
        (try simp only [Act.put, List.getElem_toArray, List.getElem_cons_succ, List.getElem_cons_zero, List.setIfInBounds_toArray, List.set_cons_zero, List.set_cons_succ])
        refine wpAnyH_ready (rs := [6]) (by kernel_rfl) (by simp) ?_
        refine AllReadyH.cons rfl (fun K hK => ?_) AllReadyH.nil
        refine step_append_binds (by kernel_rfl) _ _ rfl w3.heap.size _ _ _ rfl o3 _ 1 1 [b] rfl rfl (fun e => by cases e) (q1.grown g3 (row_ne (by omega))) (by omega) (by omega) ?_
        intro v6 w7 o6 g6 _
        have zw7 := g6.size
        have lw7 : Below w3.heap.size w3 w7 := lw6.grown g6 (by omega) (own_ge o3)
        refine hK.out _ _ (SS.out _ lw7) (fun hHw7 => ?_)
        clear hK K
        (try simp only [Act.put, List.getElem_toArray, List.getElem_cons_succ, List.getElem_cons_zero, List.setIfInBounds_toArray, List.set_cons_zero, List.set_cons_succ])
        obtain ⟨-, a6, c6, rfl, -⟩ := own_binds o6
        refine tk 7 ?_
        refine wpAnyH_ready (rs := [8]) (by kernel_rfl) (by simp) ?_
        refine AllReadyH.cons rfl (fun K hK => ?_) AllReadyH.nil
        have hy6 := (lw7.block (bb + 1) hl3).trans HY.out
        have e8 := cell_of_cells hy6 2
        have f8 := free_of_cells hy6 2
        simp at e8
        go_simp
        have hy8 := setCell_block hy6 (j := 2) (.slice a6 (n3 + 1) c6)
        have t8 : Turn (fun k => k = (bb + 1)) w7 (w7.setCell ⟨(bb + 1), 2, none⟩ (.slice a6 (n3 + 1) c6)) := setCell_turn _ _ _ _
        have o8 := t8.row o6 (fun g hg e => by have := own_ge o6 g hg; omega)
        have t08 : Turn (fun k => k = (bb + 1)) w3 (w7.setCell ⟨(bb + 1), 2, none⟩ (.slice a6 (n3 + 1) c6)) := (Turn.of_below _ lw7).trans t8 (fun i _ e => e)
        obtain ⟨w8, hmw8⟩ : ∃ w8, w8 = w7.setCell ⟨(bb + 1), 2, none⟩ (.slice a6 (n3 + 1) c6) := ⟨_, rfl⟩
        rw [← hmw8] at hy8 o8 t08 ⊢
        clear hmw8 t8
        obtain ⟨-, a9, c9, e9, -, -, z9, b9⟩ := own_binds o8
        cases e9
        refine hK.out _ _ (ST.out _ t08) (fun hH8 => ?_)
        clear hK K
        refine wpAnyH_done (by kernel_rfl) ?_ _
        go_wp2_with fail
        go_meet
        case rel => exact MEET.out _ a6 c6 (by rw [hy8]; simp) (by simpa using b9) z9 t08
    · go_simp
      have q1 := binds_one w3 b
      obtain ⟨w4, hmw4⟩ : ∃ w4, w4 = w3.alloc (.cells #[.int .i64 b.src, .bool b.toPost, .int .i64 b.dst, .string b.pat] 55) := ⟨_, rfl⟩
      have lqw4 : Below w3.heap.size w3 w4 := by rw [hmw4]; exact (Below.refl _ _).alloc (Nat.le_refl _) _
      have zw4 : w3.heap.size + 1 ≤ w4.heap.size := by rw [hmw4]; simp
      rw [← hmw4] at q1 ⊢
      clear hmw4
      have lw4 : Below w3.heap.size w3 w4 := lqw4
      refine hK.out _ _ (SS.out _ lw4) (fun hHw4 => ?_)
      clear hK K
      (try simp only [Act.put, List.getElem_toArray, List.getElem_cons_succ, List.getElem_cons_zero, List.setIfInBounds_toArray, List.set_cons_zero, List.set_cons_succ])
      refine wpAnyH_ready (rs := [0]) (by kernel_rfl) (by simp) ?_
      refine AllReadyH.cons rfl (fun K hK => ?_) AllReadyH.nil
      go_simp
      have o1 := World.ownsRow_made (base := w3.heap.size) (e := 55) (size := 4) w4 #[] 0 (by omega) (Nat.zero_le _) rfl
      obtain ⟨w5, hmw5⟩ : ∃ w5, w5 = w4.alloc (.cells #[] 55) := ⟨_, rfl⟩
      have lqw5 : Below w4.heap.size w4 w5 := by rw [hmw5]; exact (Below.refl _ _).alloc (Nat.le_refl _) _
      have zw5 : w4.heap.size + 1 ≤ w5.heap.size := by rw [hmw5]; simp
      rw [← hmw5] at o1 ⊢
      clear hmw5
      have lw5 : Below w3.heap.size w3 w5 := lw4.trans (lqw5.mono (by omega))
      refine hK.out _ _ (SS.out _ lw5) (fun hHw5 => ?_)
      clear hK K
      (try simp only [Act.put, List.getElem_toArray, List.getElem_cons_succ, List.getElem_cons_zero, List.setIfInBounds_toArray, List.set_cons_zero, List.set_cons_succ])
      refine wpAnyH_ready (rs := [3]) (by kernel_rfl) (by simp) ?_
      refine AllReadyH.cons rfl (fun K hK => ?_) AllReadyH.nil
      refine step_append_binds (by kernel_rfl) _ _ rfl w3.heap.size _ 0 [] rfl o1 a3 n3 c3 p.binds rfl HBS.out.1 HBS.out.2.1 (HBS.out.2.2 _ lw5) (by omega) (by omega) ?_
      intro v3 w6 o3 g3 _
      rw [Nat.zero_add, List.nil_append] at o3
      have zw6 := g3.size
      have lw6 : Below w3.heap.size w3 w6 := lw5.grown g3 (by omega) (fun k e => by cases e; show _ ≤ w4.heap.size; omega)
      refine hK.out _ _ (SS.out _ lw6) (fun hHw6 => ?_)
      clear hK K
      (try simp only [Act.put, List.getElem_toArray, List.getElem_cons_succ, List.getElem_cons_zero, List.setIfInBounds_toArray, List.set_cons_zero, List.set_cons_succ])
      refine wpAnyH_ready (rs := [6]) (by kernel_rfl) (by simp) ?_
      refine AllReadyH.cons rfl (fun K hK => ?_) AllReadyH.nil
      refine step_append_binds (by kernel_rfl) _ _ rfl w3.heap.size _ _ _ rfl o3 _ 1 1 [b] rfl rfl (fun e => by cases e) ((q1.keep lqw5).grown g3 (row_ne (by omega))) (by omega) (by omega) ?_
      intro v6 w7 o6 g6 _
      have zw7 := g6.size
      have lw7 : Below w3.heap.size w3 w7 := lw6.grown g6 (by omega) (own_ge o3)
      refine hK.out _ _ (SS.out _ lw7) (fun hHw7 => ?_)
      clear hK K
      (try simp only [Act.put, List.getElem_toArray, List.getElem_cons_succ, List.getElem_cons_zero, List.setIfInBounds_toArray, List.set_cons_zero, List.set_cons_succ])
      obtain ⟨-, a6, c6, rfl, -⟩ := own_binds o6
      refine tk 7 ?_
      refine wpAnyH_ready (rs := [8]) (by kernel_rfl) (by simp) ?_
      refine AllReadyH.cons rfl (fun K hK => ?_) AllReadyH.nil
      have hy6 := (lw7.block (bb + 1) hl3).trans HY.out
      have e8 := cell_of_cells hy6 2
      have f8 := free_of_cells hy6 2
      simp at e8
      go_simp
      have hy8 := setCell_block hy6 (j := 2) (.slice a6 (n3 + 1) c6)
      have t8 : Turn (fun k => k = (bb + 1)) w7 (w7.setCell ⟨(bb + 1), 2, none⟩ (.slice a6 (n3 + 1) c6)) := setCell_turn _ _ _ _
      have o8 := t8.row o6 (fun g hg e => by have := own_ge o6 g hg; omega)
      have t08 : Turn (fun k => k = (bb + 1)) w3 (w7.setCell ⟨(bb + 1), 2, none⟩ (.slice a6 (n3 + 1) c6)) := (Turn.of_below _ lw7).trans t8 (fun i _ e => e)
      obtain ⟨w8, hmw8⟩ : ∃ w8, w8 = w7.setCell ⟨(bb + 1), 2, none⟩ (.slice a6 (n3 + 1) c6) := ⟨_, rfl⟩
      rw [← hmw8] at hy8 o8 t08 ⊢
      clear hmw8 t8
      obtain ⟨-, a9, c9, e9, -, -, z9, b9⟩ := own_binds o8
      cases e9
      refine hK.out _ _ (ST.out _ t08) (fun hH8 => ?_)
      clear hK K
      refine wpAnyH_done (by kernel_rfl) ?_ _
      go_wp2_with fail
      go_meet
      case rel => exact MEET.out _ a6 c6 (by rw [hy8]; simp) (by simpa using b9) z9 t08
  case rest =>
    obtain ⟨aM, cM, hy1, hbM, hzM, ht1⟩ := hcut
    have HX0 := hidIt ((ht1.block w.heap.size hlX (by omega)).trans HX.out)
    have HB0 := hidIt ((ht1.block bb hlB (by omega)).trans HB.out)
    have HM0 := hidIt hy1
    have HPL := hidIt (HP.out)
    have st1 := ht1.size
    have hBc : Below w.heap.size w wc := HBW.out.trans (ht1.below s0 (fun i e => by omega))
    have HTP : Hid (PostsAt wc a1 p.posts ∧ QueuesAt wc a2 p.queues ∧ BindsAt wc a3 p.binds) := ⟨HPW.out.p1.keep hBc, HPW.out.p2.keep hBc, HPW.out.p3.keep hBc⟩
    have m0 := cell_of_cells hy1 0
    have m1 := cell_of_cells hy1 1
    have m2 := cell_of_cells hy1 2
    simp at m0 m1 m2
    have lc : bb + 1 < wc.heap.size := by omega
    clear HY SS ST MEET hy1 hlX hlB HX HB HYY HP HWR HSRC HPL hlY
    go_wp2_with fail
    obtain ⟨yy, hyy⟩ : ∃ yy, yy = wc.heap.size := ⟨_, rfl⟩
    obtain ⟨wr, hwr⟩ : ∃ wr, wr = wc.alloc (.cells #[.slice a1 n1 c1, .slice a2 n2 c2, .slice aM (n3 + 1) cM] 40) := ⟨_, rfl⟩
    rw [← hwr, ← hyy]
    have hBr : Below wc.heap.size wc wr := by rw [hwr]; exact (Below.refl _ _).alloc (Nat.le_refl _) _
    have HYY := hidIt (show wr.heap[yy]? = some (.cells #[.slice a1 n1 c1, .slice a2 n2 c2, .slice aM (n3 + 1) cM] 40 (0, 0)) by rw [hwr, hyy]; exact World.alloc_heap_new wc _)
    have HX := hidIt ((hBr.block (bb + 1) lc).trans HM0.out)
    have HB := hidIt ((hBr.block bb (by omega)).trans HB0.out)
    have HX1 := hidIt ((hBr.block w.heap.size (by omega)).trans HX0.out)
    have sr := hBr.size
    have hlX : bb + 1 < wr.heap.size := by omega
    have hlB : bb < wr.heap.size := by omega
    have hlY : yy < wr.heap.size := by rw [hwr, hyy]; simp
    have hyb : bb + 1 < yy := by omega
    have HSRC : Hid ((p.more b).binds.length = n3 + 1 ∧ (aM = none → cM = 0 ∧ (p.more b).binds = []) ∧ BindsAt wr aM (p.more b).binds) := ⟨by rw [more_len, HPW.out.l3], hzM, hbM.keep hBr⟩
    have HBR := hidIt hBr
    have HBM := hidIt hbM
    have hyc : wc.heap.size ≤ yy := by omega
    clear hyy hwr m0 m1 m2 hbM hzM hBr HX0 HB0 HM0
    have HY : Hid (wr.heap[yy]? = some (.cells #[.slice a1 n1 c1, .slice a2 n2 c2, .slice aM (n3 + 1) cM] 40 (0, 0))) := HYY.out
    have SS : Hid (∀ W, Below wr.heap.size wr W → W.cell? ⟨(bb + 1), 2, none⟩ = some (.slice aM (n3 + 1) cM) ∧ W.cell? ⟨bb, 0, none⟩ = some (.int .i64 b.src) ∧ W.cell? ⟨bb, 1, none⟩ = some (.bool b.toPost) ∧ W.cell? ⟨bb, 2, none⟩ = some (.int .i64 b.dst) ∧ W.cell? ⟨bb, 3, none⟩ = some (.string b.pat)) := fun W hW => by
      have x := (hW.block (bb + 1) hlX).trans HX.out
      have y := (hW.block bb hlB).trans HB.out
      exact ⟨cell_of_cells x 2, cell_of_cells y 0, cell_of_cells y 1, cell_of_cells y 2, cell_of_cells y 3⟩
    have ST : Hid (∀ W, Turn (fun k => k = yy) wr W → W.cell? ⟨(bb + 1), 2, none⟩ = some (.slice aM (n3 + 1) cM) ∧ W.cell? ⟨bb, 0, none⟩ = some (.int .i64 b.src) ∧ W.cell? ⟨bb, 1, none⟩ = some (.bool b.toPost) ∧ W.cell? ⟨bb, 2, none⟩ = some (.int .i64 b.dst) ∧ W.cell? ⟨bb, 3, none⟩ = some (.string b.pat)) := fun W hW => by
      have x := (hW.block (bb + 1) hlX (by omega)).trans HX.out
      have y := (hW.block bb hlB (by omega)).trans HB.out
      exact ⟨cell_of_cells x 2, cell_of_cells y 0, cell_of_cells y 1, cell_of_cells y 2, cell_of_cells y 3⟩
    have MEET : Hid (∀ W aM cM, W.heap[yy]? = some (.cells #[.slice a1 n1 c1, .slice a2 n2 c2, .slice aM ((n3 + 1) + 1) cM] 40 (0, 0)) → BindsAt W aM ((p.more b).binds ++ [b]) → (aM = none → cM = 0 ∧ (p.more b).binds ++ [b] = []) → Turn (fun k => k = yy) wr W → ∃ aM cM, W.heap[yy]? = some (.cells #[.slice a1 n1 c1, .slice a2 n2 c2, .slice aM ((n3 + 1) + 1) cM] 40 (0, 0)) ∧ BindsAt W aM ((p.more b).binds ++ [b]) ∧ (aM = none → cM = 0 ∧ (p.more b).binds ++ [b] = []) ∧ Turn (fun k => k = yy) wr W) := fun W aM cM x1 x2 x3 x4 => ⟨aM, cM, x1, x2, x3, x4⟩
    go_cut [] (fun wx => ∃ aM cM, wx.heap[yy]? = some (.cells #[.slice a1 n1 c1, .slice a2 n2 c2, .slice aM ((n3 + 1) + 1) cM] 40 (0, 0)) ∧ BindsAt wx aM ((p.more b).binds ++ [b]) ∧ (aM = none → cM = 0 ∧ (p.more b).binds ++ [b] = []) ∧ Turn (fun k => k = yy) wr wx)
    case first =>
      refine wp_region_held_drew (S := fun w' => w'.cell? ⟨(bb + 1), 2, none⟩ = some (.slice aM (n3 + 1) cM) ∧ w'.cell? ⟨bb, 0, none⟩ = some (.int .i64 b.src) ∧ w'.cell? ⟨bb, 1, none⟩ = some (.bool b.toPost) ∧ w'.cell? ⟨bb, 2, none⟩ = some (.int .i64 b.dst) ∧ w'.cell? ⟨bb, 3, none⟩ = some (.string b.pat)) (by kernel_rfl) (SS.out _ (Below.refl _ _).drew) (fun hHeld => ?_)
      obtain ⟨w3, hw3⟩ : ∃ w3, w3 = wr.drew := ⟨_, rfl⟩
      have HBS : Hid ((p.more b).binds.length = (n3 + 1) ∧ (aM = none → cM = 0 ∧ (p.more b).binds = []) ∧ ∀ W, Below w3.heap.size w3 W → BindsAt W aM (p.more b).binds) := ⟨HSRC.out.1, HSRC.out.2.1, fun W hW => by rw [hw3] at hW; exact HSRC.out.2.2.keep (below_undrew hW)⟩
      have SS := hidIt (fun W (hW : Below w3.heap.size w3 W) => SS.out W (below_undrew (hw3 ▸ hW)))
      have ST := hidIt (fun W (hW : Turn (fun k => k = yy) w3 W) => ST.out W (turn_undrew (hw3 ▸ hW)))
      have HY := hidIt ((congrArg (fun W : World => W.heap[yy]?) hw3).trans HY.out)
      have MEET := hidIt (fun W aM cM x1 x2 x3 (hW : Turn (fun k => k = yy) w3 W) => MEET.out W aM cM x1 x2 x3 (turn_undrew (hw3 ▸ hW)))
      have hl3 : yy < w3.heap.size := by rw [hw3]; exact hlY
      rw [← hw3] at hHeld ⊢
      clear hw3
      refine tk 1 ?_
      refine tk 2 ?_
      refine tk 4 ?_
      refine wpAnyH_ready (rs := [0, 5]) (by kernel_rfl) (by simp) ?_
      refine AllReadyH.cons rfl (fun K hK => ?_) (AllReadyH.cons rfl (fun K hK => ?_) AllReadyH.nil)
      · go_simp
        have o1 := World.ownsRow_made (base := w3.heap.size) (e := 55) (size := 4) w3 #[] 0 (by omega) (Nat.zero_le _) rfl
        obtain ⟨w4, hmw4⟩ : ∃ w4, w4 = w3.alloc (.cells #[] 55) := ⟨_, rfl⟩
        have lqw4 : Below w3.heap.size w3 w4 := by rw [hmw4]; exact (Below.refl _ _).alloc (Nat.le_refl _) _
        have zw4 : w3.heap.size + 1 ≤ w4.heap.size := by rw [hmw4]; simp
        rw [← hmw4] at o1 ⊢
        clear hmw4
        have lw4 : Below w3.heap.size w3 w4 := lqw4
        refine hK.out _ _ (SS.out _ lw4) (fun hHw4 => ?_)
        clear hK K
        (try simp only [Act.put, List.getElem_toArray, List.getElem_cons_succ, List.getElem_cons_zero, List.setIfInBounds_toArray, List.set_cons_zero, List.set_cons_succ])
        refine wpAnyH_ready (rs := [3, 5]) (by kernel_rfl) (by simp) ?_
        refine AllReadyH.cons rfl (fun K hK => ?_) (AllReadyH.cons rfl (fun K hK => ?_) AllReadyH.nil)
        · refine step_append_binds (by kernel_rfl) _ _ rfl w3.heap.size _ 0 [] rfl o1 aM (n3 + 1) cM (p.more b).binds rfl HBS.out.1 HBS.out.2.1 (HBS.out.2.2 _ lw4) (by omega) (by omega) ?_
          intro v3 w5 o3 g3 _
          rw [Nat.zero_add, List.nil_append] at o3
          have zw5 := g3.size
          have lw5 : Below w3.heap.size w3 w5 := lw4.grown g3 (by omega) (fun k e => by cases e; exact Nat.le_refl _)
          refine hK.out _ _ (SS.out _ lw5) (fun hHw5 => ?_)
          clear hK K
          (try simp only [Act.put, List.getElem_toArray, List.getElem_cons_succ, List.getElem_cons_zero, List.setIfInBounds_toArray, List.set_cons_zero, List.set_cons_succ])
          refine wpAnyH_ready (rs := [5]) (by kernel_rfl) (by simp) ?_
          refine AllReadyH.cons rfl (fun K hK => ?_) AllReadyH.nil
          go_simp
          have q1 := binds_one w5 b
          obtain ⟨w6, hmw6⟩ : ∃ w6, w6 = w5.alloc (.cells #[.int .i64 b.src, .bool b.toPost, .int .i64 b.dst, .string b.pat] 55) := ⟨_, rfl⟩
          have lqw6 : Below w5.heap.size w5 w6 := by rw [hmw6]; exact (Below.refl _ _).alloc (Nat.le_refl _) _
          have zw6 : w5.heap.size + 1 ≤ w6.heap.size := by rw [hmw6]; simp
          rw [← hmw6] at q1 ⊢
          clear hmw6
          have lw6 : Below w3.heap.size w3 w6 := lw5.trans (lqw6.mono (by omega))
          refine hK.out _ _ (SS.out _ lw6) (fun hHw6 => ?_)
          clear hK K
          (try simp only [Act.put, List.getElem_toArray, List.getElem_cons_succ, List.getElem_cons_zero, List.setIfInBounds_toArray, List.set_cons_zero, List.set_cons_succ])
          refine wpAnyH_ready (rs := [6]) (by kernel_rfl) (by simp) ?_
          refine AllReadyH.cons rfl (fun K hK => ?_) AllReadyH.nil
          refine step_append_binds (by kernel_rfl) _ _ rfl w3.heap.size _ _ _ rfl (row_keep o3 lqw6) _ 1 1 [b] rfl rfl (fun e => by cases e) q1 (by omega) (by omega) ?_
          intro v6 w7 o6 g6 _
          have zw7 := g6.size
          have lw7 : Below w3.heap.size w3 w7 := lw6.grown g6 (by omega) (own_ge (row_keep o3 lqw6))
          refine hK.out _ _ (SS.out _ lw7) (fun hHw7 => ?_)
          clear hK K
          (try simp only [Act.put, List.getElem_toArray, List.getElem_cons_succ, List.getElem_cons_zero, List.setIfInBounds_toArray, List.set_cons_zero, List.set_cons_succ])
          obtain ⟨-, a6, c6, rfl, -⟩ := own_binds o6
          refine tk 7 ?_
          refine wpAnyH_ready (rs := [8]) (by kernel_rfl) (by simp) ?_
          refine AllReadyH.cons rfl (fun K hK => ?_) AllReadyH.nil
          have hy6 := (lw7.block yy hl3).trans HY.out
          have e8 := cell_of_cells hy6 2
          have f8 := free_of_cells hy6 2
          simp at e8
          go_simp
          have hy8 := setCell_block hy6 (j := 2) (.slice a6 ((n3 + 1) + 1) c6)
          have t8 : Turn (fun k => k = yy) w7 (w7.setCell ⟨yy, 2, none⟩ (.slice a6 ((n3 + 1) + 1) c6)) := setCell_turn _ _ _ _
          have o8 := t8.row o6 (fun g hg e => by have := own_ge o6 g hg; omega)
          have t08 : Turn (fun k => k = yy) w3 (w7.setCell ⟨yy, 2, none⟩ (.slice a6 ((n3 + 1) + 1) c6)) := (Turn.of_below _ lw7).trans t8 (fun i _ e => e)
          obtain ⟨w8, hmw8⟩ : ∃ w8, w8 = w7.setCell ⟨yy, 2, none⟩ (.slice a6 ((n3 + 1) + 1) c6) := ⟨_, rfl⟩
          rw [← hmw8] at hy8 o8 t08 ⊢
          clear hmw8 t8
          obtain ⟨-, a9, c9, e9, -, -, z9, b9⟩ := own_binds o8
          cases e9
          refine hK.out _ _ (ST.out _ t08) (fun hH8 => ?_)
          clear hK K
          refine wpAnyH_done (by kernel_rfl) ?_ _
          go_wp2_with fail
          go_meet
          case rel => exact MEET.out _ a6 c6 (by rw [hy8]; simp) (by simpa using b9) z9 t08
        · go_simp
          have q1 := binds_one w4 b
          obtain ⟨w5, hmw5⟩ : ∃ w5, w5 = w4.alloc (.cells #[.int .i64 b.src, .bool b.toPost, .int .i64 b.dst, .string b.pat] 55) := ⟨_, rfl⟩
          have lqw5 : Below w4.heap.size w4 w5 := by rw [hmw5]; exact (Below.refl _ _).alloc (Nat.le_refl _) _
          have zw5 : w4.heap.size + 1 ≤ w5.heap.size := by rw [hmw5]; simp
          rw [← hmw5] at q1 ⊢
          clear hmw5
          have lw5 : Below w3.heap.size w3 w5 := lw4.trans (lqw5.mono (by omega))
          refine hK.out _ _ (SS.out _ lw5) (fun hHw5 => ?_)
          clear hK K
          (try simp only [Act.put, List.getElem_toArray, List.getElem_cons_succ, List.getElem_cons_zero, List.setIfInBounds_toArray, List.set_cons_zero, List.set_cons_succ])
          refine wpAnyH_ready (rs := [3]) (by kernel_rfl) (by simp) ?_
          refine AllReadyH.cons rfl (fun K hK => ?_) AllReadyH.nil
          refine step_append_binds (by kernel_rfl) _ _ rfl w3.heap.size _ 0 [] rfl (row_keep o1 lqw5) aM (n3 + 1) cM (p.more b).binds rfl HBS.out.1 HBS.out.2.1 (HBS.out.2.2 _ lw5) (by omega) (by omega) ?_
          intro v3 w6 o3 g3 _
          rw [Nat.zero_add, List.nil_append] at o3
          have zw6 := g3.size
          have lw6 : Below w3.heap.size w3 w6 := lw5.grown g3 (by omega) (fun k e => by cases e; exact Nat.le_refl _)
          refine hK.out _ _ (SS.out _ lw6) (fun hHw6 => ?_)
          clear hK K
          (try simp only [Act.put, List.getElem_toArray, List.getElem_cons_succ, List.getElem_cons_zero, List.setIfInBounds_toArray, List.set_cons_zero, List.set_cons_succ])
          refine wpAnyH_ready (rs := [6]) (by kernel_rfl) (by simp) ?_
          refine AllReadyH.cons rfl (fun K hK => ?_) AllReadyH.nil
          refine step_append_binds (by kernel_rfl) _ _ rfl w3.heap.size _ _ _ rfl o3 _ 1 1 [b] rfl rfl (fun e => by cases e) (q1.grown g3 (row_ne (by omega))) (by omega) (by omega) ?_
          intro v6 w7 o6 g6 _
          have zw7 := g6.size
          have lw7 : Below w3.heap.size w3 w7 := lw6.grown g6 (by omega) (own_ge o3)
          refine hK.out _ _ (SS.out _ lw7) (fun hHw7 => ?_)
          clear hK K
          (try simp only [Act.put, List.getElem_toArray, List.getElem_cons_succ, List.getElem_cons_zero, List.setIfInBounds_toArray, List.set_cons_zero, List.set_cons_succ])
          obtain ⟨-, a6, c6, rfl, -⟩ := own_binds o6
          refine tk 7 ?_
          refine wpAnyH_ready (rs := [8]) (by kernel_rfl) (by simp) ?_
          refine AllReadyH.cons rfl (fun K hK => ?_) AllReadyH.nil
          have hy6 := (lw7.block yy hl3).trans HY.out
          have e8 := cell_of_cells hy6 2
          have f8 := free_of_cells hy6 2
          simp at e8
          go_simp
          have hy8 := setCell_block hy6 (j := 2) (.slice a6 ((n3 + 1) + 1) c6)
          have t8 : Turn (fun k => k = yy) w7 (w7.setCell ⟨yy, 2, none⟩ (.slice a6 ((n3 + 1) + 1) c6)) := setCell_turn _ _ _ _
          have o8 := t8.row o6 (fun g hg e => by have := own_ge o6 g hg; omega)
          have t08 : Turn (fun k => k = yy) w3 (w7.setCell ⟨yy, 2, none⟩ (.slice a6 ((n3 + 1) + 1) c6)) := (Turn.of_below _ lw7).trans t8 (fun i _ e => e)
          obtain ⟨w8, hmw8⟩ : ∃ w8, w8 = w7.setCell ⟨yy, 2, none⟩ (.slice a6 ((n3 + 1) + 1) c6) := ⟨_, rfl⟩
          rw [← hmw8] at hy8 o8 t08 ⊢
          clear hmw8 t8
          obtain ⟨-, a9, c9, e9, -, -, z9, b9⟩ := own_binds o8
          cases e9
          refine hK.out _ _ (ST.out _ t08) (fun hH8 => ?_)
          clear hK K
          refine wpAnyH_done (by kernel_rfl) ?_ _
          go_wp2_with fail
          go_meet
          case rel => exact MEET.out _ a6 c6 (by rw [hy8]; simp) (by simpa using b9) z9 t08
      · go_simp
        have q1 := binds_one w3 b
        obtain ⟨w4, hmw4⟩ : ∃ w4, w4 = w3.alloc (.cells #[.int .i64 b.src, .bool b.toPost, .int .i64 b.dst, .string b.pat] 55) := ⟨_, rfl⟩
        have lqw4 : Below w3.heap.size w3 w4 := by rw [hmw4]; exact (Below.refl _ _).alloc (Nat.le_refl _) _
        have zw4 : w3.heap.size + 1 ≤ w4.heap.size := by rw [hmw4]; simp
        rw [← hmw4] at q1 ⊢
        clear hmw4
        have lw4 : Below w3.heap.size w3 w4 := lqw4
        refine hK.out _ _ (SS.out _ lw4) (fun hHw4 => ?_)
        clear hK K
        (try simp only [Act.put, List.getElem_toArray, List.getElem_cons_succ, List.getElem_cons_zero, List.setIfInBounds_toArray, List.set_cons_zero, List.set_cons_succ])
        refine wpAnyH_ready (rs := [0]) (by kernel_rfl) (by simp) ?_
        refine AllReadyH.cons rfl (fun K hK => ?_) AllReadyH.nil
        go_simp
        have o1 := World.ownsRow_made (base := w3.heap.size) (e := 55) (size := 4) w4 #[] 0 (by omega) (Nat.zero_le _) rfl
        obtain ⟨w5, hmw5⟩ : ∃ w5, w5 = w4.alloc (.cells #[] 55) := ⟨_, rfl⟩
        have lqw5 : Below w4.heap.size w4 w5 := by rw [hmw5]; exact (Below.refl _ _).alloc (Nat.le_refl _) _
        have zw5 : w4.heap.size + 1 ≤ w5.heap.size := by rw [hmw5]; simp
        rw [← hmw5] at o1 ⊢
        clear hmw5
        have lw5 : Below w3.heap.size w3 w5 := lw4.trans (lqw5.mono (by omega))
        refine hK.out _ _ (SS.out _ lw5) (fun hHw5 => ?_)
        clear hK K
        (try simp only [Act.put, List.getElem_toArray, List.getElem_cons_succ, List.getElem_cons_zero, List.setIfInBounds_toArray, List.set_cons_zero, List.set_cons_succ])
        refine wpAnyH_ready (rs := [3]) (by kernel_rfl) (by simp) ?_
        refine AllReadyH.cons rfl (fun K hK => ?_) AllReadyH.nil
        refine step_append_binds (by kernel_rfl) _ _ rfl w3.heap.size _ 0 [] rfl o1 aM (n3 + 1) cM (p.more b).binds rfl HBS.out.1 HBS.out.2.1 (HBS.out.2.2 _ lw5) (by omega) (by omega) ?_
        intro v3 w6 o3 g3 _
        rw [Nat.zero_add, List.nil_append] at o3
        have zw6 := g3.size
        have lw6 : Below w3.heap.size w3 w6 := lw5.grown g3 (by omega) (fun k e => by cases e; show _ ≤ w4.heap.size; omega)
        refine hK.out _ _ (SS.out _ lw6) (fun hHw6 => ?_)
        clear hK K
        (try simp only [Act.put, List.getElem_toArray, List.getElem_cons_succ, List.getElem_cons_zero, List.setIfInBounds_toArray, List.set_cons_zero, List.set_cons_succ])
        refine wpAnyH_ready (rs := [6]) (by kernel_rfl) (by simp) ?_
        refine AllReadyH.cons rfl (fun K hK => ?_) AllReadyH.nil
        refine step_append_binds (by kernel_rfl) _ _ rfl w3.heap.size _ _ _ rfl o3 _ 1 1 [b] rfl rfl (fun e => by cases e) ((q1.keep lqw5).grown g3 (row_ne (by omega))) (by omega) (by omega) ?_
        intro v6 w7 o6 g6 _
        have zw7 := g6.size
        have lw7 : Below w3.heap.size w3 w7 := lw6.grown g6 (by omega) (own_ge o3)
        refine hK.out _ _ (SS.out _ lw7) (fun hHw7 => ?_)
        clear hK K
        (try simp only [Act.put, List.getElem_toArray, List.getElem_cons_succ, List.getElem_cons_zero, List.setIfInBounds_toArray, List.set_cons_zero, List.set_cons_succ])
        obtain ⟨-, a6, c6, rfl, -⟩ := own_binds o6
        refine tk 7 ?_
        refine wpAnyH_ready (rs := [8]) (by kernel_rfl) (by simp) ?_
        refine AllReadyH.cons rfl (fun K hK => ?_) AllReadyH.nil
        have hy6 := (lw7.block yy hl3).trans HY.out
        have e8 := cell_of_cells hy6 2
        have f8 := free_of_cells hy6 2
        simp at e8
        go_simp
        have hy8 := setCell_block hy6 (j := 2) (.slice a6 ((n3 + 1) + 1) c6)
        have t8 : Turn (fun k => k = yy) w7 (w7.setCell ⟨yy, 2, none⟩ (.slice a6 ((n3 + 1) + 1) c6)) := setCell_turn _ _ _ _
        have o8 := t8.row o6 (fun g hg e => by have := own_ge o6 g hg; omega)
        have t08 : Turn (fun k => k = yy) w3 (w7.setCell ⟨yy, 2, none⟩ (.slice a6 ((n3 + 1) + 1) c6)) := (Turn.of_below _ lw7).trans t8 (fun i _ e => e)
        obtain ⟨w8, hmw8⟩ : ∃ w8, w8 = w7.setCell ⟨yy, 2, none⟩ (.slice a6 ((n3 + 1) + 1) c6) := ⟨_, rfl⟩
        rw [← hmw8] at hy8 o8 t08 ⊢
        clear hmw8 t8
        obtain ⟨-, a9, c9, e9, -, -, z9, b9⟩ := own_binds o8
        cases e9
        refine hK.out _ _ (ST.out _ t08) (fun hH8 => ?_)
        clear hK K
        refine wpAnyH_done (by kernel_rfl) ?_ _
        go_wp2_with fail
        go_meet
        case rel => exact MEET.out _ a6 c6 (by rw [hy8]; simp) (by simpa using b9) z9 t08
    case rest =>
      obtain ⟨aT, cT, hy2, hbT, -, ht2⟩ := hcut
      have hBo := HBR.out.trans (ht2.below sr (fun i e => by omega))
      have hB2 : Below w.heap.size w wc := hBc.trans (hBo.mono hBc.size)
      have HP0 : Hid (PlanAt wc a1 a2 a3 n1 n2 n3 p) := HPW.out.keep hB2
      have HPM : Hid (PlanAt wc a1 a2 aM n1 n2 (n3 + 1) (p.more b)) := ⟨HP0.out.l1, HP0.out.l2, by rw [more_len, HP0.out.l3], HP0.out.sz, HP0.out.p1, HP0.out.p2, HBM.out.keep hBo⟩
      have HPT : Hid (PlanAt wc a1 a2 aT n1 n2 (n3 + 1 + 1) ((p.more b).more b)) := ⟨HP0.out.l1, HP0.out.l2, by rw [more_len, more_len, HP0.out.l3], HP0.out.sz, HP0.out.p1, HP0.out.p2, hbT⟩
      have BX : Hid (∀ W, Below wc.heap.size wc W → W.cell? ⟨w.heap.size, 0, none⟩ = some (.slice a1 n1 c1) ∧ W.cell? ⟨w.heap.size, 1, none⟩ = some (.slice a2 n2 c2) ∧ W.cell? ⟨w.heap.size, 2, none⟩ = some (.slice a3 n3 c3)) := fun W hW => by
        have x := (hW.block w.heap.size (by have := ht2.size; omega)).trans ((ht2.block w.heap.size (by omega) (by omega)).trans HX1.out)
        exact ⟨cell_of_cells x 0, cell_of_cells x 1, cell_of_cells x 2⟩
      have BM : Hid (∀ W, Below wc.heap.size wc W → W.cell? ⟨bb + 1, 0, none⟩ = some (.slice a1 n1 c1) ∧ W.cell? ⟨bb + 1, 1, none⟩ = some (.slice a2 n2 c2) ∧ W.cell? ⟨bb + 1, 2, none⟩ = some (.slice aM (n3 + 1) cM)) := fun W hW => by
        have x := (hW.block (bb + 1) (by have := ht2.size; omega)).trans ((ht2.block (bb + 1) hlX (by omega)).trans HX.out)
        exact ⟨cell_of_cells x 0, cell_of_cells x 1, cell_of_cells x 2⟩
      have BT : Hid (∀ W, Below wc.heap.size wc W → W.cell? ⟨yy, 0, none⟩ = some (.slice a1 n1 c1) ∧ W.cell? ⟨yy, 1, none⟩ = some (.slice a2 n2 c2) ∧ W.cell? ⟨yy, 2, none⟩ = some (.slice aT (n3 + 1 + 1) cT)) := fun W hW => by
        have x := (hW.block yy (by have := ht2.size; omega)).trans hy2
        exact ⟨cell_of_cells x 0, cell_of_cells x 1, cell_of_cells x 2⟩
      have s2 := hB2.size
      have HB2 := hidIt hB2
      clear HY SS ST MEET hy2 hlX hlB HX HB HYY HBR HBM HX1 HSRC hbT ht2 hBo HTP ht1 hBc hB2 sr st1 hs3' hyc hlY hyb lc hn3 hz3 HBW HPW s0
      obtain ⟨d0, d1, d2⟩ := BX.out wc (Below.refl _ _)
      go_wp2_with fail
      refine (queues_any p _ _ _ _ _ _ _ _ _ v key _ HP0.out).mono ?_
      rintro e w3 ⟨xs, ax, cx, rfl, hx1, -, hx3, hx4, hB3⟩
      obtain ⟨f, hf⟩ : ∃ f, f = rtE p v key := ⟨_, rfl⟩
      rw [← hf] at hx1 ⊢
      have HX := hidIt (And.intro hx1 (And.intro hx3 hx4))
      have HB3 := hidIt hB3
      clear d0 d1 d2 hx1 hx3 hx4 hf
      obtain ⟨d0, d1, d2⟩ := BM.out w3 hB3
      go_wp2_with fail
      refine (queues_any (p.more b) _ _ _ _ _ _ _ _ _ v key _ (HPM.out.keep hB3)).mono ?_
      rintro e w4 ⟨ys, ay, cy, rfl, hx1, -, hx3, hx4, hB4⟩
      obtain ⟨g, hg⟩ : ∃ g, g = rtE (p.more b) v key := ⟨_, rfl⟩
      rw [← hg] at hx1 ⊢
      have HY := hidIt (And.intro hx1 (And.intro hx3 hx4))
      have HB4 := hidIt hB4
      have k4 : Below wc.heap.size wc w4 := hB3.trans (hB4.mono hB3.size)
      clear d0 d1 d2 hx1 hx3 hx4 hg
      obtain ⟨d0, d1, d2⟩ := BT.out w4 k4
      go_wp2_with fail
      refine (queues_any ((p.more b).more b) _ _ _ _ _ _ _ _ _ v key _ (HPT.out.keep k4)).mono ?_
      rintro e w5 ⟨zs, az, cz, rfl, hx1, -, hx3, hx4, hB5⟩
      obtain ⟨h, hh⟩ : ∃ h, h = rtE ((p.more b).more b) v key := ⟨_, rfl⟩
      rw [← hh] at hx1 ⊢
      have HZ := hidIt (And.intro hx1 (And.intro hx3 hx4))
      have k5 : Below wc.heap.size wc w5 := k4.trans (hB5.mono k4.size)
      have HB5 := hidIt hB5
      have s5 := k5.size
      have END : Hid (∀ W, Below w5.heap.size w5 W → Below w.heap.size w W) := fun W hW => HB2.out.trans ((k5.trans (hW.mono s5)).mono s2)
      clear d0 d1 d2 hx1 hx3 hx4 hh hB3 hB4 hB5 k4 k5
      by_cases hf0 : f = 0
      · by_cases hg0 : g = 0
        · subst hf0 hg0
          have HXY : Hid (∀ z ∈ xs, z ∈ ys) := queues_more (HX.out.1 rfl) (HY.out.1 rfl)
          have HYZ : Hid (h = 0 → ys = zs) := fun e => queues_twice (HY.out.1 rfl) (HZ.out.1 e)
          have HXI : Hid (IntsAt w5 ax xs) := (HX.out.2.2.keep HB4.out).keep HB5.out
          have HYI : Hid (IntsAt w5 ay ys) := HY.out.2.2.keep HB5.out
          have HZI : Hid (IntsAt w5 az zs) := HZ.out.2.2
          obtain ⟨mx, hmx⟩ : ∃ mx, mx = xs.length := ⟨_, rfl⟩
          obtain ⟨my, hmy⟩ : ∃ my, my = ys.length := ⟨_, rfl⟩
          rw [← hmx, ← hmy]
          have HMX := hidIt hmx
          have HMY := hidIt hmy
          have hx12 : mx ≤ 12 := by rw [hmx]; exact HX.out.2.1
          have hy12 : my ≤ 12 := by rw [hmy]; exact HY.out.2.1
          clear hmx hmy
          go_wp2_with fail
          go_loopw [17, 18, 19] (fun i _ _ wr => ∃ (k : Nat), k ≤ mx ∧ i = .int .i64 k ∧ Below w5.heap.size w5 wr) (fun i _ _ _ => mx - (intOf i).toNat)
          case atStart => exact ⟨0, Nat.zero_le _, rfl, Below.refl _ _⟩
          case round =>
            obtain ⟨k, hk, rfl, hB⟩ := hrel
            by_cases hlt : k < mx
            · have HLT := hidIt hlt
              have hkl : k < xs.length := by rw [← HMX.out]; exact hlt
              obtain ⟨z, hz⟩ : ∃ z, z = xs[k] := ⟨_, rfl⟩
              have HIN : Hid (z ∈ ys) := HXY.out z (by rw [hz]; exact List.getElem_mem hkl)
              have HXK : Hid (∃ gx, ax = some ⟨gx, 0, none⟩ ∧ ∀ W, Below w5.heap.size w5 W → W.cell? ⟨gx, k, none⟩ = some (.int .i64 z)) := by
                rcases HXI.out with h | ⟨gx, rfl, hgx, hxx⟩
                · rw [h] at hkl; simp at hkl
                · exact ⟨gx, rfl, fun W hW => by rw [hz]; exact (hW.cell (p := ⟨gx, k, none⟩) hgx).trans (hxx k hkl)⟩
              obtain ⟨gx, rfl, hxk⟩ := HXK.out
              have HXK := hidIt hxk
              have i1 : (0 : Int) ≤ (k : Int) := by omega
              have i2 : (k : Int) < mx := by omega
              have sB := hB.size
              clear hz hxk hkl
              go_wp2_with fail
              go_loopw [18, 19] (fun c i wr => ∃ (j : Nat), j ≤ my ∧ i = .int .i64 j ∧ c = .bool (decide (z ∈ ys.take j)) ∧ Below w5.heap.size w5 wr) (fun _ i _ => my - (intOf i).toNat)
              case atStart => exact ⟨0, Nat.zero_le _, rfl, by simp, hB⟩
              case round =>
                obtain ⟨j, hj, rfl, rfl, hBj⟩ := hrel
                by_cases hjl : j < my
                · have hjl' : j < ys.length := by rw [← HMY.out]; exact hjl
                  rcases HYI.out with h | ⟨gp, rfl, hgp, hxp⟩
                  · rw [h] at hjl'; simp at hjl'
                  have t1 := (hBj.cell (p := ⟨gp, j, none⟩) hgp).trans (hxp j hjl')
                  obtain ⟨y, hy⟩ : ∃ y, y = ys[j] := ⟨_, rfl⟩
                  rw [← hy] at t1
                  have HYJ := hidIt hy
                  obtain ⟨cm, hcm⟩ : ∃ cm, cm = decide (z ∈ ys.take j) := ⟨_, rfl⟩
                  rw [← hcm]
                  have HCM := hidIt hcm
                  have t2 := HXK.out _ hBj
                  have y1 : (0 : Int) ≤ (j : Int) := by omega
                  have y2 : (j : Int) < my := by omega
                  clear hy hcm hxp
                  cases cm with
                  | true =>
                    go_wp2_with fail
                    go_quiet (fail)
                    go_wp2_with fail
                    go_roundw
                    case rel => exact ⟨j + 1, by omega, by go_num, by rw [take_mem_succ hjl', ← HCM.out]; rfl, below_drewN2 hBj⟩
                    case measure => simp [intOf]; omega
                  | false =>
                    go_wp2_with fail
                    go_quiet (fail)
                    go_wp2_with fail
                    go_roundw
                    case rel => exact ⟨j + 1, by omega, by go_num, by rw [take_mem_succ hjl', ← HCM.out, ← HYJ.out]; rfl, below_drewN2 hBj⟩
                    case measure => simp [intOf]; omega
                · have hje : j = my := by omega
                  subst hje
                  have hcm : decide (z ∈ ys.take j) = true := by
                    rw [HMY.out, List.take_length]; exact decide_eq_true HIN.out
                  rw [hcm]
                  clear hcm hjl hj
                  go_wp2_with fail
                  go_roundw
                  case rel => exact ⟨k + 1, HLT.out, by have l1 := HLT.out; go_num, hBj⟩
                  case measure => have l1 := HLT.out; simp [intOf]; omega
            · have hke : k = mx := by omega
              subst hke
              clear hlt hk
              go_wp2_with fail
              refine (routeBegun_any _).mono ?_
              rintro e w6 ⟨rfl, hB6⟩
              have k6 : Below w5.heap.size w5 w6 := hB.trans (hB6.mono hB.size)
              have HK6 := hidIt k6
              by_cases hh0 : h = 0
              · have e := HYZ.out hh0
                subst hh0
                subst e
                have HYI6 : Hid (IntsAt w6 ay ys ∧ IntsAt w6 az ys) := ⟨HYI.out.keep k6, HZI.out.keep k6⟩
                rw [← HMY.out]
                go_wp2_with fail
                refine (same_ints ys _ _ _ _ _ _ HMY.out.symm (by omega) HYI6.out.1 HYI6.out.2).mono ?_
                rintro e w7 ⟨rfl, hB7⟩
                go_wp2_with fail
                go_ret
                exact ⟨rfl, END.out _ (HK6.out.trans (hB7.mono HK6.out.size))⟩
              · have hh0' : (h != 0) = true := bne_iff_ne.2 hh0
                go_wp2_with fail
                go_ret
                exact ⟨rfl, END.out _ HK6.out⟩
        · have hg0' : (g != 0) = true := bne_iff_ne.2 hg0
          subst hf0
          go_wp2_with fail
          refine (routeBegun_any _).mono ?_
          rintro e w6 ⟨rfl, hB6⟩
          go_wp2_with fail
          go_ret
          exact ⟨rfl, END.out _ hB6⟩
      · have hf0' : (f != 0) = true := bne_iff_ne.2 hf0
        go_wp2_with fail
        refine (routeBegun_any _).mono ?_
        rintro e w6 ⟨rfl, hB6⟩
        go_wp2_with fail
        go_ret
        exact ⟨rfl, END.out _ hB6⟩
end Go.Proofs.Ythhkpgnjpieckaa
