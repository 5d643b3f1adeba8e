/- mailcoachlaw.letter, busy. -/
import Derived.Test.YthhkpgnjpieckaaTk
namespace Go.Proofs.Ythhkpgnjpieckaa
set_option linter.unusedVariables false
set_option maxRecDepth 100000
open Go.RowKit Go.Maps

set_option maxHeartbeats 1000000 in
theorem letterS_any (q : Int) (b : ByteArray) (w : World) :
    Calls Try.prog 91 #[.int .i64 q, .string b] w fun e w' => e = .returned (.agg #[.int .i64 q, .string ⟨#[120, 46, 121]⟩, .string b, .bool false, .int .i64 0]) ∧ Below w.heap.size w w' := by
  go_enter Try.func91, Try.ntmps91
  go_wp2
  exact bodyPost_ret (v := .agg #[.int .i64 q, .string ⟨#[120, 46, 121]⟩, .string b, .bool false, .int .i64 0]) (by simp [results, Try.results91, go_sem]) rfl ⟨rfl, (by repeat (first | exact Below.refl _ _ | assumption | refine Below.drew ?_ | refine Below.alloc ?_ (by first | (simp; done) | (simp; omega) | omega) _ | refine Below.setCell ?_ (by first | (simp; done) | (simp; omega) | omega) _))⟩

theorem two_heap (w W : World) (A B : Obj) (h : W = (w.alloc A).alloc B) : W.heap.size = w.heap.size + 2 ∧ W.heap[w.heap.size]? = some A ∧ W.heap[w.heap.size + 1]? = some B ∧ Below w.heap.size w W := by
  subst h
  have hB := World.alloc_heap_new (w.alloc A) B
  simp only [World.size_alloc] at hB
  refine ⟨by simp only [World.size_alloc], ?_, hB, ((Below.refl _ _).alloc (Nat.le_refl _) _).alloc (by simp) _⟩
  rw [Below.heap_alloc _ _ _ (by simp only [World.size_alloc]; omega)]; exact World.alloc_heap_new w A
def bLine : List ItemD := [⟨2, ⟨#[120, 46, 121]⟩, ⟨#[116, 119, 111]⟩, false, 0⟩, ⟨3, ⟨#[120, 46, 121]⟩, ⟨#[116, 104, 114, 101, 101]⟩, false, 0⟩]
def busyS (o : OutD) (t0 t1 : TakerD) (ak : Int) : StateD := ⟨[bLine, [], []], [o], [t0, t1], 4, 6, 4, ak, 0⟩
def bOut (q : Int) : OutD := ⟨5, 1, 0, ⟨q, ⟨#[120, 46, 121]⟩, ⟨#[111, 110, 101]⟩, false, 0⟩⟩
structure BusyAt (W : World) (gI gR gO gT : Nat) (o : OutD) (t0 t1 : TakerD) : Prop where
  i : W.heap[gI]? = some (.cells #[.int .i64 2, .string ⟨#[120, 46, 121]⟩, .string ⟨#[116, 119, 111]⟩, .bool false, .int .i64 0, .int .i64 3, .string ⟨#[120, 46, 121]⟩, .string ⟨#[116, 104, 114, 101, 101]⟩, .bool false, .int .i64 0] 59 (0, 0))
  r : W.heap[gR]? = some (.cells #[.slice (some ⟨gI, 0, none⟩) 2 2, .slice none 0 0, .slice none 0 0] 57 (0, 0))
  o : W.heap[gO]? = some (.cells #[.int .i64 o.tag, .int .i64 o.taker, .int .i64 o.queue, .int .i64 o.item.seq, .string o.item.key, .string o.item.body, .bool o.item.again, .int .i64 o.item.deaths] 131 (0, 0))
  t : W.heap[gT]? = some (.cells #[.int .i64 t0.queue, .int .i64 t0.most, .int .i64 t1.queue, .int .i64 t1.most] 79 (0, 0))
theorem BusyAt.keep {W W' : World} {gI gR gO gT : Nat} {o : OutD} {t0 t1 : TakerD} (h : BusyAt W gI gR gO gT o t0 t1) (hB : Below W.heap.size W W') : BusyAt W' gI gR gO gT o t0 t1 := ⟨plan_keep h.i hB, plan_keep h.r hB, plan_keep h.o hB, plan_keep h.t hB⟩
theorem BusyAt.state {W : World} {gI gR gO gT : Nat} {o : OutD} {t0 t1 : TakerD} (h : BusyAt W gI gR gO gT o t0 t1) (ak : Int) : StateAt W (some ⟨gR, 0, none⟩) (some ⟨gO, 0, none⟩) (some ⟨gT, 0, none⟩) 3 1 2 (busyS o t0 t1 ak) := by
  refine ⟨rfl, rfl, rfl, by unfold maxLen; omega, by omega, by unfold maxLen; omega, ?_, ?_, ?_⟩
  · refine .inr ⟨gR, 0, rfl, lt_of_heap h.r, fun i hi => ?_⟩
    have hi3 : i < 3 := hi
    have hit : ItemsAt W (some ⟨gI, 0, none⟩) bLine := by
      refine .inr ⟨gI, 0, rfl, lt_of_heap h.i, fun j hj => ?_⟩
      have hj2 : j < 2 := hj
      match j, hj2 with
      | 0, _ => exact ⟨cell_of_cells h.i 0, cell_of_cells h.i 1, cell_of_cells h.i 2, cell_of_cells h.i 3, cell_of_cells h.i 4⟩
      | 1, _ => exact ⟨cell_of_cells h.i 5, cell_of_cells h.i 6, cell_of_cells h.i 7, cell_of_cells h.i 8, cell_of_cells h.i 9⟩
    match i, hi3 with
    | 0, _ => exact ⟨some ⟨gI, 0, none⟩, 2, cell_of_cells h.r 0, Nat.le_refl _, by unfold maxLen; omega, (fun e => by cases e), hit⟩
    | 1, _ => exact ⟨none, 0, cell_of_cells h.r 1, Nat.le_refl _, by unfold maxLen; omega, fun _ => rfl, .inl rfl⟩
    | 2, _ => exact ⟨none, 0, cell_of_cells h.r 2, Nat.le_refl _, by unfold maxLen; omega, fun _ => rfl, .inl rfl⟩
  · refine .inr ⟨gO, 0, rfl, lt_of_heap h.o, fun i hi => ?_⟩
    have hi1 : i < 1 := hi
    match i, hi1 with
    | 0, _ => exact ⟨cell_of_cells h.o 0, cell_of_cells h.o 1, cell_of_cells h.o 2, cell_of_cells h.o 3, cell_of_cells h.o 4, cell_of_cells h.o 5, cell_of_cells h.o 6, cell_of_cells h.o 7⟩
  · refine .inr ⟨gT, 0, rfl, lt_of_heap h.t, fun i hi => ?_⟩
    have hi2 : i < 2 := hi
    match i, hi2 with
    | 0, _ => exact ⟨cell_of_cells h.t 0, cell_of_cells h.t 1⟩
    | 1, _ => exact ⟨cell_of_cells h.t 2, cell_of_cells h.t 3⟩

set_option maxRecDepth 100000 in
set_option maxHeartbeats 1000000 in
theorem busy_any (w : World) : Calls Try.prog 105 #[] w fun e w' => ∃ gI gR gO gT, e = .returned (.agg #[.slice (some ⟨gR, 0, none⟩) 3 3, .slice (some ⟨gO, 0, none⟩) 1 1, .slice (some ⟨gT, 0, none⟩) 2 2, .int .i64 4, .int .i64 6, .int .i64 4, .int .i64 1, .int .i64 0]) ∧ BusyAt w' gI gR gO gT (bOut 1) ⟨-1, 1⟩ ⟨0, 2⟩ ∧ (w.heap.size ≤ gI ∧ w.heap.size ≤ gR ∧ w.heap.size ≤ gO ∧ w.heap.size ≤ gT) ∧ (gI ≠ gO ∧ gR ≠ gO ∧ gT ≠ gO ∧ gI ≠ gT ∧ gR ≠ gT) ∧ Below w.heap.size w w' := by
  obtain ⟨W0, hW0, hB0, hs0, hbx⟩ := s_boxed w #[.slice none 0 0, .slice none 0 0, .slice none 0 0, .int .i64 0, .int .i64 0, .int .i64 0, .int .i64 0, .int .i64 0]
  have HW0 := hidI hW0
  have BX := hidI hbx
  have s0 := hB0.size
  have hs0' : w.heap.size < W0.heap.size := by omega
  clear hW0 hbx hs0
  go_enter Try.func105, Try.ntmps105
  go_wp2_with fail
  rw [← HW0.out]
  refine (letterS_any _ _ _).mono ?_
  rintro e w1 ⟨rfl, k1⟩
  go_wp2_with fail
  refine (letterS_any _ _ _).mono ?_
  rintro e w2 ⟨rfl, k2'⟩
  have k2 := k1.trans (k2'.mono k1.size)
  have s2 := k2.size
  obtain ⟨W4, hW4⟩ : ∃ W4, W4 = (w2.alloc (.cells #[.int .i64 2, .string ⟨#[120, 46, 121]⟩, .string ⟨#[116, 119, 111]⟩, .bool false, .int .i64 0, .int .i64 3, .string ⟨#[120, 46, 121]⟩, .string ⟨#[116, 104, 114, 101, 101]⟩, .bool false, .int .i64 0] 59)).alloc (.cells #[.slice (some ⟨w2.heap.size, 0, none⟩) 2 2, .slice none 0 0, .slice none 0 0] 57) := ⟨_, rfl⟩
  obtain ⟨z4, hi4, hr4, k4'⟩ := two_heap w2 W4 _ _ hW4
  have HI4 := hidI hi4
  have HR4 := hidI hr4
  have HW4 := hidI hW4
  have k4 := k2.trans (k4'.mono s2)
  have HZ4 := hidI z4
  clear hW4 z4 k1 k2' hi4 hr4
  go_wp2_with fail
  rw [← HW4.out]
  refine (letterS_any _ _ _).mono ?_
  rintro e w5 ⟨rfl, k5'⟩
  have k5 := k4.trans (k5'.mono k4.size)
  have s5 := k5.size
  have s45 := k5'.size
  have q5 := BX.out w5 k5
  obtain ⟨y0, y1, y2, y3, y4, y5, y6, y7⟩ := st_cells q5
  have f0 := free_of_cells q5 0
  have f1 := free_of_cells q5 1
  have f2 := free_of_cells q5 2
  have f3 := free_of_cells q5 3
  have f4 := free_of_cells q5 4
  have f5 := free_of_cells q5 5
  have f6 := free_of_cells q5 6
  have f7 := free_of_cells q5 7
  have hlt5 : w.heap.size < w5.heap.size := by omega
  have HQ5 := hidI q5
  have HI5 := hidI (plan_keep HI4.out k5')
  have HR5 := hidI (plan_keep HR4.out k5')
  clear q5
  go_wp2_with fail
  generalize hW6 : World.setCell (World.setCell (World.setCell (World.setCell (World.setCell (World.setCell (World.setCell (World.setCell w5 _ _) _ _) _ _) _ _) _ _) _ _) _ _) _ _ = W6
  obtain ⟨b6, t6⟩ := store8 HQ5.out hW6
  have z6 : W6.heap.size = w5.heap.size := by rw [← hW6]; simp
  generalize hW7 : World.alloc (World.alloc W6 _) _ = W7
  obtain ⟨z7, ho7, ht7, k7'⟩ := two_heap W6 W7 _ _ hW7.symm
  rw [z6] at ho7 ht7
  have s6 := t6.size
  obtain ⟨x0, x1, x2, x3, x4, x5, x6, x7⟩ := st_cells (plan_keep b6 k7')
  have hz4 := HZ4.out
  have l8 : Below w.heap.size w W7 := ((hB0.trans (k5.mono s0)).trans (t6.below (by omega) (Nat.le_refl _))).trans (k7'.mono (by omega))
  have tb : ∀ k o, w5.heap[k]? = some o → k ≠ w.heap.size → W7.heap[k]? = some o := fun k o h hne => (k7'.block k (by have := lt_of_heap h; omega)).trans ((t6.block k (lt_of_heap h) hne).trans h)
  refine bodyPost_ret (v := .agg #[.slice (some ⟨w2.heap.size + 1, 0, none⟩) 3 3, .slice (some ⟨w5.heap.size, 0, none⟩) 1 1, .slice (some ⟨w5.heap.size + 1, 0, none⟩) 2 2, .int .i64 4, .int .i64 6, .int .i64 4, .int .i64 1, .int .i64 0]) (by simp [results, Try.results105, go_sem, x0, x1, x2, x3, x4, x5, x6, x7]) rfl ⟨w2.heap.size, w2.heap.size + 1, w5.heap.size, w5.heap.size + 1, rfl, ⟨?_, ?_, ?_, ?_⟩, by omega, by omega, l8⟩
  · exact tb _ _ HI5.out (by omega)
  · exact tb _ _ HR5.out (by omega)
  · exact ho7
  · exact ht7
end Go.Proofs.Ythhkpgnjpieckaa
