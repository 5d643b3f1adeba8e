/- mailcoachlaw.office, planBegun. -/
import Derived.Test.YtpoichgodamnkaaFt
namespace Go.Proofs.Ytpoichgodamnkaa
set_option linter.unusedVariables false
set_option maxRecDepth 100000
open Go.RowKit

def bs (l : List UInt8) : ByteArray := ⟨l.toArray⟩
def officeP : PlanD := {
  posts := [⟨⟨#[109, 97, 105, 110]⟩, 3⟩, ⟨⟨#[97, 108, 108]⟩, 2⟩, ⟨⟨#[100, 101, 97, 100]⟩, 1⟩]
  queues := [⟨⟨#[97]⟩, 2, 2⟩, ⟨⟨#[98]⟩, 3, -1⟩, ⟨⟨#[100]⟩, 2, -1⟩]
  binds := [⟨0, false, 0, ⟨#[120, 46, 35]⟩⟩, ⟨0, true, 1, ⟨#[42, 46, 121]⟩⟩, ⟨1, false, 1, ⟨#[35]⟩⟩, ⟨1, true, 0, ⟨#[35]⟩⟩, ⟨2, false, 2, ⟨#[120, 46, 121]⟩⟩] }

def oPosts : Array Value := #[.string ⟨#[109, 97, 105, 110]⟩, .int .i64 3, .string ⟨#[97, 108, 108]⟩, .int .i64 2, .string ⟨#[100, 101, 97, 100]⟩, .int .i64 1]
def oQueues : Array Value := #[.string ⟨#[97]⟩, .int .i64 2, .int .i64 2, .string ⟨#[98]⟩, .int .i64 3, .int .i64 (-1), .string ⟨#[100]⟩, .int .i64 2, .int .i64 (-1)]
def oBinds : Array Value := #[.int .i64 0, .bool false, .int .i64 0, .string ⟨#[120, 46, 35]⟩, .int .i64 0, .bool true, .int .i64 1, .string ⟨#[42, 46, 121]⟩, .int .i64 1, .bool false, .int .i64 1, .string ⟨#[35]⟩, .int .i64 1, .bool true, .int .i64 0, .string ⟨#[35]⟩, .int .i64 2, .bool false, .int .i64 2, .string ⟨#[120, 46, 121]⟩]

theorem heap_four (w : World) (A B C D : Obj) : ((((w.alloc A).alloc B).alloc C).alloc D).heap.size = w.heap.size + 4 ∧ ((((w.alloc A).alloc B).alloc C).alloc D).heap[w.heap.size + 1]? = some B ∧ ((((w.alloc A).alloc B).alloc C).alloc D).heap[w.heap.size + 1 + 1]? = some C ∧ ((((w.alloc A).alloc B).alloc C).alloc D).heap[w.heap.size + 1 + 1 + 1]? = some D := by
  have hB := World.alloc_heap_new (w.alloc A) B
  have hC := World.alloc_heap_new ((w.alloc A).alloc B) C
  have hD := World.alloc_heap_new (((w.alloc A).alloc B).alloc C) D
  simp only [World.size_alloc] at hB hC hD
  refine ⟨by simp only [World.size_alloc], ?_, ?_, hD⟩
  · rw [Below.heap_alloc _ _ _ (by simp only [World.size_alloc]; omega), Below.heap_alloc _ _ _ (by simp only [World.size_alloc]; omega)]; exact hB
  · rw [Below.heap_alloc _ _ _ (by simp only [World.size_alloc]; omega)]; exact hC

theorem cell_of_cells {W : World} {b : Nat} {cs : Array Value} {t : TypeId} (h : W.heap[b]? = some (.cells cs t (0, 0))) (i : Nat) : W.cell? ⟨b, i, none⟩ = cs[i]? := by
  unfold World.cell?; simp only; rw [h]; simp
theorem free_of_cells {W : World} {b : Nat} {cs : Array Value} {t : TypeId} (h : W.heap[b]? = some (.cells cs t (0, 0))) (i : Nat) : W.frozen? ⟨b, i, none⟩ = false := by
  simp [World.frozen?, h]
theorem lt_of_heap {W : World} {b : Nat} {o : Obj} (h : W.heap[b]? = some o) : b < W.heap.size := (Array.getElem?_eq_some_iff.1 h).1

theorem posts_of {W : World} {b : Nat} {cs : Array Value} {t : TypeId} (h : W.heap[b]? = some (.cells cs t (0, 0))) (xs : List PostD)
    (hc : ∀ i (hi : i < xs.length), cs[i * 2]? = some (.string xs[i].name) ∧ cs[i * 2 + 1]? = some (.int .i64 xs[i].kind)) : PostsAt W (some ⟨b, 0, none⟩) xs :=
  .inr ⟨b, 0, rfl, lt_of_heap h, fun i hi => by simp only [Nat.zero_add, cell_of_cells h]; exact hc i hi⟩
theorem queuesAt_of {W : World} {b : Nat} {cs : Array Value} {t : TypeId} (h : W.heap[b]? = some (.cells cs t (0, 0))) (xs : List QueueD)
    (hc : ∀ i (hi : i < xs.length), cs[i * 3]? = some (.string xs[i].name) ∧ cs[i * 3 + 1]? = some (.int .i64 xs[i].limit) ∧ cs[i * 3 + 2]? = some (.int .i64 xs[i].dead)) : QueuesAt W (some ⟨b, 0, none⟩) xs :=
  .inr ⟨b, 0, rfl, lt_of_heap h, fun i hi => by simp only [Nat.zero_add, cell_of_cells h]; exact hc i hi⟩
theorem binds_of {W : World} {b : Nat} {cs : Array Value} {t : TypeId} (h : W.heap[b]? = some (.cells cs t (0, 0))) (xs : List BindD)
    (hc : ∀ i (hi : i < xs.length), cs[i * 4]? = some (.int .i64 xs[i].src) ∧ cs[i * 4 + 1]? = some (.bool xs[i].toPost) ∧ cs[i * 4 + 2]? = some (.int .i64 xs[i].dst) ∧ cs[i * 4 + 3]? = some (.string xs[i].pat)) : BindsAt W (some ⟨b, 0, none⟩) xs :=
  .inr ⟨b, 0, rfl, lt_of_heap h, fun i hi => by simp only [Nat.zero_add, cell_of_cells h]; exact hc i hi⟩

set_option maxRecDepth 100000 in
set_option maxHeartbeats 2000000 in
theorem office_raw (w : World) : Calls Try.prog 40 #[] w fun e w' => e = .returned (.agg #[.slice (some ⟨w.heap.size + 1, 0, none⟩) 3 3, .slice (some ⟨w.heap.size + 1 + 1, 0, none⟩) 3 3, .slice (some ⟨w.heap.size + 1 + 1 + 1, 0, none⟩) 5 5]) ∧
    Below w.heap.size w w' ∧ w'.heap.size = w.heap.size + 4 ∧ w'.heap[w.heap.size + 1]? = some (.cells oPosts 70 (0, 0)) ∧ w'.heap[w.heap.size + 1 + 1]? = some (.cells oQueues 72 (0, 0)) ∧ w'.heap[w.heap.size + 1 + 1 + 1]? = some (.cells oBinds 77 (0, 0)) := by
  go_enter Try.func40, Try.ntmps40
  go_wp2_with fail
  exact bodyPost_ret (v := .agg #[.slice (some ⟨w.heap.size + 1, 0, none⟩) 3 3, .slice (some ⟨w.heap.size + 1 + 1, 0, none⟩) 3 3, .slice (some ⟨w.heap.size + 1 + 1 + 1, 0, none⟩) 5 5]) (by simp [results, Try.results40, go_sem]) rfl ⟨rfl, (by repeat (first | exact Below.refl _ _ | assumption | refine Below.drew ?_ | refine Below.alloc ?_ (by first | (simp; done) | (simp; omega) | omega) _ | refine Below.setCell ?_ (by first | (simp; done) | (simp; omega) | omega) _)), heap_four w _ _ _ _⟩

/-- The office, the office with a wrong number, the office with one name twice. -/
def officeX : PlanD := { officeP with queues := [⟨⟨#[97]⟩, 2, 3⟩, ⟨⟨#[98]⟩, 3, -1⟩, ⟨⟨#[100]⟩, 2, -1⟩] }
def officeY : PlanD := { officeP with posts := [⟨⟨#[109, 97, 105, 110]⟩, 3⟩, ⟨⟨#[109, 97, 105, 110]⟩, 2⟩, ⟨⟨#[100, 101, 97, 100]⟩, 1⟩] }
theorem sized_small {p : PlanD} (h : ((p.posts.map PostD.name).all (fun x => decide (x.size ≤ 100)) && (p.queues.map QueueD.name).all (fun x => decide (x.size ≤ 100))) = true) : Sized p := by
  rw [Bool.and_eq_true, List.all_eq_true, List.all_eq_true] at h
  unfold Sized maxLen
  exact ⟨fun x hx => by have := h.1 x hx; simp at this; omega, fun x hx => by have := h.2 x hx; simp at this; omega⟩
theorem posts3 {cs : Array Value} {x y z : PostD} (h : cs = #[.string x.name, .int .i64 x.kind, .string y.name, .int .i64 y.kind, .string z.name, .int .i64 z.kind]) : ∀ i (hi : i < [x, y, z].length), cs[i * 2]? = some (.string [x, y, z][i].name) ∧ cs[i * 2 + 1]? = some (.int .i64 [x, y, z][i].kind) := by
  subst h
  intro i hi
  match i, hi with
  | 0, _ => exact ⟨rfl, rfl⟩
  | 1, _ => exact ⟨rfl, rfl⟩
  | 2, _ => exact ⟨rfl, rfl⟩
theorem queues3 {cs : Array Value} {x y z : QueueD} (h : cs = #[.string x.name, .int .i64 x.limit, .int .i64 x.dead, .string y.name, .int .i64 y.limit, .int .i64 y.dead, .string z.name, .int .i64 z.limit, .int .i64 z.dead]) : ∀ i (hi : i < [x, y, z].length), cs[i * 3]? = some (.string [x, y, z][i].name) ∧ cs[i * 3 + 1]? = some (.int .i64 [x, y, z][i].limit) ∧ cs[i * 3 + 2]? = some (.int .i64 [x, y, z][i].dead) := by
  subst h
  intro i hi
  match i, hi with
  | 0, _ => exact ⟨rfl, rfl, rfl⟩
  | 1, _ => exact ⟨rfl, rfl, rfl⟩
  | 2, _ => exact ⟨rfl, rfl, rfl⟩
theorem binds5 : ∀ i (hi : i < officeP.binds.length), oBinds[i * 4]? = some (.int .i64 officeP.binds[i].src) ∧ oBinds[i * 4 + 1]? = some (.bool officeP.binds[i].toPost) ∧ oBinds[i * 4 + 2]? = some (.int .i64 officeP.binds[i].dst) ∧ oBinds[i * 4 + 3]? = some (.string officeP.binds[i].pat) := by
  intro i hi
  match i, hi with
  | 0, _ => exact ⟨rfl, rfl, rfl, rfl⟩
  | 1, _ => exact ⟨rfl, rfl, rfl, rfl⟩
  | 2, _ => exact ⟨rfl, rfl, rfl, rfl⟩
  | 3, _ => exact ⟨rfl, rfl, rfl, rfl⟩
  | 4, _ => exact ⟨rfl, rfl, rfl, rfl⟩

theorem office_any (w : World) : Calls Try.prog 40 #[] w fun e w' => e = .returned (.agg #[.slice (some ⟨w.heap.size + 1, 0, none⟩) 3 3, .slice (some ⟨w.heap.size + 1 + 1, 0, none⟩) 3 3, .slice (some ⟨w.heap.size + 1 + 1 + 1, 0, none⟩) 5 5]) ∧
    Below w.heap.size w w' ∧ PlanAt w' (some ⟨w.heap.size + 1, 0, none⟩) (some ⟨w.heap.size + 1 + 1, 0, none⟩) (some ⟨w.heap.size + 1 + 1 + 1, 0, none⟩) 3 3 5 officeP := by
  refine (office_raw w).mono ?_
  rintro e w' ⟨rfl, hB, hs, h1, h2, h3⟩
  exact ⟨rfl, hB, ⟨rfl, rfl, rfl, sized_small (by decide +kernel), posts_of h1 _ (posts3 rfl), queuesAt_of h2 _ (queues3 rfl), binds_of h3 _ binds5⟩⟩

theorem setCell_block {W : World} {b j : Nat} {cs : Array Value} {t : TypeId} (h : W.heap[b]? = some (.cells cs t (0, 0))) (u : Value) : (W.setCell ⟨b, j, none⟩ u).heap[b]? = some (.cells (cs.setIfInBounds j u) t (0, 0)) := heap_setCell_same W b j cs t u h
theorem office_x {w6 w7 W8 : World} (hB : Below w6.heap.size w6 w7) (hs : w7.heap.size = w6.heap.size + 4) (h1 : w7.heap[w6.heap.size + 1]? = some (.cells oPosts 70 (0, 0))) (h2 : w7.heap[w6.heap.size + 1 + 1]? = some (.cells oQueues 72 (0, 0))) (h3 : w7.heap[w6.heap.size + 1 + 1 + 1]? = some (.cells oBinds 77 (0, 0)))
    {v1 v2 v3 : Value} (hW : ((w7.setCell ⟨w6.heap.size + 1 + 1, 2, none⟩ (.int .i64 3)).alloc (.cells #[v1, v2, v3] 26)) = W8) :
    PlanAt W8 (some ⟨w6.heap.size + 1, 0, none⟩) (some ⟨w6.heap.size + 1 + 1, 0, none⟩) (some ⟨w6.heap.size + 1 + 1 + 1, 0, none⟩) 3 3 5 officeX ∧ (W8.cell? ⟨w7.heap.size, 0, none⟩ = some v1 ∧ W8.cell? ⟨w7.heap.size, 1, none⟩ = some v2 ∧ W8.cell? ⟨w7.heap.size, 2, none⟩ = some v3) ∧ Below w6.heap.size w6 W8 ∧ w7.heap.size < W8.heap.size ∧ True := by
  subst hW
  have hz : (w7.setCell ⟨w6.heap.size + 1 + 1, 2, none⟩ (.int .i64 3)).heap.size = w7.heap.size := by simp [World.setCell]
  have b1 : (w7.setCell ⟨w6.heap.size + 1 + 1, 2, none⟩ (.int .i64 3)).heap[w6.heap.size + 1]? = some (.cells oPosts 70 (0, 0)) := (Below.heap_setCell _ _ _ _ (by simp)).trans h1
  have b2 := setCell_block h2 (j := 2) (.int .i64 3)
  have b3 : (w7.setCell ⟨w6.heap.size + 1 + 1, 2, none⟩ (.int .i64 3)).heap[w6.heap.size + 1 + 1 + 1]? = some (.cells oBinds 77 (0, 0)) := (Below.heap_setCell _ _ _ _ (by simp)).trans h3
  obtain ⟨p0, p1, p2⟩ := plan_box (w7.setCell ⟨w6.heap.size + 1 + 1, 2, none⟩ (.int .i64 3)) v1 v2 v3 26
  rw [hz] at p0 p1 p2
  refine ⟨⟨rfl, rfl, rfl, sized_small (by decide +kernel), posts_of ((Below.heap_alloc _ _ _ (by rw [hz]; omega)).trans b1) _ (posts3 rfl), queuesAt_of ((Below.heap_alloc _ _ _ (by rw [hz]; omega)).trans b2) _ (queues3 rfl), binds_of ((Below.heap_alloc _ _ _ (by rw [hz]; omega)).trans b3) _ binds5⟩, ⟨p0, p1, p2⟩, (hB.setCell (p := ⟨w6.heap.size + 1 + 1, 2, none⟩) (by show w6.heap.size ≤ w6.heap.size + 1 + 1; omega) _).alloc (by rw [hz]; omega) _, by simp only [World.size_alloc, hz]; omega, trivial⟩
theorem office_y {w6 w7 W8 : World} (hB : Below w6.heap.size w6 w7) (hs : w7.heap.size = w6.heap.size + 4) (h1 : w7.heap[w6.heap.size + 1]? = some (.cells oPosts 70 (0, 0))) (h2 : w7.heap[w6.heap.size + 1 + 1]? = some (.cells oQueues 72 (0, 0))) (h3 : w7.heap[w6.heap.size + 1 + 1 + 1]? = some (.cells oBinds 77 (0, 0)))
    {v1 v2 v3 : Value} (hW : ((w7.setCell ⟨w6.heap.size + 1, 2, none⟩ (.string ⟨#[109, 97, 105, 110]⟩)).alloc (.cells #[v1, v2, v3] 26)) = W8) :
    PlanAt W8 (some ⟨w6.heap.size + 1, 0, none⟩) (some ⟨w6.heap.size + 1 + 1, 0, none⟩) (some ⟨w6.heap.size + 1 + 1 + 1, 0, none⟩) 3 3 5 officeY ∧ (W8.cell? ⟨w7.heap.size, 0, none⟩ = some v1 ∧ W8.cell? ⟨w7.heap.size, 1, none⟩ = some v2 ∧ W8.cell? ⟨w7.heap.size, 2, none⟩ = some v3) ∧ Below w6.heap.size w6 W8 ∧ w7.heap.size < W8.heap.size := by
  subst hW
  have hz : (w7.setCell ⟨w6.heap.size + 1, 2, none⟩ (.string ⟨#[109, 97, 105, 110]⟩)).heap.size = w7.heap.size := by simp [World.setCell]
  have b1 := setCell_block h1 (j := 2) (.string ⟨#[109, 97, 105, 110]⟩)
  have b2 : (w7.setCell ⟨w6.heap.size + 1, 2, none⟩ (.string ⟨#[109, 97, 105, 110]⟩)).heap[w6.heap.size + 1 + 1]? = some (.cells oQueues 72 (0, 0)) := (Below.heap_setCell _ _ _ _ (by simp)).trans h2
  have b3 : (w7.setCell ⟨w6.heap.size + 1, 2, none⟩ (.string ⟨#[109, 97, 105, 110]⟩)).heap[w6.heap.size + 1 + 1 + 1]? = some (.cells oBinds 77 (0, 0)) := (Below.heap_setCell _ _ _ _ (by simp; omega)).trans h3
  obtain ⟨p0, p1, p2⟩ := plan_box (w7.setCell ⟨w6.heap.size + 1, 2, none⟩ (.string ⟨#[109, 97, 105, 110]⟩)) v1 v2 v3 26
  rw [hz] at p0 p1 p2
  refine ⟨⟨rfl, rfl, rfl, sized_small (by decide +kernel), posts_of ((Below.heap_alloc _ _ _ (by rw [hz]; omega)).trans b1) _ (posts3 rfl), queuesAt_of ((Below.heap_alloc _ _ _ (by rw [hz]; omega)).trans b2) _ (queues3 rfl), binds_of ((Below.heap_alloc _ _ _ (by rw [hz]; omega)).trans b3) _ binds5⟩, ⟨p0, p1, p2⟩, (hB.setCell (p := ⟨w6.heap.size + 1, 2, none⟩) (by show w6.heap.size ≤ w6.heap.size + 1; omega) _).alloc (by rw [hz]; omega) _, by simp only [World.size_alloc, hz]; omega⟩

theorem facts_P : chkP officeP = 0 ∧ fitB officeP 0 ⟨#[120]⟩ = true ∧ fitE officeP 0 ⟨#[120]⟩ = 0 ∧ fitB officeP 1 ⟨#[120, 46, 121, 46, 122]⟩ = false ∧ fitE officeP 1 ⟨#[120, 46, 121, 46, 122]⟩ = 0 ∧ fitE officeP 5 ⟨#[120]⟩ = 5 ∧ fitB officeP 5 ⟨#[120]⟩ = false := by decide +kernel
theorem facts_XY : chkP officeX = 3 ∧ chkP officeY = 6 ∧ nameOk (⟨#[97, 98, 99]⟩ : ByteArray).data.toList = true ∧ nameOk (⟨#[97, 49]⟩ : ByteArray).data.toList = false := by decide +kernel
