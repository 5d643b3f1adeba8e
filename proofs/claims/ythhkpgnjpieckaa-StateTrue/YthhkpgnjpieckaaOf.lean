/- mailcoachlaw.office, planBegun. -/
import Derived.Test.YthhkpgnjpieckaaFt
namespace Go.Proofs.Ythhkpgnjpieckaa
set_option linter.unusedVariables false
set_option maxRecDepth 100000
open Go.RowKit

def bs (l : List UInt8) : ByteArray := ⟨l.toArray⟩
def officeP : PlanD := {
  posts := [⟨⟨#[109, 97, 105, 110]⟩, 3⟩, ⟨⟨#[97, 108, 108]⟩, 2⟩, ⟨⟨#[100, 101, 97, 100]⟩, 1⟩]
  queues := [⟨⟨#[97]⟩, 2, 2⟩, ⟨⟨#[98]⟩, 3, -1⟩, ⟨⟨#[100]⟩, 2, -1⟩]
  binds := [⟨0, false, 0, ⟨#[120, 46, 35]⟩⟩, ⟨0, true, 1, ⟨#[42, 46, 121]⟩⟩, ⟨1, false, 1, ⟨#[35]⟩⟩, ⟨1, true, 0, ⟨#[35]⟩⟩, ⟨2, false, 2, ⟨#[120, 46, 121]⟩⟩] }

def oPosts : Array Value := #[.string ⟨#[109, 97, 105, 110]⟩, .int .i64 3, .string ⟨#[97, 108, 108]⟩, .int .i64 2, .string ⟨#[100, 101, 97, 100]⟩, .int .i64 1]
def oQueues : Array Value := #[.string ⟨#[97]⟩, .int .i64 2, .int .i64 2, .string ⟨#[98]⟩, .int .i64 3, .int .i64 (-1), .string ⟨#[100]⟩, .int .i64 2, .int .i64 (-1)]
def oBinds : Array Value := #[.int .i64 0, .bool false, .int .i64 0, .string ⟨#[120, 46, 35]⟩, .int .i64 0, .bool true, .int .i64 1, .string ⟨#[42, 46, 121]⟩, .int .i64 1, .bool false, .int .i64 1, .string ⟨#[35]⟩, .int .i64 1, .bool true, .int .i64 0, .string ⟨#[35]⟩, .int .i64 2, .bool false, .int .i64 2, .string ⟨#[120, 46, 121]⟩]

theorem heap_four (w : World) (A B C D : Obj) : ((((w.alloc A).alloc B).alloc C).alloc D).heap.size = w.heap.size + 4 ∧ ((((w.alloc A).alloc B).alloc C).alloc D).heap[w.heap.size + 1]? = some B ∧ ((((w.alloc A).alloc B).alloc C).alloc D).heap[w.heap.size + 1 + 1]? = some C ∧ ((((w.alloc A).alloc B).alloc C).alloc D).heap[w.heap.size + 1 + 1 + 1]? = some D := by
  have hB := World.alloc_heap_new (w.alloc A) B
  have hC := World.alloc_heap_new ((w.alloc A).alloc B) C
  have hD := World.alloc_heap_new (((w.alloc A).alloc B).alloc C) D
  simp only [World.size_alloc] at hB hC hD
  refine ⟨by simp only [World.size_alloc], ?_, ?_, hD⟩
  · rw [Below.heap_alloc _ _ _ (by simp only [World.size_alloc]; omega), Below.heap_alloc _ _ _ (by simp only [World.size_alloc]; omega)]; exact hB
  · rw [Below.heap_alloc _ _ _ (by simp only [World.size_alloc]; omega)]; exact hC

theorem cell_of_cells {W : World} {b : Nat} {cs : Array Value} {t : TypeId} (h : W.heap[b]? = some (.cells cs t (0, 0))) (i : Nat) : W.cell? ⟨b, i, none⟩ = cs[i]? := by
  unfold World.cell?; simp only; rw [h]; simp
theorem free_of_cells {W : World} {b : Nat} {cs : Array Value} {t : TypeId} (h : W.heap[b]? = some (.cells cs t (0, 0))) (i : Nat) : W.frozen? ⟨b, i, none⟩ = false := by
  simp [World.frozen?, h]
theorem lt_of_heap {W : World} {b : Nat} {o : Obj} (h : W.heap[b]? = some o) : b < W.heap.size := (Array.getElem?_eq_some_iff.1 h).1

theorem posts_of {W : World} {b : Nat} {cs : Array Value} {t : TypeId} (h : W.heap[b]? = some (.cells cs t (0, 0))) (xs : List PostD)
    (hc : ∀ i (hi : i < xs.length), cs[i * 2]? = some (.string xs[i].name) ∧ cs[i * 2 + 1]? = some (.int .i64 xs[i].kind)) : PostsAt W (some ⟨b, 0, none⟩) xs :=
  .inr ⟨b, 0, rfl, lt_of_heap h, fun i hi => by simp only [Nat.zero_add, cell_of_cells h]; exact hc i hi⟩
theorem queuesAt_of {W : World} {b : Nat} {cs : Array Value} {t : TypeId} (h : W.heap[b]? = some (.cells cs t (0, 0))) (xs : List QueueD)
    (hc : ∀ i (hi : i < xs.length), cs[i * 3]? = some (.string xs[i].name) ∧ cs[i * 3 + 1]? = some (.int .i64 xs[i].limit) ∧ cs[i * 3 + 2]? = some (.int .i64 xs[i].dead)) : QueuesAt W (some ⟨b, 0, none⟩) xs :=
  .inr ⟨b, 0, rfl, lt_of_heap h, fun i hi => by simp only [Nat.zero_add, cell_of_cells h]; exact hc i hi⟩
theorem binds_of {W : World} {b : Nat} {cs : Array Value} {t : TypeId} (h : W.heap[b]? = some (.cells cs t (0, 0))) (xs : List BindD)
    (hc : ∀ i (hi : i < xs.length), cs[i * 4]? = some (.int .i64 xs[i].src) ∧ cs[i * 4 + 1]? = some (.bool xs[i].toPost) ∧ cs[i * 4 + 2]? = some (.int .i64 xs[i].dst) ∧ cs[i * 4 + 3]? = some (.string xs[i].pat)) : BindsAt W (some ⟨b, 0, none⟩) xs :=
  .inr ⟨b, 0, rfl, lt_of_heap h, fun i hi => by simp only [Nat.zero_add, cell_of_cells h]; exact hc i hi⟩

set_option maxRecDepth 100000 in
set_option maxHeartbeats 2000000 in
theorem office_raw (w : World) : Calls Try.prog 62 #[] w fun e w' => e = .returned (.agg #[.slice (some ⟨w.heap.size + 1, 0, none⟩) 3 3, .slice (some ⟨w.heap.size + 1 + 1, 0, none⟩) 3 3, .slice (some ⟨w.heap.size + 1 + 1 + 1, 0, none⟩) 5 5]) ∧
    Below w.heap.size w w' ∧ w'.heap.size = w.heap.size + 4 ∧ w'.heap[w.heap.size + 1]? = some (.cells oPosts 93 (0, 0)) ∧ w'.heap[w.heap.size + 1 + 1]? = some (.cells oQueues 91 (0, 0)) ∧ w'.heap[w.heap.size + 1 + 1 + 1]? = some (.cells oBinds 55 (0, 0)) := by
  go_enter Try.func62, Try.ntmps62
  go_wp2_with fail
  exact bodyPost_ret (v := .agg #[.slice (some ⟨w.heap.size + 1, 0, none⟩) 3 3, .slice (some ⟨w.heap.size + 1 + 1, 0, none⟩) 3 3, .slice (some ⟨w.heap.size + 1 + 1 + 1, 0, none⟩) 5 5]) (by simp [results, Try.results62, go_sem]) rfl ⟨rfl, (by repeat (first | exact Below.refl _ _ | assumption | refine Below.drew ?_ | refine Below.alloc ?_ (by first | (simp; done) | (simp; omega) | omega) _ | refine Below.setCell ?_ (by first | (simp; done) | (simp; omega) | omega) _)), heap_four w _ _ _ _⟩

/-- The office, the office with a wrong number, the office with one name twice. -/
def officeX : PlanD := { officeP with queues := [⟨⟨#[97]⟩, 2, 3⟩, ⟨⟨#[98]⟩, 3, -1⟩, ⟨⟨#[100]⟩, 2, -1⟩] }
def officeY : PlanD := { officeP with posts := [⟨⟨#[109, 97, 105, 110]⟩, 3⟩, ⟨⟨#[109, 97, 105, 110]⟩, 2⟩, ⟨⟨#[100, 101, 97, 100]⟩, 1⟩] }
theorem sized_small {p : PlanD} (h : ((p.posts.map PostD.name).all (fun x => decide (x.size ≤ 100)) && (p.queues.map QueueD.name).all (fun x => decide (x.size ≤ 100))) = true) : Sized p := by
  rw [Bool.and_eq_true, List.all_eq_true, List.all_eq_true] at h
  unfold Sized maxLen
  exact ⟨fun x hx => by have := h.1 x hx; simp at this; omega, fun x hx => by have := h.2 x hx; simp at this; omega⟩
theorem posts3 {cs : Array Value} {x y z : PostD} (h : cs = #[.string x.name, .int .i64 x.kind, .string y.name, .int .i64 y.kind, .string z.name, .int .i64 z.kind]) : ∀ i (hi : i < [x, y, z].length), cs[i * 2]? = some (.string [x, y, z][i].name) ∧ cs[i * 2 + 1]? = some (.int .i64 [x, y, z][i].kind) := by
  subst h
  intro i hi
  match i, hi with
  | 0, _ => exact ⟨rfl, rfl⟩
  | 1, _ => exact ⟨rfl, rfl⟩
  | 2, _ => exact ⟨rfl, rfl⟩
theorem queues3 {cs : Array Value} {x y z : QueueD} (h : cs = #[.string x.name, .int .i64 x.limit, .int .i64 x.dead, .string y.name, .int .i64 y.limit, .int .i64 y.dead, .string z.name, .int .i64 z.limit, .int .i64 z.dead]) : ∀ i (hi : i < [x, y, z].length), cs[i * 3]? = some (.string [x, y, z][i].name) ∧ cs[i * 3 + 1]? = some (.int .i64 [x, y, z][i].limit) ∧ cs[i * 3 + 2]? = some (.int .i64 [x, y, z][i].dead) := by
  subst h
  intro i hi
  match i, hi with
  | 0, _ => exact ⟨rfl, rfl, rfl⟩
  | 1, _ => exact ⟨rfl, rfl, rfl⟩
  | 2, _ => exact ⟨rfl, rfl, rfl⟩
theorem binds5 : ∀ i (hi : i < officeP.binds.length), oBinds[i * 4]? = some (.int .i64 officeP.binds[i].src) ∧ oBinds[i * 4 + 1]? = some (.bool officeP.binds[i].toPost) ∧ oBinds[i * 4 + 2]? = some (.int .i64 officeP.binds[i].dst) ∧ oBinds[i * 4 + 3]? = some (.string officeP.binds[i].pat) := by
  intro i hi
  match i, hi with
  | 0, _ => exact ⟨rfl, rfl, rfl, rfl⟩
  | 1, _ => exact ⟨rfl, rfl, rfl, rfl⟩
  | 2, _ => exact ⟨rfl, rfl, rfl, rfl⟩
  | 3, _ => exact ⟨rfl, rfl, rfl, rfl⟩
  | 4, _ => exact ⟨rfl, rfl, rfl, rfl⟩

theorem office_any (w : World) : Calls Try.prog 62 #[] w fun e w' => e = .returned (.agg #[.slice (some ⟨w.heap.size + 1, 0, none⟩) 3 3, .slice (some ⟨w.heap.size + 1 + 1, 0, none⟩) 3 3, .slice (some ⟨w.heap.size + 1 + 1 + 1, 0, none⟩) 5 5]) ∧
    Below w.heap.size w w' ∧ PlanAt w' (some ⟨w.heap.size + 1, 0, none⟩) (some ⟨w.heap.size + 1 + 1, 0, none⟩) (some ⟨w.heap.size + 1 + 1 + 1, 0, none⟩) 3 3 5 officeP := by
  refine (office_raw w).mono ?_
  rintro e w' ⟨rfl, hB, hs, h1, h2, h3⟩
  exact ⟨rfl, hB, ⟨rfl, rfl, rfl, sized_small (by decide +kernel), posts_of h1 _ (posts3 rfl), queuesAt_of h2 _ (queues3 rfl), binds_of h3 _ binds5⟩⟩

theorem setCell_block {W : World} {b j : Nat} {cs : Array Value} {t : TypeId} (h : W.heap[b]? = some (.cells cs t (0, 0))) (u : Value) : (W.setCell ⟨b, j, none⟩ u).heap[b]? = some (.cells (cs.setIfInBounds j u) t (0, 0)) := heap_setCell_same W b j cs t u h
theorem office_x {w6 w7 W8 : World} (hB : Below w6.heap.size w6 w7) (hs : w7.heap.size = w6.heap.size + 4) (h1 : w7.heap[w6.heap.size + 1]? = some (.cells oPosts 93 (0, 0))) (h2 : w7.heap[w6.heap.size + 1 + 1]? = some (.cells oQueues 91 (0, 0))) (h3 : w7.heap[w6.heap.size + 1 + 1 + 1]? = some (.cells oBinds 55 (0, 0)))
    {v1 v2 v3 : Value} (hW : ((w7.setCell ⟨w6.heap.size + 1 + 1, 2, none⟩ (.int .i64 3)).alloc (.cells #[v1, v2, v3] 40)) = W8) :
    PlanAt W8 (some ⟨w6.heap.size + 1, 0, none⟩) (some ⟨w6.heap.size + 1 + 1, 0, none⟩) (some ⟨w6.heap.size + 1 + 1 + 1, 0, none⟩) 3 3 5 officeX ∧ (W8.cell? ⟨w7.heap.size, 0, none⟩ = some v1 ∧ W8.cell? ⟨w7.heap.size, 1, none⟩ = some v2 ∧ W8.cell? ⟨w7.heap.size, 2, none⟩ = some v3) ∧ Below w6.heap.size w6 W8 ∧ w7.heap.size < W8.heap.size ∧ True := by
  subst hW
  have hz : (w7.setCell ⟨w6.heap.size + 1 + 1, 2, none⟩ (.int .i64 3)).heap.size = w7.heap.size := by simp [World.setCell]
  have b1 : (w7.setCell ⟨w6.heap.size + 1 + 1, 2, none⟩ (.int .i64 3)).heap[w6.heap.size + 1]? = some (.cells oPosts 93 (0, 0)) := (Below.heap_setCell _ _ _ _ (by simp)).trans h1
  have b2 := setCell_block h2 (j := 2) (.int .i64 3)
  have b3 : (w7.setCell ⟨w6.heap.size + 1 + 1, 2, none⟩ (.int .i64 3)).heap[w6.heap.size + 1 + 1 + 1]? = some (.cells oBinds 55 (0, 0)) := (Below.heap_setCell _ _ _ _ (by simp)).trans h3
  obtain ⟨p0, p1, p2⟩ := plan_box (w7.setCell ⟨w6.heap.size + 1 + 1, 2, none⟩ (.int .i64 3)) v1 v2 v3 40
  rw [hz] at p0 p1 p2
  refine ⟨⟨rfl, rfl, rfl, sized_small (by decide +kernel), posts_of ((Below.heap_alloc _ _ _ (by rw [hz]; omega)).trans b1) _ (posts3 rfl), queuesAt_of ((Below.heap_alloc _ _ _ (by rw [hz]; omega)).trans b2) _ (queues3 rfl), binds_of ((Below.heap_alloc _ _ _ (by rw [hz]; omega)).trans b3) _ binds5⟩, ⟨p0, p1, p2⟩, (hB.setCell (p := ⟨w6.heap.size + 1 + 1, 2, none⟩) (by show w6.heap.size ≤ w6.heap.size + 1 + 1; omega) _).alloc (by rw [hz]; omega) _, by simp only [World.size_alloc, hz]; omega, trivial⟩
theorem office_y {w6 w7 W8 : World} (hB : Below w6.heap.size w6 w7) (hs : w7.heap.size = w6.heap.size + 4) (h1 : w7.heap[w6.heap.size + 1]? = some (.cells oPosts 93 (0, 0))) (h2 : w7.heap[w6.heap.size + 1 + 1]? = some (.cells oQueues 91 (0, 0))) (h3 : w7.heap[w6.heap.size + 1 + 1 + 1]? = some (.cells oBinds 55 (0, 0)))
    {v1 v2 v3 : Value} (hW : ((w7.setCell ⟨w6.heap.size + 1, 2, none⟩ (.string ⟨#[109, 97, 105, 110]⟩)).alloc (.cells #[v1, v2, v3] 40)) = W8) :
    PlanAt W8 (some ⟨w6.heap.size + 1, 0, none⟩) (some ⟨w6.heap.size + 1 + 1, 0, none⟩) (some ⟨w6.heap.size + 1 + 1 + 1, 0, none⟩) 3 3 5 officeY ∧ (W8.cell? ⟨w7.heap.size, 0, none⟩ = some v1 ∧ W8.cell? ⟨w7.heap.size, 1, none⟩ = some v2 ∧ W8.cell? ⟨w7.heap.size, 2, none⟩ = some v3) ∧ Below w6.heap.size w6 W8 ∧ w7.heap.size < W8.heap.size := by
  subst hW
  have hz : (w7.setCell ⟨w6.heap.size + 1, 2, none⟩ (.string ⟨#[109, 97, 105, 110]⟩)).heap.size = w7.heap.size := by simp [World.setCell]
  have b1 := setCell_block h1 (j := 2) (.string ⟨#[109, 97, 105, 110]⟩)
  have b2 : (w7.setCell ⟨w6.heap.size + 1, 2, none⟩ (.string ⟨#[109, 97, 105, 110]⟩)).heap[w6.heap.size + 1 + 1]? = some (.cells oQueues 91 (0, 0)) := (Below.heap_setCell _ _ _ _ (by simp)).trans h2
  have b3 : (w7.setCell ⟨w6.heap.size + 1, 2, none⟩ (.string ⟨#[109, 97, 105, 110]⟩)).heap[w6.heap.size + 1 + 1 + 1]? = some (.cells oBinds 55 (0, 0)) := (Below.heap_setCell _ _ _ _ (by simp; omega)).trans h3
  obtain ⟨p0, p1, p2⟩ := plan_box (w7.setCell ⟨w6.heap.size + 1, 2, none⟩ (.string ⟨#[109, 97, 105, 110]⟩)) v1 v2 v3 40
  rw [hz] at p0 p1 p2
  refine ⟨⟨rfl, rfl, rfl, sized_small (by decide +kernel), posts_of ((Below.heap_alloc _ _ _ (by rw [hz]; omega)).trans b1) _ (posts3 rfl), queuesAt_of ((Below.heap_alloc _ _ _ (by rw [hz]; omega)).trans b2) _ (queues3 rfl), binds_of ((Below.heap_alloc _ _ _ (by rw [hz]; omega)).trans b3) _ binds5⟩, ⟨p0, p1, p2⟩, (hB.setCell (p := ⟨w6.heap.size + 1, 2, none⟩) (by show w6.heap.size ≤ w6.heap.size + 1; omega) _).alloc (by rw [hz]; omega) _, by simp only [World.size_alloc, hz]; omega⟩

theorem facts_P : chkP officeP = 0 ∧ fitB officeP 0 ⟨#[120]⟩ = true ∧ fitE officeP 0 ⟨#[120]⟩ = 0 ∧ fitB officeP 1 ⟨#[120, 46, 121, 46, 122]⟩ = false ∧ fitE officeP 1 ⟨#[120, 46, 121, 46, 122]⟩ = 0 ∧ fitE officeP 5 ⟨#[120]⟩ = 5 ∧ fitB officeP 5 ⟨#[120]⟩ = false := by decide +kernel
theorem facts_XY : chkP officeX = 3 ∧ chkP officeY = 6 ∧ nameOk (⟨#[97, 98, 99]⟩ : ByteArray).data.toList = true ∧ nameOk (⟨#[97, 49]⟩ : ByteArray).data.toList = false := by decide +kernel

set_option maxRecDepth 100000 in
set_option maxHeartbeats 4000000 in
theorem planBegun_any (w : World) : Calls Try.prog 26 #[] w fun e w' => e = .returned (.bool true) ∧ Below w.heap.size w w' := by
  obtain ⟨f1, f2, f3, f4, f5, f6, f7⟩ := facts_P
  obtain ⟨g1, g2, g3, g4⟩ := facts_XY
  have F1 : Hid (∀ w a1 a2 a3 n1 c1 n2 c2 n3 c3, PlanAt w a1 a2 a3 n1 n2 n3 officeP → Calls Try.prog 31 #[.agg #[.slice a1 n1 c1, .slice a2 n2 c2, .slice a3 n3 c3], .int .i64 0, .string ⟨#[120]⟩] w fun e w' => e = .returned (.tuple #[.bool true, .int .i64 0]) ∧ Below w.heap.size w w') := fun w a1 a2 a3 n1 c1 n2 c2 n3 c3 h => by
    have := fits_any officeP a1 a2 a3 n1 c1 n2 c2 n3 c3 0 ⟨#[120]⟩ w h
    rw [f2, f3] at this; exact this
  have F2 : Hid (∀ w a1 a2 a3 n1 c1 n2 c2 n3 c3, PlanAt w a1 a2 a3 n1 n2 n3 officeP → Calls Try.prog 31 #[.agg #[.slice a1 n1 c1, .slice a2 n2 c2, .slice a3 n3 c3], .int .i64 1, .string ⟨#[120, 46, 121, 46, 122]⟩] w fun e w' => e = .returned (.tuple #[.bool false, .int .i64 0]) ∧ Below w.heap.size w w') := fun w a1 a2 a3 n1 c1 n2 c2 n3 c3 h => by
    have := fits_any officeP a1 a2 a3 n1 c1 n2 c2 n3 c3 1 ⟨#[120, 46, 121, 46, 122]⟩ w h
    rw [f4, f5] at this; exact this
  have F3 : Hid (∀ w a1 a2 a3 n1 c1 n2 c2 n3 c3, PlanAt w a1 a2 a3 n1 n2 n3 officeP → Calls Try.prog 31 #[.agg #[.slice a1 n1 c1, .slice a2 n2 c2, .slice a3 n3 c3], .int .i64 5, .string ⟨#[120]⟩] w fun e w' => e = .returned (.tuple #[.bool false, .int .i64 5]) ∧ Below w.heap.size w w') := fun w a1 a2 a3 n1 c1 n2 c2 n3 c3 h => by
    have := fits_any officeP a1 a2 a3 n1 c1 n2 c2 n3 c3 5 ⟨#[120]⟩ w h
    rw [f6, f7] at this; exact this
  have FC : Hid (∀ (p : PlanD) (d : Int) w a1 a2 a3 n1 c1 n2 c2 n3 c3, chkP p = d → PlanAt w a1 a2 a3 n1 n2 n3 p → Calls Try.prog 27 #[.agg #[.slice a1 n1 c1, .slice a2 n2 c2, .slice a3 n3 c3]] w fun e w' => e = .returned (.int .i64 d) ∧ Below w.heap.size w w') := fun p d w a1 a2 a3 n1 c1 n2 c2 n3 c3 hd h => by
    have := check_any p a1 a2 a3 n1 c1 n2 c2 n3 c3 w h.l1 h.l2 h.l3 h.sz h.p1 h.p2 h.p3
    rw [hd] at this; exact this
  have G : Hid (chkP officeP = 0 ∧ chkP officeX = 3 ∧ chkP officeY = 6 ∧ nameOk (⟨#[97, 98, 99]⟩ : ByteArray).data.toList = true ∧ nameOk (⟨#[97, 49]⟩ : ByteArray).data.toList = false) := ⟨f1, g1, g2, g3, g4⟩
  clear f1 f2 f3 f4 f5 f6 f7 g1 g2 g3 g4
  go_enter Try.func26, Try.ntmps26
  go_wp2_with fail
  refine (office_any _).mono ?_
  rintro e w1 ⟨rfl, hB1, hp1⟩
  have HP1 : Hid (PlanAt w1 _ _ _ 3 3 5 officeP) := hp1
  clear hp1
  go_wp2_with fail
  refine (F1.out _ _ _ _ _ _ _ _ _ _ HP1.out).mono ?_
  rintro e w2 ⟨rfl, hB2⟩
  have hB02 : Below w.heap.size w w2 := hB1.trans (hB2.mono hB1.size)
  have s02 := hB02.size
  clear HP1 hB1 hB2
  go_wp2_with fail
  refine (office_any _).mono ?_
  rintro e w3 ⟨rfl, hB3, hp3⟩
  have HP3 : Hid (PlanAt w3 _ _ _ 3 3 5 officeP) := hp3
  clear hp3
  go_wp2_with fail
  refine (F2.out _ _ _ _ _ _ _ _ _ _ HP3.out).mono ?_
  rintro e w4 ⟨rfl, hB4⟩
  have hB04 : Below w.heap.size w w4 := hB02.trans ((hB3.trans (hB4.mono hB3.size)).mono s02)
  have s04 := hB04.size
  clear HP3 hB3 hB4 hB02 s02
  go_wp2_with fail
  refine (office_any _).mono ?_
  rintro e w5 ⟨rfl, hB5, hp5⟩
  have HP5 : Hid (PlanAt w5 _ _ _ 3 3 5 officeP) := hp5
  clear hp5
  go_wp2_with fail
  refine (F3.out _ _ _ _ _ _ _ _ _ _ HP5.out).mono ?_
  rintro e w6 ⟨rfl, hB6⟩
  have hB06 : Below w.heap.size w w6 := hB04.trans ((hB5.trans (hB6.mono hB5.size)).mono s04)
  have s06 := hB06.size
  clear HP5 hB5 hB6 hB04 s04
  go_wp2_with fail
  refine (office_raw _).mono ?_
  rintro e w7 ⟨rfl, hB7, hs7, h71, h72, h73⟩
  have c1 : w7.cell? ⟨w6.heap.size + 1 + 1, 2, none⟩ = some (.int .i64 2) := by rw [cell_of_cells h72]; rfl
  have c2 := free_of_cells h72 2
  have l1 : w6.heap.size + 1 + 1 < w7.heap.size := by omega
  have H7 : Hid (w7.heap.size = w6.heap.size + 4 ∧ w7.heap[w6.heap.size + 1]? = some (.cells oPosts 93 (0, 0)) ∧ w7.heap[w6.heap.size + 1 + 1]? = some (.cells oQueues 91 (0, 0)) ∧ w7.heap[w6.heap.size + 1 + 1 + 1]? = some (.cells oBinds 55 (0, 0))) := ⟨hs7, h71, h72, h73⟩
  clear hs7 h71 h72 h73
  go_wp2_with fail
  obtain ⟨W8, hW8⟩ : ∃ W8, ((w7.setCell ⟨w6.heap.size + 1 + 1, 2, none⟩ (.int .i64 3)).alloc (.cells #[.slice (some ⟨w6.heap.size + 1, 0, none⟩) 3 3, .slice (some ⟨w6.heap.size + 1 + 1, 0, none⟩) 3 3, .slice (some ⟨w6.heap.size + 1 + 1 + 1, 0, none⟩) 5 5] 40)) = W8 := ⟨_, rfl⟩
  obtain ⟨x1, x2, x3, x4, x5⟩ := office_x hB7 H7.out.1 H7.out.2.1 H7.out.2.2.1 H7.out.2.2.2 hW8
  rw [hW8]
  have HX1 : Hid (PlanAt W8 (some ⟨w6.heap.size + 1, 0, none⟩) (some ⟨w6.heap.size + 1 + 1, 0, none⟩) (some ⟨w6.heap.size + 1 + 1 + 1, 0, none⟩) 3 3 5 officeX) := x1
  have HX2 : Hid (W8.cell? ⟨w7.heap.size, 0, none⟩ = some (.slice (some ⟨w6.heap.size + 1, 0, none⟩) 3 3) ∧ W8.cell? ⟨w7.heap.size, 1, none⟩ = some (.slice (some ⟨w6.heap.size + 1 + 1, 0, none⟩) 3 3) ∧ W8.cell? ⟨w7.heap.size, 2, none⟩ = some (.slice (some ⟨w6.heap.size + 1 + 1 + 1, 0, none⟩) 5 5)) := ⟨x2.1, x2.2.1, x2.2.2⟩
  have hB08 : Below w.heap.size w W8 := hB06.trans (x3.mono s06)
  have s08 := hB08.size
  have l8 : w7.heap.size < W8.heap.size := x4
  clear hW8 x1 x2 x3 x4 x5 c1 c2 l1 H7 hB7 hB06
  refine (office_raw _).mono ?_
  rintro e w9 ⟨rfl, hB9, hs9, h91, h92, h93⟩
  have c1 : w9.cell? ⟨W8.heap.size + 1, 2, none⟩ = some (.string ⟨#[97, 108, 108]⟩) := by rw [cell_of_cells h91]; rfl
  have c2 := free_of_cells h91 2
  have l1 : W8.heap.size + 1 < w9.heap.size := by omega
  have H9 : Hid (w9.heap.size = W8.heap.size + 4 ∧ w9.heap[W8.heap.size + 1]? = some (.cells oPosts 93 (0, 0)) ∧ w9.heap[W8.heap.size + 1 + 1]? = some (.cells oQueues 91 (0, 0)) ∧ w9.heap[W8.heap.size + 1 + 1 + 1]? = some (.cells oBinds 55 (0, 0))) := ⟨hs9, h91, h92, h93⟩
  clear hs9 h91 h92 h93
  go_wp2_with fail
  obtain ⟨W10, hW10⟩ : ∃ W10, ((w9.setCell ⟨W8.heap.size + 1, 2, none⟩ (.string ⟨#[109, 97, 105, 110]⟩)).alloc (.cells #[.slice (some ⟨W8.heap.size + 1, 0, none⟩) 3 3, .slice (some ⟨W8.heap.size + 1 + 1, 0, none⟩) 3 3, .slice (some ⟨W8.heap.size + 1 + 1 + 1, 0, none⟩) 5 5] 40)) = W10 := ⟨_, rfl⟩
  obtain ⟨y1, y2, y3, y4⟩ := office_y hB9 H9.out.1 H9.out.2.1 H9.out.2.2.1 H9.out.2.2.2 hW10
  rw [hW10]
  have HY1 : Hid (PlanAt W10 (some ⟨W8.heap.size + 1, 0, none⟩) (some ⟨W8.heap.size + 1 + 1, 0, none⟩) (some ⟨W8.heap.size + 1 + 1 + 1, 0, none⟩) 3 3 5 officeY) := y1
  have HY2 : Hid (W10.cell? ⟨w9.heap.size, 0, none⟩ = some (.slice (some ⟨W8.heap.size + 1, 0, none⟩) 3 3) ∧ W10.cell? ⟨w9.heap.size, 1, none⟩ = some (.slice (some ⟨W8.heap.size + 1 + 1, 0, none⟩) 3 3) ∧ W10.cell? ⟨w9.heap.size, 2, none⟩ = some (.slice (some ⟨W8.heap.size + 1 + 1 + 1, 0, none⟩) 5 5)) := y2
  have hB810 : Below W8.heap.size W8 W10 := y3
  have hB010 : Below w.heap.size w W10 := hB08.trans (y3.mono s08)
  have s010 := hB010.size
  have s810 := hB810.size
  have l10 : w9.heap.size < W10.heap.size := y4
  clear hW10 y1 y2 y3 y4 c1 c2 l1 H9 hB9
  refine (office_any _).mono ?_
  rintro e w11 ⟨rfl, hB11, hp11⟩
  have HP11 : Hid (PlanAt w11 _ _ _ 3 3 5 officeP) := hp11
  clear hp11
  go_wp2_with fail
  refine (FC.out officeP 0 _ _ _ _ _ _ _ _ _ _ G.out.1 HP11.out).mono ?_
  rintro e w12 ⟨rfl, hB12⟩
  have hB1012 : Below W10.heap.size W10 w12 := hB11.trans (hB12.mono hB11.size)
  have s1012 := hB1012.size
  have hB812 : Below W8.heap.size W8 w12 := hB810.trans (hB1012.mono s810)
  have hB012 : Below w.heap.size w w12 := hB010.trans (hB1012.mono s010)
  have e0 := (hB812.cell (p := ⟨w7.heap.size, 0, none⟩) l8).trans HX2.out.1
  have e1 := (hB812.cell (p := ⟨w7.heap.size, 1, none⟩) l8).trans HX2.out.2.1
  have e2 := (hB812.cell (p := ⟨w7.heap.size, 2, none⟩) l8).trans HX2.out.2.2
  clear HP11 hB11 hB12
  go_wp2_with fail
  refine (FC.out officeX 3 _ _ _ _ _ _ _ _ _ _ G.out.2.1 (HX1.out.keep hB812)).mono ?_
  rintro e w13 ⟨rfl, hB13⟩
  clear e0 e1 e2
  have s13 := hB13.size
  have hB1013 : Below W10.heap.size W10 w13 := hB1012.trans (hB13.mono s1012)
  have hB013 : Below w.heap.size w w13 := hB012.trans (hB13.mono (by omega))
  have e0 := (hB1013.cell (p := ⟨w9.heap.size, 0, none⟩) l10).trans HY2.out.1
  have e1 := (hB1013.cell (p := ⟨w9.heap.size, 1, none⟩) l10).trans HY2.out.2.1
  have e2 := (hB1013.cell (p := ⟨w9.heap.size, 2, none⟩) l10).trans HY2.out.2.2
  go_wp2_with fail
  refine (FC.out officeY 6 _ _ _ _ _ _ _ _ _ _ G.out.2.2.1 (HY1.out.keep hB1013)).mono ?_
  rintro e w14 ⟨rfl, hB14⟩
  clear e0 e1 e2
  have hB014 : Below w.heap.size w w14 := hB013.trans (hB14.mono (by omega))
  go_wp2_with fail
  refine (name_any _ _ (by unfold maxLen; decide)).mono ?_
  rintro e w15 ⟨rfl, rfl⟩
  rw [G.out.2.2.2.1]
  go_wp2_with fail
  refine (name_any _ _ (by unfold maxLen; decide)).mono ?_
  rintro e w16 ⟨rfl, rfl⟩
  rw [G.out.2.2.2.2]
  go_wp2_with fail
  go_ret
  exact ⟨rfl, hB014⟩
end Go.Proofs.Ythhkpgnjpieckaa
