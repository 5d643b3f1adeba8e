/- mailcoachlaw.routeBegun. -/
import Derived.Test.YthhkpgnjpieckaaSc
namespace Go.Proofs.Ythhkpgnjpieckaa
set_option linter.unusedVariables false
set_option maxRecDepth 100000
open Go.RowKit Go.Maps

theorem ints_made (W : World) {cs : Array Value} {t : TypeId} {zs : List Int} (hc : ∀ i (hi : i < zs.length), cs[i]? = some (.int .i64 zs[i])) : IntsAt (W.alloc (.cells cs t)) (some ⟨W.heap.size, 0, none⟩) zs :=
  .inr ⟨_, rfl, by rw [World.size_alloc]; omega, fun i hi => by rw [cell_of_cells (World.alloc_heap_new W (.cells cs t)) i]; exact hc i hi⟩
theorem made2 {x y : Int} : ∀ i (hi : i < [x, y].length), (#[.int .i64 x, .int .i64 y] : Array Value)[i]? = some (.int .i64 [x, y][i])
  | 0, _ => rfl
  | 1, _ => rfl
theorem made1 {x : Int} : ∀ i (hi : i < [x].length), (#[.int .i64 x] : Array Value)[i]? = some (.int .i64 [x][i])
  | 0, _ => rfl

set_option maxRecDepth 100000 in
set_option maxHeartbeats 1000000 in
theorem routeBegun_any (w : World) : Calls Try.prog 38 #[] w fun e w' => e = .returned (.bool true) ∧ Below w.heap.size w w' := by
  go_enter Try.func38, Try.ntmps38
  have hB0 : Below w.heap.size w w := Below.refl _ _
  go_wp2_with fail
  refine (office_any _).mono ?_
  rintro e x0 ⟨rfl, hBa0, hp0⟩
  have HP0 : Hid (PlanAt x0 _ _ _ 3 3 5 officeP) := hp0
  clear hp0
  go_wp2_with fail
  refine (o_posts _ _ _ HP0.out).mono ?_
  rintro e y0 ⟨a0, c0, rfl, hI0, hBb0⟩
  have HI0 : Hid (IntsAt y0 a0 [0, 1]) := hI0
  clear hI0
  have hS0 := hBa0.trans (hBb0.mono hBa0.size)
  have hB1 : Below w.heap.size w y0 := hB0.trans (hS0.mono hB0.size)
  clear HP0 hBa0 hBb0 hS0 hB0
  go_wp2_with fail
  refine (office_any _).mono ?_
  rintro e x1 ⟨rfl, hBa1, hp1⟩
  have HP1 : Hid (PlanAt x1 _ _ _ 3 3 5 officeP) := hp1
  clear hp1
  go_wp2_with fail
  refine (o_queues _ _ _ HP1.out).mono ?_
  rintro e y1 ⟨a1, c1, rfl, hI1, hBb1⟩
  have HI1 : Hid (IntsAt y1 a1 [0, 1]) := hI1
  clear hI1
  have hS1 := hBa1.trans (hBb1.mono hBa1.size)
  have hB2 : Below w.heap.size w y1 := hB1.trans (hS1.mono hB1.size)
  have HI0 : Hid (IntsAt y1 a0 [0, 1]) := HI0.out.keep hS1
  clear HP1 hBa1 hBb1 hS1 hB1
  go_wp2_with fail
  refine (office_any _).mono ?_
  rintro e x2 ⟨rfl, hBa2, hp2⟩
  have HP2 : Hid (PlanAt x2 _ _ _ 3 3 5 officeP) := hp2
  clear hp2
  go_wp2_with fail
  refine (o_way1 _ _ _ HP2.out).mono ?_
  rintro e y2 ⟨a2, c2, rfl, hI2, hBb2⟩
  have HI2 : Hid (IntsAt y2 a2 [1, 2]) := hI2
  clear hI2
  have hS2 := hBa2.trans (hBb2.mono hBa2.size)
  have hB3 : Below w.heap.size w y2 := hB2.trans (hS2.mono hB2.size)
  have HI0 : Hid (IntsAt y2 a0 [0, 1]) := HI0.out.keep hS2
  have HI1 : Hid (IntsAt y2 a1 [0, 1]) := HI1.out.keep hS2
  clear HP2 hBa2 hBb2 hS2 hB2
  go_wp2_with fail
  refine (office_any _).mono ?_
  rintro e x3 ⟨rfl, hBa3, hp3⟩
  have HP3 : Hid (PlanAt x3 _ _ _ 3 3 5 officeP) := hp3
  clear hp3
  go_wp2_with fail
  refine (o_way2 _ _ _ HP3.out).mono ?_
  rintro e y3 ⟨u3, rfl, hBb3⟩
  have hS3 := hBa3.trans (hBb3.mono hBa3.size)
  have hB4 : Below w.heap.size w y3 := hB3.trans (hS3.mono hB3.size)
  have HI0 : Hid (IntsAt y3 a0 [0, 1]) := HI0.out.keep hS3
  have HI1 : Hid (IntsAt y3 a1 [0, 1]) := HI1.out.keep hS3
  have HI2 : Hid (IntsAt y3 a2 [1, 2]) := HI2.out.keep hS3
  clear HP3 hBa3 hBb3 hS3 hB3
  go_wp2_with fail
  refine (office_any _).mono ?_
  rintro e x4 ⟨rfl, hBa4, hp4⟩
  have HP4 : Hid (PlanAt x4 _ _ _ 3 3 5 officeP) := hp4
  clear hp4
  go_wp2_with fail
  refine (o_queuesz _ _ _ HP4.out).mono ?_
  rintro e y4 ⟨a4, c4, rfl, hI4, hBb4⟩
  have HI4 : Hid (IntsAt y4 a4 [1]) := hI4
  clear hI4
  have hS4 := hBa4.trans (hBb4.mono hBa4.size)
  have hB5 : Below w.heap.size w y4 := hB4.trans (hS4.mono hB4.size)
  have HI0 : Hid (IntsAt y4 a0 [0, 1]) := HI0.out.keep hS4
  have HI1 : Hid (IntsAt y4 a1 [0, 1]) := HI1.out.keep hS4
  have HI2 : Hid (IntsAt y4 a2 [1, 2]) := HI2.out.keep hS4
  clear HP4 hBa4 hBb4 hS4 hB4
  go_wp2_with fail
  refine (office_any _).mono ?_
  rintro e x5 ⟨rfl, hBa5, hp5⟩
  have HP5 : Hid (PlanAt x5 _ _ _ 3 3 5 officeP) := hp5
  clear hp5
  go_wp2_with fail
  refine (o_queuesn _ _ _ HP5.out).mono ?_
  rintro e y5 ⟨a5, c5, rfl, hBb5⟩
  have hS5 := hBa5.trans (hBb5.mono hBa5.size)
  have hB6 : Below w.heap.size w y5 := hB5.trans (hS5.mono hB5.size)
  have HI0 : Hid (IntsAt y5 a0 [0, 1]) := HI0.out.keep hS5
  have HI1 : Hid (IntsAt y5 a1 [0, 1]) := HI1.out.keep hS5
  have HI2 : Hid (IntsAt y5 a2 [1, 2]) := HI2.out.keep hS5
  have HI4 : Hid (IntsAt y5 a4 [1]) := HI4.out.keep hS5
  clear HP5 hBa5 hBb5 hS5 hB5
  have s6 := hB6.size
  go_wp2_with fail
  have hA0 : Below y5.heap.size y5 (y5.alloc (.cells #[.int .i64 0, .int .i64 1] 3)) := (by repeat (first | exact Below.refl _ _ | assumption | refine Below.drew ?_ | refine Below.alloc ?_ (by first | (simp; done) | (simp; omega) | omega) _ | refine Below.setCell ?_ (by first | (simp; done) | (simp; omega) | omega) _))
  refine (same_ints [0, 1] _ _ 2 _ _ _ rfl (by omega) (HI0.out.keep hA0) (ints_made _ made2)).mono ?_
  rintro e z0 ⟨rfl, hBz0⟩
  have hZ0 := hA0.trans (hBz0.mono hA0.size)
  have hB7 : Below w.heap.size w z0 := hB6.trans (hZ0.mono hB6.size)
  have HI1 : Hid (IntsAt z0 a1 [0, 1]) := HI1.out.keep hZ0
  have HI2 : Hid (IntsAt z0 a2 [1, 2]) := HI2.out.keep hZ0
  have HI4 : Hid (IntsAt z0 a4 [1]) := HI4.out.keep hZ0
  clear hA0 hBz0 hZ0 hB6
  go_wp2_with fail
  have hA1 : Below z0.heap.size z0 (z0.alloc (.cells #[.int .i64 0, .int .i64 1] 3)) := (by repeat (first | exact Below.refl _ _ | assumption | refine Below.drew ?_ | refine Below.alloc ?_ (by first | (simp; done) | (simp; omega) | omega) _ | refine Below.setCell ?_ (by first | (simp; done) | (simp; omega) | omega) _))
  refine (same_ints [0, 1] _ _ 2 _ _ _ rfl (by omega) (HI1.out.keep hA1) (ints_made _ made2)).mono ?_
  rintro e z1 ⟨rfl, hBz1⟩
  have hZ1 := hA1.trans (hBz1.mono hA1.size)
  have hB8 : Below w.heap.size w z1 := hB7.trans (hZ1.mono hB7.size)
  have HI2 : Hid (IntsAt z1 a2 [1, 2]) := HI2.out.keep hZ1
  have HI4 : Hid (IntsAt z1 a4 [1]) := HI4.out.keep hZ1
  clear hA1 hBz1 hZ1 hB7
  go_wp2_with fail
  have hA2 : Below z1.heap.size z1 (z1.alloc (.cells #[.int .i64 1, .int .i64 2] 3)) := (by repeat (first | exact Below.refl _ _ | assumption | refine Below.drew ?_ | refine Below.alloc ?_ (by first | (simp; done) | (simp; omega) | omega) _ | refine Below.setCell ?_ (by first | (simp; done) | (simp; omega) | omega) _))
  refine (same_ints [1, 2] _ _ 2 _ _ _ rfl (by omega) (HI2.out.keep hA2) (ints_made _ made2)).mono ?_
  rintro e z2 ⟨rfl, hBz2⟩
  have hZ2 := hA2.trans (hBz2.mono hA2.size)
  have hB9 : Below w.heap.size w z2 := hB8.trans (hZ2.mono hB8.size)
  have HI4 : Hid (IntsAt z2 a4 [1]) := HI4.out.keep hZ2
  clear hA2 hBz2 hZ2 hB8
  go_wp2_with fail
  have hA3 : Below z2.heap.size z2 (z2.alloc (.cells #[.int .i64 1] 3)) := (by repeat (first | exact Below.refl _ _ | assumption | refine Below.drew ?_ | refine Below.alloc ?_ (by first | (simp; done) | (simp; omega) | omega) _ | refine Below.setCell ?_ (by first | (simp; done) | (simp; omega) | omega) _))
  refine (same_ints [1] _ _ 1 _ _ _ rfl (by omega) (HI4.out.keep hA3) (ints_made _ made1)).mono ?_
  rintro e z3 ⟨rfl, hBz3⟩
  have hZ3 := hA3.trans (hBz3.mono hA3.size)
  have hB10 : Below w.heap.size w z3 := hB9.trans (hZ3.mono hB9.size)
  clear hA3 hBz3 hZ3 hB9
  go_wp2_with fail
  exact bodyPost_ret (v := .bool true) (by simp [results, Try.results38, go_sem]) rfl ⟨rfl, hB10⟩
end Go.Proofs.Ythhkpgnjpieckaa
