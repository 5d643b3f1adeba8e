/- mailcoachlaw.stateBegun. -/
import Derived.KernelRfl
import Derived.Deep.RegionHeld3
import Derived.Test.YthhkpgnjpieckaaTl
import Derived.Test.YthhkpgnjpieckaaHk
namespace Go.Proofs.Ythhkpgnjpieckaa
set_option linter.unusedVariables false
set_option maxRecDepth 100000
open Go.RowKit Go.Maps

def bS : StateD := busyS (bOut 1) ⟨-1, 1⟩ ⟨0, 2⟩ 1
theorem BusyAt.setO {W : World} {gI gR gO gT : Nat} {t0 t1 : TakerD} (h : BusyAt W gI gR gO gT (bOut 1) t0 t1) (h1 : gI ≠ gO) (h2 : gR ≠ gO) (h3 : gT ≠ gO) : BusyAt (W.setCell ⟨gO, 3, none⟩ (.int .i64 2)) gI gR gO gT (bOut 2) t0 t1 :=
  ⟨(heap_setCell_other W ⟨gO, 3, none⟩ gI _ h1).trans h.i, (heap_setCell_other W ⟨gO, 3, none⟩ gR _ h2).trans h.r, setCell_block h.o _, (heap_setCell_other W ⟨gO, 3, none⟩ gT _ h3).trans h.t⟩
theorem BusyAt.setT {W : World} {gI gR gO gT : Nat} {o : OutD} {t0 t1 : TakerD} (h : BusyAt W gI gR gO gT o t0 t1) (h1 : gI ≠ gT) (h2 : gR ≠ gT) (h3 : gT ≠ gO) : BusyAt (W.setCell ⟨gT, 2, none⟩ (.int .i64 1)) gI gR gO gT o t0 ⟨1, t1.most⟩ :=
  ⟨(heap_setCell_other W ⟨gT, 2, none⟩ gI _ h1).trans h.i, (heap_setCell_other W ⟨gT, 2, none⟩ gR _ h2).trans h.r, (heap_setCell_other W ⟨gT, 2, none⟩ gO _ (fun e => h3 e.symm)).trans h.o, setCell_block h.t _⟩
theorem facts_S : (stE officeP bS = 0 ∧ stE officeP (beginS 3) = 0 ∧ stE officeP (busyS (bOut 1) ⟨-1, 1⟩ ⟨0, 2⟩ 2) = 10 ∧ stE officeP (busyS (bOut 2) ⟨-1, 1⟩ ⟨0, 2⟩ 1) = 1 ∧ stE officeP (busyS (bOut 1) ⟨-1, 1⟩ ⟨1, 2⟩ 1) = 1) ∧ hdE officeP bS 1 = 0 ∧ hdN officeP bS 1 = 1 ∧ hdE officeP bS 2 = 5 ∧ chkP officeP = 0 := by decide +kernel

set_option maxRecDepth 100000 in
set_option maxHeartbeats 2000000 in
theorem stateBegun_any (w : World) : Calls Try.prog 51 #[] w fun e w' => e = .returned (.bool true) ∧ Below w.heap.size w w' := by
  have F := hidI facts_S
  go_enter Try.func51, Try.ntmps51
  go_wp2_with fail
  refine (office_any _).mono ?_
  rintro e w1 ⟨rfl, k1, hp1⟩
  have HP1 := hidI hp1
  clear hp1
  go_wp2_with fail
  refine (begin_any officeP _ _ _ _ _ _ _ _ _ _ HP1.out).mono ?_
  rintro e w2 ⟨hok, -, k2'⟩
  obtain ⟨gB, rfl, hsB⟩ := hok F.out.2.2.2.2
  have k2 := k1.trans (k2'.mono k1.size)
  have HSB2 := hidI hsB
  clear hsB k1 k2' HP1
  obtain ⟨W3, hW3⟩ : ∃ W3, W3 = w2.alloc (.cells #[.slice (some ⟨gB, 0, none⟩) 3 3, .slice none 0 0, .slice none 0 0, .int .i64 0, .int .i64 0, .int .i64 0, .int .i64 0, .int .i64 0] 74) := ⟨_, rfl⟩
  have k3' : Below w2.heap.size w2 W3 := by rw [hW3]; exact (Below.refl _ _).alloc (Nat.le_refl _) _
  have b3 : W3.heap[w2.heap.size]? = some (.cells #[.slice (some ⟨gB, 0, none⟩) 3 3, .slice none 0 0, .slice none 0 0, .int .i64 0, .int .i64 0, .int .i64 0, .int .i64 0, .int .i64 0] 74 (0, 0)) := by rw [hW3]; exact World.alloc_heap_new w2 _
  obtain ⟨B1, hB1⟩ : ∃ B1, B1 = w2.heap.size := ⟨_, rfl⟩
  rw [← hB1] at b3
  have HB3 := hidI b3
  have HSB3 := hidI (HSB2.out.keep k3')
  have k3 := k2.trans (k3'.mono k2.size)
  have HW3 := hidI hW3
  have HB1 := hidI hB1
  clear hW3 b3 k2 k3' HSB2 hB1
  go_wp2_with fail
  rw [← HW3.out, ← HB1.out]
  refine (office_any _).mono ?_
  rintro e w4 ⟨rfl, k4', hp4⟩
  have HP4 := hidI hp4
  clear hp4
  go_wp2_with fail
  refine (busy_any _).mono ?_
  rintro e w5 ⟨gI, gR, gO, gT, rfl, hb5, -, -, k5'⟩
  have HS5 := hidI (hb5.state 1)
  clear hb5
  go_wp2_with fail
  refine (sheld_any officeP _ _ _ _ _ _ _ _ _ bS _ _ _ _ _ _ _ _ _ 1 _ (HP4.out.keep k5') HS5.out).mono ?_
  rintro e w6 ⟨rfl, k6'⟩
  rw [F.out.2.1, F.out.2.2.1]
  have d6 : Below W3.heap.size W3 w6 := (k4'.trans (k5'.mono k4'.size)).trans (k6'.mono (k4'.trans (k5'.mono k4'.size)).size)
  have k6 := k3.trans (d6.mono k3.size)
  have HB6 := hidI (plan_keep HB3.out d6)
  have HSB6 := hidI (HSB3.out.keep d6)
  clear HP4 HS5 k4' k5' k6' d6 HB3 HSB3 k3 HW3 HB1
  go_wp2_with fail
  refine (office_any _).mono ?_
  rintro e w7 ⟨rfl, k4', hp4⟩
  have HP4 := hidI hp4
  clear hp4
  go_wp2_with fail
  refine (busy_any _).mono ?_
  rintro e w8 ⟨gI, gR, gO, gT, rfl, hb5, -, -, k5'⟩
  have HS5 := hidI (hb5.state 1)
  clear hb5
  go_wp2_with fail
  refine (sheld_any officeP _ _ _ _ _ _ _ _ _ bS _ _ _ _ _ _ _ _ _ 2 _ (HP4.out.keep k5') HS5.out).mono ?_
  rintro e w9 ⟨rfl, k6'⟩
  rw [F.out.2.2.2.1]
  have d6 : Below w6.heap.size w6 w9 := (k4'.trans (k5'.mono k4'.size)).trans (k6'.mono (k4'.trans (k5'.mono k4'.size)).size)
  have k9 := k6.trans (d6.mono k6.size)
  have HB9 := hidI (plan_keep HB6.out d6)
  have HSB9 := hidI (HSB6.out.keep d6)
  obtain ⟨nn, hnn⟩ : ∃ nn, nn = hdN officeP bS 2 := ⟨_, rfl⟩
  rw [← hnn]
  clear HP4 HS5 k4' k5' k6' d6 HB6 HSB6 k6 hnn
  go_wp2_with fail
  refine (busy_any _).mono ?_
  rintro e w10 ⟨xI, xR, xO, xT, rfl, hbx, -, -, k10'⟩
  have HBX10 := hidI hbx
  have HB10 := hidI (plan_keep HB9.out k10')
  have HSB10 := hidI (HSB9.out.keep k10')
  have k10 := k9.trans (k10'.mono k9.size)
  clear hbx k10' HB9 HSB9 k9
  obtain ⟨W11, hW11⟩ : ∃ W11, W11 = w10.alloc (.cells #[.slice (some ⟨xR, 0, none⟩) 3 3, .slice (some ⟨xO, 0, none⟩) 1 1, .slice (some ⟨xT, 0, none⟩) 2 2, .int .i64 4, .int .i64 6, .int .i64 4, .int .i64 2, .int .i64 0] 74) := ⟨_, rfl⟩
  have k11' : Below w10.heap.size w10 W11 := by rw [hW11]; exact (Below.refl _ _).alloc (Nat.le_refl _) _
  have bx11 : W11.heap[w10.heap.size]? = some (.cells #[.slice (some ⟨xR, 0, none⟩) 3 3, .slice (some ⟨xO, 0, none⟩) 1 1, .slice (some ⟨xT, 0, none⟩) 2 2, .int .i64 4, .int .i64 6, .int .i64 4, .int .i64 2, .int .i64 0] 74 (0, 0)) := by rw [hW11]; exact World.alloc_heap_new w10 _
  obtain ⟨BX, hBX⟩ : ∃ BX, BX = w10.heap.size := ⟨_, rfl⟩
  rw [← hBX] at bx11
  have HXB11 := hidI bx11
  have HSX11 := hidI ((HBX10.out.keep k11').state 2)
  have HB11 := hidI (plan_keep HB10.out k11')
  have HSB11 := hidI (HSB10.out.keep k11')
  have k11 := k10.trans (k11'.mono k10.size)
  have HW11 := hidI hW11
  have HBXe := hidI hBX
  clear hW11 bx11 hBX k10 k11' HB10 HSB10 HBX10
  go_wp2_with fail
  rw [← HW11.out, ← HBXe.out]
  refine (busy_any _).mono ?_
  rintro e w12 ⟨yI, yR, yO, yT, rfl, hby, hge, hne, k12'⟩
  have HBU := hidI (hby.setO hne.1 hne.2.1 hne.2.2.1)
  have kb := k12'.setCell (p := ⟨yO, 3, none⟩) hge.2.2.1 (.int .i64 2)
  obtain ⟨W13, hW13⟩ : ∃ W13, W13 = (w12.setCell ⟨yO, 3, none⟩ (.int .i64 2)).alloc (.cells #[.slice (some ⟨yR, 0, none⟩) 3 3, .slice (some ⟨yO, 0, none⟩) 1 1, .slice (some ⟨yT, 0, none⟩) 2 2, .int .i64 4, .int .i64 6, .int .i64 4, .int .i64 1, .int .i64 0] 74) := ⟨_, rfl⟩
  have kd : Below W11.heap.size W11 W13 := by rw [hW13]; exact kb.alloc kb.size _
  have zd : w12.heap.size = (w12.setCell ⟨yO, 3, none⟩ (.int .i64 2)).heap.size := by simp
  have bd : W13.heap[w12.heap.size]? = some (.cells #[.slice (some ⟨yR, 0, none⟩) 3 3, .slice (some ⟨yO, 0, none⟩) 1 1, .slice (some ⟨yT, 0, none⟩) 2 2, .int .i64 4, .int .i64 6, .int .i64 4, .int .i64 1, .int .i64 0] 74 (0, 0)) := by rw [hW13, zd]; exact World.alloc_heap_new _ _
  have HBU2 := hidI (HBU.out.keep (W' := W13) (by rw [hW13]; exact (Below.refl _ _).alloc (Nat.le_refl _) _))
  obtain ⟨BY, hBY⟩ : ∃ BY, BY = w12.heap.size := ⟨_, rfl⟩
  rw [← hBY] at bd
  have HBY := hidI bd
  have HSY13 := hidI (HBU2.out.state 1)
  have HXB13 := hidI (plan_keep HXB11.out kd)
  have HSX13 := hidI (HSX11.out.keep kd)
  have HB13 := hidI (plan_keep HB11.out kd)
  have HSB13 := hidI (HSB11.out.keep kd)
  have k13 := k11.trans (kd.mono k11.size)
  have cy := cell_of_cells hby.o 3
  have fy := free_of_cells hby.o 3
  simp at cy
  have hyl := lt_of_heap hby.o
  have HW13 := hidI hW13
  have HBYe := hidI hBY
  clear hby k12' HB11 HSB11 HXB11 HSX11 HW11 HBXe k11 HBU kb kd zd bd HBU2 hW13 hBY hge hne
  go_wp2_with fail
  rw [← HW13.out, ← HBYe.out]
  clear cy fy hyl
  refine (busy_any _).mono ?_
  rintro e w14 ⟨zI, zR, zO, zT, rfl, hby, hge, hne, k14'⟩
  have HBU := hidI (hby.setT hne.2.2.2.1 hne.2.2.2.2 hne.2.2.1)
  have kb := k14'.setCell (p := ⟨zT, 2, none⟩) hge.2.2.2 (.int .i64 1)
  obtain ⟨W15, hW15⟩ : ∃ W15, W15 = (w14.setCell ⟨zT, 2, none⟩ (.int .i64 1)).alloc (.cells #[.slice (some ⟨zR, 0, none⟩) 3 3, .slice (some ⟨zO, 0, none⟩) 1 1, .slice (some ⟨zT, 0, none⟩) 2 2, .int .i64 4, .int .i64 6, .int .i64 4, .int .i64 1, .int .i64 0] 74) := ⟨_, rfl⟩
  have kd : Below W13.heap.size W13 W15 := by rw [hW15]; exact kb.alloc kb.size _
  have zd : w14.heap.size = (w14.setCell ⟨zT, 2, none⟩ (.int .i64 1)).heap.size := by simp
  have bd : W15.heap[w14.heap.size]? = some (.cells #[.slice (some ⟨zR, 0, none⟩) 3 3, .slice (some ⟨zO, 0, none⟩) 1 1, .slice (some ⟨zT, 0, none⟩) 2 2, .int .i64 4, .int .i64 6, .int .i64 4, .int .i64 1, .int .i64 0] 74 (0, 0)) := by rw [hW15, zd]; exact World.alloc_heap_new _ _
  have HBU2 := hidI (HBU.out.keep (W' := W15) (by rw [hW15]; exact (Below.refl _ _).alloc (Nat.le_refl _) _))
  obtain ⟨BZ, hBZ⟩ : ∃ BZ, BZ = w14.heap.size := ⟨_, rfl⟩
  rw [← hBZ] at bd
  have HBZ := hidI bd
  have HSZ15 := hidI (HBU2.out.state 1)
  have HXB15 := hidI (plan_keep HXB13.out kd)
  have HSX15 := hidI (HSX13.out.keep kd)
  have HYB15 := hidI (plan_keep HBY.out kd)
  have HSY15 := hidI (HSY13.out.keep kd)
  have HB15 := hidI (plan_keep HB13.out kd)
  have HSB15 := hidI (HSB13.out.keep kd)
  have k15 := k13.trans (kd.mono k13.size)
  have cy := cell_of_cells hby.t 2
  have fy := free_of_cells hby.t 2
  simp at cy
  have hyl := lt_of_heap hby.t
  have HW15 := hidI hW15
  have HBZe := hidI hBZ
  clear hby k14' HB13 HSB13 HXB13 HSX13 HW13 HBYe k13 HBU kb kd zd bd HBU2 hW15 hBZ hge hne HBY HSY13
  go_wp2_with fail
  rw [← HW15.out, ← HBZe.out]
  clear cy fy hyl HW15 HBZe
  have SS : Hid (∀ W, Below W15.heap.size W15 W → (W.cell? ⟨B1, 0, none⟩ = some (.slice (some ⟨gB, 0, none⟩) 3 3) ∧ W.cell? ⟨B1, 1, none⟩ = some (.slice none 0 0) ∧ W.cell? ⟨B1, 2, none⟩ = some (.slice none 0 0) ∧ W.cell? ⟨B1, 3, none⟩ = some (.int .i64 0) ∧ W.cell? ⟨B1, 4, none⟩ = some (.int .i64 0) ∧ W.cell? ⟨B1, 5, none⟩ = some (.int .i64 0) ∧ W.cell? ⟨B1, 6, none⟩ = some (.int .i64 0) ∧ W.cell? ⟨B1, 7, none⟩ = some (.int .i64 0) ∧ W.cell? ⟨BX, 0, none⟩ = some (.slice (some ⟨xR, 0, none⟩) 3 3) ∧ W.cell? ⟨BX, 1, none⟩ = some (.slice (some ⟨xO, 0, none⟩) 1 1) ∧ W.cell? ⟨BX, 2, none⟩ = some (.slice (some ⟨xT, 0, none⟩) 2 2) ∧ W.cell? ⟨BX, 3, none⟩ = some (.int .i64 4) ∧ W.cell? ⟨BX, 4, none⟩ = some (.int .i64 6) ∧ W.cell? ⟨BX, 5, none⟩ = some (.int .i64 4) ∧ W.cell? ⟨BX, 6, none⟩ = some (.int .i64 2) ∧ W.cell? ⟨BX, 7, none⟩ = some (.int .i64 0) ∧ W.cell? ⟨BY, 0, none⟩ = some (.slice (some ⟨yR, 0, none⟩) 3 3) ∧ W.cell? ⟨BY, 1, none⟩ = some (.slice (some ⟨yO, 0, none⟩) 1 1) ∧ W.cell? ⟨BY, 2, none⟩ = some (.slice (some ⟨yT, 0, none⟩) 2 2) ∧ W.cell? ⟨BY, 3, none⟩ = some (.int .i64 4) ∧ W.cell? ⟨BY, 4, none⟩ = some (.int .i64 6) ∧ W.cell? ⟨BY, 5, none⟩ = some (.int .i64 4) ∧ W.cell? ⟨BY, 6, none⟩ = some (.int .i64 1) ∧ W.cell? ⟨BY, 7, none⟩ = some (.int .i64 0) ∧ W.cell? ⟨BZ, 0, none⟩ = some (.slice (some ⟨zR, 0, none⟩) 3 3) ∧ W.cell? ⟨BZ, 1, none⟩ = some (.slice (some ⟨zO, 0, none⟩) 1 1) ∧ W.cell? ⟨BZ, 2, none⟩ = some (.slice (some ⟨zT, 0, none⟩) 2 2) ∧ W.cell? ⟨BZ, 3, none⟩ = some (.int .i64 4) ∧ W.cell? ⟨BZ, 4, none⟩ = some (.int .i64 6) ∧ W.cell? ⟨BZ, 5, none⟩ = some (.int .i64 4) ∧ W.cell? ⟨BZ, 6, none⟩ = some (.int .i64 1) ∧ W.cell? ⟨BZ, 7, none⟩ = some (.int .i64 0))) := fun W hW => ⟨cell_of_cells (plan_keep HB15.out hW) 0, cell_of_cells (plan_keep HB15.out hW) 1, cell_of_cells (plan_keep HB15.out hW) 2, cell_of_cells (plan_keep HB15.out hW) 3, cell_of_cells (plan_keep HB15.out hW) 4, cell_of_cells (plan_keep HB15.out hW) 5, cell_of_cells (plan_keep HB15.out hW) 6, cell_of_cells (plan_keep HB15.out hW) 7, cell_of_cells (plan_keep HXB15.out hW) 0, cell_of_cells (plan_keep HXB15.out hW) 1, cell_of_cells (plan_keep HXB15.out hW) 2, cell_of_cells (plan_keep HXB15.out hW) 3, cell_of_cells (plan_keep HXB15.out hW) 4, cell_of_cells (plan_keep HXB15.out hW) 5, cell_of_cells (plan_keep HXB15.out hW) 6, cell_of_cells (plan_keep HXB15.out hW) 7, cell_of_cells (plan_keep HYB15.out hW) 0, cell_of_cells (plan_keep HYB15.out hW) 1, cell_of_cells (plan_keep HYB15.out hW) 2, cell_of_cells (plan_keep HYB15.out hW) 3, cell_of_cells (plan_keep HYB15.out hW) 4, cell_of_cells (plan_keep HYB15.out hW) 5, cell_of_cells (plan_keep HYB15.out hW) 6, cell_of_cells (plan_keep HYB15.out hW) 7, cell_of_cells (plan_keep HBZ.out hW) 0, cell_of_cells (plan_keep HBZ.out hW) 1, cell_of_cells (plan_keep HBZ.out hW) 2, cell_of_cells (plan_keep HBZ.out hW) 3, cell_of_cells (plan_keep HBZ.out hW) 4, cell_of_cells (plan_keep HBZ.out hW) 5, cell_of_cells (plan_keep HBZ.out hW) 6, cell_of_cells (plan_keep HBZ.out hW) 7⟩
  refine wp_region_held_drew (S := fun W => W.cell? ⟨B1, 0, none⟩ = some (.slice (some ⟨gB, 0, none⟩) 3 3) ∧ W.cell? ⟨B1, 1, none⟩ = some (.slice none 0 0) ∧ W.cell? ⟨B1, 2, none⟩ = some (.slice none 0 0) ∧ W.cell? ⟨B1, 3, none⟩ = some (.int .i64 0) ∧ W.cell? ⟨B1, 4, none⟩ = some (.int .i64 0) ∧ W.cell? ⟨B1, 5, none⟩ = some (.int .i64 0) ∧ W.cell? ⟨B1, 6, none⟩ = some (.int .i64 0) ∧ W.cell? ⟨B1, 7, none⟩ = some (.int .i64 0) ∧ W.cell? ⟨BX, 0, none⟩ = some (.slice (some ⟨xR, 0, none⟩) 3 3) ∧ W.cell? ⟨BX, 1, none⟩ = some (.slice (some ⟨xO, 0, none⟩) 1 1) ∧ W.cell? ⟨BX, 2, none⟩ = some (.slice (some ⟨xT, 0, none⟩) 2 2) ∧ W.cell? ⟨BX, 3, none⟩ = some (.int .i64 4) ∧ W.cell? ⟨BX, 4, none⟩ = some (.int .i64 6) ∧ W.cell? ⟨BX, 5, none⟩ = some (.int .i64 4) ∧ W.cell? ⟨BX, 6, none⟩ = some (.int .i64 2) ∧ W.cell? ⟨BX, 7, none⟩ = some (.int .i64 0) ∧ W.cell? ⟨BY, 0, none⟩ = some (.slice (some ⟨yR, 0, none⟩) 3 3) ∧ W.cell? ⟨BY, 1, none⟩ = some (.slice (some ⟨yO, 0, none⟩) 1 1) ∧ W.cell? ⟨BY, 2, none⟩ = some (.slice (some ⟨yT, 0, none⟩) 2 2) ∧ W.cell? ⟨BY, 3, none⟩ = some (.int .i64 4) ∧ W.cell? ⟨BY, 4, none⟩ = some (.int .i64 6) ∧ W.cell? ⟨BY, 5, none⟩ = some (.int .i64 4) ∧ W.cell? ⟨BY, 6, none⟩ = some (.int .i64 1) ∧ W.cell? ⟨BY, 7, none⟩ = some (.int .i64 0) ∧ W.cell? ⟨BZ, 0, none⟩ = some (.slice (some ⟨zR, 0, none⟩) 3 3) ∧ W.cell? ⟨BZ, 1, none⟩ = some (.slice (some ⟨zO, 0, none⟩) 1 1) ∧ W.cell? ⟨BZ, 2, none⟩ = some (.slice (some ⟨zT, 0, none⟩) 2 2) ∧ W.cell? ⟨BZ, 3, none⟩ = some (.int .i64 4) ∧ W.cell? ⟨BZ, 4, none⟩ = some (.int .i64 6) ∧ W.cell? ⟨BZ, 5, none⟩ = some (.int .i64 4) ∧ W.cell? ⟨BZ, 6, none⟩ = some (.int .i64 1) ∧ W.cell? ⟨BZ, 7, none⟩ = some (.int .i64 0)) (by kernel_rfl) (SS.out _ (Below.refl _ _).drew) (fun hHeld => ?_)
  obtain ⟨v0, hv0⟩ : ∃ v0, v0 = W15.drew := ⟨_, rfl⟩
  have d0 : Below W15.heap.size W15 v0 := by rw [hv0]; exact (Below.refl _ _).drew
  rw [← hv0] at hHeld ⊢
  clear hv0
  refine wpAnyH_ready (rs := [0]) (by kernel_rfl) (by simp) ?_
  refine AllReadyH.cons rfl (fun K hK => ?_) AllReadyH.nil
  go_simp
  refine (office_any _).mono ?_
  rintro e v1 ⟨rfl, r1, hp⟩
  have d1 := d0.trans (r1.mono d0.size)
  have HPL := hidI hp
  clear hp
  refine hK.out _ _ (SS.out _ d1) (fun hH1 => ?_)
  clear hK K
  (try simp only [Act.put, List.getElem_toArray, List.getElem_cons_succ, List.getElem_cons_zero, List.setIfInBounds_toArray, List.set_cons_zero, List.set_cons_succ])
  refine wpAnyH_ready (rs := [1]) (by kernel_rfl) (by simp) ?_
  refine AllReadyH.cons rfl (fun K hK => ?_) AllReadyH.nil
  go_simp
  refine (busy_any _).mono ?_
  rintro e v2 ⟨gI, gR, gO, gT, rfl, hb, -, -, r2⟩
  have d2 := d1.trans (r2.mono d1.size)
  have HBS := hidI (hb.state 1)
  clear hb
  refine hK.out _ _ (SS.out _ d2) (fun hH2 => ?_)
  clear hK K
  (try simp only [Act.put, List.getElem_toArray, List.getElem_cons_succ, List.getElem_cons_zero, List.setIfInBounds_toArray, List.set_cons_zero, List.set_cons_succ])
  refine wpAnyH_ready (rs := [2]) (by kernel_rfl) (by simp) ?_
  refine AllReadyH.cons rfl (fun K hK => ?_) AllReadyH.nil
  go_simp
  refine (scheck_any officeP _ _ _ _ _ _ _ _ _ (bS) _ _ _ _ _ _ _ _ _ _ (HPL.out.keep r2) (HBS.out)).mono ?_
  rintro e v3 ⟨rfl, r3⟩
  have d3 := d2.trans (r3.mono d2.size)
  rw [F.out.1.1]
  refine hK.out _ _ (SS.out _ d3) (fun hH3 => ?_)
  clear hK K
  (try simp only [Act.put, List.getElem_toArray, List.getElem_cons_succ, List.getElem_cons_zero, List.setIfInBounds_toArray, List.set_cons_zero, List.set_cons_succ])
  refine tk 3 ?_
  refine tk 4 ?_
  refine tk 6 ?_
  refine wpAnyH_ready (rs := [5]) (by kernel_rfl) (by simp) ?_
  refine AllReadyH.cons rfl (fun K hK => ?_) AllReadyH.nil
  go_simp
  refine (office_any _).mono ?_
  rintro e v4 ⟨rfl, r4, hp⟩
  have d4 := d3.trans (r4.mono d3.size)
  have HPL := hidI hp
  clear hp
  refine hK.out _ _ (SS.out _ d4) (fun hH4 => ?_)
  clear hK K
  (try simp only [Act.put, List.getElem_toArray, List.getElem_cons_succ, List.getElem_cons_zero, List.setIfInBounds_toArray, List.set_cons_zero, List.set_cons_succ])
  refine wpAnyH_ready (rs := [7]) (by kernel_rfl) (by simp) ?_
  refine AllReadyH.cons rfl (fun K hK => ?_) AllReadyH.nil
  go_simp
  refine (scheck_any officeP _ _ _ _ _ _ _ _ _ (beginS 3) _ _ _ _ _ _ _ _ _ _ (HPL.out) (HSB15.out.keep d4)).mono ?_
  rintro e v5 ⟨rfl, r5⟩
  have d5 := d4.trans (r5.mono d4.size)
  rw [F.out.1.2.1]
  refine hK.out _ _ (SS.out _ d5) (fun hH5 => ?_)
  clear hK K
  (try simp only [Act.put, List.getElem_toArray, List.getElem_cons_succ, List.getElem_cons_zero, List.setIfInBounds_toArray, List.set_cons_zero, List.set_cons_succ])
  refine tk 8 ?_
  refine tk 9 ?_
  refine tk 10 ?_
  refine tk 12 ?_
  refine wpAnyH_ready (rs := [11]) (by kernel_rfl) (by simp) ?_
  refine AllReadyH.cons rfl (fun K hK => ?_) AllReadyH.nil
  go_simp
  refine (office_any _).mono ?_
  rintro e v6 ⟨rfl, r6, hp⟩
  have d6 := d5.trans (r6.mono d5.size)
  have HPL := hidI hp
  clear hp
  refine hK.out _ _ (SS.out _ d6) (fun hH6 => ?_)
  clear hK K
  (try simp only [Act.put, List.getElem_toArray, List.getElem_cons_succ, List.getElem_cons_zero, List.setIfInBounds_toArray, List.set_cons_zero, List.set_cons_succ])
  refine wpAnyH_ready (rs := [13]) (by kernel_rfl) (by simp) ?_
  refine AllReadyH.cons rfl (fun K hK => ?_) AllReadyH.nil
  go_simp
  refine (scheck_any officeP _ _ _ _ _ _ _ _ _ (busyS (bOut 1) ⟨-1, 1⟩ ⟨0, 2⟩ 2) _ _ _ _ _ _ _ _ _ _ (HPL.out) (HSX15.out.keep d6)).mono ?_
  rintro e v7 ⟨rfl, r7⟩
  have d7 := d6.trans (r7.mono d6.size)
  rw [F.out.1.2.2.1]
  refine hK.out _ _ (SS.out _ d7) (fun hH7 => ?_)
  clear hK K
  (try simp only [Act.put, List.getElem_toArray, List.getElem_cons_succ, List.getElem_cons_zero, List.setIfInBounds_toArray, List.set_cons_zero, List.set_cons_succ])
  refine tk 14 ?_
  refine tk 15 ?_
  refine tk 16 ?_
  refine tk 18 ?_
  refine wpAnyH_ready (rs := [17]) (by kernel_rfl) (by simp) ?_
  refine AllReadyH.cons rfl (fun K hK => ?_) AllReadyH.nil
  go_simp
  refine (office_any _).mono ?_
  rintro e v8 ⟨rfl, r8, hp⟩
  have d8 := d7.trans (r8.mono d7.size)
  have HPL := hidI hp
  clear hp
  refine hK.out _ _ (SS.out _ d8) (fun hH8 => ?_)
  clear hK K
  (try simp only [Act.put, List.getElem_toArray, List.getElem_cons_succ, List.getElem_cons_zero, List.setIfInBounds_toArray, List.set_cons_zero, List.set_cons_succ])
  refine wpAnyH_ready (rs := [19]) (by kernel_rfl) (by simp) ?_
  refine AllReadyH.cons rfl (fun K hK => ?_) AllReadyH.nil
  go_simp
  refine (scheck_any officeP _ _ _ _ _ _ _ _ _ (busyS (bOut 2) ⟨-1, 1⟩ ⟨0, 2⟩ 1) _ _ _ _ _ _ _ _ _ _ (HPL.out) (HSY15.out.keep d8)).mono ?_
  rintro e v9 ⟨rfl, r9⟩
  have d9 := d8.trans (r9.mono d8.size)
  rw [F.out.1.2.2.2.1]
  refine hK.out _ _ (SS.out _ d9) (fun hH9 => ?_)
  clear hK K
  (try simp only [Act.put, List.getElem_toArray, List.getElem_cons_succ, List.getElem_cons_zero, List.setIfInBounds_toArray, List.set_cons_zero, List.set_cons_succ])
  refine tk 20 ?_
  refine tk 21 ?_
  refine tk 22 ?_
  refine tk 24 ?_
  refine wpAnyH_ready (rs := [23]) (by kernel_rfl) (by simp) ?_
  refine AllReadyH.cons rfl (fun K hK => ?_) AllReadyH.nil
  go_simp
  refine (office_any _).mono ?_
  rintro e v10 ⟨rfl, r10, hp⟩
  have d10 := d9.trans (r10.mono d9.size)
  have HPL := hidI hp
  clear hp
  refine hK.out _ _ (SS.out _ d10) (fun hH10 => ?_)
  clear hK K
  (try simp only [Act.put, List.getElem_toArray, List.getElem_cons_succ, List.getElem_cons_zero, List.setIfInBounds_toArray, List.set_cons_zero, List.set_cons_succ])
  refine wpAnyH_ready (rs := [25]) (by kernel_rfl) (by simp) ?_
  refine AllReadyH.cons rfl (fun K hK => ?_) AllReadyH.nil
  go_simp
  refine (scheck_any officeP _ _ _ _ _ _ _ _ _ (busyS (bOut 1) ⟨-1, 1⟩ ⟨1, 2⟩ 1) _ _ _ _ _ _ _ _ _ _ (HPL.out) (HSZ15.out.keep d10)).mono ?_
  rintro e v11 ⟨rfl, r11⟩
  have d11 := d10.trans (r11.mono d10.size)
  rw [F.out.1.2.2.2.2]
  refine hK.out _ _ (SS.out _ d11) (fun hH11 => ?_)
  clear hK K
  (try simp only [Act.put, List.getElem_toArray, List.getElem_cons_succ, List.getElem_cons_zero, List.setIfInBounds_toArray, List.set_cons_zero, List.set_cons_succ])
  refine tk 26 ?_
  refine tk 27 ?_
  refine tk 28 ?_
  refine tk 29 ?_
  refine tk 30 ?_
  refine tk 31 ?_
  refine tk 32 ?_
  refine tk 33 ?_
  refine tk 34 ?_
  refine tk 35 ?_
  refine tk 36 ?_
  refine tk 37 ?_
  refine tk 38 ?_
  refine tk 39 ?_
  refine tk 40 ?_
  refine tk 41 ?_
  refine tk 42 ?_
  refine tk 43 ?_
  refine tk 44 ?_
  refine wpAnyH_done (by kernel_rfl) ?_ _
  go_wp2_with fail
  go_ret
  exact ⟨rfl, k15.trans (d11.mono k15.size)⟩
end Go.Proofs.Ythhkpgnjpieckaa
