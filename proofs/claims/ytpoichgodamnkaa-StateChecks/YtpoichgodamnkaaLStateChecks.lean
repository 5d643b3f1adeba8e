/- The walk of the law StateChecks. -/
import Derived.Deep.RegionHeld3
import Derived.Test.YtpoichgodamnkaaLStateHeld
import Derived.Test.YtpoichgodamnkaaTt
namespace Go.Proofs.Ytpoichgodamnkaa
set_option linter.unusedVariables false
set_option maxRecDepth 100000
open Go.RowKit Go.Maps

set_option maxRecDepth 100000 in
set_option maxHeartbeats 2000000 in
theorem walk_StateChecks (p : PlanD) (a1 a2 a3 : Option Addr) (n1 c1 n2 c2 n3 c3 : Nat) (s : StateD) (b1 b2 b3 : Option Addr) (m1 d1 m2 d2 m3 d3 : Nat) (w : World) (hp : PlanAt w a1 a2 a3 n1 n2 n3 p) (hs : StateAt w b1 b2 b3 m1 m2 m3 s) :
    Calls Try.prog 3 #[.agg #[.slice a1 n1 c1, .slice a2 n2 c2, .slice a3 n3 c3], .agg #[.slice b1 m1 d1, .slice b2 m2 d2, .slice b3 m3 d3, .int .i64 s.nextSeq, .int .i64 s.nextTag, .int .i64 s.came, .int .i64 s.acked, .int .i64 s.dropped]] w fun e w' => e = .returned (.bool true) ∧ Below w.heap.size w w' := by
  obtain ⟨W2, hW2, hBw, hs2, hbx⟩ := ps_boxed w #[.slice a1 n1 c1, .slice a2 n2 c2, .slice a3 n3 c3] #[.slice b1 m1 d1, .slice b2 m2 d2, .slice b3 m3 d3, .int .i64 s.nextSeq, .int .i64 s.nextTag, .int .i64 s.came, .int .i64 s.acked, .int .i64 s.dropped]
  have HW2 := hidI hW2
  have BX := hidI hbx
  have HS := hidI (hs.keep hBw)
  have HP := hidI (hp.keep hBw)
  have HN2 : Hid (p.queues.length = n2) := hp.l2
  have s0 := hBw.size
  have HBW := hidI hBw
  have HS2 : Hid (W2.heap.size = w.heap.size + 2) := hs2
  have hlt2 : w.heap.size + 1 < W2.heap.size := by omega
  obtain ⟨E, hE⟩ : ∃ E : Int, E = stE p s := ⟨_, rfl⟩
  have HE := hidI hE
  obtain ⟨D, hD⟩ : ∃ D : Int, D = chkP p := ⟨_, rfl⟩
  have HD := hidI hD
  have hee : (E == E) = true := by simp
  obtain ⟨x0, x1, x2⟩ := pl_cells (hbx W2 (Below.refl _ _)).1
  clear hW2 hbx hs2 hp hs hBw hE hD
  go_enter Try.func3, Try.ntmps3
  go_wp2_with fail
  rw [← HW2.out]
  refine (begin_any p _ _ _ _ _ _ _ _ _ _ HP.out).mono ?_
  rintro e w3 ⟨hok, hno, k3⟩
  rw [← HD.out] at hok hno
  have s3 := k3.size
  clear x0 x1 x2
  by_cases h0 : D = 0
  · obtain ⟨gB, rfl, hsB⟩ := hok h0
    have hn4 : n2 ≤ 4 := by have := (chk_right (HD.out.symm.trans h0)).few.2.1; rw [HN2.out] at this; exact this
    have HD0 : Hid (D = 0) := h0
    have HLB3 : Hid (LinesAt w3 (some ⟨gB, 0, none⟩) (List.replicate n2 [])) := hsB.q1
    clear hok hno hsB h0
    obtain ⟨W4, hW4⟩ : ∃ W4, W4 = w3.alloc (.cells #[.slice (some ⟨gB, 0, none⟩) n2 n2, .slice none 0 0, .slice none 0 0, .int .i64 0, .int .i64 0, .int .i64 0, .int .i64 0, .int .i64 0] 31) := ⟨_, rfl⟩
    have kW4 : Below w3.heap.size w3 W4 := by rw [hW4]; exact (Below.refl _ _).alloc (Nat.le_refl _) _
    have qW4 : W4.heap[w3.heap.size]? = some (.cells #[.slice (some ⟨gB, 0, none⟩) n2 n2, .slice none 0 0, .slice none 0 0, .int .i64 0, .int .i64 0, .int .i64 0, .int .i64 0, .int .i64 0] 31 (0, 0)) := by rw [hW4]; exact World.alloc_heap_new w3 _
    have zW4 : W4.heap.size = w3.heap.size + 1 := by rw [hW4]; simp
    obtain ⟨B1, hB1⟩ : ∃ B1, B1 = w3.heap.size := ⟨_, rfl⟩
    rw [← hB1] at qW4
    have HW4 := hidI hW4
    have HB1 := hidI hB1
    have ZW4 := hidI zW4
    clear hW4 hB1 zW4
    have K4 := hidI (k3.trans (kW4.mono s3))
    have s4 := K4.out.size
    have HB4 := hidI qW4
    clear qW4
    obtain ⟨x0, x1, x2⟩ := pl_cells (BX.out w3 k3).1
    have hlt3 : w.heap.size < w3.heap.size := by omega
    go_wp2_with fail
    rw [← HW4.out, ← HB1.out]
    refine (rcheck_any p _ _ _ _ _ _ _ _ _ _ HP.out.l1 HP.out.l2 HP.out.l3 HP.out.sz (HP.out.keep K4.out).p1 (HP.out.keep K4.out).p2 (HP.out.keep K4.out).p3).mono ?_
    rintro e w5 ⟨rfl, k5'⟩
    rw [← HD.out, HD0.out]
    have K5 := hidI (K4.out.trans (k5'.mono s4))
    have s5 := K5.out.size
    have HB5 := hidI (plan_keep HB4.out k5')
    have HK5 := hidI k5'
    clear x0 x1 x2 k5'
    obtain ⟨W6, hW6⟩ : ∃ W6, W6 = w5.alloc (.cells #[.slice none 0 0, .slice none 0 0, .slice none 0 0, .int .i64 0, .int .i64 0, .int .i64 0, .int .i64 0, .int .i64 0] 31) := ⟨_, rfl⟩
    have kW6 : Below w5.heap.size w5 W6 := by rw [hW6]; exact (Below.refl _ _).alloc (Nat.le_refl _) _
    have qW6 : W6.heap[w5.heap.size]? = some (.cells #[.slice none 0 0, .slice none 0 0, .slice none 0 0, .int .i64 0, .int .i64 0, .int .i64 0, .int .i64 0, .int .i64 0] 31 (0, 0)) := by rw [hW6]; exact World.alloc_heap_new w5 _
    have zW6 : W6.heap.size = w5.heap.size + 1 := by rw [hW6]; simp
    obtain ⟨B2, hB2⟩ : ∃ B2, B2 = w5.heap.size := ⟨_, rfl⟩
    rw [← hB2] at qW6
    have HW6 := hidI hW6
    have HB2 := hidI hB2
    have ZW6 := hidI zW6
    clear hW6 hB2 zW6
    have K6 := hidI (K5.out.trans (kW6.mono s5))
    have s6 := K6.out.size
    have HB6 := hidI (plan_keep HB5.out kW6)
    have HQ6 := hidI qW6
    clear qW6
    obtain ⟨x0, x1, x2⟩ := pl_cells (BX.out w5 K5.out).1
    have hlt5 : w.heap.size < w5.heap.size := by omega
    go_wp2_with fail
    rw [← HW6.out, ← HB2.out]
    refine (beginOf_any p _ _ _ _ _ _ _ _ _ _ (HP.out.keep K6.out) hn4).mono ?_
    rintro e w7 ⟨gW, rfl, hLW, hge, k7'⟩
    have hLB7 : LinesAt w7 (some ⟨gB, 0, none⟩) (List.replicate n2 []) := (((HLB3.out.keep kW4).keep HK5.out).keep kW6).keep k7'
    have HNE : Hid (n2 ≠ 0 → gB ≠ B2) := fun hn => by
      have h1 := lines_lt HLB3.out hn
      have h2 := ZW4.out
      have h3 := HK5.out.size
      have h4 := HB2.out
      omega
    have HNW : Hid (n2 ≠ 0 → gW ≠ B2) := fun hn => by
      have h4 := HB2.out
      have h5 := ZW6.out
      omega
    have q0 := plan_keep HQ6.out k7'
    have HQ7 := hidI q0
    have HB7 := hidI (plan_keep HB6.out k7')
    have K7 := hidI (K6.out.trans (k7'.mono s6))
    obtain ⟨y0, y1, y2, y3, y4, y5, y6, y7⟩ := st_cells q0
    have f0 := free_of_cells q0 0
    have f1 := free_of_cells q0 1
    have f2 := free_of_cells q0 2
    have f3 := free_of_cells q0 3
    have f4 := free_of_cells q0 4
    have f5 := free_of_cells q0 5
    have f6 := free_of_cells q0 6
    have f7 := free_of_cells q0 7
    clear q0 x0 x1 x2
    go_wp2_with fail
    generalize hW8 : World.setCell (World.setCell (World.setCell (World.setCell (World.setCell (World.setCell (World.setCell (World.setCell w7 _ _) _ _) _ _) _ _) _ _) _ _) _ _) _ _ = W8
    obtain ⟨b8, t8⟩ := store8 HQ7.out hW8
    have hb1 : W8.heap[B1]? = some (.cells #[.slice (some ⟨gB, 0, none⟩) n2 n2, .slice none 0 0, .slice none 0 0, .int .i64 0, .int .i64 0, .int .i64 0, .int .i64 0, .int .i64 0] 31 (0, 0)) := (t8.block B1 (by have := HB1.out; have := ZW4.out; have := HK5.out.size; have := ZW6.out; have := k7'.size; omega) (by have := HB1.out; have := ZW4.out; have := HK5.out.size; have := HB2.out; omega)).trans HB7.out
    have HB := hidI hb1
    have HWB := hidI b8
    have HLB := hidI (lines_turn hLB7 t8 HNE.out)
    have HLW := hidI (lines_turn hLW t8 HNW.out)
    have K0 : Hid (Below W2.heap.size W2 W8) := K7.out.trans (t8.below (by have := K7.out.size; omega) (by have := HB2.out; omega))
    clear hW8 b8 t8 hb1 hLB7 hLW y0 y1 y2 y3 y4 y5 y6 y7 f0 f1 f2 f3 f4 f5 f6 f7
    have SS : Hid (∀ W, Below W8.heap.size W8 W → W.cell? ⟨w.heap.size, 0, none⟩ = some (.slice a1 n1 c1) ∧ W.cell? ⟨w.heap.size, 1, none⟩ = some (.slice a2 n2 c2) ∧ W.cell? ⟨w.heap.size, 2, none⟩ = some (.slice a3 n3 c3) ∧ W.cell? ⟨w.heap.size + 1, 0, none⟩ = some (.slice b1 m1 d1) ∧ W.cell? ⟨w.heap.size + 1, 1, none⟩ = some (.slice b2 m2 d2) ∧ W.cell? ⟨w.heap.size + 1, 2, none⟩ = some (.slice b3 m3 d3) ∧ W.cell? ⟨w.heap.size + 1, 3, none⟩ = some (.int .i64 s.nextSeq) ∧ W.cell? ⟨w.heap.size + 1, 4, none⟩ = some (.int .i64 s.nextTag) ∧ W.cell? ⟨w.heap.size + 1, 5, none⟩ = some (.int .i64 s.came) ∧ W.cell? ⟨w.heap.size + 1, 6, none⟩ = some (.int .i64 s.acked) ∧ W.cell? ⟨w.heap.size + 1, 7, none⟩ = some (.int .i64 s.dropped) ∧ W.cell? ⟨B1, 0, none⟩ = some (.slice (some ⟨gB, 0, none⟩) n2 n2) ∧ W.cell? ⟨B1, 1, none⟩ = some (.slice none 0 0) ∧ W.cell? ⟨B1, 2, none⟩ = some (.slice none 0 0) ∧ W.cell? ⟨B1, 3, none⟩ = some (.int .i64 0) ∧ W.cell? ⟨B1, 4, none⟩ = some (.int .i64 0) ∧ W.cell? ⟨B1, 5, none⟩ = some (.int .i64 0) ∧ W.cell? ⟨B1, 6, none⟩ = some (.int .i64 0) ∧ W.cell? ⟨B1, 7, none⟩ = some (.int .i64 0) ∧ W.cell? ⟨B2, 0, none⟩ = some (.slice (some ⟨gW, 0, none⟩) n2 n2) ∧ W.cell? ⟨B2, 1, none⟩ = some (.slice none 0 0) ∧ W.cell? ⟨B2, 2, none⟩ = some (.slice none 0 0) ∧ W.cell? ⟨B2, 3, none⟩ = some (.int .i64 0) ∧ W.cell? ⟨B2, 4, none⟩ = some (.int .i64 0) ∧ W.cell? ⟨B2, 5, none⟩ = some (.int .i64 0) ∧ W.cell? ⟨B2, 6, none⟩ = some (.int .i64 0) ∧ W.cell? ⟨B2, 7, none⟩ = some (.int .i64 0)) := fun W hW => by
      have kk := K0.out.trans (hW.mono K0.out.size)
      obtain ⟨x0, x1, x2⟩ := pl_cells (BX.out W kk).1
      obtain ⟨y0, y1, y2, y3, y4, y5, y6, y7⟩ := st_cells (BX.out W kk).2
      obtain ⟨u0, u1, u2, u3, u4, u5, u6, u7⟩ := st_cells (plan_keep HB.out hW)
      obtain ⟨t0, t1, t2, t3, t4, t5, t6, t7⟩ := st_cells (plan_keep HWB.out hW)
      exact ⟨x0, x1, x2, y0, y1, y2, y3, y4, y5, y6, y7, u0, u1, u2, u3, u4, u5, u6, u7, t0, t1, t2, t3, t4, t5, t6, t7⟩
    refine wp_region_held_drew (S := fun W => W.cell? ⟨w.heap.size, 0, none⟩ = some (.slice a1 n1 c1) ∧ W.cell? ⟨w.heap.size, 1, none⟩ = some (.slice a2 n2 c2) ∧ W.cell? ⟨w.heap.size, 2, none⟩ = some (.slice a3 n3 c3) ∧ W.cell? ⟨w.heap.size + 1, 0, none⟩ = some (.slice b1 m1 d1) ∧ W.cell? ⟨w.heap.size + 1, 1, none⟩ = some (.slice b2 m2 d2) ∧ W.cell? ⟨w.heap.size + 1, 2, none⟩ = some (.slice b3 m3 d3) ∧ W.cell? ⟨w.heap.size + 1, 3, none⟩ = some (.int .i64 s.nextSeq) ∧ W.cell? ⟨w.heap.size + 1, 4, none⟩ = some (.int .i64 s.nextTag) ∧ W.cell? ⟨w.heap.size + 1, 5, none⟩ = some (.int .i64 s.came) ∧ W.cell? ⟨w.heap.size + 1, 6, none⟩ = some (.int .i64 s.acked) ∧ W.cell? ⟨w.heap.size + 1, 7, none⟩ = some (.int .i64 s.dropped) ∧ W.cell? ⟨B1, 0, none⟩ = some (.slice (some ⟨gB, 0, none⟩) n2 n2) ∧ W.cell? ⟨B1, 1, none⟩ = some (.slice none 0 0) ∧ W.cell? ⟨B1, 2, none⟩ = some (.slice none 0 0) ∧ W.cell? ⟨B1, 3, none⟩ = some (.int .i64 0) ∧ W.cell? ⟨B1, 4, none⟩ = some (.int .i64 0) ∧ W.cell? ⟨B1, 5, none⟩ = some (.int .i64 0) ∧ W.cell? ⟨B1, 6, none⟩ = some (.int .i64 0) ∧ W.cell? ⟨B1, 7, none⟩ = some (.int .i64 0) ∧ W.cell? ⟨B2, 0, none⟩ = some (.slice (some ⟨gW, 0, none⟩) n2 n2) ∧ W.cell? ⟨B2, 1, none⟩ = some (.slice none 0 0) ∧ W.cell? ⟨B2, 2, none⟩ = some (.slice none 0 0) ∧ W.cell? ⟨B2, 3, none⟩ = some (.int .i64 0) ∧ W.cell? ⟨B2, 4, none⟩ = some (.int .i64 0) ∧ W.cell? ⟨B2, 5, none⟩ = some (.int .i64 0) ∧ W.cell? ⟨B2, 6, none⟩ = some (.int .i64 0) ∧ W.cell? ⟨B2, 7, none⟩ = some (.int .i64 0)) (by kernel_rfl) (SS.out _ (Below.refl _ _).drew) (fun hHeld => ?_)
    obtain ⟨v0, hv0⟩ : ∃ v0, v0 = W8.drew := ⟨_, rfl⟩
    have r0 : Below W8.heap.size W8 v0 := by rw [hv0]; exact (Below.refl _ _).drew
    rw [← hv0] at hHeld ⊢
    clear hv0
    refine wpAnyH_ready (rs := [0]) (by kernel_rfl) (by simp) ?_
    refine AllReadyH.cons rfl (fun K hK => ?_) AllReadyH.nil
    go_simp
    refine (stateBegun_any _).mono ?_
    rintro e v1 ⟨rfl, q1⟩
    have r1 := r0.trans (q1.mono r0.size)
    refine hK.out _ _ (SS.out _ r1) (fun hH1 => ?_)
    clear hK K hHeld
    (try simp only [Act.put, List.getElem_toArray, List.getElem_cons_succ, List.getElem_cons_zero, List.setIfInBounds_toArray, List.set_cons_zero, List.set_cons_succ])
    (refine wpAnyH_take (i := 1) (v := ?_) rfl (by kernel_rfl) (by kernel_rfl) (by kernel_rfl) (fun _ _ _ h => h) (Or.inl ⟨by kernel_rfl, ?_⟩) (by assumption) ?_; rotate_left; (focus (intro w hSw; (try dsimp only at hSw); go_simp; (try with_reducible rfl))); (try simp only [Act.put, List.getElem_toArray, List.getElem_cons_succ, List.getElem_cons_zero, List.setIfInBounds_toArray, List.set_cons_zero, List.set_cons_succ]))
    (refine wpAnyH_take (i := 2) (v := ?_) rfl (by kernel_rfl) (by kernel_rfl) (by kernel_rfl) (fun _ _ _ h => h) (Or.inl ⟨by kernel_rfl, ?_⟩) (by assumption) ?_; rotate_left; (focus (intro w hSw; (try dsimp only at hSw); go_simp; (try with_reducible rfl))); (try simp only [Act.put, List.getElem_toArray, List.getElem_cons_succ, List.getElem_cons_zero, List.setIfInBounds_toArray, List.set_cons_zero, List.set_cons_succ]))
    (refine wpAnyH_take (i := 3) (v := ?_) rfl (by kernel_rfl) (by kernel_rfl) (by kernel_rfl) (fun _ _ _ h => h) (Or.inl ⟨by kernel_rfl, ?_⟩) (by assumption) ?_; rotate_left; (focus (intro w hSw; (try dsimp only at hSw); go_simp; (try with_reducible rfl))); (try simp only [Act.put, List.getElem_toArray, List.getElem_cons_succ, List.getElem_cons_zero, List.setIfInBounds_toArray, List.set_cons_zero, List.set_cons_succ]))
    (refine wpAnyH_take (i := 5) (v := ?_) rfl (by kernel_rfl) (by kernel_rfl) (by kernel_rfl) (fun _ _ _ h => h) (Or.inl ⟨by kernel_rfl, ?_⟩) (by assumption) ?_; rotate_left; (focus (intro w hSw; (try dsimp only at hSw); go_simp; (try with_reducible rfl))); (try simp only [Act.put, List.getElem_toArray, List.getElem_cons_succ, List.getElem_cons_zero, List.setIfInBounds_toArray, List.set_cons_zero, List.set_cons_succ]))
    (refine wpAnyH_take (i := 6) (v := ?_) rfl (by kernel_rfl) (by kernel_rfl) (by kernel_rfl) (fun _ _ _ h => h) (Or.inl ⟨by kernel_rfl, ?_⟩) (by assumption) ?_; rotate_left; (focus (intro w hSw; (try dsimp only at hSw); go_simp; (try with_reducible rfl))); (try simp only [Act.put, List.getElem_toArray, List.getElem_cons_succ, List.getElem_cons_zero, List.setIfInBounds_toArray, List.set_cons_zero, List.set_cons_succ]))
    refine wpAnyH_ready (rs := [4]) (by kernel_rfl) (by simp) ?_
    refine AllReadyH.cons rfl (fun K hK => ?_) AllReadyH.nil
    go_simp
    refine (scheck_any p _ _ _ _ _ _ _ _ _ s _ _ _ _ _ _ _ _ _ _ (HP.out.keep (K0.out.trans (r1.mono K0.out.size))) (HS.out.keep (K0.out.trans (r1.mono K0.out.size)))).mono ?_
    rintro e v2 ⟨rfl, q2⟩
    have r2 := r1.trans (q2.mono r1.size)
    rw [← HE.out]
    refine hK.out _ _ (SS.out _ r2) (fun hH2 => ?_)
    clear hK K hH1
    (try simp only [Act.put, List.getElem_toArray, List.getElem_cons_succ, List.getElem_cons_zero, List.setIfInBounds_toArray, List.set_cons_zero, List.set_cons_succ])
    refine wpAnyH_ready (rs := [7]) (by kernel_rfl) (by simp) ?_
    refine AllReadyH.cons rfl (fun K hK => ?_) AllReadyH.nil
    go_simp
    refine (rcheckState_any p _ _ _ _ _ _ _ _ _ s _ _ _ _ _ _ _ _ _ _ (HP.out.keep (K0.out.trans (r2.mono K0.out.size))) (HS.out.keep (K0.out.trans (r2.mono K0.out.size)))).mono ?_
    rintro e v3 ⟨rfl, q3⟩
    have r3 := r2.trans (q3.mono r2.size)
    rw [← HE.out]
    refine hK.out _ _ (SS.out _ r3) (fun hH3 => ?_)
    clear hK K hH2
    (try simp only [Act.put, List.getElem_toArray, List.getElem_cons_succ, List.getElem_cons_zero, List.setIfInBounds_toArray, List.set_cons_zero, List.set_cons_succ])
    (refine wpAnyH_take (i := 8) (v := ?_) rfl (by kernel_rfl) (by kernel_rfl) (by kernel_rfl) (fun _ _ _ h => h) (Or.inl ⟨by kernel_rfl, ?_⟩) (by assumption) ?_; rotate_left; (focus (intro w hSw; (try dsimp only at hSw); go_simp; (try with_reducible rfl))); (try simp only [Act.put, List.getElem_toArray, List.getElem_cons_succ, List.getElem_cons_zero, List.setIfInBounds_toArray, List.set_cons_zero, List.set_cons_succ]))
    (refine wpAnyH_take (i := 9) (v := ?_) rfl (by kernel_rfl) (by kernel_rfl) (by kernel_rfl) (fun _ _ _ h => h) (Or.inl ⟨by kernel_rfl, ?_⟩) (by assumption) ?_; rotate_left; (focus (intro w hSw; (try dsimp only at hSw); go_simp; (try with_reducible rfl))); (try simp only [Act.put, List.getElem_toArray, List.getElem_cons_succ, List.getElem_cons_zero, List.setIfInBounds_toArray, List.set_cons_zero, List.set_cons_succ]))
    (refine wpAnyH_take (i := 10) (v := ?_) rfl (by kernel_rfl) (by kernel_rfl) (by kernel_rfl) (fun _ _ _ h => h) (Or.inl ⟨by kernel_rfl, ?_⟩) (by assumption) ?_; rotate_left; (focus (intro w hSw; (try dsimp only at hSw); go_simp; (try with_reducible rfl))); (try simp only [Act.put, List.getElem_toArray, List.getElem_cons_succ, List.getElem_cons_zero, List.setIfInBounds_toArray, List.set_cons_zero, List.set_cons_succ]))
    (refine wpAnyH_take (i := 11) (v := ?_) rfl (by kernel_rfl) (by kernel_rfl) (by kernel_rfl) (fun _ _ _ h => h) (Or.inl ⟨by kernel_rfl, ?_⟩) (by assumption) ?_; rotate_left; (focus (intro w hSw; (try dsimp only at hSw); go_simp; (try with_reducible rfl))); (try simp only [Act.put, List.getElem_toArray, List.getElem_cons_succ, List.getElem_cons_zero, List.setIfInBounds_toArray, List.set_cons_zero, List.set_cons_succ]))
    (refine wpAnyH_take (i := 12) (v := ?_) rfl (by kernel_rfl) (by kernel_rfl) (by kernel_rfl) (fun _ _ _ h => h) (Or.inl ⟨by kernel_rfl, ?_⟩) (by assumption) ?_; rotate_left; (focus (intro w hSw; (try dsimp only at hSw); go_simp; (try with_reducible rfl))); (try simp only [Act.put, List.getElem_toArray, List.getElem_cons_succ, List.getElem_cons_zero, List.setIfInBounds_toArray, List.set_cons_zero, List.set_cons_succ]))
    (refine wpAnyH_take (i := 13) (v := ?_) rfl (by kernel_rfl) (by kernel_rfl) (by kernel_rfl) (fun _ _ _ h => h) (Or.inl ⟨by kernel_rfl, ?_⟩) (by assumption) ?_; rotate_left; (focus (intro w hSw; (try dsimp only at hSw); go_simp; (try with_reducible rfl))); (try simp only [Act.put, List.getElem_toArray, List.getElem_cons_succ, List.getElem_cons_zero, List.setIfInBounds_toArray, List.set_cons_zero, List.set_cons_succ]))
    (refine wpAnyH_take (i := 14) (v := ?_) rfl (by kernel_rfl) (by kernel_rfl) (by kernel_rfl) (fun _ _ _ h => h) (Or.inl ⟨by kernel_rfl, ?_⟩) (by assumption) ?_; rotate_left; (focus (intro w hSw; (try dsimp only at hSw); go_simp; (try with_reducible rfl))); (try simp only [Act.put, List.getElem_toArray, List.getElem_cons_succ, List.getElem_cons_zero, List.setIfInBounds_toArray, List.set_cons_zero, List.set_cons_succ]))
    (refine wpAnyH_take (i := 15) (v := ?_) rfl (by kernel_rfl) (by kernel_rfl) (by kernel_rfl) (fun _ _ _ h => h) (Or.inl ⟨by kernel_rfl, ?_⟩) (by assumption) ?_; rotate_left; (focus (intro w hSw; (try dsimp only at hSw); go_simp; (try with_reducible rfl))); (try simp only [Act.put, List.getElem_toArray, List.getElem_cons_succ, List.getElem_cons_zero, List.setIfInBounds_toArray, List.set_cons_zero, List.set_cons_succ]))
    (refine wpAnyH_take (i := 16) (v := ?_) rfl (by kernel_rfl) (by kernel_rfl) (by kernel_rfl) (fun _ _ _ h => h) (Or.inl ⟨by kernel_rfl, ?_⟩) (by assumption) ?_; rotate_left; (focus (intro w hSw; (try dsimp only at hSw); go_simp; (try with_reducible rfl))); (try simp only [Act.put, List.getElem_toArray, List.getElem_cons_succ, List.getElem_cons_zero, List.setIfInBounds_toArray, List.set_cons_zero, List.set_cons_succ]))
    (refine wpAnyH_take (i := 17) (v := ?_) rfl (by kernel_rfl) (by kernel_rfl) (by kernel_rfl) (fun _ _ _ h => h) (Or.inl ⟨by kernel_rfl, ?_⟩) (by assumption) ?_; rotate_left; (focus (intro w hSw; (try dsimp only at hSw); go_simp; (try with_reducible rfl))); (try simp only [Act.put, List.getElem_toArray, List.getElem_cons_succ, List.getElem_cons_zero, List.setIfInBounds_toArray, List.set_cons_zero, List.set_cons_succ]))
    refine wpAnyH_ready (rs := [18]) (by kernel_rfl) (by simp) ?_
    refine AllReadyH.cons rfl (fun K hK => ?_) AllReadyH.nil
    go_simp
    refine (same_begin n2 _ _ _ _ _ hn4 (HLB.out.keep r3) (HLW.out.keep r3)).mono ?_
    rintro e v4 ⟨rfl, q4⟩
    have r4 := r3.trans (q4.mono r3.size)
    refine hK.out _ _ (SS.out _ r4) (fun hH4 => ?_)
    clear hK K hH3
    (try simp only [Act.put, List.getElem_toArray, List.getElem_cons_succ, List.getElem_cons_zero, List.setIfInBounds_toArray, List.set_cons_zero, List.set_cons_succ])
    (refine wpAnyH_take (i := 19) (v := ?_) rfl (by kernel_rfl) (by kernel_rfl) (by kernel_rfl) (fun _ _ _ h => h) (Or.inl ⟨by kernel_rfl, ?_⟩) (by assumption) ?_; rotate_left; (focus (intro w hSw; (try dsimp only at hSw); go_simp; (try with_reducible rfl))); (try simp only [Act.put, List.getElem_toArray, List.getElem_cons_succ, List.getElem_cons_zero, List.setIfInBounds_toArray, List.set_cons_zero, List.set_cons_succ]))
    (refine wpAnyH_take (i := 20) (v := ?_) rfl (by kernel_rfl) (by kernel_rfl) (by kernel_rfl) (fun _ _ _ h => h) (Or.inl ⟨by kernel_rfl, ?_⟩) (by assumption) ?_; rotate_left; (focus (intro w hSw; (try dsimp only at hSw); go_simp; (try with_reducible rfl))); (try simp only [Act.put, List.getElem_toArray, List.getElem_cons_succ, List.getElem_cons_zero, List.setIfInBounds_toArray, List.set_cons_zero, List.set_cons_succ]))
    refine wpAnyH_done (by kernel_rfl) ?_ _
    go_wp2_with fail
    go_ret
    exact ⟨rfl, HBW.out.trans ((K0.out.trans (r4.mono K0.out.size)).mono s0)⟩
  · have hno' := hno h0
    subst hno'
    have h0' : (D == 0) = false := by simpa using h0
    have hdd : (D == D) = true := by simp
    clear hok hno h0
    obtain ⟨W4, hW4⟩ : ∃ W4, W4 = w3.alloc (.cells #[.slice none 0 0, .slice none 0 0, .slice none 0 0, .int .i64 0, .int .i64 0, .int .i64 0, .int .i64 0, .int .i64 0] 31) := ⟨_, rfl⟩
    have kW4 : Below w3.heap.size w3 W4 := by rw [hW4]; exact (Below.refl _ _).alloc (Nat.le_refl _) _
    have qW4 : W4.heap[w3.heap.size]? = some (.cells #[.slice none 0 0, .slice none 0 0, .slice none 0 0, .int .i64 0, .int .i64 0, .int .i64 0, .int .i64 0, .int .i64 0] 31 (0, 0)) := by rw [hW4]; exact World.alloc_heap_new w3 _
    have zW4 : W4.heap.size = w3.heap.size + 1 := by rw [hW4]; simp
    obtain ⟨B1, hB1⟩ : ∃ B1, B1 = w3.heap.size := ⟨_, rfl⟩
    rw [← hB1] at qW4
    have HW4 := hidI hW4
    have HB1 := hidI hB1
    have ZW4 := hidI zW4
    clear hW4 hB1 zW4
    have K4 := hidI (k3.trans (kW4.mono s3))
    have s4 := K4.out.size
    have HB4 := hidI qW4
    clear qW4
    obtain ⟨x0, x1, x2⟩ := pl_cells (BX.out w3 k3).1
    have hlt3 : w.heap.size < w3.heap.size := by omega
    go_wp2_with fail
    rw [← HW4.out, ← HB1.out]
    refine (rcheck_any p _ _ _ _ _ _ _ _ _ _ HP.out.l1 HP.out.l2 HP.out.l3 HP.out.sz (HP.out.keep K4.out).p1 (HP.out.keep K4.out).p2 (HP.out.keep K4.out).p3).mono ?_
    rintro e w5 ⟨rfl, k5'⟩
    rw [← HD.out]
    have K5 := hidI (K4.out.trans (k5'.mono s4))
    have s5 := K5.out.size
    have HB5 := hidI (plan_keep HB4.out k5')
    have HK5 := hidI k5'
    clear x0 x1 x2 k5'
    obtain ⟨W6, hW6⟩ : ∃ W6, W6 = w5.alloc (.cells #[.slice none 0 0, .slice none 0 0, .slice none 0 0, .int .i64 0, .int .i64 0, .int .i64 0, .int .i64 0, .int .i64 0] 31) := ⟨_, rfl⟩
    have kW6 : Below w5.heap.size w5 W6 := by rw [hW6]; exact (Below.refl _ _).alloc (Nat.le_refl _) _
    have qW6 : W6.heap[w5.heap.size]? = some (.cells #[.slice none 0 0, .slice none 0 0, .slice none 0 0, .int .i64 0, .int .i64 0, .int .i64 0, .int .i64 0, .int .i64 0] 31 (0, 0)) := by rw [hW6]; exact World.alloc_heap_new w5 _
    have zW6 : W6.heap.size = w5.heap.size + 1 := by rw [hW6]; simp
    obtain ⟨B2, hB2⟩ : ∃ B2, B2 = w5.heap.size := ⟨_, rfl⟩
    rw [← hB2] at qW6
    have HW6 := hidI hW6
    have HB2 := hidI hB2
    have ZW6 := hidI zW6
    clear hW6 hB2 zW6
    have K6 := hidI (K5.out.trans (kW6.mono s5))
    have s6 := K6.out.size
    have HB6 := hidI (plan_keep HB5.out kW6)
    have HQ6 := hidI qW6
    clear qW6
    obtain ⟨x0, x1, x2⟩ := pl_cells (BX.out w5 K5.out).1
    have hlt5 : w.heap.size < w5.heap.size := by omega
    have K0 := K6
    have HB := HB6
    have HWB := HQ6
    have SS : Hid (∀ W, Below W6.heap.size W6 W → W.cell? ⟨w.heap.size, 0, none⟩ = some (.slice a1 n1 c1) ∧ W.cell? ⟨w.heap.size, 1, none⟩ = some (.slice a2 n2 c2) ∧ W.cell? ⟨w.heap.size, 2, none⟩ = some (.slice a3 n3 c3) ∧ W.cell? ⟨w.heap.size + 1, 0, none⟩ = some (.slice b1 m1 d1) ∧ W.cell? ⟨w.heap.size + 1, 1, none⟩ = some (.slice b2 m2 d2) ∧ W.cell? ⟨w.heap.size + 1, 2, none⟩ = some (.slice b3 m3 d3) ∧ W.cell? ⟨w.heap.size + 1, 3, none⟩ = some (.int .i64 s.nextSeq) ∧ W.cell? ⟨w.heap.size + 1, 4, none⟩ = some (.int .i64 s.nextTag) ∧ W.cell? ⟨w.heap.size + 1, 5, none⟩ = some (.int .i64 s.came) ∧ W.cell? ⟨w.heap.size + 1, 6, none⟩ = some (.int .i64 s.acked) ∧ W.cell? ⟨w.heap.size + 1, 7, none⟩ = some (.int .i64 s.dropped) ∧ W.cell? ⟨B1, 0, none⟩ = some (.slice none 0 0) ∧ W.cell? ⟨B1, 1, none⟩ = some (.slice none 0 0) ∧ W.cell? ⟨B1, 2, none⟩ = some (.slice none 0 0) ∧ W.cell? ⟨B1, 3, none⟩ = some (.int .i64 0) ∧ W.cell? ⟨B1, 4, none⟩ = some (.int .i64 0) ∧ W.cell? ⟨B1, 5, none⟩ = some (.int .i64 0) ∧ W.cell? ⟨B1, 6, none⟩ = some (.int .i64 0) ∧ W.cell? ⟨B1, 7, none⟩ = some (.int .i64 0) ∧ W.cell? ⟨B2, 0, none⟩ = some (.slice none 0 0) ∧ W.cell? ⟨B2, 1, none⟩ = some (.slice none 0 0) ∧ W.cell? ⟨B2, 2, none⟩ = some (.slice none 0 0) ∧ W.cell? ⟨B2, 3, none⟩ = some (.int .i64 0) ∧ W.cell? ⟨B2, 4, none⟩ = some (.int .i64 0) ∧ W.cell? ⟨B2, 5, none⟩ = some (.int .i64 0) ∧ W.cell? ⟨B2, 6, none⟩ = some (.int .i64 0) ∧ W.cell? ⟨B2, 7, none⟩ = some (.int .i64 0)) := fun W hW => by
      have kk := K0.out.trans (hW.mono K0.out.size)
      obtain ⟨x0, x1, x2⟩ := pl_cells (BX.out W kk).1
      obtain ⟨y0, y1, y2, y3, y4, y5, y6, y7⟩ := st_cells (BX.out W kk).2
      obtain ⟨u0, u1, u2, u3, u4, u5, u6, u7⟩ := st_cells (plan_keep HB.out hW)
      obtain ⟨t0, t1, t2, t3, t4, t5, t6, t7⟩ := st_cells (plan_keep HWB.out hW)
      exact ⟨x0, x1, x2, y0, y1, y2, y3, y4, y5, y6, y7, u0, u1, u2, u3, u4, u5, u6, u7, t0, t1, t2, t3, t4, t5, t6, t7⟩
    go_wp2_with fail
    rw [← HW6.out, ← HB2.out]
    refine wp_region_held_drew (S := fun W => W.cell? ⟨w.heap.size, 0, none⟩ = some (.slice a1 n1 c1) ∧ W.cell? ⟨w.heap.size, 1, none⟩ = some (.slice a2 n2 c2) ∧ W.cell? ⟨w.heap.size, 2, none⟩ = some (.slice a3 n3 c3) ∧ W.cell? ⟨w.heap.size + 1, 0, none⟩ = some (.slice b1 m1 d1) ∧ W.cell? ⟨w.heap.size + 1, 1, none⟩ = some (.slice b2 m2 d2) ∧ W.cell? ⟨w.heap.size + 1, 2, none⟩ = some (.slice b3 m3 d3) ∧ W.cell? ⟨w.heap.size + 1, 3, none⟩ = some (.int .i64 s.nextSeq) ∧ W.cell? ⟨w.heap.size + 1, 4, none⟩ = some (.int .i64 s.nextTag) ∧ W.cell? ⟨w.heap.size + 1, 5, none⟩ = some (.int .i64 s.came) ∧ W.cell? ⟨w.heap.size + 1, 6, none⟩ = some (.int .i64 s.acked) ∧ W.cell? ⟨w.heap.size + 1, 7, none⟩ = some (.int .i64 s.dropped) ∧ W.cell? ⟨B1, 0, none⟩ = some (.slice none 0 0) ∧ W.cell? ⟨B1, 1, none⟩ = some (.slice none 0 0) ∧ W.cell? ⟨B1, 2, none⟩ = some (.slice none 0 0) ∧ W.cell? ⟨B1, 3, none⟩ = some (.int .i64 0) ∧ W.cell? ⟨B1, 4, none⟩ = some (.int .i64 0) ∧ W.cell? ⟨B1, 5, none⟩ = some (.int .i64 0) ∧ W.cell? ⟨B1, 6, none⟩ = some (.int .i64 0) ∧ W.cell? ⟨B1, 7, none⟩ = some (.int .i64 0) ∧ W.cell? ⟨B2, 0, none⟩ = some (.slice none 0 0) ∧ W.cell? ⟨B2, 1, none⟩ = some (.slice none 0 0) ∧ W.cell? ⟨B2, 2, none⟩ = some (.slice none 0 0) ∧ W.cell? ⟨B2, 3, none⟩ = some (.int .i64 0) ∧ W.cell? ⟨B2, 4, none⟩ = some (.int .i64 0) ∧ W.cell? ⟨B2, 5, none⟩ = some (.int .i64 0) ∧ W.cell? ⟨B2, 6, none⟩ = some (.int .i64 0) ∧ W.cell? ⟨B2, 7, none⟩ = some (.int .i64 0)) (by kernel_rfl) (SS.out _ (Below.refl _ _).drew) (fun hHeld => ?_)
    obtain ⟨v0, hv0⟩ : ∃ v0, v0 = W6.drew := ⟨_, rfl⟩
    have r0 : Below W6.heap.size W6 v0 := by rw [hv0]; exact (Below.refl _ _).drew
    rw [← hv0] at hHeld ⊢
    clear hv0
    refine wpAnyH_ready (rs := [0]) (by kernel_rfl) (by simp) ?_
    refine AllReadyH.cons rfl (fun K hK => ?_) AllReadyH.nil
    go_simp
    refine (stateBegun_any _).mono ?_
    rintro e v1 ⟨rfl, q1⟩
    have r1 := r0.trans (q1.mono r0.size)
    refine hK.out _ _ (SS.out _ r1) (fun hH1 => ?_)
    clear hK K hHeld
    (try simp only [Act.put, List.getElem_toArray, List.getElem_cons_succ, List.getElem_cons_zero, List.setIfInBounds_toArray, List.set_cons_zero, List.set_cons_succ])
    (refine wpAnyH_take (i := 1) (v := ?_) rfl (by kernel_rfl) (by kernel_rfl) (by kernel_rfl) (fun _ _ _ h => h) (Or.inl ⟨by kernel_rfl, ?_⟩) (by assumption) ?_; rotate_left; (focus (intro w hSw; (try dsimp only at hSw); go_simp; (try with_reducible rfl))); (try simp only [Act.put, List.getElem_toArray, List.getElem_cons_succ, List.getElem_cons_zero, List.setIfInBounds_toArray, List.set_cons_zero, List.set_cons_succ]))
    (refine wpAnyH_take (i := 2) (v := ?_) rfl (by kernel_rfl) (by kernel_rfl) (by kernel_rfl) (fun _ _ _ h => h) (Or.inl ⟨by kernel_rfl, ?_⟩) (by assumption) ?_; rotate_left; (focus (intro w hSw; (try dsimp only at hSw); go_simp; (try with_reducible rfl))); (try simp only [Act.put, List.getElem_toArray, List.getElem_cons_succ, List.getElem_cons_zero, List.setIfInBounds_toArray, List.set_cons_zero, List.set_cons_succ]))
    (refine wpAnyH_take (i := 3) (v := ?_) rfl (by kernel_rfl) (by kernel_rfl) (by kernel_rfl) (fun _ _ _ h => h) (Or.inl ⟨by kernel_rfl, ?_⟩) (by assumption) ?_; rotate_left; (focus (intro w hSw; (try dsimp only at hSw); go_simp; (try with_reducible rfl))); (try simp only [Act.put, List.getElem_toArray, List.getElem_cons_succ, List.getElem_cons_zero, List.setIfInBounds_toArray, List.set_cons_zero, List.set_cons_succ]))
    (refine wpAnyH_take (i := 5) (v := ?_) rfl (by kernel_rfl) (by kernel_rfl) (by kernel_rfl) (fun _ _ _ h => h) (Or.inl ⟨by kernel_rfl, ?_⟩) (by assumption) ?_; rotate_left; (focus (intro w hSw; (try dsimp only at hSw); go_simp; (try with_reducible rfl))); (try simp only [Act.put, List.getElem_toArray, List.getElem_cons_succ, List.getElem_cons_zero, List.setIfInBounds_toArray, List.set_cons_zero, List.set_cons_succ]))
    (refine wpAnyH_take (i := 6) (v := ?_) rfl (by kernel_rfl) (by kernel_rfl) (by kernel_rfl) (fun _ _ _ h => h) (Or.inl ⟨by kernel_rfl, ?_⟩) (by assumption) ?_; rotate_left; (focus (intro w hSw; (try dsimp only at hSw); go_simp; (try with_reducible rfl))); (try simp only [Act.put, List.getElem_toArray, List.getElem_cons_succ, List.getElem_cons_zero, List.setIfInBounds_toArray, List.set_cons_zero, List.set_cons_succ]))
    refine wpAnyH_ready (rs := [4]) (by kernel_rfl) (by simp) ?_
    refine AllReadyH.cons rfl (fun K hK => ?_) AllReadyH.nil
    go_simp
    refine (scheck_any p _ _ _ _ _ _ _ _ _ s _ _ _ _ _ _ _ _ _ _ (HP.out.keep (K0.out.trans (r1.mono K0.out.size))) (HS.out.keep (K0.out.trans (r1.mono K0.out.size)))).mono ?_
    rintro e v2 ⟨rfl, q2⟩
    have r2 := r1.trans (q2.mono r1.size)
    rw [← HE.out]
    refine hK.out _ _ (SS.out _ r2) (fun hH2 => ?_)
    clear hK K hH1
    (try simp only [Act.put, List.getElem_toArray, List.getElem_cons_succ, List.getElem_cons_zero, List.setIfInBounds_toArray, List.set_cons_zero, List.set_cons_succ])
    refine wpAnyH_ready (rs := [7]) (by kernel_rfl) (by simp) ?_
    refine AllReadyH.cons rfl (fun K hK => ?_) AllReadyH.nil
    go_simp
    refine (rcheckState_any p _ _ _ _ _ _ _ _ _ s _ _ _ _ _ _ _ _ _ _ (HP.out.keep (K0.out.trans (r2.mono K0.out.size))) (HS.out.keep (K0.out.trans (r2.mono K0.out.size)))).mono ?_
    rintro e v3 ⟨rfl, q3⟩
    have r3 := r2.trans (q3.mono r2.size)
    rw [← HE.out]
    refine hK.out _ _ (SS.out _ r3) (fun hH3 => ?_)
    clear hK K hH2
    (try simp only [Act.put, List.getElem_toArray, List.getElem_cons_succ, List.getElem_cons_zero, List.setIfInBounds_toArray, List.set_cons_zero, List.set_cons_succ])
    (refine wpAnyH_take (i := 8) (v := ?_) rfl (by kernel_rfl) (by kernel_rfl) (by kernel_rfl) (fun _ _ _ h => h) (Or.inl ⟨by kernel_rfl, ?_⟩) (by assumption) ?_; rotate_left; (focus (intro w hSw; (try dsimp only at hSw); go_simp; (try with_reducible rfl))); (try simp only [Act.put, List.getElem_toArray, List.getElem_cons_succ, List.getElem_cons_zero, List.setIfInBounds_toArray, List.set_cons_zero, List.set_cons_succ]))
    (refine wpAnyH_take (i := 9) (v := ?_) rfl (by kernel_rfl) (by kernel_rfl) (by kernel_rfl) (fun _ _ _ h => h) (Or.inl ⟨by kernel_rfl, ?_⟩) (by assumption) ?_; rotate_left; (focus (intro w hSw; (try dsimp only at hSw); go_simp; (try with_reducible rfl))); (try simp only [Act.put, List.getElem_toArray, List.getElem_cons_succ, List.getElem_cons_zero, List.setIfInBounds_toArray, List.set_cons_zero, List.set_cons_succ]))
    (refine wpAnyH_take (i := 10) (v := ?_) rfl (by kernel_rfl) (by kernel_rfl) (by kernel_rfl) (fun _ _ _ h => h) (Or.inl ⟨by kernel_rfl, ?_⟩) (by assumption) ?_; rotate_left; (focus (intro w hSw; (try dsimp only at hSw); go_simp; (try with_reducible rfl))); (try simp only [Act.put, List.getElem_toArray, List.getElem_cons_succ, List.getElem_cons_zero, List.setIfInBounds_toArray, List.set_cons_zero, List.set_cons_succ]))
    (refine wpAnyH_take (i := 11) (v := ?_) rfl (by kernel_rfl) (by kernel_rfl) (by kernel_rfl) (fun _ _ _ h => h) (Or.inl ⟨by kernel_rfl, ?_⟩) (by assumption) ?_; rotate_left; (focus (intro w hSw; (try dsimp only at hSw); go_simp; (try with_reducible rfl))); (try simp only [Act.put, List.getElem_toArray, List.getElem_cons_succ, List.getElem_cons_zero, List.setIfInBounds_toArray, List.set_cons_zero, List.set_cons_succ]))
    (refine wpAnyH_take (i := 12) (v := ?_) rfl (by kernel_rfl) (by kernel_rfl) (by kernel_rfl) (fun _ _ _ h => h) (Or.inl ⟨by kernel_rfl, ?_⟩) (by assumption) ?_; rotate_left; (focus (intro w hSw; (try dsimp only at hSw); go_simp; (try with_reducible rfl))); (try simp only [Act.put, List.getElem_toArray, List.getElem_cons_succ, List.getElem_cons_zero, List.setIfInBounds_toArray, List.set_cons_zero, List.set_cons_succ]))
    (refine wpAnyH_take (i := 13) (v := ?_) rfl (by kernel_rfl) (by kernel_rfl) (by kernel_rfl) (fun _ _ _ h => h) (Or.inl ⟨by kernel_rfl, ?_⟩) (by assumption) ?_; rotate_left; (focus (intro w hSw; (try dsimp only at hSw); go_simp; (try with_reducible rfl))); (try simp only [Act.put, List.getElem_toArray, List.getElem_cons_succ, List.getElem_cons_zero, List.setIfInBounds_toArray, List.set_cons_zero, List.set_cons_succ]))
    (refine wpAnyH_take (i := 14) (v := ?_) rfl (by kernel_rfl) (by kernel_rfl) (by kernel_rfl) (fun _ _ _ h => h) (Or.inl ⟨by kernel_rfl, ?_⟩) (by assumption) ?_; rotate_left; (focus (intro w hSw; (try dsimp only at hSw); go_simp; (try with_reducible rfl))); (try simp only [Act.put, List.getElem_toArray, List.getElem_cons_succ, List.getElem_cons_zero, List.setIfInBounds_toArray, List.set_cons_zero, List.set_cons_succ]))
    (refine wpAnyH_take (i := 15) (v := ?_) rfl (by kernel_rfl) (by kernel_rfl) (by kernel_rfl) (fun _ _ _ h => h) (Or.inl ⟨by kernel_rfl, ?_⟩) (by assumption) ?_; rotate_left; (focus (intro w hSw; (try dsimp only at hSw); go_simp; (try with_reducible rfl))); (try simp only [Act.put, List.getElem_toArray, List.getElem_cons_succ, List.getElem_cons_zero, List.setIfInBounds_toArray, List.set_cons_zero, List.set_cons_succ]))
    (refine wpAnyH_take (i := 16) (v := ?_) rfl (by kernel_rfl) (by kernel_rfl) (by kernel_rfl) (fun _ _ _ h => h) (Or.inl ⟨by kernel_rfl, ?_⟩) (by assumption) ?_; rotate_left; (focus (intro w hSw; (try dsimp only at hSw); go_simp; (try with_reducible rfl))); (try simp only [Act.put, List.getElem_toArray, List.getElem_cons_succ, List.getElem_cons_zero, List.setIfInBounds_toArray, List.set_cons_zero, List.set_cons_succ]))
    (refine wpAnyH_take (i := 17) (v := ?_) rfl (by kernel_rfl) (by kernel_rfl) (by kernel_rfl) (fun _ _ _ h => h) (Or.inl ⟨by kernel_rfl, ?_⟩) (by assumption) ?_; rotate_left; (focus (intro w hSw; (try dsimp only at hSw); go_simp; (try with_reducible rfl))); (try simp only [Act.put, List.getElem_toArray, List.getElem_cons_succ, List.getElem_cons_zero, List.setIfInBounds_toArray, List.set_cons_zero, List.set_cons_succ]))
    refine wpAnyH_ready (rs := [18]) (by kernel_rfl) (by simp) ?_
    refine AllReadyH.cons rfl (fun K hK => ?_) AllReadyH.nil
    go_simp
    refine (same_begin 0 _ _ _ _ _ (by omega) (.inl rfl) (.inl rfl)).mono ?_
    rintro e v4 ⟨rfl, q4⟩
    have r4 := r3.trans (q4.mono r3.size)
    refine hK.out _ _ (SS.out _ r4) (fun hH4 => ?_)
    clear hK K hH3
    (try simp only [Act.put, List.getElem_toArray, List.getElem_cons_succ, List.getElem_cons_zero, List.setIfInBounds_toArray, List.set_cons_zero, List.set_cons_succ])
    (refine wpAnyH_take (i := 19) (v := ?_) rfl (by kernel_rfl) (by kernel_rfl) (by kernel_rfl) (fun _ _ _ h => h) (Or.inl ⟨by kernel_rfl, ?_⟩) (by assumption) ?_; rotate_left; (focus (intro w hSw; (try dsimp only at hSw); go_simp; (try with_reducible rfl))); (try simp only [Act.put, List.getElem_toArray, List.getElem_cons_succ, List.getElem_cons_zero, List.setIfInBounds_toArray, List.set_cons_zero, List.set_cons_succ]))
    (refine wpAnyH_take (i := 20) (v := ?_) rfl (by kernel_rfl) (by kernel_rfl) (by kernel_rfl) (fun _ _ _ h => h) (Or.inl ⟨by kernel_rfl, ?_⟩) (by assumption) ?_; rotate_left; (focus (intro w hSw; (try dsimp only at hSw); go_simp; (try with_reducible rfl))); (try simp only [Act.put, List.getElem_toArray, List.getElem_cons_succ, List.getElem_cons_zero, List.setIfInBounds_toArray, List.set_cons_zero, List.set_cons_succ]))
    refine wpAnyH_done (by kernel_rfl) ?_ _
    go_wp2_with fail
    go_ret
    exact ⟨rfl, HBW.out.trans ((K0.out.trans (r4.mono K0.out.size)).mono s0)⟩
end Go.Proofs.Ytpoichgodamnkaa
