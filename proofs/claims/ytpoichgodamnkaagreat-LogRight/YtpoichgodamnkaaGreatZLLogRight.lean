/- The walk of the law LogRight. -/
import Derived.Test.YtpoichgodamnkaaGreatKux
namespace Go.Proofs.YtpoichgodamnkaaGreat
open Go.RowKit Go.Maps
set_option linter.unusedVariables false
set_option maxRecDepth 100000
set_option maxHeartbeats 8000000
theorem psa_boxed (w : World) (pv sv av : Array Value) : ∃ W3, W3 = ((w.alloc (.cells pv 26)).alloc (.cells sv 31)).alloc (.cells av 72) ∧ Below w.heap.size w W3 ∧ W3.heap.size = w.heap.size + 3 ∧
 ∀ W', Below W3.heap.size W3 W' → W'.heap[w.heap.size]? = some (.cells pv 26 (0, 0)) ∧ W'.heap[w.heap.size + 1]? = some (.cells sv 31 (0, 0)) ∧ W'.heap[w.heap.size + 2]? = some (.cells av 72 (0, 0)) := by
 obtain ⟨hz, hg, hB⟩ := allocs_heap [.cells pv 26, .cells sv 31, .cells av 72] w
 refine ⟨_, rfl, hB, hz, fun W' hW => ⟨pkp_ (hg 0 _ rfl) hW, pkp_ (hg 1 _ rfl) hW, pkp_ (hg 2 _ rfl) hW⟩⟩
theorem act_cells {W : World} {B : Nat} {v0 v1 v2 v3 v4 : Value} {t : TypeId} (h : W.heap[B]? = some (.cells #[v0, v1, v2, v3, v4] t (0, 0))) : W.cell? ⟨B, 0, none⟩ = some v0 ∧ W.cell? ⟨B, 1, none⟩ = some v1 ∧ W.cell? ⟨B, 2, none⟩ = some v2 ∧ W.cell? ⟨B, 3, none⟩ = some v3 ∧ W.cell? ⟨B, 4, none⟩ = some v4 :=
 ⟨coc_ h 0, coc_ h 1, coc_ h 2, coc_ h 3, coc_ h 4⟩
theorem walk_LogRight (p : PlanD) (a1 a2 a3 : Option Addr) (n1 c1 n2 c2 n3 c3 : Nat) (s : StateD) (b1 b2 b3 : Option Addr) (m1 d1 m2 d2 m3 d3 : Nat) (x : ActD) (nn : Int) (kz : ByteArray) (w : World) (hp : PlanAt w a1 a2 a3 n1 n2 n3 p) (hs : StateAt w b1 b2 b3 m1 m2 m3 s) (hn2 : b2 = none → d2 = 0) (hn3 : b3 = none → d3 = 0) :
 Calls Tryz.prog 19 #[.agg #[.slice a1 n1 c1, .slice a2 n2 c2, .slice a3 n3 c3], .agg #[.slice b1 m1 d1, .slice b2 m2 d2, .slice b3 m3 d3, .int .i64 s.nextSeq, .int .i64 s.nextTag, .int .i64 s.came, .int .i64 s.acked, .int .i64 s.dropped], x.val, .int .i64 nn, .string kz] w fun e w' => e = .returned (.bool true) ∧ Below w.heap.size w w' := by
 obtain ⟨kd, ka, kb, ky, bd⟩ := x
 show Calls Tryz.prog 19 #[.agg #[.slice a1 n1 c1, .slice a2 n2 c2, .slice a3 n3 c3], .agg #[.slice b1 m1 d1, .slice b2 m2 d2, .slice b3 m3 d3, .int .i64 s.nextSeq, .int .i64 s.nextTag, .int .i64 s.came, .int .i64 s.acked, .int .i64 s.dropped], .agg #[.int .i64 kd, .int .i64 ka, .int .i64 kb, .string ky, .string bd], .int .i64 nn, .string kz] w _
 obtain ⟨W2, hW2, hBw, hs2, hbx⟩ := psa_boxed w #[.slice a1 n1 c1, .slice a2 n2 c2, .slice a3 n3 c3] #[.slice b1 m1 d1, .slice b2 m2 d2, .slice b3 m3 d3, .int .i64 s.nextSeq, .int .i64 s.nextTag, .int .i64 s.came, .int .i64 s.acked, .int .i64 s.dropped] #[.int .i64 kd, .int .i64 ka, .int .i64 kb, .string ky, .string bd]
 have HW2 := hidI hW2
 have HS2 := hidI hs2
 have BX := hidI hbx
 have HS := hidI (hs.keep hBw)
 have HP := hidI (hp.keep hBw)
 have HN2 := hidI hn2
 have HN3 := hidI hn3
 have s0 := hBw.size
 have HBW := hidI hBw
 obtain ⟨E, hE⟩ : ∃ E, E = doE p s ⟨kd, ka, kb, ky, bd⟩ := ⟨_, rfl⟩
 have HE := hidI hE
 obtain ⟨x0, x1, x2⟩ := pl_cells (hbx W2 (Below.refl _ _)).1
 obtain ⟨y0, y1, y2, y3, y4, y5, y6, y7⟩ := st_cells (hbx W2 (Below.refl _ _)).2.1
 obtain ⟨c0, c1, c2, c3, c4⟩ := act_cells (hbx W2 (Below.refl _ _)).2.2
 clear hW2 hbx hs2 hp hs hBw hn2 hn3 hE
 go_enter Tryz.func19, Tryz.ntmps19
 go_wp2_with fail
 rw [← HW2.out]
 refine (do_any p _ _ _ _ _ _ _ _ _ s _ _ _ _ _ _ _ _ _ ⟨kd, ka, kb, ky, bd⟩ _ HP.out HS.out HN2.out HN3.out).mono ?_
 rintro e u1 ⟨v1, rfl, hr, kk⟩
 rw [← HE.out] at hr ⊢
 obtain ⟨z11, z12, z13, t11, e11, t12, e12, t13, e13, i11, i12, i13, i14, i15, rfl⟩ := hr.shape
 obtain ⟨w1, hw, lw, hb⟩ := boxed_res hr
 have K1 := hidI (kk.trans (lw.mono kk.size))
 have HW1 := hidI hw
 have HB1 := hidI hb
 obtain ⟨B1, hB⟩ : ∃ B1, B1 = u1.heap.size := ⟨_, rfl⟩
 rw [← hB] at HB1
 have HBB1 := hidI hB
 clear x0 x1 x2 y0 y1 y2 y3 y4 y5 y6 y7 c0 c1 c2 c3 c4 hr hw lw hb hB kk
 go_upto_region 2 with fail
 rw [← HW1.out, ← HBB1.out]
 by_cases z1 : E ≠ 0
 ·have g1 : (E != 0) = true := bne_iff_ne.2 z1
  clear z1
  go_wp2_with fail
  refine (logBegun_any _).mono ?_
  rintro e w7 ⟨rfl, k7⟩
  go_wp2_with fail
  go_ret
  exact ⟨rfl, HBW.out.trans ((K1.out.trans (k7.mono K1.out.size)).mono s0)⟩
 rw [Classical.not_not] at z1
 subst z1
 have DN := hidI (do_done HE.out.symm)
 obtain ⟨c0, c1, c2, c3, c4⟩ := act_cells (BX.out w1 K1.out).2.2
 have g0 : ((0 : Int) != 0) = false := rfl
 have hb2 : w.heap.size + 2 < w1.heap.size := by have h1 := K1.out.size; have h2 := HS2.out; omega
 have hb2' : w.heap.size + 1 + 1 < w1.heap.size := hb2
 have hk : kd = 1 ∨ kd = 2 ∨ kd = 3 ∨ kd = 4 ∨ kd = 5 ∨ kd = 6 := by
  apply Classical.byContradiction
  intro hn
  simp only [not_or] at hn
  have h := HE.out
  unfold doE at h
  dsimp only at h
  rw [if_neg hn.1, if_neg hn.2.1, if_neg hn.2.2.1, if_neg hn.2.2.2.1, if_neg hn.2.2.2.2.1, if_neg hn.2.2.2.2.2] at h
  exact absurd h (by decide)
 rcases hk with rfl | rfl | rfl | rfl | rfl | rfl
 ·have HY : Hid (doE p s ⟨1, ka, nn, ky, bd⟩ = 0 ∧ doS p s ⟨1, ka, nn, ky, bd⟩ = doS p s ⟨1, ka, kb, ky, bd⟩) := ⟨HE.out.symm, rfl⟩
  go_upto_region 15 with fail
  obtain ⟨w2, hw2⟩ : ∃ w2, w2 = w1.alloc (.cells #[.int .i64 1, .int .i64 ka, .int .i64 nn, .string ky, .string bd] 72) := ⟨_, rfl⟩
  have l2 : Below w1.heap.size w1 w2 := by rw [hw2]; exact (Below.refl _ _).alloc (Nat.le_refl _) _
  have hx2 : w2.heap[w1.heap.size]? = some (.cells #[.int .i64 1, .int .i64 ka, .int .i64 nn, .string ky, .string bd] 72 (0, 0)) := by rw [hw2]; exact World.alloc_heap_new w1 _
  rw [← hw2]
  have K2 := hidI (K1.out.trans (l2.mono K1.out.size))
  have HB2 := hidI (HB1.out.keep l2)
  have L2 := hidI l2
  clear c0 c1 c2 c3 c4 g0 hw2 l2
  obtain ⟨c0, c1, c2, c3, c4⟩ := act_cells hx2
  obtain ⟨x0, x1, x2⟩ := pl_cells (BX.out w2 K2.out).1
  obtain ⟨y0, y1, y2, y3, y4, y5, y6, y7⟩ := st_cells (BX.out w2 K2.out).2.1
  clear hx2
  go_wp2_with fail
  refine (do_any p _ _ _ _ _ _ _ _ _ s _ _ _ _ _ _ _ _ _ ⟨1, ka, nn, ky, bd⟩ _ (HP.out.keep K2.out) (HS.out.keep K2.out) HN2.out HN3.out).mono ?_
  rintro e u3 ⟨v3, rfl, hr, kk⟩
  rw [HY.out.1, HY.out.2] at hr
  rw [HY.out.1]
  obtain ⟨z21, z22, z23, t21, e21, t22, e22, t23, e23, i21, i22, i23, i24, i25, rfl⟩ := hr.shape
  obtain ⟨w3, hw, lw, hb⟩ := boxed_res hr
  have D3 := hidI (kk.trans (lw.mono kk.size))
  have K3 := hidI (K2.out.trans (D3.out.mono K2.out.size))
  have HW3 := hidI hw
  have HB3 := hidI hb
  obtain ⟨B3, hB⟩ : ∃ B3, B3 = u3.heap.size := ⟨_, rfl⟩
  rw [← hB] at HB3
  have HBB3 := hidI hB
  clear x0 x1 x2 y0 y1 y2 y3 y4 y5 y6 y7 c0 c1 c2 c3 c4 hr hw lw hb hB kk
  go_upto_region 16 with fail
  rw [← HW3.out, ← HBB3.out]
  go_wp2_with fail
  refine (logBegun_any _).mono ?_
  rintro e w4 ⟨rfl, l4⟩
  have K4 := hidI (K3.out.trans (l4.mono K3.out.size))
  have Q2 : Below w2.heap.size w2 w4 := D3.out.trans (l4.mono D3.out.size)
  have HB1q := hidI (HB2.out.keep Q2)
  have HB3q := hidI (HB3.out.keep l4)
  have hst := (HB1q.out.res.1 rfl).st
  clear Q2 l4
  obtain ⟨f1, f2, f3, o1, r1, o2, r2, o3, r3, hv, hsv, hnv⟩ := hst
  have HSV := hidI hsv
  obtain ⟨x0, x1, x2⟩ := pl_cells (BX.out w4 K4.out).1
  obtain ⟨y0, y1, y2, y3, y4, y5, y6, y7⟩ := st_cells HB1q.out.box
  cases hv
  clear hsv hnv
  go_wp2_with fail
  refine (scheck_any p _ _ _ _ _ _ _ _ _ (doS p s ⟨1, ka, kb, ky, bd⟩) _ _ _ _ _ _ _ _ _ _ (HP.out.keep K4.out) HSV.out).mono ?_
  rintro e w5 ⟨rfl, l5⟩
  rw [DN.out.right.ok]
  have K5 := hidI (K4.out.trans (l5.mono K4.out.size))
  have HB1r := hidI (HB1q.out.keep l5)
  have HB3r := hidI (HB3q.out.keep l5)
  clear x0 x1 x2 y0 y1 y2 y3 y4 y5 y6 y7 l5
  obtain ⟨x0, x1, x2, x3, x4, x5, x6, x7⟩ := st_cells HB1r.out.box
  obtain ⟨y0, y1, y2, y3, y4, y5, y6, y7⟩ := st_cells HB3r.out.box
  have SR := hidI (same_res HB1r.out.res HB3r.out.res)
  have g0 : ((0 : Int) == 0) = true := rfl
  go_wp2_with fail
  refine SR.out.mono ?_
  rintro e w6 ⟨rfl, l6⟩
  have K6 := hidI (K5.out.trans (l6.mono K5.out.size))
  clear x0 x1 x2 x3 x4 x5 x6 x7 y0 y1 y2 y3 y4 y5 y6 y7 l6 SR
  go_wp2_with fail
  go_ret
  exact ⟨rfl, HBW.out.trans (K6.out.mono s0)⟩
 ·have HY : Hid (doE p s ⟨2, ka, kb, kz, kz⟩ = 0 ∧ doS p s ⟨2, ka, kb, kz, kz⟩ = doS p s ⟨2, ka, kb, ky, bd⟩) := ⟨HE.out.symm, rfl⟩
  go_upto_region 15 with fail
  obtain ⟨w2, hw2⟩ : ∃ w2, w2 = w1.alloc (.cells #[.int .i64 2, .int .i64 ka, .int .i64 kb, .string kz, .string kz] 72) := ⟨_, rfl⟩
  have l2 : Below w1.heap.size w1 w2 := by rw [hw2]; exact (Below.refl _ _).alloc (Nat.le_refl _) _
  have hx2 : w2.heap[w1.heap.size]? = some (.cells #[.int .i64 2, .int .i64 ka, .int .i64 kb, .string kz, .string kz] 72 (0, 0)) := by rw [hw2]; exact World.alloc_heap_new w1 _
  rw [← hw2]
  have K2 := hidI (K1.out.trans (l2.mono K1.out.size))
  have HB2 := hidI (HB1.out.keep l2)
  have L2 := hidI l2
  clear c0 c1 c2 c3 c4 g0 hw2 l2
  obtain ⟨c0, c1, c2, c3, c4⟩ := act_cells hx2
  obtain ⟨x0, x1, x2⟩ := pl_cells (BX.out w2 K2.out).1
  obtain ⟨y0, y1, y2, y3, y4, y5, y6, y7⟩ := st_cells (BX.out w2 K2.out).2.1
  clear hx2
  go_wp2_with fail
  refine (do_any p _ _ _ _ _ _ _ _ _ s _ _ _ _ _ _ _ _ _ ⟨2, ka, kb, kz, kz⟩ _ (HP.out.keep K2.out) (HS.out.keep K2.out) HN2.out HN3.out).mono ?_
  rintro e u3 ⟨v3, rfl, hr, kk⟩
  rw [HY.out.1, HY.out.2] at hr
  rw [HY.out.1]
  obtain ⟨z21, z22, z23, t21, e21, t22, e22, t23, e23, i21, i22, i23, i24, i25, rfl⟩ := hr.shape
  obtain ⟨w3, hw, lw, hb⟩ := boxed_res hr
  have D3 := hidI (kk.trans (lw.mono kk.size))
  have K3 := hidI (K2.out.trans (D3.out.mono K2.out.size))
  have HW3 := hidI hw
  have HB3 := hidI hb
  obtain ⟨B3, hB⟩ : ∃ B3, B3 = u3.heap.size := ⟨_, rfl⟩
  rw [← hB] at HB3
  have HBB3 := hidI hB
  clear x0 x1 x2 y0 y1 y2 y3 y4 y5 y6 y7 c0 c1 c2 c3 c4 hr hw lw hb hB kk
  go_upto_region 16 with fail
  rw [← HW3.out, ← HBB3.out]
  go_wp2_with fail
  refine (logBegun_any _).mono ?_
  rintro e w4 ⟨rfl, l4⟩
  have K4 := hidI (K3.out.trans (l4.mono K3.out.size))
  have Q2 : Below w2.heap.size w2 w4 := D3.out.trans (l4.mono D3.out.size)
  have HB1q := hidI (HB2.out.keep Q2)
  have HB3q := hidI (HB3.out.keep l4)
  have hst := (HB1q.out.res.1 rfl).st
  clear Q2 l4
  obtain ⟨f1, f2, f3, o1, r1, o2, r2, o3, r3, hv, hsv, hnv⟩ := hst
  have HSV := hidI hsv
  obtain ⟨x0, x1, x2⟩ := pl_cells (BX.out w4 K4.out).1
  obtain ⟨y0, y1, y2, y3, y4, y5, y6, y7⟩ := st_cells HB1q.out.box
  cases hv
  clear hsv hnv
  go_wp2_with fail
  refine (scheck_any p _ _ _ _ _ _ _ _ _ (doS p s ⟨2, ka, kb, ky, bd⟩) _ _ _ _ _ _ _ _ _ _ (HP.out.keep K4.out) HSV.out).mono ?_
  rintro e w5 ⟨rfl, l5⟩
  rw [DN.out.right.ok]
  have K5 := hidI (K4.out.trans (l5.mono K4.out.size))
  have HB1r := hidI (HB1q.out.keep l5)
  have HB3r := hidI (HB3q.out.keep l5)
  clear x0 x1 x2 y0 y1 y2 y3 y4 y5 y6 y7 l5
  obtain ⟨x0, x1, x2, x3, x4, x5, x6, x7⟩ := st_cells HB1r.out.box
  obtain ⟨y0, y1, y2, y3, y4, y5, y6, y7⟩ := st_cells HB3r.out.box
  have SR := hidI (same_res HB1r.out.res HB3r.out.res)
  have g0 : ((0 : Int) == 0) = true := rfl
  go_wp2_with fail
  refine SR.out.mono ?_
  rintro e w6 ⟨rfl, l6⟩
  have K6 := hidI (K5.out.trans (l6.mono K5.out.size))
  clear x0 x1 x2 x3 x4 x5 x6 x7 y0 y1 y2 y3 y4 y5 y6 y7 l6 SR
  go_wp2_with fail
  go_ret
  exact ⟨rfl, HBW.out.trans (K6.out.mono s0)⟩
 ·have HY : Hid (doE p s ⟨3, ka, nn, kz, kz⟩ = 0 ∧ doS p s ⟨3, ka, nn, kz, kz⟩ = doS p s ⟨3, ka, kb, ky, bd⟩) := ⟨HE.out.symm, rfl⟩
  go_upto_region 15 with fail
  obtain ⟨w2, hw2⟩ : ∃ w2, w2 = w1.alloc (.cells #[.int .i64 3, .int .i64 ka, .int .i64 nn, .string kz, .string kz] 72) := ⟨_, rfl⟩
  have l2 : Below w1.heap.size w1 w2 := by rw [hw2]; exact (Below.refl _ _).alloc (Nat.le_refl _) _
  have hx2 : w2.heap[w1.heap.size]? = some (.cells #[.int .i64 3, .int .i64 ka, .int .i64 nn, .string kz, .string kz] 72 (0, 0)) := by rw [hw2]; exact World.alloc_heap_new w1 _
  rw [← hw2]
  have K2 := hidI (K1.out.trans (l2.mono K1.out.size))
  have HB2 := hidI (HB1.out.keep l2)
  have L2 := hidI l2
  clear c0 c1 c2 c3 c4 g0 hw2 l2
  obtain ⟨c0, c1, c2, c3, c4⟩ := act_cells hx2
  obtain ⟨x0, x1, x2⟩ := pl_cells (BX.out w2 K2.out).1
  obtain ⟨y0, y1, y2, y3, y4, y5, y6, y7⟩ := st_cells (BX.out w2 K2.out).2.1
  clear hx2
  go_wp2_with fail
  refine (do_any p _ _ _ _ _ _ _ _ _ s _ _ _ _ _ _ _ _ _ ⟨3, ka, nn, kz, kz⟩ _ (HP.out.keep K2.out) (HS.out.keep K2.out) HN2.out HN3.out).mono ?_
  rintro e u3 ⟨v3, rfl, hr, kk⟩
  rw [HY.out.1, HY.out.2] at hr
  rw [HY.out.1]
  obtain ⟨z21, z22, z23, t21, e21, t22, e22, t23, e23, i21, i22, i23, i24, i25, rfl⟩ := hr.shape
  obtain ⟨w3, hw, lw, hb⟩ := boxed_res hr
  have D3 := hidI (kk.trans (lw.mono kk.size))
  have K3 := hidI (K2.out.trans (D3.out.mono K2.out.size))
  have HW3 := hidI hw
  have HB3 := hidI hb
  obtain ⟨B3, hB⟩ : ∃ B3, B3 = u3.heap.size := ⟨_, rfl⟩
  rw [← hB] at HB3
  have HBB3 := hidI hB
  clear x0 x1 x2 y0 y1 y2 y3 y4 y5 y6 y7 c0 c1 c2 c3 c4 hr hw lw hb hB kk
  go_upto_region 16 with fail
  rw [← HW3.out, ← HBB3.out]
  go_wp2_with fail
  refine (logBegun_any _).mono ?_
  rintro e w4 ⟨rfl, l4⟩
  have K4 := hidI (K3.out.trans (l4.mono K3.out.size))
  have Q2 : Below w2.heap.size w2 w4 := D3.out.trans (l4.mono D3.out.size)
  have HB1q := hidI (HB2.out.keep Q2)
  have HB3q := hidI (HB3.out.keep l4)
  have hst := (HB1q.out.res.1 rfl).st
  clear Q2 l4
  obtain ⟨f1, f2, f3, o1, r1, o2, r2, o3, r3, hv, hsv, hnv⟩ := hst
  have HSV := hidI hsv
  obtain ⟨x0, x1, x2⟩ := pl_cells (BX.out w4 K4.out).1
  obtain ⟨y0, y1, y2, y3, y4, y5, y6, y7⟩ := st_cells HB1q.out.box
  cases hv
  clear hsv hnv
  go_wp2_with fail
  refine (scheck_any p _ _ _ _ _ _ _ _ _ (doS p s ⟨3, ka, kb, ky, bd⟩) _ _ _ _ _ _ _ _ _ _ (HP.out.keep K4.out) HSV.out).mono ?_
  rintro e w5 ⟨rfl, l5⟩
  rw [DN.out.right.ok]
  have K5 := hidI (K4.out.trans (l5.mono K4.out.size))
  have HB1r := hidI (HB1q.out.keep l5)
  have HB3r := hidI (HB3q.out.keep l5)
  clear x0 x1 x2 y0 y1 y2 y3 y4 y5 y6 y7 l5
  obtain ⟨x0, x1, x2, x3, x4, x5, x6, x7⟩ := st_cells HB1r.out.box
  obtain ⟨y0, y1, y2, y3, y4, y5, y6, y7⟩ := st_cells HB3r.out.box
  have SR := hidI (same_res HB1r.out.res HB3r.out.res)
  have g0 : ((0 : Int) == 0) = true := rfl
  go_wp2_with fail
  refine SR.out.mono ?_
  rintro e w6 ⟨rfl, l6⟩
  have K6 := hidI (K5.out.trans (l6.mono K5.out.size))
  clear x0 x1 x2 x3 x4 x5 x6 x7 y0 y1 y2 y3 y4 y5 y6 y7 l6 SR
  go_wp2_with fail
  go_ret
  exact ⟨rfl, HBW.out.trans (K6.out.mono s0)⟩
 ·have HY : Hid (doE p s ⟨4, ka, nn, kz, kz⟩ = 0 ∧ doS p s ⟨4, ka, nn, kz, kz⟩ = doS p s ⟨4, ka, kb, ky, bd⟩) := ⟨HE.out.symm, rfl⟩
  go_upto_region 15 with fail
  obtain ⟨w2, hw2⟩ : ∃ w2, w2 = w1.alloc (.cells #[.int .i64 4, .int .i64 ka, .int .i64 nn, .string kz, .string kz] 72) := ⟨_, rfl⟩
  have l2 : Below w1.heap.size w1 w2 := by rw [hw2]; exact (Below.refl _ _).alloc (Nat.le_refl _) _
  have hx2 : w2.heap[w1.heap.size]? = some (.cells #[.int .i64 4, .int .i64 ka, .int .i64 nn, .string kz, .string kz] 72 (0, 0)) := by rw [hw2]; exact World.alloc_heap_new w1 _
  rw [← hw2]
  have K2 := hidI (K1.out.trans (l2.mono K1.out.size))
  have HB2 := hidI (HB1.out.keep l2)
  have L2 := hidI l2
  clear c0 c1 c2 c3 c4 g0 hw2 l2
  obtain ⟨c0, c1, c2, c3, c4⟩ := act_cells hx2
  obtain ⟨x0, x1, x2⟩ := pl_cells (BX.out w2 K2.out).1
  obtain ⟨y0, y1, y2, y3, y4, y5, y6, y7⟩ := st_cells (BX.out w2 K2.out).2.1
  clear hx2
  go_wp2_with fail
  refine (do_any p _ _ _ _ _ _ _ _ _ s _ _ _ _ _ _ _ _ _ ⟨4, ka, nn, kz, kz⟩ _ (HP.out.keep K2.out) (HS.out.keep K2.out) HN2.out HN3.out).mono ?_
  rintro e u3 ⟨v3, rfl, hr, kk⟩
  rw [HY.out.1, HY.out.2] at hr
  rw [HY.out.1]
  obtain ⟨z21, z22, z23, t21, e21, t22, e22, t23, e23, i21, i22, i23, i24, i25, rfl⟩ := hr.shape
  obtain ⟨w3, hw, lw, hb⟩ := boxed_res hr
  have D3 := hidI (kk.trans (lw.mono kk.size))
  have K3 := hidI (K2.out.trans (D3.out.mono K2.out.size))
  have HW3 := hidI hw
  have HB3 := hidI hb
  obtain ⟨B3, hB⟩ : ∃ B3, B3 = u3.heap.size := ⟨_, rfl⟩
  rw [← hB] at HB3
  have HBB3 := hidI hB
  clear x0 x1 x2 y0 y1 y2 y3 y4 y5 y6 y7 c0 c1 c2 c3 c4 hr hw lw hb hB kk
  go_upto_region 16 with fail
  rw [← HW3.out, ← HBB3.out]
  go_wp2_with fail
  refine (logBegun_any _).mono ?_
  rintro e w4 ⟨rfl, l4⟩
  have K4 := hidI (K3.out.trans (l4.mono K3.out.size))
  have Q2 : Below w2.heap.size w2 w4 := D3.out.trans (l4.mono D3.out.size)
  have HB1q := hidI (HB2.out.keep Q2)
  have HB3q := hidI (HB3.out.keep l4)
  have hst := (HB1q.out.res.1 rfl).st
  clear Q2 l4
  obtain ⟨f1, f2, f3, o1, r1, o2, r2, o3, r3, hv, hsv, hnv⟩ := hst
  have HSV := hidI hsv
  obtain ⟨x0, x1, x2⟩ := pl_cells (BX.out w4 K4.out).1
  obtain ⟨y0, y1, y2, y3, y4, y5, y6, y7⟩ := st_cells HB1q.out.box
  cases hv
  clear hsv hnv
  go_wp2_with fail
  refine (scheck_any p _ _ _ _ _ _ _ _ _ (doS p s ⟨4, ka, kb, ky, bd⟩) _ _ _ _ _ _ _ _ _ _ (HP.out.keep K4.out) HSV.out).mono ?_
  rintro e w5 ⟨rfl, l5⟩
  rw [DN.out.right.ok]
  have K5 := hidI (K4.out.trans (l5.mono K4.out.size))
  have HB1r := hidI (HB1q.out.keep l5)
  have HB3r := hidI (HB3q.out.keep l5)
  clear x0 x1 x2 y0 y1 y2 y3 y4 y5 y6 y7 l5
  obtain ⟨x0, x1, x2, x3, x4, x5, x6, x7⟩ := st_cells HB1r.out.box
  obtain ⟨y0, y1, y2, y3, y4, y5, y6, y7⟩ := st_cells HB3r.out.box
  have SR := hidI (same_res HB1r.out.res HB3r.out.res)
  have g0 : ((0 : Int) == 0) = true := rfl
  go_wp2_with fail
  refine SR.out.mono ?_
  rintro e w6 ⟨rfl, l6⟩
  have K6 := hidI (K5.out.trans (l6.mono K5.out.size))
  clear x0 x1 x2 x3 x4 x5 x6 x7 y0 y1 y2 y3 y4 y5 y6 y7 l6 SR
  go_wp2_with fail
  go_ret
  exact ⟨rfl, HBW.out.trans (K6.out.mono s0)⟩
 ·have HY : Hid (doE p s ⟨5, ka, nn, kz, kz⟩ = 0 ∧ doS p s ⟨5, ka, nn, kz, kz⟩ = doS p s ⟨5, ka, kb, ky, bd⟩) := ⟨HE.out.symm, rfl⟩
  go_upto_region 15 with fail
  obtain ⟨w2, hw2⟩ : ∃ w2, w2 = w1.alloc (.cells #[.int .i64 5, .int .i64 ka, .int .i64 nn, .string kz, .string kz] 72) := ⟨_, rfl⟩
  have l2 : Below w1.heap.size w1 w2 := by rw [hw2]; exact (Below.refl _ _).alloc (Nat.le_refl _) _
  have hx2 : w2.heap[w1.heap.size]? = some (.cells #[.int .i64 5, .int .i64 ka, .int .i64 nn, .string kz, .string kz] 72 (0, 0)) := by rw [hw2]; exact World.alloc_heap_new w1 _
  rw [← hw2]
  have K2 := hidI (K1.out.trans (l2.mono K1.out.size))
  have HB2 := hidI (HB1.out.keep l2)
  have L2 := hidI l2
  clear c0 c1 c2 c3 c4 g0 hw2 l2
  obtain ⟨c0, c1, c2, c3, c4⟩ := act_cells hx2
  obtain ⟨x0, x1, x2⟩ := pl_cells (BX.out w2 K2.out).1
  obtain ⟨y0, y1, y2, y3, y4, y5, y6, y7⟩ := st_cells (BX.out w2 K2.out).2.1
  clear hx2
  go_wp2_with fail
  refine (do_any p _ _ _ _ _ _ _ _ _ s _ _ _ _ _ _ _ _ _ ⟨5, ka, nn, kz, kz⟩ _ (HP.out.keep K2.out) (HS.out.keep K2.out) HN2.out HN3.out).mono ?_
  rintro e u3 ⟨v3, rfl, hr, kk⟩
  rw [HY.out.1, HY.out.2] at hr
  rw [HY.out.1]
  obtain ⟨z21, z22, z23, t21, e21, t22, e22, t23, e23, i21, i22, i23, i24, i25, rfl⟩ := hr.shape
  obtain ⟨w3, hw, lw, hb⟩ := boxed_res hr
  have D3 := hidI (kk.trans (lw.mono kk.size))
  have K3 := hidI (K2.out.trans (D3.out.mono K2.out.size))
  have HW3 := hidI hw
  have HB3 := hidI hb
  obtain ⟨B3, hB⟩ : ∃ B3, B3 = u3.heap.size := ⟨_, rfl⟩
  rw [← hB] at HB3
  have HBB3 := hidI hB
  clear x0 x1 x2 y0 y1 y2 y3 y4 y5 y6 y7 c0 c1 c2 c3 c4 hr hw lw hb hB kk
  go_upto_region 16 with fail
  rw [← HW3.out, ← HBB3.out]
  go_wp2_with fail
  refine (logBegun_any _).mono ?_
  rintro e w4 ⟨rfl, l4⟩
  have K4 := hidI (K3.out.trans (l4.mono K3.out.size))
  have Q2 : Below w2.heap.size w2 w4 := D3.out.trans (l4.mono D3.out.size)
  have HB1q := hidI (HB2.out.keep Q2)
  have HB3q := hidI (HB3.out.keep l4)
  have hst := (HB1q.out.res.1 rfl).st
  clear Q2 l4
  obtain ⟨f1, f2, f3, o1, r1, o2, r2, o3, r3, hv, hsv, hnv⟩ := hst
  have HSV := hidI hsv
  obtain ⟨x0, x1, x2⟩ := pl_cells (BX.out w4 K4.out).1
  obtain ⟨y0, y1, y2, y3, y4, y5, y6, y7⟩ := st_cells HB1q.out.box
  cases hv
  clear hsv hnv
  go_wp2_with fail
  refine (scheck_any p _ _ _ _ _ _ _ _ _ (doS p s ⟨5, ka, kb, ky, bd⟩) _ _ _ _ _ _ _ _ _ _ (HP.out.keep K4.out) HSV.out).mono ?_
  rintro e w5 ⟨rfl, l5⟩
  rw [DN.out.right.ok]
  have K5 := hidI (K4.out.trans (l5.mono K4.out.size))
  have HB1r := hidI (HB1q.out.keep l5)
  have HB3r := hidI (HB3q.out.keep l5)
  clear x0 x1 x2 y0 y1 y2 y3 y4 y5 y6 y7 l5
  obtain ⟨x0, x1, x2, x3, x4, x5, x6, x7⟩ := st_cells HB1r.out.box
  obtain ⟨y0, y1, y2, y3, y4, y5, y6, y7⟩ := st_cells HB3r.out.box
  have SR := hidI (same_res HB1r.out.res HB3r.out.res)
  have g0 : ((0 : Int) == 0) = true := rfl
  go_wp2_with fail
  refine SR.out.mono ?_
  rintro e w6 ⟨rfl, l6⟩
  have K6 := hidI (K5.out.trans (l6.mono K5.out.size))
  clear x0 x1 x2 x3 x4 x5 x6 x7 y0 y1 y2 y3 y4 y5 y6 y7 l6 SR
  go_wp2_with fail
  go_ret
  exact ⟨rfl, HBW.out.trans (K6.out.mono s0)⟩
 ·have HY : Hid (doE p s ⟨6, ka, kb, kz, kz⟩ = 0 ∧ doS p s ⟨6, ka, kb, kz, kz⟩ = doS p s ⟨6, ka, kb, ky, bd⟩) := ⟨HE.out.symm, rfl⟩
  go_upto_region 15 with fail
  obtain ⟨w2, hw2⟩ : ∃ w2, w2 = w1.alloc (.cells #[.int .i64 6, .int .i64 ka, .int .i64 kb, .string kz, .string kz] 72) := ⟨_, rfl⟩
  have l2 : Below w1.heap.size w1 w2 := by rw [hw2]; exact (Below.refl _ _).alloc (Nat.le_refl _) _
  have hx2 : w2.heap[w1.heap.size]? = some (.cells #[.int .i64 6, .int .i64 ka, .int .i64 kb, .string kz, .string kz] 72 (0, 0)) := by rw [hw2]; exact World.alloc_heap_new w1 _
  rw [← hw2]
  have K2 := hidI (K1.out.trans (l2.mono K1.out.size))
  have HB2 := hidI (HB1.out.keep l2)
  have L2 := hidI l2
  clear c0 c1 c2 c3 c4 g0 hw2 l2
  obtain ⟨c0, c1, c2, c3, c4⟩ := act_cells hx2
  obtain ⟨x0, x1, x2⟩ := pl_cells (BX.out w2 K2.out).1
  obtain ⟨y0, y1, y2, y3, y4, y5, y6, y7⟩ := st_cells (BX.out w2 K2.out).2.1
  clear hx2
  go_wp2_with fail
  refine (do_any p _ _ _ _ _ _ _ _ _ s _ _ _ _ _ _ _ _ _ ⟨6, ka, kb, kz, kz⟩ _ (HP.out.keep K2.out) (HS.out.keep K2.out) HN2.out HN3.out).mono ?_
  rintro e u3 ⟨v3, rfl, hr, kk⟩
  rw [HY.out.1, HY.out.2] at hr
  rw [HY.out.1]
  obtain ⟨z21, z22, z23, t21, e21, t22, e22, t23, e23, i21, i22, i23, i24, i25, rfl⟩ := hr.shape
  obtain ⟨w3, hw, lw, hb⟩ := boxed_res hr
  have D3 := hidI (kk.trans (lw.mono kk.size))
  have K3 := hidI (K2.out.trans (D3.out.mono K2.out.size))
  have HW3 := hidI hw
  have HB3 := hidI hb
  obtain ⟨B3, hB⟩ : ∃ B3, B3 = u3.heap.size := ⟨_, rfl⟩
  rw [← hB] at HB3
  have HBB3 := hidI hB
  clear x0 x1 x2 y0 y1 y2 y3 y4 y5 y6 y7 c0 c1 c2 c3 c4 hr hw lw hb hB kk
  go_upto_region 16 with fail
  rw [← HW3.out, ← HBB3.out]
  go_wp2_with fail
  refine (logBegun_any _).mono ?_
  rintro e w4 ⟨rfl, l4⟩
  have K4 := hidI (K3.out.trans (l4.mono K3.out.size))
  have Q2 : Below w2.heap.size w2 w4 := D3.out.trans (l4.mono D3.out.size)
  have HB1q := hidI (HB2.out.keep Q2)
  have HB3q := hidI (HB3.out.keep l4)
  have hst := (HB1q.out.res.1 rfl).st
  clear Q2 l4
  obtain ⟨f1, f2, f3, o1, r1, o2, r2, o3, r3, hv, hsv, hnv⟩ := hst
  have HSV := hidI hsv
  obtain ⟨x0, x1, x2⟩ := pl_cells (BX.out w4 K4.out).1
  obtain ⟨y0, y1, y2, y3, y4, y5, y6, y7⟩ := st_cells HB1q.out.box
  cases hv
  clear hsv hnv
  go_wp2_with fail
  refine (scheck_any p _ _ _ _ _ _ _ _ _ (doS p s ⟨6, ka, kb, ky, bd⟩) _ _ _ _ _ _ _ _ _ _ (HP.out.keep K4.out) HSV.out).mono ?_
  rintro e w5 ⟨rfl, l5⟩
  rw [DN.out.right.ok]
  have K5 := hidI (K4.out.trans (l5.mono K4.out.size))
  have HB1r := hidI (HB1q.out.keep l5)
  have HB3r := hidI (HB3q.out.keep l5)
  clear x0 x1 x2 y0 y1 y2 y3 y4 y5 y6 y7 l5
  obtain ⟨x0, x1, x2, x3, x4, x5, x6, x7⟩ := st_cells HB1r.out.box
  obtain ⟨y0, y1, y2, y3, y4, y5, y6, y7⟩ := st_cells HB3r.out.box
  have SR := hidI (same_res HB1r.out.res HB3r.out.res)
  have g0 : ((0 : Int) == 0) = true := rfl
  go_wp2_with fail
  refine SR.out.mono ?_
  rintro e w6 ⟨rfl, l6⟩
  have K6 := hidI (K5.out.trans (l6.mono K5.out.size))
  clear x0 x1 x2 x3 x4 x5 x6 x7 y0 y1 y2 y3 y4 y5 y6 y7 l6 SR
  go_wp2_with fail
  go_ret
  exact ⟨rfl, HBW.out.trans (K6.out.mono s0)⟩
end Go.Proofs.YtpoichgodamnkaaGreat
