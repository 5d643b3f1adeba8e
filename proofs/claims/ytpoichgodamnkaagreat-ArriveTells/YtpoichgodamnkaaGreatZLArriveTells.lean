/- The walk of the law ArriveTells. -/
import Derived.Test.YtpoichgodamnkaaGreatSAn
import Derived.Test.YtpoichgodamnkaaGreatGwx
namespace Go.Proofs.YtpoichgodamnkaaGreat
open Go.RowKit Go.Maps
set_option linter.unusedVariables false
set_option maxRecDepth 100000
set_option maxHeartbeats 4000000
theorem walk_ArriveTells (p : PlanD) (a1 a2 a3 : Option Addr) (n1 c1 n2 c2 n3 c3 : Nat) (s : StateD) (b1 b2 b3 : Option Addr) (m1 d1 m2 d2 m3 d3 : Nat) (l : List ArrD) (b : Option Addr) (mb cb : Nat) (w : World) (hp : PlanAt w a1 a2 a3 n1 n2 n3 p) (hs : StateAt w b1 b2 b3 m1 m2 m3 s) (hn2 : b2 = none → d2 = 0) (hn3 : b3 = none → d3 = 0) (hl : ArrsAt w b l) (hll : l.length = mb) (hmc : mb ≤ cb) (hcm : cb ≤ maxLen) (hbn : b = none → cb = 0 ∧ mb = 0) :
  Calls Tryz.prog 3 #[.agg #[.slice a1 n1 c1, .slice a2 n2 c2, .slice a3 n3 c3], .agg #[.slice b1 m1 d1, .slice b2 m2 d2, .slice b3 m3 d3, .int .i64 s.nextSeq, .int .i64 s.nextTag, .int .i64 s.came, .int .i64 s.acked, .int .i64 s.dropped], .slice b mb cb] w fun e w' => e = .returned (.bool true) ∧ Below w.heap.size w w' := by
 obtain ⟨W2, hW2, hBw, hs2, hbx⟩ := ps_boxed w #[.slice a1 n1 c1, .slice a2 n2 c2, .slice a3 n3 c3] #[.slice b1 m1 d1, .slice b2 m2 d2, .slice b3 m3 d3, .int .i64 s.nextSeq, .int .i64 s.nextTag, .int .i64 s.came, .int .i64 s.acked, .int .i64 s.dropped]
 have HW2 := hidI hW2
 have BX := hidI hbx
 have HS := hidI (hs.keep hBw)
 have HP := hidI (hp.keep hBw)
 have HA := hidI (hl.keep hBw)
 have HLL := hidI hll
 have HMC : Hid (mb ≤ cb ∧ cb ≤ maxLen ∧ (b = none → cb = 0 ∧ mb = 0)) := ⟨hmc, hcm, hbn⟩
 have HN2 := hidI hn2
 have HN3 := hidI hn3
 have s0 := hBw.size
 have HBW := hidI hBw
 obtain ⟨E, hE⟩ : ∃ E, E = letE p s l := ⟨_, rfl⟩
 obtain ⟨N, hN⟩ : ∃ N, N = numOf E ((arrN p 600 s l : Nat)) := ⟨_, rfl⟩
 have HE := hidI hE
 have HN := hidI hN
 obtain ⟨x0, x1, x2⟩ := pl_cells (hbx W2 (Below.refl _ _)).1
 obtain ⟨y0, y1, y2, y3, y4, y5, y6, y7⟩ := st_cells (hbx W2 (Below.refl _ _)).2
 clear hW2 hbx hs2 hp hs hBw hn2 hn3 hE hN hl hll hmc hcm hbn
 go_enter Tryz.func3, Tryz.ntmps3
 go_wp2_with fail
 rw [← HW2.out]
 refine (letters_any p _ _ _ _ _ _ _ _ _ s _ _ _ _ _ _ _ _ _ l b mb cb _ HP.out HS.out HN2.out HN3.out HA.out HLL.out (Nat.le_trans HMC.out.1 HMC.out.2.1) HMC.out.2.2).mono ?_
 rintro e w3 ⟨v3, rfl, hr3, k3⟩
 rw [← HE.out] at hr3 ⊢
 rw [← HN.out]
 obtain ⟨z1, z2, z3, t1, e1, t2, e2, t3, e3, i1, i2, i3, i4, i5, rfl⟩ := hr3.shape
 obtain ⟨w4, hw4, l4, hb4⟩ := boxed_res hr3
 have k4 := k3.trans (l4.mono k3.size)
 have HW4 := hidI hw4
 have HB4 := hidI hb4
 obtain ⟨B4, hB4⟩ : ∃ B4, B4 = w3.heap.size := ⟨_, rfl⟩
 rw [← hB4] at HB4
 have HBB4 := hidI hB4
 clear x0 x1 x2 y0 y1 y2 y3 y4 y5 y6 y7 hr3 hw4 l4 hb4 hB4 k3
 obtain ⟨x0, x1, x2⟩ := pl_cells (BX.out w4 k4).1
 obtain ⟨y0, y1, y2, y3, y4, y5, y6, y7⟩ := st_cells (BX.out w4 k4).2
 go_upto_region 2 with fail
 rw [← HW4.out, ← HBB4.out]
 go_wp2_with fail
 refine (lettersOf_any p _ _ _ _ _ _ _ _ _ s _ _ _ _ _ _ _ _ _ l b mb cb _ (HP.out.keep k4) (HS.out.keep k4) HN2.out HN3.out (HA.out.keep k4) HLL.out HMC.out.1 HMC.out.2.1).mono ?_
 rintro e w5 ⟨v5, rfl, hr5, k5⟩
 rw [← HE.out] at hr5 ⊢
 rw [← HN.out]
 obtain ⟨z1', z2', z3', t1', e1', t2', e2', t3', e3', i1', i2', i3', i4', i5', rfl⟩ := hr5.shape
 obtain ⟨w6, hw6, l6, hb6⟩ := boxed_res hr5
 have d6 := k5.trans (l6.mono k5.size)
 have k6 := k4.trans (d6.mono k4.size)
 have HW6 := hidI hw6
 have HB6 := hidI hb6
 have HB46 := hidI (HB4.out.keep d6)
 obtain ⟨B6, hB6⟩ : ∃ B6, B6 = w5.heap.size := ⟨_, rfl⟩
 rw [← hB6] at HB6
 have HBB6 := hidI hB6
 have K6 := hidI k6
 clear x0 x1 x2 y0 y1 y2 y3 y4 y5 y6 y7 hr5 hw6 l6 hb6 hB6 k5 d6 k4 HB4
 have g1 : (E == E) = true := by simp
 have g2 : (N == N) = true := by simp
 go_upto_region 3 with fail
 rw [← HW6.out, ← HBB6.out]
 go_wp2_with fail
 refine (arriveBegun_any _).mono ?_
 rintro e w7 ⟨rfl, k7⟩
 have hb7 := HB46.out.keep k7
 have hc7 := HB6.out.keep k7
 obtain ⟨x0, x1, x2, x3, x4, x5, x6, x7⟩ := st_cells hb7.box
 obtain ⟨y0, y1, y2, y3, y4, y5, y6, y7⟩ := st_cells hc7.box
 have SR := hidI (same_res hb7.res hc7.res)
 have K7 := hidI (K6.out.trans (k7.mono K6.out.size))
 clear hb7 hc7 k7 k6
 go_wp2_with fail
 refine SR.out.mono ?_
 rintro e w8 ⟨rfl, k8⟩
 go_wp2_with fail
 go_ret
 exact ⟨rfl, HBW.out.trans ((K7.out.trans (k8.mono K7.out.size)).mono s0)⟩
end Go.Proofs.YtpoichgodamnkaaGreat
