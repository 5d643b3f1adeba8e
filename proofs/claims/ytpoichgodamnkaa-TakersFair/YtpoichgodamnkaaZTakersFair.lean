import Derived.BigRegion
import Derived.Test.YtpoichgodamnkaaXe
import Derived.Test.YtpoichgodamnkaaRd
import Derived.Below
import Derived.Carry
import Derived.ProofKit
import Derived.OpenShut
import Derived.ShutString
import Derived.ChangeOld
import Derived.SizedLaws
/- LTakersFair -/
namespace Go.Proofs.Ytpoichgodamnkaa
set_option linter.unusedVariables false
set_option maxRecDepth 100000
open Go.RowKit Go.Maps

set_option maxRecDepth 100000 in
set_option maxHeartbeats 4000000 in
theorem walk_TakersFair (p : PlanD) (a1 a2 a3 : Option Addr) (n1 c1 n2 c2 n3 c3 : Nat) (s : StateD) (b1 b2 b3 : Option Addr) (m1 d1 m2 d2 m3 d3 : Nat) (q one two : Int) (w : World) (hp : PlanAt w a1 a2 a3 n1 n2 n3 p) (hs : StateAt w b1 b2 b3 m1 m2 m3 s) (hn2 : b2 = none → d2 = 0) (hn3 : b3 = none → d3 = 0) :
    Calls Try.prog 8 #[.agg #[.slice a1 n1 c1, .slice a2 n2 c2, .slice a3 n3 c3], .agg #[.slice b1 m1 d1, .slice b2 m2 d2, .slice b3 m3 d3, .int .i64 s.nextSeq, .int .i64 s.nextTag, .int .i64 s.came, .int .i64 s.acked, .int .i64 s.dropped], .int .i64 q, .int .i64 one, .int .i64 two] w fun e w' => e = .returned (.bool true) ∧ Below w.heap.size w w' := by
  obtain ⟨W2, hW2, hBw, hs2, hbx⟩ := ps_boxed w #[.slice a1 n1 c1, .slice a2 n2 c2, .slice a3 n3 c3] #[.slice b1 m1 d1, .slice b2 m2 d2, .slice b3 m3 d3, .int .i64 s.nextSeq, .int .i64 s.nextTag, .int .i64 s.came, .int .i64 s.acked, .int .i64 s.dropped]
  have HW2 := hidI hW2
  have BX := hidI hbx
  have HS := hidI (hs.keep hBw)
  have HP := hidI (hp.keep hBw)
  have HN := hidI (And.intro hn2 hn3)
  have s0 := hBw.size
  have HBW := hidI hBw
  obtain ⟨x0, x1, x2⟩ := pl_cells (hbx W2 (Below.refl _ _)).1
  obtain ⟨y0, y1, y2, y3, y4, y5, y6, y7⟩ := st_cells (hbx W2 (Below.refl _ _)).2
  clear hW2 hbx hs2 hp hs hBw hn2 hn3
  go_enter Try.func8, Try.ntmps8
  go_wp2_with fail
  rw [← HW2.out]
  refine (join_any p _ _ _ _ _ _ _ _ _ s _ _ _ _ _ _ _ _ _ q one _ HP.out HS.out HN.out.1 HN.out.2).mono ?_
  rintro e v1 ⟨u1, rfl, hr1, k1⟩
  obtain ⟨E1, hE1⟩ : ∃ E1, E1 = joinE p s q one := ⟨_, rfl⟩
  obtain ⟨N1, hN1⟩ : ∃ N1, N1 = numOf E1 (goneIdx s.takers) := ⟨_, rfl⟩
  rw [← hE1] at hr1 ⊢
  rw [← hN1]
  obtain ⟨A, hA⟩ : ∃ A, A = resS E1 (joinS s q one) := ⟨_, rfl⟩
  obtain ⟨f11, f21, f31, t11, e11, t21, e21, t31, e31, w1, rfl, hw1, l1, hb1, hs1, hn1⟩ := hr1.boxed hA
  have HE1 := hidI hE1
  have HN1 := hidI hN1
  have HA := hidI hA
  have HW1 := hidI hw1
  have HS1 := hidI hs1
  have HNN1 := hidI hn1
  obtain ⟨B1, hB1⟩ : ∃ B1, B1 = v1.heap.size := ⟨_, rfl⟩
  have HBB1 := hidI hB1
  rw [← hB1] at hb1
  have HB1 := hidI hb1
  have K1 := hidI (k1.trans (l1.mono k1.size))
  clear x0 x1 x2 y0 y1 y2 y3 y4 y5 y6 y7 hr1 hw1 hs1 hn1 hB1 hE1 hN1 hA k1 l1
  obtain ⟨x0, x1, x2⟩ := pl_cells (BX.out w1 K1.out).1
  obtain ⟨y0, y1, y2, y3, y4, y5, y6, y7⟩ := st_cells hb1
  clear hb1
  go_upto_region 2 with fail
  rw [← HW1.out, ← HBB1.out]
  go_wp2_with fail
  refine (join_any p _ _ _ _ _ _ _ _ _ A _ _ _ _ _ _ _ _ _ q two _ (HP.out.keep K1.out) HS1.out HNN1.out.1 HNN1.out.2).mono ?_
  rintro e v2 ⟨u2, rfl, hr2, k2⟩
  obtain ⟨E2, hE2⟩ : ∃ E2, E2 = joinE p A q two := ⟨_, rfl⟩
  obtain ⟨N2, hN2⟩ : ∃ N2, N2 = numOf E2 (goneIdx A.takers) := ⟨_, rfl⟩
  rw [← hE2] at hr2 ⊢
  rw [← hN2]
  obtain ⟨B, hB⟩ : ∃ B, B = resS E2 (joinS A q two) := ⟨_, rfl⟩
  obtain ⟨f12, f22, f32, t12, e12, t22, e22, t32, e32, w2, rfl, hw2, l2, hb2, hs2, hn2⟩ := hr2.boxed hB
  have HE2 := hidI hE2
  have HN2 := hidI hN2
  have HB := hidI hB
  have HW2 := hidI hw2
  have HS2 := hidI hs2
  have HNN2 := hidI hn2
  obtain ⟨B2, hB2⟩ : ∃ B2, B2 = v2.heap.size := ⟨_, rfl⟩
  have HBB2 := hidI hB2
  rw [← hB2] at hb2
  have HB2 := hidI hb2
  have K2 := hidI (K1.out.trans ((k2.trans (l2.mono k2.size)).mono K1.out.size))
  clear x0 x1 x2 y0 y1 y2 y3 y4 y5 y6 y7 hr2 hw2 hs2 hn2 hB2 hE2 hN2 hB k2 l2
  obtain ⟨x0, x1, x2⟩ := pl_cells (BX.out w2 K2.out).1
  obtain ⟨y0, y1, y2, y3, y4, y5, y6, y7⟩ := st_cells hb2
  clear hb2
  go_upto_region 3 with fail
  rw [← HW2.out, ← HBB2.out]
  go_wp2_with fail
  refine (deliver_any p _ _ _ _ _ _ _ _ _ B _ _ _ _ _ _ _ _ _ q _ (HP.out.keep K2.out) HS2.out HNN2.out.1 HNN2.out.2).mono ?_
  rintro e v3 ⟨u3, rfl, hr3, k3⟩
  obtain ⟨E3, hE3⟩ : ∃ E3, E3 = delE p B q := ⟨_, rfl⟩
  obtain ⟨N3, hN3⟩ : ∃ N3, N3 = numOf E3 B.nextTag := ⟨_, rfl⟩
  rw [← hE3] at hr3 ⊢
  rw [← hN3]
  obtain ⟨C, hC⟩ : ∃ C, C = resS E3 (delS B q) := ⟨_, rfl⟩
  obtain ⟨f13, f23, f33, t13, e13, t23, e23, t33, e33, w3, rfl, hw3, l3, hb3, hs3, hn3⟩ := hr3.boxed hC
  have HE3 := hidI hE3
  have HN3 := hidI hN3
  have HC := hidI hC
  have HW3 := hidI hw3
  have HS3 := hidI hs3
  have HNN3 := hidI hn3
  obtain ⟨B3, hB3⟩ : ∃ B3, B3 = v3.heap.size := ⟨_, rfl⟩
  have HBB3 := hidI hB3
  rw [← hB3] at hb3
  have HB3 := hidI hb3
  have K3 := hidI (K2.out.trans ((k3.trans (l3.mono k3.size)).mono K2.out.size))
  clear x0 x1 x2 y0 y1 y2 y3 y4 y5 y6 y7 hr3 hw3 hs3 hn3 hB3 hE3 hN3 hC k3 l3
  obtain ⟨x0, x1, x2⟩ := pl_cells (BX.out w3 K3.out).1
  obtain ⟨y0, y1, y2, y3, y4, y5, y6, y7⟩ := st_cells hb3
  clear hb3
  go_upto_region 4 with fail
  rw [← HW3.out, ← HBB3.out]
  go_wp2_with fail
  refine (deliver_any p _ _ _ _ _ _ _ _ _ C _ _ _ _ _ _ _ _ _ q _ (HP.out.keep K3.out) HS3.out HNN3.out.1 HNN3.out.2).mono ?_
  rintro e v4 ⟨u4, rfl, hr4, k4⟩
  obtain ⟨E4, hE4⟩ : ∃ E4, E4 = delE p C q := ⟨_, rfl⟩
  obtain ⟨N4, hN4⟩ : ∃ N4, N4 = numOf E4 C.nextTag := ⟨_, rfl⟩
  rw [← hE4] at hr4 ⊢
  rw [← hN4]
  obtain ⟨D, hD⟩ : ∃ D, D = resS E4 (delS C q) := ⟨_, rfl⟩
  obtain ⟨f14, f24, f34, t14, e14, t24, e24, t34, e34, w4, rfl, hw4, l4, hb4, hs4, hn4⟩ := hr4.boxed hD
  have HE4 := hidI hE4
  have HN4 := hidI hN4
  have HD := hidI hD
  have HW4 := hidI hw4
  have HS4 := hidI hs4
  have HNN4 := hidI hn4
  obtain ⟨B4, hB4⟩ : ∃ B4, B4 = v4.heap.size := ⟨_, rfl⟩
  have HBB4 := hidI hB4
  rw [← hB4] at hb4
  have HB4 := hidI hb4
  have K4 := hidI (K3.out.trans ((k4.trans (l4.mono k4.size)).mono K3.out.size))
  clear x0 x1 x2 y0 y1 y2 y3 y4 y5 y6 y7 hr4 hw4 hs4 hn4 hB4 hE4 hN4 hD k4 l4
  clear hb4
  go_upto_region 5 with fail
  rw [← HW4.out, ← HBB4.out]
  by_cases z1 : E1 ≠ 0
  · have g1 : (E1 != 0) = true := bne_iff_ne.2 z1
    clear z1
    go_wp2_with fail
    refine (takersBegun_any _).mono ?_
    rintro e w7 ⟨rfl, k7⟩
    go_wp2_with fail
    go_ret
    exact ⟨rfl, HBW.out.trans ((K4.out.trans (k7.mono K4.out.size)).mono s0)⟩
  rw [Classical.not_not] at z1
  by_cases z2 : E2 ≠ 0
  · have g1 : (E1 != 0) = false := by rw [z1]; rfl
    have g2 : (E2 != 0) = true := bne_iff_ne.2 z2
    clear z1 z2
    go_wp2_with fail
    refine (takersBegun_any _).mono ?_
    rintro e w7 ⟨rfl, k7⟩
    go_wp2_with fail
    go_ret
    exact ⟨rfl, HBW.out.trans ((K4.out.trans (k7.mono K4.out.size)).mono s0)⟩
  rw [Classical.not_not] at z2
  by_cases z3 : E3 ≠ 0
  · have g1 : (E1 != 0) = false := by rw [z1]; rfl
    have g2 : (E2 != 0) = false := by rw [z2]; rfl
    have g3 : (E3 != 0) = true := bne_iff_ne.2 z3
    clear z1 z2 z3
    go_wp2_with fail
    refine (takersBegun_any _).mono ?_
    rintro e w7 ⟨rfl, k7⟩
    go_wp2_with fail
    go_ret
    exact ⟨rfl, HBW.out.trans ((K4.out.trans (k7.mono K4.out.size)).mono s0)⟩
  rw [Classical.not_not] at z3
  by_cases z4 : E4 ≠ 0
  · have g1 : (E1 != 0) = false := by rw [z1]; rfl
    have g2 : (E2 != 0) = false := by rw [z2]; rfl
    have g3 : (E3 != 0) = false := by rw [z3]; rfl
    have g4 : (E4 != 0) = true := bne_iff_ne.2 z4
    clear z1 z2 z3 z4
    go_wp2_with fail
    refine (takersBegun_any _).mono ?_
    rintro e w7 ⟨rfl, k7⟩
    go_wp2_with fail
    go_ret
    exact ⟨rfl, HBW.out.trans ((K4.out.trans (k7.mono K4.out.size)).mono s0)⟩
  rw [Classical.not_not] at z4
  have rs : ∀ S : StateD, resS 0 S = S := fun S => if_pos rfl
  have hA := HA.out
  have hB := HB.out
  have hC := HC.out
  have hD := HD.out
  rw [z1, rs] at hA
  rw [z2, rs, hA] at hB
  rw [z3, rs, hB] at hC
  rw [z4, rs, hC] at hD
  have q1 := HE1.out
  have q2 := HE2.out
  have q3 := HE3.out
  have q4 := HE4.out
  rw [z1] at q1
  rw [z2, hA] at q2
  rw [z3, hB] at q3
  rw [z4, hC] at q4
  obtain ⟨hne, hR, xs, k1, k2, x, y, ho, hkk, hxy⟩ := fair_plain q1.symm q2.symm q3.symm q4.symm
  rw [← hD] at ho hR
  have gN : (N1 == N2) = false := by
    rw [HN1.out, HN2.out, z1, z2, hA]
    unfold numOf
    rw [if_pos rfl, if_pos rfl]
    rw [beq_eq_false_iff_ne]
    intro e
    exact hne (Int.ofNat.inj e)
  have hl : D.outs.length = xs.length + 2 := by rw [ho]; simp
  have hl2 := HS4.out.l2
  have hsm := (small_state hR).2.2.1
  have hb2 : t24 = xs.length + 2 := by omega
  obtain ⟨M, hM⟩ : ∃ M, M = xs.length := ⟨_, rfl⟩
  have hMb : M ≤ 1000 := by omega
  obtain ⟨g, o, ha, hg, oc0, oc1, oc2, oci⟩ := HS4.out.q2.get (k := M) (by omega)
  obtain ⟨M1, hM1⟩ : ∃ M1, M1 = M + 1 := ⟨_, rfl⟩
  obtain ⟨g', o', ha', hg', oc0', oc1', oc2', oci'⟩ := HS4.out.q2.get (k := M1) (by omega)
  obtain ⟨rfl, rfl⟩ : g' = g ∧ o' = o := by rw [ha] at ha'; cases ha'; exact ⟨rfl, rfl⟩
  have o1 : D.outs[M]'(by omega) = ⟨s.nextTag, k1, q, x⟩ := by simp [ho, hM]
  have o2 : D.outs[M1]'(by omega) = ⟨s.nextTag + 1, k2, q, y⟩ := by simp [ho, hM, hM1]
  rw [o1] at oc0 oc1 oc2 oci
  rw [o2] at oc0' oc1' oc2' oci'
  obtain ⟨od0, od1', od2', od3', od4⟩ := oci
  obtain ⟨od0', od1'', od2'', od3'', od4'⟩ := oci'
  have g1 : (E1 != 0) = false := by rw [z1]; rfl
  have g2 : (E2 != 0) = false := by rw [z2]; rfl
  have g3 : (E3 != 0) = false := by rw [z3]; rfl
  have g4 : (E4 != 0) = false := by rw [z4]; rfl
  have HHB := hidI (HB4.out)
  subst ha
  obtain ⟨y0, y1, y2, y3, y4, y5, y6, y7⟩ := st_cells HB4.out
  have gL : decide ((t24 : Int) < 2) = false := by rw [decide_eq_false_iff_not]; omega
  have gw2 : IntKind.i64.wrap ((t24 : Int) - 2) = (M : Int) := by rw [IntKind.wrap_i64]; omega
  have gw1 : IntKind.i64.wrap ((t24 : Int) - 1) = (M1 : Int) := by rw [IntKind.wrap_i64]; omega
  have gi1 : (M : Int) < (t24 : Int) := by omega
  have gi2 : (M1 : Int) < (t24 : Int) := by omega
  clear z1 z2 z3 z4 hA hB hC hD q1 q2 q3 q4 rs hne hR ho hl hl2 hsm hb2 hM hM1 hMb ha' o1 o2
  go_upto_region 9 with fail
  generalize Value.agg #[.slice a1 n1 c1, .slice a2 n2 c2, .slice a3 n3 c3] = V1
  generalize Value.agg #[.slice b1 m1 d1, .slice b2 m2 d2, .slice b3 m3 d3, .int .i64 s.nextSeq, .int .i64 s.nextTag, .int .i64 s.came, .int .i64 s.acked, .int .i64 s.dropped] = V2
  generalize Value.agg #[.slice f11 t11 e11, .slice f21 t21 e21, .slice f31 t31 e31, .int .i64 A.nextSeq, .int .i64 A.nextTag, .int .i64 A.came, .int .i64 A.acked, .int .i64 A.dropped] = U1
  generalize Value.agg #[.slice f12 t12 e12, .slice f22 t22 e22, .slice f32 t32 e32, .int .i64 B.nextSeq, .int .i64 B.nextTag, .int .i64 B.came, .int .i64 B.acked, .int .i64 B.dropped] = U2
  generalize Value.agg #[.slice f13 t13 e13, .slice f23 t23 e23, .slice f33 t33 e33, .int .i64 C.nextSeq, .int .i64 C.nextTag, .int .i64 C.came, .int .i64 C.acked, .int .i64 C.dropped] = U3
  generalize Value.agg #[.slice f14 t14 e14, .slice (some ⟨g', o', none⟩) t24 e24, .slice f34 t34 e34, .int .i64 D.nextSeq, .int .i64 D.nextTag, .int .i64 D.came, .int .i64 D.acked, .int .i64 D.dropped] = U4
  generalize Value.tuple #[U1, .int .i64 N1, .int .i64 E1] = T1
  generalize Value.tuple #[U2, .int .i64 N2, .int .i64 E2] = T2
  generalize Value.tuple #[U3, .int .i64 N3, .int .i64 E3] = T3
  generalize Value.tuple #[U4, .int .i64 N4, .int .i64 E4] = T4
  have hB4 : B4 < w4.heap.size := lt_of_heap HB4.out
  have cs0 := HB4.out
  clear gN gL g1 g2 g3 g4 HHB
  have HKK := hidI hkk
  have HXY := hidI hxy
  clear hkk hxy
  have SS : Hid (∀ W', Below w4.heap.size w4 W' → W'.cell? ⟨B4, 1, none⟩ = some (.slice (some ⟨g', o', none⟩) t24 e24) ∧ (W'.cell? ⟨g', o' + M * 8, none⟩ = some (.int .i64 s.nextTag) ∧ W'.cell? ⟨g', o' + M * 8 + 1, none⟩ = some (.int .i64 (k1 : Int)) ∧ W'.cell? ⟨g', o' + M * 8 + 2, none⟩ = some (.int .i64 q) ∧ W'.cell? ⟨g', o' + M * 8 + 3, none⟩ = some (.int .i64 x.seq) ∧ W'.cell? ⟨g', o' + M * 8 + 3 + 1, none⟩ = some (.string x.key) ∧ W'.cell? ⟨g', o' + M * 8 + 3 + 2, none⟩ = some (.string x.body) ∧ W'.cell? ⟨g', o' + M * 8 + 3 + 3, none⟩ = some (.bool x.again) ∧ W'.cell? ⟨g', o' + M * 8 + 3 + 4, none⟩ = some (.int .i64 x.deaths)) ∧ (W'.cell? ⟨g', o' + M1 * 8, none⟩ = some (.int .i64 (s.nextTag + 1)) ∧ W'.cell? ⟨g', o' + M1 * 8 + 1, none⟩ = some (.int .i64 (k2 : Int)) ∧ W'.cell? ⟨g', o' + M1 * 8 + 2, none⟩ = some (.int .i64 q) ∧ W'.cell? ⟨g', o' + M1 * 8 + 3, none⟩ = some (.int .i64 y.seq) ∧ W'.cell? ⟨g', o' + M1 * 8 + 3 + 1, none⟩ = some (.string y.key) ∧ W'.cell? ⟨g', o' + M1 * 8 + 3 + 2, none⟩ = some (.string y.body) ∧ W'.cell? ⟨g', o' + M1 * 8 + 3 + 3, none⟩ = some (.bool y.again) ∧ W'.cell? ⟨g', o' + M1 * 8 + 3 + 4, none⟩ = some (.int .i64 y.deaths))) := fun W' hW' => ⟨(hW'.cell (p := ⟨B4, 1, none⟩) hB4).trans y1, ⟨(hW'.cell (p := ⟨g', _, none⟩) hg).trans oc0, (hW'.cell (p := ⟨g', _, none⟩) hg).trans oc1, (hW'.cell (p := ⟨g', _, none⟩) hg).trans oc2, (hW'.cell (p := ⟨g', _, none⟩) hg).trans od0, (hW'.cell (p := ⟨g', _, none⟩) hg).trans od1', (hW'.cell (p := ⟨g', _, none⟩) hg).trans od2', (hW'.cell (p := ⟨g', _, none⟩) hg).trans od3', (hW'.cell (p := ⟨g', _, none⟩) hg).trans od4⟩, ⟨(hW'.cell (p := ⟨g', _, none⟩) hg).trans oc0', (hW'.cell (p := ⟨g', _, none⟩) hg).trans oc1', (hW'.cell (p := ⟨g', _, none⟩) hg).trans oc2', (hW'.cell (p := ⟨g', _, none⟩) hg).trans od0', (hW'.cell (p := ⟨g', _, none⟩) hg).trans od1'', (hW'.cell (p := ⟨g', _, none⟩) hg).trans od2'', (hW'.cell (p := ⟨g', _, none⟩) hg).trans od3'', (hW'.cell (p := ⟨g', _, none⟩) hg).trans od4'⟩⟩
  refine wp_region_held_drew (S := fun W' => W'.cell? ⟨B4, 1, none⟩ = some (.slice (some ⟨g', o', none⟩) t24 e24) ∧ (W'.cell? ⟨g', o' + M * 8, none⟩ = some (.int .i64 s.nextTag) ∧ W'.cell? ⟨g', o' + M * 8 + 1, none⟩ = some (.int .i64 (k1 : Int)) ∧ W'.cell? ⟨g', o' + M * 8 + 2, none⟩ = some (.int .i64 q) ∧ W'.cell? ⟨g', o' + M * 8 + 3, none⟩ = some (.int .i64 x.seq) ∧ W'.cell? ⟨g', o' + M * 8 + 3 + 1, none⟩ = some (.string x.key) ∧ W'.cell? ⟨g', o' + M * 8 + 3 + 2, none⟩ = some (.string x.body) ∧ W'.cell? ⟨g', o' + M * 8 + 3 + 3, none⟩ = some (.bool x.again) ∧ W'.cell? ⟨g', o' + M * 8 + 3 + 4, none⟩ = some (.int .i64 x.deaths)) ∧ (W'.cell? ⟨g', o' + M1 * 8, none⟩ = some (.int .i64 (s.nextTag + 1)) ∧ W'.cell? ⟨g', o' + M1 * 8 + 1, none⟩ = some (.int .i64 (k2 : Int)) ∧ W'.cell? ⟨g', o' + M1 * 8 + 2, none⟩ = some (.int .i64 q) ∧ W'.cell? ⟨g', o' + M1 * 8 + 3, none⟩ = some (.int .i64 y.seq) ∧ W'.cell? ⟨g', o' + M1 * 8 + 3 + 1, none⟩ = some (.string y.key) ∧ W'.cell? ⟨g', o' + M1 * 8 + 3 + 2, none⟩ = some (.string y.body) ∧ W'.cell? ⟨g', o' + M1 * 8 + 3 + 3, none⟩ = some (.bool y.again) ∧ W'.cell? ⟨g', o' + M1 * 8 + 3 + 4, none⟩ = some (.int .i64 y.deaths))) (by kernel_rfl) (SS.out _ (Below.refl _ _).drew) (fun hHeld => ?_)
  clear oc0 oc1 oc2 oc0' oc1' oc2' od0 od1' od2' od3' od4 od0' od1'' od2'' od3'' od4' y0 y1 y2 y3 y4 y5 y6 y7
  (refine wpAnyH_take (i := 0) (v := ?_) rfl (by kernel_rfl) (by kernel_rfl) (by kernel_rfl) (fun _ _ _ h => h) (Or.inl ⟨by kernel_rfl, ?_⟩) (by assumption) ?_; rotate_left; (focus (intro w hSw; (try dsimp only at hSw); go_simp; (try with_reducible rfl))); (try simp only [Act.put, List.getElem_toArray, List.getElem_cons_zero, List.setIfInBounds_toArray, List.set_cons_zero, List.set_cons_succ]))
  (refine wpAnyH_take (i := 1) (v := ?_) rfl (by kernel_rfl) (by kernel_rfl) (by kernel_rfl) (fun _ _ _ h => h) (Or.inl ⟨by kernel_rfl, ?_⟩) (by assumption) ?_; rotate_left; (focus (intro w hSw; (try dsimp only at hSw); go_simp; (try with_reducible rfl))); (try simp only [Act.put, List.getElem_toArray, List.getElem_cons_succ, List.getElem_cons_zero, List.setIfInBounds_toArray, List.set_cons_zero, List.set_cons_succ]))
  (refine wpAnyH_take (i := 2) (v := ?_) rfl (by kernel_rfl) (by kernel_rfl) (by kernel_rfl) (fun _ _ _ h => h) (Or.inl ⟨by kernel_rfl, ?_⟩) (by assumption) ?_; rotate_left; (focus (intro w hSw; (try dsimp only at hSw); go_simp; (try with_reducible rfl))); (try simp only [Act.put, List.getElem_toArray, List.getElem_cons_succ, List.getElem_cons_zero, List.setIfInBounds_toArray, List.set_cons_zero, List.set_cons_succ]))
  (refine wpAnyH_take (i := 3) (v := ?_) rfl (by kernel_rfl) (by kernel_rfl) (by kernel_rfl) (fun _ _ _ h => h) (Or.inl ⟨by kernel_rfl, ?_⟩) (by assumption) ?_; rotate_left; (focus (intro w hSw; (try dsimp only at hSw); go_simp; (try with_reducible rfl))); (try simp only [Act.put, List.getElem_toArray, List.getElem_cons_succ, List.getElem_cons_zero, List.setIfInBounds_toArray, List.set_cons_zero, List.set_cons_succ]))
  (refine wpAnyH_take (i := 4) (v := ?_) rfl (by kernel_rfl) (by kernel_rfl) (by kernel_rfl) (fun _ _ _ h => h) (Or.inl ⟨by kernel_rfl, ?_⟩) (by assumption) ?_; rotate_left; (focus (intro w hSw; (try dsimp only at hSw); go_simp; (try with_reducible rfl))); (try simp only [Act.put, List.getElem_toArray, List.getElem_cons_succ, List.getElem_cons_zero, List.setIfInBounds_toArray, List.set_cons_zero, List.set_cons_succ]))
  (refine wpAnyH_take (i := 5) (v := ?_) rfl (by kernel_rfl) (by kernel_rfl) (by kernel_rfl) (fun _ _ _ h => h) (Or.inl ⟨by kernel_rfl, ?_⟩) (by assumption) ?_; rotate_left; (focus (intro w hSw; (try dsimp only at hSw); go_simp; (try with_reducible rfl))); (try simp only [Act.put, List.getElem_toArray, List.getElem_cons_succ, List.getElem_cons_zero, List.setIfInBounds_toArray, List.set_cons_zero, List.set_cons_succ]))
  (refine wpAnyH_take (i := 6) (v := ?_) rfl (by kernel_rfl) (by kernel_rfl) (by kernel_rfl) (fun _ _ _ h => h) (Or.inl ⟨by kernel_rfl, ?_⟩) (by assumption) ?_; rotate_left; (focus (intro w hSw; (try dsimp only at hSw); go_simp; (try with_reducible rfl))); (try simp only [Act.put, List.getElem_toArray, List.getElem_cons_succ, List.getElem_cons_zero, List.setIfInBounds_toArray, List.set_cons_zero, List.set_cons_succ]))
  (refine wpAnyH_take (i := 7) (v := ?_) rfl (by kernel_rfl) (by kernel_rfl) (by kernel_rfl) (fun _ _ _ h => h) (Or.inl ⟨by kernel_rfl, ?_⟩) (by assumption) ?_; rotate_left; (focus (intro w hSw; (try dsimp only at hSw); go_simp; (try with_reducible rfl))); (try simp only [Act.put, List.getElem_toArray, List.getElem_cons_succ, List.getElem_cons_zero, List.setIfInBounds_toArray, List.set_cons_zero, List.set_cons_succ]))
  (refine wpAnyH_take (i := 8) (v := ?_) rfl (by kernel_rfl) (by kernel_rfl) (by kernel_rfl) (fun _ _ _ h => h) (Or.inl ⟨by kernel_rfl, ?_⟩) (by assumption) ?_; rotate_left; (focus (intro w hSw; (try dsimp only at hSw); go_simp; (try with_reducible rfl))); (try simp only [Act.put, List.getElem_toArray, List.getElem_cons_succ, List.getElem_cons_zero, List.setIfInBounds_toArray, List.set_cons_zero, List.set_cons_succ]))
  (refine wpAnyH_take (i := 9) (v := ?_) rfl (by kernel_rfl) (by kernel_rfl) (by kernel_rfl) (fun _ _ _ h => h) (Or.inl ⟨by kernel_rfl, ?_⟩) (by assumption) ?_; rotate_left; (focus (intro w hSw; (try dsimp only at hSw); go_simp; (try with_reducible rfl))); (try simp only [Act.put, List.getElem_toArray, List.getElem_cons_succ, List.getElem_cons_zero, List.setIfInBounds_toArray, List.set_cons_zero, List.set_cons_succ]))
  (refine wpAnyH_take (i := 10) (v := ?_) rfl (by kernel_rfl) (by kernel_rfl) (by kernel_rfl) (fun _ _ _ h => h) (Or.inl ⟨by kernel_rfl, ?_⟩) (by assumption) ?_; rotate_left; (focus (intro w hSw; (try dsimp only at hSw); go_simp; (try with_reducible rfl))); (try simp only [Act.put, List.getElem_toArray, List.getElem_cons_succ, List.getElem_cons_zero, List.setIfInBounds_toArray, List.set_cons_zero, List.set_cons_succ]))
  (refine wpAnyH_take (i := 11) (v := ?_) rfl (by kernel_rfl) (by kernel_rfl) (by kernel_rfl) (fun _ _ _ h => h) (Or.inl ⟨by kernel_rfl, ?_⟩) (by assumption) ?_; rotate_left; (focus (intro w hSw; (try dsimp only at hSw); go_simp; (try with_reducible rfl))); (try simp only [Act.put, List.getElem_toArray, List.getElem_cons_succ, List.getElem_cons_zero, List.setIfInBounds_toArray, List.set_cons_zero, List.set_cons_succ]))
  (refine wpAnyH_take (i := 12) (v := ?_) rfl (by kernel_rfl) (by kernel_rfl) (by kernel_rfl) (fun _ _ _ h => h) (Or.inl ⟨by kernel_rfl, ?_⟩) (by assumption) ?_; rotate_left; (focus (intro w hSw; (try dsimp only at hSw); go_simp; (try with_reducible rfl))); (try simp only [Act.put, List.getElem_toArray, List.getElem_cons_succ, List.getElem_cons_zero, List.setIfInBounds_toArray, List.set_cons_zero, List.set_cons_succ]))
  (refine wpAnyH_take (i := 13) (v := ?_) rfl (by kernel_rfl) (by kernel_rfl) (by kernel_rfl) (fun _ _ _ h => h) (Or.inl ⟨by kernel_rfl, ?_⟩) (by assumption) ?_; rotate_left; (focus (intro w hSw; (try dsimp only at hSw); go_simp; (try with_reducible rfl))); (try simp only [Act.put, List.getElem_toArray, List.getElem_cons_succ, List.getElem_cons_zero, List.setIfInBounds_toArray, List.set_cons_zero, List.set_cons_succ]))
  (refine wpAnyH_take (i := 14) (v := ?_) rfl (by kernel_rfl) (by kernel_rfl) (by kernel_rfl) (fun _ _ _ h => h) (Or.inl ⟨by kernel_rfl, ?_⟩) (by assumption) ?_; rotate_left; (focus (intro w hSw; (try dsimp only at hSw); go_simp; (try with_reducible rfl))); (try simp only [Act.put, List.getElem_toArray, List.getElem_cons_succ, List.getElem_cons_zero, List.setIfInBounds_toArray, List.set_cons_zero, List.set_cons_succ]))
  (refine wpAnyH_take (i := 15) (v := ?_) rfl (by kernel_rfl) (by kernel_rfl) (by kernel_rfl) (fun _ _ _ h => h) (Or.inl ⟨by kernel_rfl, ?_⟩) (by assumption) ?_; rotate_left; (focus (intro w hSw; (try dsimp only at hSw); go_simp; (try with_reducible rfl))); (try simp only [Act.put, List.getElem_toArray, List.getElem_cons_succ, List.getElem_cons_zero, List.setIfInBounds_toArray, List.set_cons_zero, List.set_cons_succ]))
  refine wpAnyH_ready (rs := [16, 17]) (by kernel_rfl) (by simp) ?_
  refine AllReadyH.cons rfl (fun K hK => ?_) (AllReadyH.cons rfl (fun K hK => ?_) AllReadyH.nil)
  · go_simp
    refine hK.out _ _ (SS.out _ (by repeat (first | exact Below.refl _ _ | assumption | refine Below.drew ?_ | refine Below.alloc ?_ (by first | (simp; done) | (simp; omega) | omega) _ | refine Below.setCell ?_ (by first | (simp; done) | (simp; omega) | omega) _))) (fun hH1 => ?_)
    clear hK K
    (try simp only [Act.put, List.getElem_toArray, List.getElem_cons_succ, List.getElem_cons_zero, List.setIfInBounds_toArray, List.set_cons_zero, List.set_cons_succ])
    refine wpAnyH_ready (rs := [17]) (by kernel_rfl) (by simp) ?_
    refine AllReadyH.cons rfl (fun K hK => ?_) AllReadyH.nil
    go_simp
    refine hK.out _ _ (SS.out _ (by repeat (first | exact Below.refl _ _ | assumption | refine Below.drew ?_ | refine Below.alloc ?_ (by first | (simp; done) | (simp; omega) | omega) _ | refine Below.setCell ?_ (by first | (simp; done) | (simp; omega) | omega) _))) (fun hH2 => ?_)
    clear hK K
    (try simp only [Act.put, List.getElem_toArray, List.getElem_cons_succ, List.getElem_cons_zero, List.setIfInBounds_toArray, List.set_cons_zero, List.set_cons_succ])
    refine wpAnyH_ready (rs := [18]) (by kernel_rfl) (by simp) ?_
    refine AllReadyH.cons rfl (fun K hK => ?_) AllReadyH.nil
    go_simp
    refine hK.out _ _ (SS.out _ (by repeat (first | exact Below.refl _ _ | assumption | refine Below.drew ?_ | refine Below.alloc ?_ (by first | (simp; done) | (simp; omega) | omega) _ | refine Below.setCell ?_ (by first | (simp; done) | (simp; omega) | omega) _))) (fun hH3 => ?_)
    clear hK K
    (try simp only [Act.put, List.getElem_toArray, List.getElem_cons_succ, List.getElem_cons_zero, List.setIfInBounds_toArray, List.set_cons_zero, List.set_cons_succ])
    refine wpAnyH_ready (rs := [19]) (by kernel_rfl) (by simp) ?_
    refine AllReadyH.cons rfl (fun K hK => ?_) AllReadyH.nil
    go_simp
    refine hK.out _ _ (SS.out _ (by repeat (first | exact Below.refl _ _ | assumption | refine Below.drew ?_ | refine Below.alloc ?_ (by first | (simp; done) | (simp; omega) | omega) _ | refine Below.setCell ?_ (by first | (simp; done) | (simp; omega) | omega) _))) (fun hH4 => ?_)
    clear hK K
    (try simp only [Act.put, List.getElem_toArray, List.getElem_cons_succ, List.getElem_cons_zero, List.setIfInBounds_toArray, List.set_cons_zero, List.set_cons_succ])
    refine wpAnyH_done (by kernel_rfl) ?_ _
    obtain ⟨w5, hw5⟩ : ∃ w5, w5 = ((w4.alloc (.cells #[.int .i64 s.nextTag, .int .i64 (k1 : Int), .int .i64 q, .int .i64 x.seq, .string x.key, .string x.body, .bool x.again, .int .i64 x.deaths] 53)).alloc (.cells #[.int .i64 (s.nextTag + 1), .int .i64 (k2 : Int), .int .i64 q, .int .i64 y.seq, .string y.key, .string y.body, .bool y.again, .int .i64 y.deaths] 53)).drew := ⟨_, rfl⟩
    obtain ⟨P, hP⟩ : ∃ P, P = w4.heap.size := ⟨_, rfl⟩
    have k5 : Below w4.heap.size w4 w5 := by rw [hw5]; exact (((Below.refl _ _).alloc (Nat.le_refl _) _).alloc (by simp) _).drew
    have o1 : w5.heap[P]? = some (.cells #[.int .i64 s.nextTag, .int .i64 (k1 : Int), .int .i64 q, .int .i64 x.seq, .string x.key, .string x.body, .bool x.again, .int .i64 x.deaths] 53 (0, 0)) := by
      rw [hw5, hP]
      exact plan_keep (World.alloc_heap_new w4 _) ((Below.refl _ _).alloc (Nat.le_refl _) _).drew
    have o2 : w5.heap[P + 1]? = some (.cells #[.int .i64 (s.nextTag + 1), .int .i64 (k2 : Int), .int .i64 q, .int .i64 y.seq, .string y.key, .string y.body, .bool y.again, .int .i64 y.deaths] 53 (0, 0)) := by
      rw [hw5, hP]
      have := World.alloc_heap_new (w4.alloc (.cells #[.int .i64 s.nextTag, .int .i64 (k1 : Int), .int .i64 q, .int .i64 x.seq, .string x.key, .string x.body, .bool x.again, .int .i64 x.deaths] 53)) (.cells #[.int .i64 (s.nextTag + 1), .int .i64 (k2 : Int), .int .i64 q, .int .i64 y.seq, .string y.key, .string y.body, .bool y.again, .int .i64 y.deaths] 53)
      have e : (w4.alloc (.cells #[.int .i64 s.nextTag, .int .i64 (k1 : Int), .int .i64 q, .int .i64 x.seq, .string x.key, .string x.body, .bool x.again, .int .i64 x.deaths] 53)).heap.size = w4.heap.size + 1 := by simp
      rw [e] at this
      exact plan_keep this (Below.refl _ _).drew
    rw [← hw5, ← hP]
    have K5 := hidI (K4.out.trans (k5.mono K4.out.size))
    clear hw5 hP k5 cs0 hH1 hH2 hH3 hH4
    have HO1 := hidI o1
    have HO2 := hidI o2
    have j1 : ((k1 : Int) != (k2 : Int)) = true := by rw [bne_iff_ne]; intro e; exact HKK.out (Int.ofNat.inj e)
    have j2 : decide (x.seq < y.seq) = true := decide_eq_true HXY.out
    have j3 : decide (s.nextTag < s.nextTag + 1) = true := decide_eq_true (by omega)
    clear o1 o2
    go_wp2_with fail
    refine (takersBegun_any _).mono ?_
    rintro e w7 ⟨rfl, k7⟩
    have p1 := cell_of_cells (plan_keep HO1.out k7) 1
    have p0 := cell_of_cells (plan_keep HO1.out k7) 0
    have p3 := cell_of_cells (plan_keep HO1.out k7) 3
    have r1 := cell_of_cells (plan_keep HO2.out k7) 1
    have r0 := cell_of_cells (plan_keep HO2.out k7) 0
    have r3 := cell_of_cells (plan_keep HO2.out k7) 3
    simp at p0 p1 p3 r0 r1 r3
    go_wp2_with fail
    go_ret
    exact ⟨rfl, HBW.out.trans ((K5.out.trans (k7.mono K5.out.size)).mono s0)⟩
  · go_simp
    refine hK.out _ _ (SS.out _ (by repeat (first | exact Below.refl _ _ | assumption | refine Below.drew ?_ | refine Below.alloc ?_ (by first | (simp; done) | (simp; omega) | omega) _ | refine Below.setCell ?_ (by first | (simp; done) | (simp; omega) | omega) _))) (fun hH1 => ?_)
    clear hK K
    (try simp only [Act.put, List.getElem_toArray, List.getElem_cons_succ, List.getElem_cons_zero, List.setIfInBounds_toArray, List.set_cons_zero, List.set_cons_succ])
    refine wpAnyH_ready (rs := [16]) (by kernel_rfl) (by simp) ?_
    refine AllReadyH.cons rfl (fun K hK => ?_) AllReadyH.nil
    go_simp
    refine hK.out _ _ (SS.out _ (by repeat (first | exact Below.refl _ _ | assumption | refine Below.drew ?_ | refine Below.alloc ?_ (by first | (simp; done) | (simp; omega) | omega) _ | refine Below.setCell ?_ (by first | (simp; done) | (simp; omega) | omega) _))) (fun hH2 => ?_)
    clear hK K
    (try simp only [Act.put, List.getElem_toArray, List.getElem_cons_succ, List.getElem_cons_zero, List.setIfInBounds_toArray, List.set_cons_zero, List.set_cons_succ])
    refine wpAnyH_ready (rs := [18]) (by kernel_rfl) (by simp) ?_
    refine AllReadyH.cons rfl (fun K hK => ?_) AllReadyH.nil
    go_simp
    refine hK.out _ _ (SS.out _ (by repeat (first | exact Below.refl _ _ | assumption | refine Below.drew ?_ | refine Below.alloc ?_ (by first | (simp; done) | (simp; omega) | omega) _ | refine Below.setCell ?_ (by first | (simp; done) | (simp; omega) | omega) _))) (fun hH3 => ?_)
    clear hK K
    (try simp only [Act.put, List.getElem_toArray, List.getElem_cons_succ, List.getElem_cons_zero, List.setIfInBounds_toArray, List.set_cons_zero, List.set_cons_succ])
    refine wpAnyH_ready (rs := [19]) (by kernel_rfl) (by simp) ?_
    refine AllReadyH.cons rfl (fun K hK => ?_) AllReadyH.nil
    go_simp
    refine hK.out _ _ (SS.out _ (by repeat (first | exact Below.refl _ _ | assumption | refine Below.drew ?_ | refine Below.alloc ?_ (by first | (simp; done) | (simp; omega) | omega) _ | refine Below.setCell ?_ (by first | (simp; done) | (simp; omega) | omega) _))) (fun hH4 => ?_)
    clear hK K
    (try simp only [Act.put, List.getElem_toArray, List.getElem_cons_succ, List.getElem_cons_zero, List.setIfInBounds_toArray, List.set_cons_zero, List.set_cons_succ])
    refine wpAnyH_done (by kernel_rfl) ?_ _
    obtain ⟨w5, hw5⟩ : ∃ w5, w5 = ((w4.alloc (.cells #[.int .i64 (s.nextTag + 1), .int .i64 (k2 : Int), .int .i64 q, .int .i64 y.seq, .string y.key, .string y.body, .bool y.again, .int .i64 y.deaths] 53)).alloc (.cells #[.int .i64 s.nextTag, .int .i64 (k1 : Int), .int .i64 q, .int .i64 x.seq, .string x.key, .string x.body, .bool x.again, .int .i64 x.deaths] 53)).drew := ⟨_, rfl⟩
    obtain ⟨P, hP⟩ : ∃ P, P = w4.heap.size := ⟨_, rfl⟩
    have k5 : Below w4.heap.size w4 w5 := by rw [hw5]; exact (((Below.refl _ _).alloc (Nat.le_refl _) _).alloc (by simp) _).drew
    have o1 : w5.heap[P]? = some (.cells #[.int .i64 (s.nextTag + 1), .int .i64 (k2 : Int), .int .i64 q, .int .i64 y.seq, .string y.key, .string y.body, .bool y.again, .int .i64 y.deaths] 53 (0, 0)) := by
      rw [hw5, hP]
      exact plan_keep (World.alloc_heap_new w4 _) ((Below.refl _ _).alloc (Nat.le_refl _) _).drew
    have o2 : w5.heap[P + 1]? = some (.cells #[.int .i64 s.nextTag, .int .i64 (k1 : Int), .int .i64 q, .int .i64 x.seq, .string x.key, .string x.body, .bool x.again, .int .i64 x.deaths] 53 (0, 0)) := by
      rw [hw5, hP]
      have := World.alloc_heap_new (w4.alloc (.cells #[.int .i64 (s.nextTag + 1), .int .i64 (k2 : Int), .int .i64 q, .int .i64 y.seq, .string y.key, .string y.body, .bool y.again, .int .i64 y.deaths] 53)) (.cells #[.int .i64 s.nextTag, .int .i64 (k1 : Int), .int .i64 q, .int .i64 x.seq, .string x.key, .string x.body, .bool x.again, .int .i64 x.deaths] 53)
      have e : (w4.alloc (.cells #[.int .i64 (s.nextTag + 1), .int .i64 (k2 : Int), .int .i64 q, .int .i64 y.seq, .string y.key, .string y.body, .bool y.again, .int .i64 y.deaths] 53)).heap.size = w4.heap.size + 1 := by simp
      rw [e] at this
      exact plan_keep this (Below.refl _ _).drew
    rw [← hw5, ← hP]
    have K5 := hidI (K4.out.trans (k5.mono K4.out.size))
    clear hw5 hP k5 cs0 hH1 hH2 hH3 hH4
    have HO1 := hidI o1
    have HO2 := hidI o2
    have j1 : ((k1 : Int) != (k2 : Int)) = true := by rw [bne_iff_ne]; intro e; exact HKK.out (Int.ofNat.inj e)
    have j2 : decide (x.seq < y.seq) = true := decide_eq_true HXY.out
    have j3 : decide (s.nextTag < s.nextTag + 1) = true := decide_eq_true (by omega)
    clear o1 o2
    go_wp2_with fail
    refine (takersBegun_any _).mono ?_
    rintro e w7 ⟨rfl, k7⟩
    have p1 := cell_of_cells (plan_keep HO1.out k7) 1
    have p0 := cell_of_cells (plan_keep HO1.out k7) 0
    have p3 := cell_of_cells (plan_keep HO1.out k7) 3
    have r1 := cell_of_cells (plan_keep HO2.out k7) 1
    have r0 := cell_of_cells (plan_keep HO2.out k7) 0
    have r3 := cell_of_cells (plan_keep HO2.out k7) 3
    simp at p0 p1 p3 r0 r1 r3
    go_wp2_with fail
    go_ret
    exact ⟨rfl, HBW.out.trans ((K5.out.trans (k7.mono K5.out.size)).mono s0)⟩

end Go.Proofs.Ytpoichgodamnkaa

/- QTakersFair -/
namespace Go.Proofs.Ytpoichgodamnkaa.takersFair
open Go.ChangeShapes Go.WideShapes Go.ChangeAt Go.RowKit
open Go.ChangeMaps (open_string shut_string)
set_option linter.unusedVariables false
set_option maxRecDepth 100000

theorem laidOut : laidOutB Try.prog = true := by kernel_rfl
theorem own : ownKnob Try.prog.godebug = none := by kernel_rfl

set_option maxRecDepth 100000 in
theorem lifted (os : Os) (started : os.Started) (H : Type) (enc : TypeId × Value → H) :
    ReturnsInHanded {} Try.checked os 8 .any (Rows.takersFairSpec.pre6 enc Try.prog Try.f8 Rows.takersFairRow.domain false) (Rows.takersFairSpec.post enc Try.prog Try.f8 false true false false) := by
  refine returnsInHanded_of_change_sized (C := Try.checked) own started (by kernel_rfl) Try.func8
    (ChangeSpec.witness6 (enc := enc) (C := Try.checked) false ⟨#[], #[.agg #[.slice none 0 0, .slice none 0 0, .slice none 0 0], .agg #[.slice none 0 0, .slice none 0 0, .slice none 0 0, .int .i64 0, .int .i64 0, .int .i64 0, .int .i64 0, .int .i64 0], .int .i64 0, .int .i64 0, .int .i64 0], []⟩ 8 (by kernel_rfl) (by kernel_rfl) (by kernel_rfl) (by kernel_rfl)) ?_
  intro W base args ds gs before hval0 hW hcnd hsz0 _
  have hval : ∀ (j : Nat) t v, Try.f8.params[j]? = some t → args[j]? = some v → Value.okWide Try.prog W .any base t v := hval0
  have hW' := hW
  obtain ⟨p, q, hA0, hV, rfl, hfz, hnd⟩ := hW
  have hA : DataW.TrodAll enc Try.prog W 0 (fun _ => true) true Try.f8.params.toList args.toList ds p := hA0
  rw [Try.params8] at hA hval
  obtain ⟨v0, vs0, d0, ds0, p0, q0, hargs, rfl, rfl, h0, r0⟩ := trodAll_cons hA
  obtain ⟨v1, vs1, d1, ds1, p1, q1, rfl, rfl, rfl, h1, r1⟩ := trodAll_cons r0
  obtain ⟨v2, vs2, d2, ds2, p2, q2, rfl, rfl, rfl, h2, r2⟩ := trodAll_cons r1
  obtain ⟨v3, vs3, d3, ds3, p3, q3, rfl, rfl, rfl, h3, r3⟩ := trodAll_cons r2
  obtain ⟨v4, vs4, d4, ds4, p4, q4, rfl, rfl, rfl, h4, r4⟩ := trodAll_cons r3
  obtain ⟨rfl, rfl, rfl⟩ := trodAll_nil r4
  obtain rfl : args = #[v0, v1, v2, v3, v4] := by cases args; simp_all
  obtain ⟨rfl, rfl⟩ := trodVars_none hV
  have k0 := h0
  have lt0 : ∀ x ∈ p0, x.block < W.heap.size := by obtain ⟨m, hm⟩ := k0; exact DataW.trod_lt m _ _ _ hm
  obtain ⟨P0, x1, x2, x3, m1, y1, m2, y2, m3, y3, rfl, w0⟩ := plan_read (hval 0 26 v0 rfl rfl) h0
  have k1 := h1
  have lt1 : ∀ x ∈ p1, x.block < W.heap.size := by obtain ⟨m, hm⟩ := k1; exact DataW.trod_lt m _ _ _ hm
  obtain ⟨S1, z1, z2, z3, u1, t1, u2, t2, u3, t3, rfl, wS⟩ := state_read (hval 1 31 v1 rfl rfl) h1
  obtain ⟨a2, rfl, rfl, rfl, w2⟩ := open_int Try.underlying3 (hval 2 3 v2 rfl rfl) h2
  obtain ⟨a3, rfl, rfl, rfl, w3⟩ := open_int Try.underlying3 (hval 3 3 v3 rfl rfl) h3
  obtain ⟨a4, rfl, rfl, rfl, w4⟩ := open_int Try.underlying3 (hval 4 3 v4 rfl rfl) h4
  have hsz : (DataW.weightsEach Try.prog (Try.f8.params.toList ++ Rows.takersFairSpec.plain.varTypes Try.prog) ([d0, d1, .lit (.int .i64 a2), .lit (.int .i64 a3), .lit (.int .i64 a4)] ++ [])).all (· ≤ reachBytes) = true := hsz0
  rw [Try.params8] at hsz
  have zS := wS (fun n hn => by have := List.all_eq_true.1 hsz n (DataW.weights_mem_each (j := 1) rfl rfl n hn); simpa using this)
  have nz := state_nils k1
  clear hA0 hval0
  refine (walk_TakersFair P0 x1 x2 x3 m1 y1 m2 y2 m3 y3 S1 z1 z2 z3 u1 t1 u2 t2 u3 t3 a2 a3 a4 W w0 zS nz.1 nz.2).mono fun e W' ⟨he, bel⟩ => ?_
  subst he
  exact ⟨_, rfl, _, _, _, [], _, [], hW', trodAll_mk1 (shut_bool Try.underlying4 _), (trodAll_cons_mk (Below.trod laidOut (by kernel_rfl) (of_decide_eq_true (by kernel_rfl)) k0 bel lt0) (trodAll_cons_mk (Below.trod laidOut (by kernel_rfl) (of_decide_eq_true (by kernel_rfl)) k1 bel lt1) (trodAll_cons_mk (shut_int Try.underlying3 w2) (trodAll_cons_mk (shut_int Try.underlying3 w3) (trodAll_cons_mk (shut_int Try.underlying3 w4) trodAll_mk0))))), rfl, bel.frame _, fun h => by cases h⟩

theorem over : Rows.takersFairRow.holds Try.pinned (OpenSpec.ofChange Rows.takersFairSpec) :=
  OpenClaim.holds_of_wide 8 Try.f8 rfl rfl rfl rfl rfl rfl rfl ⟨rfl, rfl, rfl, rfl, rfl⟩ rfl rfl rfl rfl rfl (by kernel_rfl) Try.func8 (by kernel_rfl)
    (of_decide_eq_true (by kernel_rfl)) (by unfold Func.isWrapper; first | (rw [if_pos (by decide +kernel)]; kernel_rfl) | (rw [if_neg (by decide +kernel)]; exact ⟨rfl, rfl⟩))
    (fun os started H enc _ => lifted os started H enc)
end Go.Proofs.Ytpoichgodamnkaa.takersFair
namespace Go.Proofs.Ytpoichgodamnkaa
theorem takersFair_holds : Rows.TakersFairSaid := takersFair.over
#print axioms takersFair_holds

end Go.Proofs.Ytpoichgodamnkaa
