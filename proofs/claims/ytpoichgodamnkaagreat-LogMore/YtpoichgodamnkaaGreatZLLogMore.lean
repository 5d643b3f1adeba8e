/- The walk of the law LogMore. -/
import Derived.Test.YtpoichgodamnkaaGreatKux
import Derived.Test.YtpoichgodamnkaaGreatKwx
namespace Go.Proofs.YtpoichgodamnkaaGreat
open Go.RowKit Go.Maps
set_option linter.unusedVariables false
set_option maxRecDepth 100000
set_option maxHeartbeats 8000000
theorem pa_boxed (w : World) (pv av : Array Value) : ∃ W2, W2 = (w.alloc (.cells pv 26)).alloc (.cells av 72) ∧ Below w.heap.size w W2 ∧ W2.heap.size = w.heap.size + 2 ∧
 ∀ W', Below W2.heap.size W2 W' → W'.heap[w.heap.size]? = some (.cells pv 26 (0, 0)) ∧ W'.heap[w.heap.size + 1]? = some (.cells av 72 (0, 0)) := by
 obtain ⟨hz, hg, hB⟩ := allocs_heap [.cells pv 26, .cells av 72] w
 refine ⟨_, rfl, hB, hz, fun W' hW => ⟨pkp_ (hg 0 _ rfl) hW, pkp_ (hg 1 _ rfl) hW⟩⟩
theorem act_cells {W : World} {B : Nat} {v0 v1 v2 v3 v4 : Value} {t : TypeId} (h : W.heap[B]? = some (.cells #[v0, v1, v2, v3, v4] t (0, 0))) : W.cell? ⟨B, 0, none⟩ = some v0 ∧ W.cell? ⟨B, 1, none⟩ = some v1 ∧ W.cell? ⟨B, 2, none⟩ = some v2 ∧ W.cell? ⟨B, 3, none⟩ = some v3 ∧ W.cell? ⟨B, 4, none⟩ = some v4 :=
 ⟨coc_ h 0, coc_ h 1, coc_ h 2, coc_ h 3, coc_ h 4⟩
theorem RecRes.stV {W : World} {n : Nat} {v : Value} {E : Int} {s : StateD} (h : RecRes W n v E s) : StV W v (resV E s) := by
 unfold resV
 by_cases hE : E = 0
 ·rw [if_pos hE]
  obtain ⟨b1, b2, b3, m1, d1, m2, d2, m3, d3, h1, h2⟩ := h.1 hE
  exact ⟨b1, b2, b3, m1, d1, m2, d2, m3, d3, h1, h2.state.1, h2.state.2.1, h2.state.2.2.1⟩
 ·rw [if_neg hE, h.2 hE]
  exact ⟨none, none, none, 0, 0, 0, 0, 0, 0, rfl, ⟨rfl, rfl, rfl, Nat.zero_le _, Nat.zero_le _, Nat.zero_le _, .inl rfl, .inl rfl, .inl rfl⟩, fun _ => rfl, fun _ => rfl⟩
def SBox (W : World) (B : Nat) (b1 b2 b3 : Option Addr) (m1 d1 m2 d2 m3 d3 : Nat) (s : StateD) : Prop := W.heap[B]? = some (.cells #[.slice b1 m1 d1, .slice b2 m2 d2, .slice b3 m3 d3, .int .i64 s.nextSeq, .int .i64 s.nextTag, .int .i64 s.came, .int .i64 s.acked, .int .i64 s.dropped] 31 (0, 0)) ∧ StateAt W b1 b2 b3 m1 m2 m3 s
theorem SBox.keep6 {W W' : World} {B : Nat} {b1 b2 b3 : Option Addr} {m1 d1 m2 d2 m3 d3 : Nat} {s : StateD} (h : SBox W B b1 b2 b3 m1 d1 m2 d2 m3 d3 s) (hB : Below W.heap.size W W') : SBox W' B b1 b2 b3 m1 d1 m2 d2 m3 d3 s := ⟨pkp_ h.1 hB, h.2.keep hB⟩
theorem StV.boxed {W : World} {v : Value} {s : StateD} (h : StV W v s) : ∃ b1 b2 b3 m1 d1 m2 d2 m3 d3 W', v = .agg #[.slice b1 m1 d1, .slice b2 m2 d2, .slice b3 m3 d3, .int .i64 s.nextSeq, .int .i64 s.nextTag, .int .i64 s.came, .int .i64 s.acked, .int .i64 s.dropped] ∧ W' = W.alloc (.cells #[.slice b1 m1 d1, .slice b2 m2 d2, .slice b3 m3 d3, .int .i64 s.nextSeq, .int .i64 s.nextTag, .int .i64 s.came, .int .i64 s.acked, .int .i64 s.dropped] 31) ∧ Below W.heap.size W W' ∧ SBox W' W.heap.size b1 b2 b3 m1 d1 m2 d2 m3 d3 s ∧ (b2 = none → d2 = 0) ∧ (b3 = none → d3 = 0) := by
 obtain ⟨b1, b2, b3, m1, d1, m2, d2, m3, d3, h1, h2, h3⟩ := h
 exact ⟨b1, b2, b3, m1, d1, m2, d2, m3, d3, _, h1, rfl, (Below.refl _ _).alloc (Nat.le_refl _) _, ⟨World.alloc_heap_new W _, h2.keep ((Below.refl _ _).alloc (Nat.le_refl _) _)⟩, h3⟩
theorem walk_LogMore (p : PlanD) (a1 a2 a3 : Option Addr) (n1 c1 n2 c2 n3 c3 : Nat) (t : ByteArray) (x : ActD) (w : World) (hp : PlanAt w a1 a2 a3 n1 n2 n3 p) :
 Calls Tryz.prog 18 #[.agg #[.slice a1 n1 c1, .slice a2 n2 c2, .slice a3 n3 c3], .string t, x.val] w fun e w' => e = .returned (.bool true) ∧ Below w.heap.size w w' := by
 obtain ⟨kd, ka, kb, ky, bd⟩ := x
 show Calls Tryz.prog 18 #[.agg #[.slice a1 n1 c1, .slice a2 n2 c2, .slice a3 n3 c3], .string t, .agg #[.int .i64 kd, .int .i64 ka, .int .i64 kb, .string ky, .string bd]] w _
 obtain ⟨W2, hW2, hBw, hs2, hbx⟩ := pa_boxed w #[.slice a1 n1 c1, .slice a2 n2 c2, .slice a3 n3 c3] #[.int .i64 kd, .int .i64 ka, .int .i64 kb, .string ky, .string bd]
 have HW2 := hidI hW2
 have BX := hidI hbx
 have HP := hidI (hp.keep hBw)
 have s0 := hBw.size
 have HBW := hidI hBw
 obtain ⟨E, hE⟩ : ∃ E, E = recE p t := ⟨_, rfl⟩
 obtain ⟨N, hN⟩ : ∃ N, N = recN p t := ⟨_, rfl⟩
 obtain ⟨F, hF⟩ : ∃ F, F = putE (actT ⟨kd, ka, kb, ky, bd⟩) := ⟨_, rfl⟩
 obtain ⟨b, hb⟩ : ∃ b, b = putV (actT ⟨kd, ka, kb, ky, bd⟩) := ⟨_, rfl⟩
 obtain ⟨G, hG⟩ : ∃ G, G = repE t := ⟨_, rfl⟩
 obtain ⟨R, hR⟩ : ∃ R, R = repN t := ⟨_, rfl⟩
 obtain ⟨L, hL⟩ : ∃ L, L = (repA t).length := ⟨_, rfl⟩
 have HE := hidI hE
 have HN := hidI hN
 have HF := hidI hF
 have Hb := hidI hb
 have HG := hidI hG
 have HR := hidI hR
 have HL := hidI hL
 obtain ⟨x0, x1, x2⟩ := pl_cells (hbx W2 (Below.refl _ _)).1
 clear hW2 hbx hs2 hp hBw hE hN hF hb hG hR hL
 go_enter Tryz.func18, Tryz.ntmps18
 go_wp2_with fail
 rw [← HW2.out]
 refine (recover_any p _ _ _ _ _ _ _ _ _ t _ HP.out).mono ?_
 rintro e u1 ⟨v1, rfl, hr, kk⟩
 rw [← HE.out, ← HN.out]
 rw [← HE.out] at hr
 obtain ⟨f1, f2, f3, m1, g1, m2, g2, m3, g3, w1, rfl, hw, lw, hb, hn⟩ := hr.stV.boxed
 have K1 := hidI (kk.trans (lw.mono kk.size))
 have HW1 := hidI hw
 have HX1 := hidI hb
 have HN1 := hidI hn
 obtain ⟨B1, hB⟩ : ∃ B1, B1 = u1.heap.size := ⟨_, rfl⟩
 rw [← hB] at HX1
 have HBB1 := hidI hB
 clear x0 x1 x2 hr hw lw hb hn hB kk
 go_upto_region 2 with fail
 rw [← HW1.out, ← HBB1.out]
 obtain ⟨c0, c1, c2, c3, c4⟩ := act_cells (BX.out w1 K1.out).2
 go_wp2_with fail
 refine (lwrite_any ⟨kd, ka, kb, ky, bd⟩ _).mono ?_
 rintro e w2 ⟨rfl, l2⟩
 rw [← HF.out, ← Hb.out]
 have K2 := hidI (K1.out.trans (l2.mono K1.out.size))
 have HX2 := hidI (HX1.out.keep6 l2)
 clear c0 c1 c2 c3 c4 l2
 go_wp2_with fail
 refine (replay_any t _).mono ?_
 rintro e w3 ⟨v3, rfl, ho3, k3⟩
 rw [← HG.out, ← HR.out]
 obtain ⟨r3, rc3, hv3, -⟩ := own_row ho3
 rw [← HL.out] at hv3
 subst hv3
 have K3 := hidI (K2.out.trans (k3.mono K2.out.size))
 have HX3 := hidI (HX2.out.keep6 k3)
 clear k3 ho3
 go_upto_region 4 with fail
 by_cases z : E ≠ 0
 ·have h1 : (E != 0) = true := bne_iff_ne.2 z
  clear z
  go_wp2_with fail
  refine (logBegun_any _).mono ?_
  rintro e w7 ⟨rfl, k7⟩
  go_wp2_with fail
  go_ret
  exact ⟨rfl, HBW.out.trans ((K3.out.trans (k7.mono K3.out.size)).mono s0)⟩
 rw [Classical.not_not] at z
 subst z
 by_cases z : F ≠ 0
 ·have h1 : (F != 0) = true := bne_iff_ne.2 z
  clear z
  go_wp2_with fail
  refine (logBegun_any _).mono ?_
  rintro e w7 ⟨rfl, k7⟩
  go_wp2_with fail
  go_ret
  exact ⟨rfl, HBW.out.trans ((K3.out.trans (k7.mono K3.out.size)).mono s0)⟩
 rw [Classical.not_not] at z
 subst z
 by_cases z : G ≠ 0
 ·have h1 : (G != 0) = true := bne_iff_ne.2 z
  clear z
  go_wp2_with fail
  refine (logBegun_any _).mono ?_
  rintro e w7 ⟨rfl, k7⟩
  go_wp2_with fail
  go_ret
  exact ⟨rfl, HBW.out.trans ((K3.out.trans (k7.mono K3.out.size)).mono s0)⟩
 rw [Classical.not_not] at z
 subst z
 by_cases z : R ≠ (t.size : Int)
 ·have h1 : (R != (t.size : Int)) = true := bne_iff_ne.2 z
  clear z
  go_wp2_with fail
  refine (logBegun_any _).mono ?_
  rintro e w7 ⟨rfl, k7⟩
  go_wp2_with fail
  go_ret
  exact ⟨rfl, HBW.out.trans ((K3.out.trans (k7.mono K3.out.size)).mono s0)⟩
 rw [Classical.not_not] at z
 subst z
 have tz : t.size ≤ 4096 := by have h := HG.out; unfold repE at h; split at h <;> first | omega | cases h
 by_cases z : 60 ≤ L
 ·have h0 : ((t.size : Int) != (t.size : Int)) = false := by simp
  have h1 : decide ((60 : Int) ≤ (L : Int)) = true := by rw [decide_eq_true_eq]; omega
  go_wp2_with fail
  refine (logBegun_any _).mono ?_
  rintro e w7 ⟨rfl, k7⟩
  go_wp2_with fail
  go_ret
  exact ⟨rfl, HBW.out.trans ((K3.out.trans (k7.mono K3.out.size)).mono s0)⟩
 have h0 : ((t.size : Int) != (t.size : Int)) = false := by simp
 have h1 : decide ((60 : Int) ≤ (L : Int)) = false := by rw [decide_eq_false_iff_not]; omega
 have bz : b.size ≤ 100000 := by
  have h2 := put_bytes HF.out.symm
  rw [← Hb.out] at h2
  have h3 := act_ok HF.out.symm
  have h4 : b.data.toList.length = b.size := size_list b
  rw [h2, actB_eq] at h4
  obtain ⟨_, _, _, o4, o5⟩ := h3
  dsimp only at o4 o5
  simp [textB] at h4
  have e1 := size_list ky
  have e2 := size_list bd
  simp at e1 e2
  omega
 have hwr : IntKind.i64.wrap ((t.size : Int) + (b.size : Int)) = (t.size : Int) + (b.size : Int) := by rw [IntKind.wrap_i64]; omega
 by_cases z2 : 4096 < t.size + b.size
 ·have h2 : decide ((4096 : Int) < (t.size : Int) + (b.size : Int)) = true := by rw [decide_eq_true_eq]; omega
  clear z z2
  go_wp2_with fail
  refine (logBegun_any _).mono ?_
  rintro e w7 ⟨rfl, k7⟩
  go_wp2_with fail
  go_ret
  exact ⟨rfl, HBW.out.trans ((K3.out.trans (k7.mono K3.out.size)).mono s0)⟩
 have h2 : decide ((4096 : Int) < (t.size : Int) + (b.size : Int)) = false := by rw [decide_eq_false_iff_not]; omega
 obtain ⟨q1, q2, q3⟩ := more_plain HE.out.symm HF.out.symm HG.out.symm HR.out.symm (by rw [← HL.out]; omega) (by rw [← Hb.out]; omega)
 rw [← Hb.out] at q1 q2 q3
 have Q1 := hidI q1
 have Q2 := hidI q2
 have Q3 := hidI q3
 obtain ⟨x0, x1, x2⟩ := pl_cells (BX.out w3 K3.out).1
 have hcz : t.size + b.size ≤ 4096 := by omega
 clear z z2 q1 q2 q3
 go_wp2_with fail
 refine (recover_any p _ _ _ _ _ _ _ _ _ (t ++ b) _ (HP.out.keep K3.out)).mono ?_
 rintro e u4 ⟨v4, rfl, hr, kk⟩
 have hNL : N = (L : Int) := by rw [HN.out, HL.out]; unfold recN; rw [if_pos HE.out.symm]
 rw [Q1.out, Q2.out, ← HN.out, hNL]
 rw [Q1.out, Q3.out] at hr
 have hv4 : StV u4 v4 (stepD p (recS p t) ⟨kd, ka, kb, ky, bd⟩) := by have := hr.stV; unfold resV at this; rwa [if_pos rfl] at this
 obtain ⟨f41, f42, f43, m41, g41, m42, g42, m43, g43, w4, rfl, hw, lw, hb, hn⟩ := hv4.boxed
 have D4 := hidI (kk.trans (lw.mono kk.size))
 have K4 := hidI (K3.out.trans (D4.out.mono K3.out.size))
 have HW4 := hidI hw
 have HX4 := hidI hb
 obtain ⟨B4, hB⟩ : ∃ B4, B4 = u4.heap.size := ⟨_, rfl⟩
 rw [← hB] at HX4
 have HBB4 := hidI hB
 have hXr : SBox w3 B1 f1 f2 f3 m1 g1 m2 g2 m3 g3 (recS p t) := HX3.out
 have HXR := hidI (hXr.keep6 D4.out)
 clear x0 x1 x2 hr hw lw hb hn hB kk hv4 hXr h0 h1 h2 hwr
 subst hNL
 have hL60 : L ≤ 60 := by rw [HL.out]; unfold repA; split <;> first | exact repL_len _ _ _ | simp
 go_upto_region 7 with fail
 rw [← HW4.out, ← HBB4.out]
 obtain ⟨x0, x1, x2⟩ := pl_cells (BX.out w4 K4.out).1
 obtain ⟨c0, c1, c2, c3, c4⟩ := act_cells (BX.out w4 K4.out).2
 obtain ⟨y0, y1, y2, y3, y4, y5, y6, y7⟩ := st_cells HXR.out.1
 go_wp2_with fail
 refine (do_any p _ _ _ _ _ _ _ _ _ (recS p t) _ _ _ _ _ _ _ _ _ ⟨kd, ka, kb, ky, bd⟩ _ (HP.out.keep K4.out) HXR.out.2 HN1.out.1 HN1.out.2).mono ?_
 rintro e u5 ⟨v5, rfl, hr, kk⟩
 obtain ⟨E5, hE5⟩ : ∃ E5, E5 = doE p (recS p t) ⟨kd, ka, kb, ky, bd⟩ := ⟨_, rfl⟩
 rw [← hE5]
 rw [← hE5] at hr
 have D5 := hidI kk
 have K5 := hidI (K4.out.trans (kk.mono K4.out.size))
 have HX4u := hidI (HX4.out.keep6 kk)
 have HXRu := hidI (HXR.out.keep6 kk)
 clear x0 x1 x2 y0 y1 y2 y3 y4 y5 y6 y7 c0 c1 c2 c3 c4 kk
 have j1 : IntKind.i64.wrap ((L : Int) + 1) = (L : Int) + 1 := by rw [IntKind.wrap_i64]; omega
 have j2 : ((L : Int) + 1 == (L : Int) + 1) = true := by simp
 by_cases z : E5 = 0
 ·subst z
  obtain ⟨f51, f52, f53, m51, g51, m52, g52, m53, g53, w5, rfl, hw, lw, hb, -⟩ := hr.stV.boxed
  have hst : stepD p (recS p t) ⟨kd, ka, kb, ky, bd⟩ = doS p (recS p t) ⟨kd, ka, kb, ky, bd⟩ := by unfold stepD; rw [if_pos hE5.symm]
  have hb' : SBox w5 u5.heap.size f51 f52 f53 m51 g51 m52 g52 m53 g53 (doS p (recS p t) ⟨kd, ka, kb, ky, bd⟩) := hb
  rw [hst] at HX4u ⊢
  have HX4q := hidI (HX4u.out.keep6 lw)
  have HX5q := hidI hb'
  have K5q := hidI (K5.out.trans (lw.mono K5.out.size))
  have HW5 := hidI hw
  obtain ⟨B5, hB5⟩ : ∃ B5, B5 = u5.heap.size := ⟨_, rfl⟩
  rw [← hB5] at HX5q
  have HBB5 := hidI hB5
  have g0 : ((0 : Int) != 0) = false := rfl
  obtain rfl : m51 = m41 := by have h1 := HX4q.out.2.l1; have h2 := HX5q.out.2.l1; omega
  obtain rfl : m52 = m42 := by have h1 := HX4q.out.2.l2; have h2 := HX5q.out.2.l2; omega
  obtain rfl : m53 = m43 := by have h1 := HX4q.out.2.l3; have h2 := HX5q.out.2.l3; omega
  clear hw lw hb hb' hB5 hr hE5
  go_upto_region 10 with fail
  rw [← HW5.out, ← HBB5.out]
  clear g0
  go_wp2_with fail
  refine (logBegun_any _).mono ?_
  rintro e w6 ⟨rfl, l6⟩
  have K6 := hidI (K5q.out.trans (l6.mono K5q.out.size))
  have X4 := HX4q.out.keep6 l6
  have X5 := HX5q.out.keep6 l6
  clear l6
  obtain ⟨y0, y1, y2, y3, y4, y5, y6, y7⟩ := st_cells X4.1
  obtain ⟨z0, z1, z2, z3, z4, z5, z6, z7⟩ := st_cells X5.1
  have SR := hidI (same_states (doS p (recS p t) ⟨kd, ka, kb, ky, bd⟩) _ _ _ _ _ _ _ g41 _ g42 _ g43 g51 g52 g53 _ X4.2 X5.2)
  clear X4 X5
  have g0 : ((0 : Int) == 0) = true := rfl
  go_wp2_with fail
  refine SR.out.mono ?_
  rintro e w7 ⟨rfl, l7⟩
  have K7 := hidI (K6.out.trans (l7.mono K6.out.size))
  clear l7 SR y0 y1 y2 y3 y4 y5 y6 y7 z0 z1 z2 z3 z4 z5 z6 z7
  go_wp2_with fail
  go_ret
  exact ⟨rfl, HBW.out.trans (K7.out.mono s0)⟩
 ·obtain ⟨x51, x52, x53, k51, g51, k52, g52, k53, g53, i51, i52, i53, i54, i55, rfl⟩ := hr.shape
  have hst : stepD p (recS p t) ⟨kd, ka, kb, ky, bd⟩ = recS p t := by unfold stepD; rw [if_neg (by rw [← hE5]; exact z)]
  rw [hst] at HX4u ⊢
  have g0 : (E5 != 0) = true := bne_iff_ne.2 z
  obtain ⟨y0, y1, y2, y3, y4, y5, y6, y7⟩ := st_cells HXRu.out.1
  have hlt : B1 < u5.heap.size := lth_ HXRu.out.1
  clear z hr hE5
  go_upto_region 10 with fail
  obtain ⟨w5, hw5⟩ : ∃ w5, w5 = u5.alloc (.cells #[.slice f1 m1 g1, .slice f2 m2 g2, .slice f3 m3 g3, .int .i64 (recS p t).nextSeq, .int .i64 (recS p t).nextTag, .int .i64 (recS p t).came, .int .i64 (recS p t).acked, .int .i64 (recS p t).dropped] 31) := ⟨_, rfl⟩
  have lw : Below u5.heap.size u5 w5 := by rw [hw5]; exact (Below.refl _ _).alloc (Nat.le_refl _) _
  have hx5 : w5.heap[u5.heap.size]? = some (.cells #[.slice f1 m1 g1, .slice f2 m2 g2, .slice f3 m3 g3, .int .i64 (recS p t).nextSeq, .int .i64 (recS p t).nextTag, .int .i64 (recS p t).came, .int .i64 (recS p t).acked, .int .i64 (recS p t).dropped] 31 (0, 0)) := by rw [hw5]; exact World.alloc_heap_new u5 _
  rw [← hw5]
  have HX4q := hidI (HX4u.out.keep6 lw)
  have hb' : SBox w5 u5.heap.size f1 f2 f3 m1 g1 m2 g2 m3 g3 (recS p t) := ⟨hx5, HXRu.out.2.keep lw⟩
  obtain ⟨B5, hB5⟩ : ∃ B5, B5 = u5.heap.size := ⟨_, rfl⟩
  rw [← hB5] at hb' ⊢
  have HX5q := hidI hb'
  have K5q := hidI (K5.out.trans (lw.mono K5.out.size))
  obtain rfl : m1 = m41 := by have h1 := HX4q.out.2.l1; have h2 := HX5q.out.2.l1; omega
  obtain rfl : m2 = m42 := by have h1 := HX4q.out.2.l2; have h2 := HX5q.out.2.l2; omega
  obtain rfl : m3 = m43 := by have h1 := HX4q.out.2.l3; have h2 := HX5q.out.2.l3; omega
  clear hw5 lw hx5 hb' hB5 y0 y1 y2 y3 y4 y5 y6 y7 hlt g0
  go_wp2_with fail
  refine (logBegun_any _).mono ?_
  rintro e w6 ⟨rfl, l6⟩
  have K6 := hidI (K5q.out.trans (l6.mono K5q.out.size))
  have X4 := HX4q.out.keep6 l6
  have X5 := HX5q.out.keep6 l6
  clear l6
  obtain ⟨y0, y1, y2, y3, y4, y5, y6, y7⟩ := st_cells X4.1
  obtain ⟨z0, z1, z2, z3, z4, z5, z6, z7⟩ := st_cells X5.1
  have SR := hidI (same_states (recS p t) _ _ _ _ _ _ _ g41 _ g42 _ g43 g1 g2 g3 _ X4.2 X5.2)
  clear X4 X5
  have g0 : ((0 : Int) == 0) = true := rfl
  go_wp2_with fail
  refine SR.out.mono ?_
  rintro e w7 ⟨rfl, l7⟩
  have K7 := hidI (K6.out.trans (l7.mono K6.out.size))
  clear l7 SR y0 y1 y2 y3 y4 y5 y6 y7 z0 z1 z2 z3 z4 z5 z6 z7
  go_wp2_with fail
  go_ret
  exact ⟨rfl, HBW.out.trans (K7.out.mono s0)⟩
end Go.Proofs.YtpoichgodamnkaaGreat
