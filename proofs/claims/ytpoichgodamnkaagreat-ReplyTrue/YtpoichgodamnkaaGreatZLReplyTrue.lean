/- The walk of the law ReplyTrue. -/
import Derived.BigRegion
import Derived.Test.YtpoichgodamnkaaGreatVJr
import Derived.Test.YtpoichgodamnkaaGreatKux
import Derived.Deep.DeepCutAuto
namespace Go.Proofs.YtpoichgodamnkaaGreat
open Go.RowKit Go.Maps
set_option linter.unusedVariables false
set_option maxRecDepth 100000
set_option maxHeartbeats 16000000
theorem HasOut.lost {p : PlanD} {s : StateD} {n : Int} {tag : Int} {i : Nat} {o : OutD} (h : HasOut s tag i o) (hR : RightX p s n) : ∀ z ∈ s.outs.eraseIdx i, z.tag ≠ tag := by
 intro z hz e
 obtain ⟨j, hj, hz'⟩ := List.mem_eraseIdx_iff_getElem?.1 hz
 have hjl := (List.getElem?_eq_some_iff.1 hz').1
 have hjz := (List.getElem?_eq_some_iff.1 hz').2
 exact hj (rise_inj hR.rise hjl h.lt (by rw [hjz, h.get, e, h.tag]))
theorem ack_twice {p : PlanD} {s : StateD} {tag : Int} (h : ackE p s tag = 0) : RightX p (ackS s tag) 0 ∧ ackE p (ackS s tag) tag = 5 ∧ (ackS s tag).outs.length + 1 = s.outs.length ∧ RightX p s 0 := by
 obtain ⟨hR, i, o, ho⟩ := ack_zero h
 have hr := hR.ack ho
 refine ⟨hr, ?_, ho.len, hR⟩
 unfold ackE
 rw [if_neg (by simp [hr.ok]), if_pos (noOut.2 (fun z hz => ho.lost hR z (by have : z ∈ (lessS s tag).outs := hz; rwa [ho.less] at this)))]
theorem rej_twice {p : PlanD} {s : StateD} {tag : Int} {back : Bool} (h : rejE p s tag = 0) : RightX p (rejS p s tag back) 0 ∧ rejE p (rejS p s tag back) tag = 5 ∧ (rejS p s tag back).outs.length + 1 = s.outs.length ∧ (rejS p s tag back).acked = s.acked ∧ RightX p s 0 := by
 obtain ⟨hR, _, _⟩ := rej_zero h
 obtain ⟨i, o, n, ho, _, hj⟩ := rejected h back
 refine ⟨hj.right, ?_, ?_, hj.acked, hR⟩
 ·have e : outIdx (rejS p s tag back) tag = (rejS p s tag back).outs.length := noOut.2 (fun z hz => ho.lost hR z (by rwa [hj.outs] at hz))
  rw [rejE_right hj.right.ok]; unfold rejX; rw [if_pos e]
 ·rw [hj.outs, ← ho.less]; exact ho.len
theorem walk_ReplyTrue (p : PlanD) (a1 a2 a3 : Option Addr) (n1 c1 n2 c2 n3 c3 : Nat) (s : StateD) (b1 b2 b3 : Option Addr) (m1 d1 m2 d2 m3 d3 : Nat) (tag : Int) (back : Bool) (tk : Int) (w : World) (hp : PlanAt w a1 a2 a3 n1 n2 n3 p) (hs : StateAt w b1 b2 b3 m1 m2 m3 s) (hn2 : b2 = none → d2 = 0) (hn3 : b3 = none → d3 = 0) :
 Calls Tryz.prog 9 #[.agg #[.slice a1 n1 c1, .slice a2 n2 c2, .slice a3 n3 c3], .agg #[.slice b1 m1 d1, .slice b2 m2 d2, .slice b3 m3 d3, .int .i64 s.nextSeq, .int .i64 s.nextTag, .int .i64 s.came, .int .i64 s.acked, .int .i64 s.dropped], .int .i64 tag, .bool back, .int .i64 tk] w fun e w' => e = .returned (.bool true) ∧ Below w.heap.size w w' := by
 obtain ⟨W2, hW2, hBw, hs2, hbx⟩ := ps_boxed w #[.slice a1 n1 c1, .slice a2 n2 c2, .slice a3 n3 c3] #[.slice b1 m1 d1, .slice b2 m2 d2, .slice b3 m3 d3, .int .i64 s.nextSeq, .int .i64 s.nextTag, .int .i64 s.came, .int .i64 s.acked, .int .i64 s.dropped]
 have HW2 := hidI hW2
 have BX := hidI hbx
 have HS := hidI (hs.keep hBw)
 have HP := hidI (hp.keep hBw)
 have HN := hidI (And.intro hn2 hn3)
 have s0 := hBw.size
 have HBW := hidI hBw
 obtain ⟨E, hE⟩ : ∃ E, E = ackE p s tag := ⟨_, rfl⟩
 obtain ⟨F, hF⟩ : ∃ F, F = rejE p s tag := ⟨_, rfl⟩
 obtain ⟨H, hH⟩ : ∃ H, H = leavE p s tk := ⟨_, rfl⟩
 have HE := hidI hE
 have HF := hidI hF
 have HH := hidI hH
 have K0 : Hid (Below W2.heap.size W2 W2) := Below.refl _ _
 obtain ⟨x0, x1, x2⟩ := pl_cells (hbx W2 (Below.refl _ _)).1
 obtain ⟨y0, y1, y2, y3, y4, y5, y6, y7⟩ := st_cells (hbx W2 (Below.refl _ _)).2
 clear hW2 hbx hs2 hp hs hBw hn2 hn3 hE hF hH
 go_enter Tryz.func9, Tryz.ntmps9
 go_wp2_with fail
 rw [← HW2.out]
 refine (ack_any p _ _ _ _ _ _ _ _ _ s _ _ _ _ _ _ _ _ _ tag _ (HP.out.keep K0.out) (HS.out.keep K0.out) HN.out.1 HN.out.2).mono ?_
 rintro e v1 ⟨u1, rfl, hr, kk⟩
 rw [← HE.out] at hr ⊢
 obtain ⟨X1, hX⟩ : ∃ X1, X1 = resV E (ackS s tag) := ⟨_, rfl⟩
 obtain ⟨f11, f12, f13, t11, e11, t12, e12, t13, e13, w1, rfl, hw, lw, hb, hs', hn'⟩ := hr.boxV hX
 have HX1 := hidI hX
 have HW1 := hidI hw
 have HS1 := hidI hs'
 have HNN1 := hidI hn'
 obtain ⟨B1, hB⟩ : ∃ B1, B1 = v1.heap.size := ⟨_, rfl⟩
 have HBB1 := hidI hB
 rw [← hB] at hb
 have HB1 := hidI hb
 have K1 := hidI (K0.out.trans ((kk.trans (lw.mono kk.size)).mono K0.out.size))
 have L1 := hidI (kk.trans (lw.mono kk.size))
 clear hr hX hw hs' hn' hB kk lw hb
 go_upto_region 2 with fail
 rw [← HW1.out, ← HBB1.out]
 clear x0 x1 x2 y0 y1 y2 y3 y4 y5 y6 y7
 obtain ⟨x0, x1, x2⟩ := pl_cells (BX.out w1 K1.out).1
 obtain ⟨y0, y1, y2, y3, y4, y5, y6, y7⟩ := st_cells (BX.out w1 K1.out).2
 go_wp2_with fail
 refine (reject_any p _ _ _ _ _ _ _ _ _ s _ _ _ _ _ _ _ _ _ tag back _ (HP.out.keep K1.out) (HS.out.keep K1.out) HN.out.1 HN.out.2).mono ?_
 rintro e v2 ⟨u2, rfl, hr, kk⟩
 rw [← HF.out] at hr ⊢
 obtain ⟨X2, hX⟩ : ∃ X2, X2 = resV F (rejS p s tag back) := ⟨_, rfl⟩
 obtain ⟨f21, f22, f23, t21, e21, t22, e22, t23, e23, w2, rfl, hw, lw, hb, hs', hn'⟩ := hr.boxV hX
 have HX2 := hidI hX
 have HW2 := hidI hw
 have HS2 := hidI hs'
 have HNN2 := hidI hn'
 obtain ⟨B2, hB⟩ : ∃ B2, B2 = v2.heap.size := ⟨_, rfl⟩
 have HBB2 := hidI hB
 rw [← hB] at hb
 have HB2 := hidI hb
 have K2 := hidI (K1.out.trans ((kk.trans (lw.mono kk.size)).mono K1.out.size))
 have L2 := hidI (kk.trans (lw.mono kk.size))
 clear hr hX hw hs' hn' hB kk lw hb
 go_upto_region 3 with fail
 rw [← HW2.out, ← HBB2.out]
 have HB1b := hidI (pkp_ HB1.out L2.out)
 have HS1b := hidI (HS1.out.keep L2.out)
 clear x0 x1 x2 y0 y1 y2 y3 y4 y5 y6 y7
 go_upto_if 41 with fail
 go_cut [] (fun wx => Below w2.heap.size w2 wx)
 case first =>
  by_cases zE : E = 0
  rotate_left
  ·have gE : (E == 0) = false := by simpa using zE
   clear zE
   go_wp2_with fail
   go_meet
   case rel => exact Below.refl _ _
  subst zE
  have hX1 : X1 = ackS s tag := by rw [HX1.out]; exact if_pos rfl
  obtain ⟨hr1, ht1, hl1, hRs⟩ := ack_twice HE.out.symm
  rw [← hX1] at hr1 ht1 hl1
  have AT : Hid (RightX p X1 0 ∧ ackE p X1 tag = 5 ∧ X1.outs.length + 1 = s.outs.length ∧ RightX p s 0 ∧ X1.acked = s.acked + 1 ∧ X1.came = s.came) := ⟨hr1, ht1, hl1, hRs, by rw [hX1]; rfl, by rw [hX1]; rfl⟩
  clear hr1 ht1 hl1 hRs hX1
  obtain ⟨x0, x1, x2⟩ := pl_cells (BX.out w2 K2.out).1
  obtain ⟨y0, y1, y2, y3, y4, y5, y6, y7⟩ := st_cells HB1b.out
  obtain ⟨G, hG⟩ : ∃ G, G = ackE p X1 tag := ⟨_, rfl⟩
  have HG := hidI hG
  clear hG
  go_wp2_with fail
  refine (ack_any p _ _ _ _ _ _ _ _ _ X1 _ _ _ _ _ _ _ _ _ tag _ (HP.out.keep K2.out) HS1b.out HNN1.out.1 HNN1.out.2).mono ?_
  rintro e v3 ⟨u3, rfl, hr, kk⟩
  rw [← HG.out] at hr ⊢
  obtain ⟨X3, hX⟩ : ∃ X3, X3 = resV G (ackS X1 tag) := ⟨_, rfl⟩
  obtain ⟨f31, f32, f33, t31, e31, t32, e32, t33, e33, w3, rfl, hw, lw, hb, hs', hn'⟩ := hr.boxV hX
  have HX3 := hidI hX
  have HW3 := hidI hw
  have HS3 := hidI hs'
  have HNN3 := hidI hn'
  obtain ⟨B3, hB⟩ : ∃ B3, B3 = v3.heap.size := ⟨_, rfl⟩
  have HBB3 := hidI hB
  rw [← hB] at hb
  have HB3 := hidI hb
  have K3 := hidI (K2.out.trans ((kk.trans (lw.mono kk.size)).mono K2.out.size))
  have L3 := hidI (kk.trans (lw.mono kk.size))
  clear hr hX hw hs' hn' hB kk lw hb
  go_upto_region 5 with fail
  rw [← HW3.out, ← HBB3.out]
  have HB1c := hidI (pkp_ HB1b.out L3.out)
  have HS1c := hidI (HS1b.out.keep L3.out)
  have gG : (G != 5) = false := by rw [HG.out, AT.out.2.1]; rfl
  clear x0 x1 x2 y0 y1 y2 y3 y4 y5 y6 y7
  obtain ⟨x0, x1, x2⟩ := pl_cells (BX.out w3 K3.out).1
  obtain ⟨y0, y1, y2, y3, y4, y5, y6, y7⟩ := st_cells HB1c.out
  go_wp2_with fail
  refine (scheck_any p _ _ _ _ _ _ _ _ _ X1 _ _ _ _ _ _ _ _ _ _ (HP.out.keep K3.out) HS1c.out).mono ?_
  rintro e w4 ⟨rfl, k4⟩
  rw [AT.out.1.ok]
  have K4 := hidI (K3.out.trans (k4.mono K3.out.size))
  have HB1d := hidI (pkp_ HB1c.out k4)
  clear x0 x1 x2 y0 y1 y2 y3 y4 y5 y6 y7
  have L4 := hidI (L3.out.trans (k4.mono L3.out.size))
  clear k4
  obtain ⟨y0, y1, y2, y3, y4, y5, y6, y7⟩ := st_cells HB1d.out
  obtain ⟨z0, z1, z2, z3, z4, z5, z6, z7⟩ := st_cells (BX.out w4 K4.out).2
  have hwr : IntKind.i64.wrap ((m2 : Int) - 1) = (m2 : Int) - 1 := by
   have h1 := (small_state AT.out.2.2.2.1).2.2.1
   have h2 := HS.out.l2
   rw [IntKind.wrap_i64]; omega
  have hle : ((t12 : Int) != (m2 : Int) - 1) = false := by
   have h1 := HS1.out.l2
   have h2 := HS.out.l2
   have h3 := AT.out.2.2.1
   have : (t12 : Int) = (m2 : Int) - 1 := by omega
   rw [this]; simp
  have hwa : IntKind.i64.wrap (s.acked + 1) = s.acked + 1 := wrap_one AT.out.2.2.2.1.acked_le.1 (by have := AT.out.2.2.2.1.acked_le.2; omega)
  have hac : (X1.acked != s.acked + 1) = false := by rw [AT.out.2.2.2.2.1]; simp
  have hca : (X1.came != s.came) = false := by rw [AT.out.2.2.2.2.2]; simp
  go_wp2_with fail
  go_meet
  case rel => exact L4.out
 case rest =>
  obtain ⟨w4, hw4⟩ : ∃ w4, w4 = wc := ⟨_, rfl⟩
  rw [← hw4] at hcut ⊢
  have K4 := hidI (K2.out.trans (hcut.mono K2.out.size))
  have HB2d := hidI (pkp_ HB2.out hcut)
  have HS2d := hidI (HS2.out.keep hcut)
  clear hw4 hcut
  go_upto_if 83 with fail
  go_cut [] (fun wx => Below w4.heap.size w4 wx)
  case first =>
   by_cases zF : F = 0
   rotate_left
   ·have gF : (F == 0) = false := by simpa using zF
    clear zF
    go_wp2_with fail
    go_meet
    case rel => exact Below.refl _ _
   subst zF
   have hX2 : X2 = rejS p s tag back := by rw [HX2.out]; exact if_pos rfl
   obtain ⟨hr1, ht1, hl1, ha1, hRs⟩ := rej_twice (back := back) HF.out.symm
   rw [← hX2] at hr1 ht1 hl1 ha1
   have RT : Hid (RightX p X2 0 ∧ rejE p X2 tag = 5 ∧ X2.outs.length + 1 = s.outs.length ∧ X2.acked = s.acked) := ⟨hr1, ht1, hl1, ha1⟩
   have RS := hidI hRs
   clear hr1 ht1 hl1 ha1 hRs hX2
   go_upto_region 8 with fail
   obtain ⟨x0, x1, x2⟩ := pl_cells (BX.out w4 K4.out).1
   obtain ⟨y0, y1, y2, y3, y4, y5, y6, y7⟩ := st_cells HB2d.out
   obtain ⟨G2, hG⟩ : ∃ G2, G2 = rejE p X2 tag := ⟨_, rfl⟩
   have HG2 := hidI hG
   clear hG
   go_wp2_with fail
   refine (reject_any p _ _ _ _ _ _ _ _ _ X2 _ _ _ _ _ _ _ _ _ tag back _ (HP.out.keep K4.out) HS2d.out HNN2.out.1 HNN2.out.2).mono ?_
   rintro e v6 ⟨u6, rfl, hr, kk⟩
   rw [← HG2.out] at hr ⊢
   obtain ⟨X6, hX⟩ : ∃ X6, X6 = resV G2 (rejS p X2 tag back) := ⟨_, rfl⟩
   obtain ⟨f61, f62, f63, t61, e61, t62, e62, t63, e63, w6, rfl, hw, lw, hb, hs', hn'⟩ := hr.boxV hX
   have HX6 := hidI hX
   have HW6 := hidI hw
   have HS6 := hidI hs'
   have HNN6 := hidI hn'
   obtain ⟨B6, hB⟩ : ∃ B6, B6 = v6.heap.size := ⟨_, rfl⟩
   have HBB6 := hidI hB
   rw [← hB] at hb
   have HB6 := hidI hb
   have K6 := hidI (K4.out.trans ((kk.trans (lw.mono kk.size)).mono K4.out.size))
   have L6 := hidI (kk.trans (lw.mono kk.size))
   clear hr hX hw hs' hn' hB kk lw hb
   go_upto_region 9 with fail
   rw [← HW6.out, ← HBB6.out]
   have HB2e := hidI (pkp_ HB2d.out L6.out)
   have HS2e := hidI (HS2d.out.keep L6.out)
   have gG2 : (G2 != 5) = false := by rw [HG2.out, RT.out.2.1]; rfl
   clear x0 x1 x2 y0 y1 y2 y3 y4 y5 y6 y7
   obtain ⟨x0, x1, x2⟩ := pl_cells (BX.out w6 K6.out).1
   obtain ⟨y0, y1, y2, y3, y4, y5, y6, y7⟩ := st_cells HB2e.out
   go_wp2_with fail
   refine (scheck_any p _ _ _ _ _ _ _ _ _ X2 _ _ _ _ _ _ _ _ _ _ (HP.out.keep K6.out) HS2e.out).mono ?_
   rintro e w7 ⟨rfl, k7⟩
   rw [RT.out.1.ok]
   have K7 := hidI (K6.out.trans (k7.mono K6.out.size))
   have HB2f := hidI (pkp_ HB2e.out k7)
   clear x0 x1 x2 y0 y1 y2 y3 y4 y5 y6 y7
   have L7 := hidI (L6.out.trans (k7.mono L6.out.size))
   clear k7
   obtain ⟨y0, y1, y2, y3, y4, y5, y6, y7⟩ := st_cells HB2f.out
   obtain ⟨z0, z1, z2, z3, z4, z5, z6, z7⟩ := st_cells (BX.out w7 K7.out).2
   have hle : ((t22 : Int) != (m2 : Int) - 1) = false := by
    have h1 := HS2.out.l2
    have h2 := HS.out.l2
    have h3 := RT.out.2.2.1
    have : (t22 : Int) = (m2 : Int) - 1 := by omega
    rw [this]; simp
   have hac : (X2.acked != s.acked) = false := by rw [RT.out.2.2.2]; simp
   have hwr : IntKind.i64.wrap ((m2 : Int) - 1) = (m2 : Int) - 1 := by
    have h1 := (small_state RS.out).2.2.1
    have h2 := HS.out.l2
    rw [IntKind.wrap_i64]; omega
   go_wp2_with fail
   go_meet
   case rel => exact L7.out
  case rest =>
   obtain ⟨w8, hw8⟩ : ∃ w8, w8 = wc := ⟨_, rfl⟩
   rw [← hw8] at hcut ⊢
   have K8 := hidI (K4.out.trans (hcut.mono K4.out.size))
   clear hw8 hcut
   obtain ⟨x0, x1, x2⟩ := pl_cells (BX.out w8 K8.out).1
   obtain ⟨y0, y1, y2, y3, y4, y5, y6, y7⟩ := st_cells (BX.out w8 K8.out).2
   go_wp2_with fail
   refine (leave_any p _ _ _ _ _ _ _ _ _ s _ _ _ _ _ _ _ _ _ tk _ (HP.out.keep K8.out) (HS.out.keep K8.out) HN.out.1 HN.out.2).mono ?_
   rintro e va5 ⟨ua5, rfl, hr, kk⟩
   rw [← HH.out] at hr ⊢
   obtain ⟨XA5, hX⟩ : ∃ XA5, XA5 = resV H (leavS p s tk) := ⟨_, rfl⟩
   obtain ⟨f51, f52, f53, t51, e51, t52, e52, t53, e53, wa5, rfl, hw, lw, hb, hs', hn'⟩ := hr.boxV hX
   have HX5 := hidI hX
   have HWA5 := hidI hw
   have HSA5 := hidI hs'
   obtain ⟨BA5, hB⟩ : ∃ BA5, BA5 = va5.heap.size := ⟨_, rfl⟩
   have HBBA5 := hidI hB
   rw [← hB] at hb
   have HBA5 := hidI hb
   have KA5 := hidI (K8.out.trans ((kk.trans (lw.mono kk.size)).mono K8.out.size))
   clear x0 x1 x2 y0 y1 y2 y3 y4 y5 y6 y7
   clear hr hX hw hs' hn' hB kk lw hb
   go_upto_region 12 with fail
   rw [← HWA5.out, ← HBBA5.out]
   by_cases zH : H ≠ 0
   ·have gH : (H != 0) = true := bne_iff_ne.2 zH
    clear zH
    go_wp2_with fail
    refine (replyBegun_any _).mono ?_
    rintro e wa7 ⟨rfl, k7⟩
    go_wp2_with fail
    go_ret
    exact ⟨rfl, HBW.out.trans ((KA5.out.trans (k7.mono KA5.out.size)).mono s0)⟩
   rw [Classical.not_not] at zH
   subst zH
   have HXX : Hid (XA5 = leavS p s tk) := by show XA5 = _; rw [HX5.out]; exact if_pos rfl
   have GN := hidI (leaves HH.out.symm)
   obtain ⟨x0, x1, x2⟩ := pl_cells (BX.out wa5 KA5.out).1
   obtain ⟨y0, y1, y2, y3, y4, y5, y6, y7⟩ := st_cells HBA5.out
   go_wp2_with fail
   refine (sheld_any p _ _ _ _ _ _ _ _ _ XA5 _ _ _ _ _ _ _ _ _ tk _ (HP.out.keep KA5.out) HSA5.out).mono ?_
   rintro e wa6 ⟨rfl, k6⟩
   have hh1 : hdE p XA5 tk = 0 := by rw [HXX.out]; unfold hdE; rw [if_pos GN.out.right.ok, if_pos (isNum_iff.2 (by rw [GN.out.tlen]; exact GN.out.rng))]
   have hh2 : hdN p XA5 tk = 0 := by unfold hdN; rw [if_pos hh1, HXX.out, GN.out.held]; rfl
   rw [hh1, hh2]
   have KA6 := hidI (KA5.out.trans (k6.mono KA5.out.size))
   have HBA6 := hidI (pkp_ HBA5.out k6)
   have HSA6 := hidI (HSA5.out.keep k6)
   clear x0 x1 x2 y0 y1 y2 y3 y4 y5 y6 y7
   clear k6 hh1 hh2
   obtain ⟨x0, x1, x2⟩ := pl_cells (BX.out wa6 KA6.out).1
   obtain ⟨y0, y1, y2, y3, y4, y5, y6, y7⟩ := st_cells (BX.out wa6 KA6.out).2
   go_wp2_with fail
   refine (sheld_any p _ _ _ _ _ _ _ _ _ s _ _ _ _ _ _ _ _ _ tk _ (HP.out.keep KA6.out) (HS.out.keep KA6.out)).mono ?_
   rintro e wa7 ⟨rfl, k7⟩
   have hh1 : hdE p s tk = 0 := by unfold hdE; rw [if_pos GN.out.was.ok, if_pos (isNum_iff.2 GN.out.rng)]
   obtain ⟨M, hM⟩ : ∃ M, M = hdN p s tk := ⟨_, rfl⟩
   have HM : Hid (M = (heldN s tk : Int)) := by show M = _; rw [hM]; unfold hdN; rw [if_pos hh1]
   rw [hh1, ← hM]
   have KA7 := hidI (KA6.out.trans (k7.mono KA6.out.size))
   have HBA7 := hidI (pkp_ HBA6.out k7)
   have HSA7 := hidI (HSA6.out.keep k7)
   clear x0 x1 x2 y0 y1 y2 y3 y4 y5 y6 y7
   clear k7 hh1 hM
   go_wp2_with fail
   refine (replyBegun_any _).mono ?_
   rintro e wa8 ⟨rfl, k8⟩
   have KA8 := hidI (KA7.out.trans (k8.mono KA7.out.size))
   have HBA8 := hidI (pkp_ HBA7.out k8)
   have HSA8 := hidI (HSA7.out.keep k8)
   clear k8
   obtain ⟨x0, x1, x2⟩ := pl_cells (BX.out wa8 KA8.out).1
   obtain ⟨y0, y1, y2, y3, y4, y5, y6, y7⟩ := st_cells HBA8.out
   go_wp2_with fail
   refine (scheck_any p _ _ _ _ _ _ _ _ _ XA5 _ _ _ _ _ _ _ _ _ _ (HP.out.keep KA8.out) HSA8.out).mono ?_
   rintro e wa9 ⟨rfl, k9⟩
   have hck : stE p XA5 = 0 := by rw [HXX.out]; exact GN.out.right.ok
   rw [hck]
   have KA9 := hidI (KA8.out.trans (k9.mono KA8.out.size))
   have HBA9 := hidI (pkp_ HBA8.out k9)
   clear x0 x1 x2 y0 y1 y2 y3 y4 y5 y6 y7
   clear k9 hck
   obtain ⟨y0, y1, y2, y3, y4, y5, y6, y7⟩ := st_cells HBA9.out
   obtain ⟨z0, z1, z2, z3, z4, z5, z6, z7⟩ := st_cells (BX.out wa9 KA9.out).2
   have hlo : (t52 : Int) = (m2 : Int) - M := by
    have h1 := HSA5.out.l2
    have h2 := HS.out.l2
    have h3 := GN.out.outs
    rw [← HXX.out] at h3
    have h4 := HM.out
    omega
   have hwr : IntKind.i64.wrap ((m2 : Int) - M) = (m2 : Int) - M := by
    have h1 := (small_state GN.out.was).2.2.1
    have h3 := HM.out
    have h2 := HS.out.l2
    rw [IntKind.wrap_i64]; omega
   have hle : ((t52 : Int) == (m2 : Int) - M) = true := by rw [hlo]; simp
   clear hlo
   go_wp2_with fail
   go_ret
   exact ⟨rfl, HBW.out.trans (KA9.out.mono s0)⟩
end Go.Proofs.YtpoichgodamnkaaGreat
