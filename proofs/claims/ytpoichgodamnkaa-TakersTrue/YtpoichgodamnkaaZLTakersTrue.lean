/- The walk of the law TakersTrue. -/
import Derived.BigRegion
import Derived.BigQuiet
import Derived.OpenShut
import Derived.Laws.StructEq
import Derived.Test.YtpoichgodamnkaaTdx
import Derived.Test.YtpoichgodamnkaaTmx
import Derived.Test.YtpoichgodamnkaaYUr
namespace Go.Proofs.Ytpoichgodamnkaa
open Go.RowKit Go.Maps
set_option linter.unusedVariables false
set_option maxRecDepth 100000
set_option maxHeartbeats 4000000
theorem ItemsAt.tail {W : World} {g o c : Nat} {y : ItemD} {r : List ItemD} (h : ItemsAt W (some ⟨g, o, none⟩) (y :: r)) (hc : r.length + 1 ≤ c) : ItemsAt W (if c = 1 then some (⟨g, o, none⟩ : Addr) else some ⟨g, o + 5, none⟩) r := by
 by_cases e : c = 1
 ·have : r.length = 0 := by omega
  exact .inl (List.length_eq_zero_iff.1 this)
 ·rw [if_neg e]
  obtain ⟨g', o', e', hg, hc⟩ := h.cells (by simp)
  cases e'
  refine .inr ⟨g, o + 5, rfl, hg, fun i hi => ?_⟩
  have := hc (i + 1) (by simp; omega)
  have e2 : o + (i + 1) * 5 = o + 5 + i * 5 := by omega
  rw [e2] at this
  simpa using this
theorem out_cells {W : World} {B : Nat} {v0 v1 v2 v3 v4 v5 v6 v7 : Value} {T : TypeId} (h : W.heap[B]? = some (.cells #[v0, v1, v2, v3, v4, v5, v6, v7] T (0, 0))) : W.cell? ⟨B, 0, none⟩ = some v0 ∧ W.cell? ⟨B, 1, none⟩ = some v1 ∧ W.cell? ⟨B, 2, none⟩ = some v2 ∧ W.cell? ⟨B, 3, none⟩ = some v3 ∧ W.cell? ⟨B, 4, none⟩ = some v4 ∧ W.cell? ⟨B, 5, none⟩ = some v5 ∧ W.cell? ⟨B, 6, none⟩ = some v6 ∧ W.cell? ⟨B, 7, none⟩ = some v7 :=
 ⟨coc_ h 0, coc_ h 1, coc_ h 2, coc_ h 3, coc_ h 4, coc_ h 5, coc_ h 6, coc_ h 7⟩
theorem walk_TakersTrue (p : PlanD) (a1 a2 a3 : Option Addr) (n1 c1 n2 c2 n3 c3 : Nat) (s : StateD) (b1 b2 b3 : Option Addr) (m1 d1 m2 d2 m3 d3 : Nat) (q other : Int) (w : World) (hp : PlanAt w a1 a2 a3 n1 n2 n3 p) (hs : StateAt w b1 b2 b3 m1 m2 m3 s) (hn2 : b2 = none → d2 = 0) (hn3 : b3 = none → d3 = 0) (hov : (Lit.int .i64 other).wf = true) :
 Calls Try.prog 7 #[.agg #[.slice a1 n1 c1, .slice a2 n2 c2, .slice a3 n3 c3], .agg #[.slice b1 m1 d1, .slice b2 m2 d2, .slice b3 m3 d3, .int .i64 s.nextSeq, .int .i64 s.nextTag, .int .i64 s.came, .int .i64 s.acked, .int .i64 s.dropped], .int .i64 q, .int .i64 other] w fun e w' => e = .returned (.bool true) ∧ Below w.heap.size w w' := by
 obtain ⟨W2, hW2, hBw, hs2, hbx⟩ := ps_boxed w #[.slice a1 n1 c1, .slice a2 n2 c2, .slice a3 n3 c3] #[.slice b1 m1 d1, .slice b2 m2 d2, .slice b3 m3 d3, .int .i64 s.nextSeq, .int .i64 s.nextTag, .int .i64 s.came, .int .i64 s.acked, .int .i64 s.dropped]
 have HW2 := hidI hW2
 have BX := hidI hbx
 have HS := hidI (hs.keep hBw)
 have HP := hidI (hp.keep hBw)
 have HN := hidI (And.intro hn2 hn3)
 have hov' : -9223372036854775808 ≤ other ∧ other ≤ 9223372036854775807 := bounds_i64 hov
 have HO := hidI hov'
 clear hov hov'
 have s0 := hBw.size
 have HBW := hidI hBw
 obtain ⟨x0, x1, x2⟩ := pl_cells (hbx W2 (Below.refl _ _)).1
 obtain ⟨y0, y1, y2, y3, y4, y5, y6, y7⟩ := st_cells (hbx W2 (Below.refl _ _)).2
 clear hW2 hbx hs2 hp hs hBw hn2 hn3
 go_enter Try.func7, Try.ntmps7
 go_wp2_with fail
 rw [← HW2.out]
 refine (deliver_any p _ _ _ _ _ _ _ _ _ s _ _ _ _ _ _ _ _ _ q _ HP.out HS.out HN.out.1 HN.out.2).mono ?_
 rintro e v1 ⟨u1, rfl, hr1, k1⟩
 obtain ⟨E1, hE1⟩ : ∃ E1, E1 = delE p s q := ⟨_, rfl⟩
 obtain ⟨N1, hN1⟩ : ∃ N1, N1 = numOf E1 s.nextTag := ⟨_, rfl⟩
 rw [← hE1] at hr1 ⊢
 rw [← hN1]
 obtain ⟨X, hX⟩ : ∃ X, X = resV E1 (delS s q) := ⟨_, rfl⟩
 obtain ⟨f11, f21, f31, t11, e11, t21, e21, t31, e31, w1, rfl, hw1, l1, hb1, hs1, hn1⟩ := hr1.boxV hX
 have HE1 := hidI hE1
 have HN1 := hidI hN1
 have HX := hidI hX
 have HW1 := hidI hw1
 have HS1 := hidI hs1
 obtain ⟨B1, hB1⟩ : ∃ B1, B1 = v1.heap.size := ⟨_, rfl⟩
 have HBB1 := hidI hB1
 rw [← hB1] at hb1
 have HB1 := hidI hb1
 have K1 := hidI (k1.trans (l1.mono k1.size))
 clear x0 x1 x2 y0 y1 y2 y3 y4 y5 y6 y7 hr1 hw1 hs1 hn1 hB1 hE1 hN1 hX k1 l1 hb1
 go_upto_region 2 with fail
 rw [← HW1.out, ← HBB1.out]
 by_cases z1 : E1 ≠ 0
 ·have g1 : (E1 != 0) = true := bne_iff_ne.2 z1
  clear z1
  go_wp2_with fail
  refine (takersBegun_any _).mono ?_
  rintro e w7 ⟨rfl, k7⟩
  go_wp2_with fail
  go_ret
  exact ⟨rfl, HBW.out.trans ((K1.out.trans (k7.mono K1.out.size)).mono s0)⟩
 rw [Classical.not_not] at z1
 subst z1
 have hXX : X = delS s q := by rw [HX.out]; exact if_pos rfl
 have hNN : N1 = s.nextTag := by rw [HN1.out]; exact if_pos rfl
 subst hXX hNN
 obtain ⟨kk, x, r, hD⟩ := del_zero HE1.out.symm
 have DD := hidI hD
 obtain ⟨j, rfl⟩ : ∃ j : Nat, q = j := ⟨q.toNat, (Int.toNat_of_nonneg hD.q0).symm⟩
 have hR2 := hidI hD.done
 obtain ⟨x0, x1, x2⟩ := pl_cells (BX.out w1 K1.out).1
 obtain ⟨y0, y1, y2, y3, y4, y5, y6, y7⟩ := st_cells HB1.out
 clear hD
 go_wp2_with fail
 refine (scheck_any p _ _ _ _ _ _ _ _ _ (delS s (j : Int)) _ _ _ _ _ _ _ _ _ _ (HP.out.keep K1.out) HS1.out).mono ?_
 rintro e w2 ⟨rfl, k2⟩
 rw [hR2.out.ok]
 have K2 := hidI (K1.out.trans (k2.mono K1.out.size))
 have HB2 := hidI (pkp_ HB1.out k2)
 have HS2 := hidI (HS1.out.keep k2)
 have HSS := hidI (HS.out.keep K2.out)
 have hlr : (delS s (j : Int)).ready.length = s.ready.length := List.length_set
 have hlo : (delS s (j : Int)).outs.length = s.outs.length + 1 := by show (s.outs ++ [delO s (j : Int)]).length = _; simp
 obtain rfl : t11 = m1 := by have h1 := HS1.out.l1; have h2 := HS.out.l1; omega
 obtain rfl : t21 = m2 + 1 := by have h1 := HS1.out.l2; have h2 := HS.out.l2; omega
 have hjl : j < s.ready.length := by have := DD.out.ql; simpa using this
 have hsm := small_state DD.out.right
 have hmb : m2 ≤ 1000 := by have h2 := HS.out.l2; omega
 have hm1 : t11 ≤ 100 := by have h2 := HS.out.l1; omega
 have hjm : j < t11 := by have h2 := HS.out.l1; omega
 obtain ⟨g, o, bl, cl, ha, hg, hl⟩ := HSS.out.q1.get hjl
 have hsj : s.ready[j] = x :: r := by have := DD.out.line; rw [Int.toNat_natCast, lineAt_get hjl] at this; exact this
 have HLC := hidI hl
 have e1 := hl.cell
 rw [hsj] at e1
 obtain ⟨L, hL⟩ : ∃ L, L = r.length := ⟨_, rfl⟩
 have HL := hidI hL
 rw [List.length_cons, ← hL] at e1
 subst ha
 have j0 : (0 : Int) ≤ (j : Int) := by omega
 have j1 : decide ((j : Int) < 0) = false := by rw [decide_eq_false_iff_not]; omega
 have j2 : decide ((t11 : Int) ≤ (j : Int)) = false := by rw [decide_eq_false_iff_not]; omega
 have j3 : (((L + 1 : Nat) : Int) == 0) = false := by rw [beq_eq_false_iff_ne]; omega
 have j3' : (((L : Int) + 1) == 0) = false := by rw [beq_eq_false_iff_ne]; omega
 have j4 : IntKind.i64.wrap ((m2 : Int) + 1) = ((m2 + 1 : Nat) : Int) := by rw [IntKind.wrap_i64]; omega
 have j5 : (j : Int) < (t11 : Int) := by omega
 clear x0 x1 x2 y0 y1 y2 y3 y4 y5 y6 y7 hl hL hlr hlo hsm k2 hsj
 obtain ⟨x0, x1, x2⟩ := pl_cells (BX.out w2 K2.out).1
 obtain ⟨y0, y1, y2, y3, y4, y5, y6, y7⟩ := st_cells (BX.out w2 K2.out).2
 obtain ⟨z0, z1, z2, z3, z4, z5, z6, z7⟩ := st_cells HB2.out
 go_upto_region 6 with fail
 clear x0 x1 x2 y0 y1 y2 y3 y4 y5 y6 y7 j1 j2 j3 j3' j4
 have hl2 : s.outs.length = m2 := HS.out.l2
 obtain ⟨gq, oq, ha, hgq, oc0, oc1, oc2, oci⟩ := HS2.out.q2.get (k := m2) (by have h1 := HS2.out.l2; omega)
 have o1 : (delS s (j : Int)).outs[m2]'(by have h1 := HS2.out.l2; omega) = ⟨s.nextTag, kk, j, x⟩ := by
  have e : (delS s (j : Int)).outs = s.outs ++ [⟨s.nextTag, kk, j, x⟩] := by show s.outs ++ [delO s (j : Int)] = _; rw [DD.out.out]
  simp [e, hl2]
 rw [o1] at oc0 oc1 oc2 oci
 obtain ⟨od0, od1, od2, od3, od4⟩ := oci
 subst ha
 have i1 : IntKind.i64.wrap (((m2 + 1 : Nat) : Int) - 1) = (m2 : Int) := by rw [IntKind.wrap_i64]; omega
 have i1' : IntKind.i64.wrap ((m2 : Int) + 1 - 1) = (m2 : Int) := by rw [IntKind.wrap_i64]; omega
 have i2 : (m2 : Int) < ((m2 + 1 : Nat) : Int) := by omega
 have i2' : (m2 : Int) < (m2 : Int) + 1 := by omega
 clear hl2 o1
 go_upto_region 7 with fail
 obtain ⟨w3, hw3⟩ : ∃ w3, w3 = w2.alloc (.cells #[.int .i64 s.nextTag, .int .i64 (kk : Int), .int .i64 (j : Int), .int .i64 x.seq, .string x.key, .string x.body, .bool x.again, .int .i64 x.deaths] 53) := ⟨_, rfl⟩
 have l3 : Below w2.heap.size w2 w3 := by rw [hw3]; exact (Below.refl _ _).alloc (Nat.le_refl _) _
 have hx3 : w3.heap[w2.heap.size]? = some (.cells #[.int .i64 s.nextTag, .int .i64 (kk : Int), .int .i64 (j : Int), .int .i64 x.seq, .string x.key, .string x.body, .bool x.again, .int .i64 x.deaths] 53 (0, 0)) := by rw [hw3]; exact World.alloc_heap_new w2 _
 rw [← hw3]
 obtain ⟨B3, hB3⟩ : ∃ B3, B3 = w2.heap.size := ⟨_, rfl⟩
 rw [← hB3] at hx3 ⊢
 have HX3 := hidI hx3
 have K3 := hidI (K2.out.trans (l3.mono K2.out.size))
 have HB4 := hidI (pkp_ HB2.out l3)
 have HS3 := hidI (HS2.out.keep l3)
 have HSQ := hidI (HS.out.keep K3.out)
 have hl3 := HLC.out.keep hg l3
 have hsj : s.ready[j] = x :: r := by have := DD.out.line; rw [Int.toNat_natCast, lineAt_get hjl] at this; exact this
 have it3 := hl3.it
 rw [hsj] at it3
 have e1 := hl3.cell
 rw [hsj, List.length_cons, ← HL.out] at e1
 obtain ⟨gi, oi, rfl, hgi, hci⟩ := it3.cells (by simp)
 obtain ⟨i0, i1', i2', i3', i4'⟩ := hci 0 (by simp)
 simp at i0 i1' i2' i3' i4'
 have hxj : j < (delS s (j : Int)).ready.length := by show j < (s.ready.set _ _).length; rw [List.length_set]; exact hjl
 have hxr : (delS s (j : Int)).ready[j] = r := by show (s.ready.set (j : Int).toNat _)[j]'_ = r; simp; have := DD.out.line; simp at this; rw [this]; rfl
 obtain ⟨gx, ox, bx, cx, ha, hgx, hlx⟩ := HS3.out.q1.get hxj
 subst ha
 have e2 := hlx.cell
 rw [hxr, ← HL.out] at e2
 have itx := hlx.it
 rw [hxr] at itx
 have ITX := hidI itx
 have ITT := hidI (it3.tail (c := cl) (by have := hl3.le; rw [hsj, List.length_cons] at this; exact this))
 have hLm : L ≤ maxLen := by have h1 := hl3.le; have h2 := hl3.cm; rw [hsj, List.length_cons, ← HL.out] at h1; omega
 have HLm := hidI hLm
 have hkt : kk < s.takers.length := DD.out.least.lt
 have hk3 : kk < m3 := by have := HS.out.l3; omega
 have hm3 : m3 ≤ 100 := by have h := (small_state DD.out.right).2.2.2; have h2 := HS.out.l3; omega
 obtain ⟨gt, ot, ha, hgt, tq, tm⟩ := HSQ.out.q3.get hkt
 subst ha
 have TM := hidI (DD.out.least.least)
 have hfr := DD.out.least.free
 unfold freeT tAt at hfr
 rw [List.getD_eq_getElem?_getD, List.getElem?_eq_getElem hkt] at hfr
 simp only [Option.getD_some, Bool.and_eq_true, decide_eq_true_eq] at hfr
 rw [hfr.1] at tq
 have HMO := hidI hfr.2
 have HGT := hidI hgt
 obtain ⟨q0, q1, q2, q3, q4, q5, q6, q7⟩ := out_cells hx3
 obtain ⟨y0, y1, y2, y3, y4, y5, y6, y7⟩ := st_cells (BX.out w3 K3.out).2
 obtain ⟨z0, z1, z2, z3, z4, z5, z6, z7⟩ := st_cells HB4.out
 have g1 : (s.nextTag != s.nextTag) = false := by simp
 have g2 : ((j : Int) != (j : Int)) = false := by simp
 have g3 : decide ((kk : Int) < 0) = false := by rw [decide_eq_false_iff_not]; omega
 have g4 : decide ((m3 : Int) ≤ (kk : Int)) = false := by rw [decide_eq_false_iff_not]; omega
 have g4' : decide (m3 ≤ kk) = false := by rw [decide_eq_false_iff_not]; omega
 have j6 : (kk : Int) < (m3 : Int) := by omega
 have k0 : (0 : Int) ≤ (kk : Int) := by omega
 clear hw3 hx3 hB3 l3 hl3 it3 hci hlx itx hxr hsj z2 z3 z4 z5 z6 z7 y3 y4 y5 y6 y7 hfr
 try simp only [List.append]
 refine wp_region_quiet_lit (by kernel_rfl) (lexB_flat (by kernel_rfl) (by kernel_rfl)) ?_
 repeat (go_big_quiet_step (first | (go_at_call 27; refine Calls.quiet_of (same_itemsQ r bx _ L cx (cl - 1) _ HL.out.symm HLm.out (ITX.out.keep (below_drewL (Below.refl _ _))) (ITT.out.keep (below_drewL (Below.refl _ _)))))))
 refine wpQuiet_nil ?_
 intro _ hw'
 obtain ⟨nq, hw''⟩ := hw'
 subst hw''
 clear ITT
 generalize (if cl = 1 then some (⟨gi, oi, none⟩ : Addr) else some ⟨gi, oi + 5, none⟩) = A5
 obtain ⟨w4, hw4⟩ : ∃ w4, w4 = w3.drewN nq := ⟨_, rfl⟩
 have l4 : Below w3.heap.size w3 w4 := by rw [hw4]; exact below_drewL (Below.refl _ _)
 rw [← hw4]
 have K4 := hidI (K3.out.trans (l4.mono K3.out.size))
 have HX4 := hidI (pkp_ HX3.out l4)
 have HB5 := hidI (pkp_ HB4.out l4)
 have HS4 := hidI (HS3.out.keep l4)
 have HSR := hidI (HS.out.keep K4.out)
 clear y0 y1 y2 z0 z1 q0 q1 q2 q3 q4 q5 q6 q7 i0 i1' i2' i3' i4' e1 e2 tq tm g1 g2 g3 g4 g4' hw4 l4
 obtain ⟨y0, y1, y2, y3, y4, y5, y6, y7⟩ := st_cells (BX.out w4 K4.out).2
 go_wp2_with fail
 refine (choose_gen other t11 _ HO.out.1 HO.out.2 (by omega) (by omega)).mono ?_
 rintro e w5 ⟨c, hc, rfl, h5⟩
 rw [h5]
 clear h5
 clear y0 y1 y2 y3 y4 y5 y6 y7
 go_upto_region 10 with fail
 have hkt := HSR.out.l3
 go_cut [169] from 153 to 170 (fun s169 wx => s169 = .bool false ∧ Below w4.heap.size w4 wx)
 case first =>
  obtain ⟨y0, y1, y2, y3, y4, y5, y6, y7⟩ := st_cells (BX.out w4 K4.out).2
  obtain ⟨z0, z1, z2, z3, z4, z5, z6, z7⟩ := st_cells HB5.out
  by_cases hcj : c = j
  ·subst hcj
   have g2 : ((c : Int) != (c : Int)) = false := by simp
   refine wp_region_quiet_lit (by kernel_rfl) (lexB_flat (by kernel_rfl) (by kernel_rfl)) ?_
   repeat (go_big_quiet_step (fail))
   refine wpQuiet_nil ?_
   intro _ hw'
   obtain ⟨nq, hw''⟩ := hw'
   subst hw''
   go_wp2_with fail
   go_meet
   case rel => exact ⟨rfl, below_drewL (Below.refl _ _)⟩
  ·have g2 : ((c : Int) != (j : Int)) = true := bne_iff_ne.2 (by omega)
   have hcl : c < s.ready.length := by have h2 := HS.out.l1; omega
   have hcx : c < (delS s (j : Int)).ready.length := by show c < (s.ready.set _ _).length; rw [List.length_set]; exact hcl
   have hcr : (delS s (j : Int)).ready[c] = s.ready[c] := by
    have e : (delS s (j : Int)).ready[c]? = s.ready[c]? := by show (s.ready.set _ _)[c]? = _; rw [List.getElem?_set_ne (by simp; omega)]
    rw [List.getElem?_eq_getElem hcx, List.getElem?_eq_getElem hcl] at e; exact Option.some.inj e
   obtain ⟨ga, oa, ba, ca, ha, hga, hla⟩ := HSR.out.q1.get hcl
   cases ha
   obtain ⟨gb, ob, bb, cb, hb, hgb, hlb⟩ := HS4.out.q1.get hcx
   cases hb
   have e1 := hla.cell
   have e2 := hlb.cell
   have itb := hlb.it
   rw [hcr] at e2 itb
   obtain ⟨N, hN⟩ : ∃ N, N = s.ready[c].length := ⟨_, rfl⟩
   have hNm : N ≤ maxLen := by rw [hN]; exact Nat.le_trans hla.le hla.cm
   rw [← hN] at e1 e2
   have HNm := hidI hNm
   have HNN := hidI hN.symm
   have ITA := hidI hla.it
   have ITB := hidI itb
   have c5 : (c : Int) < (t11 : Int) := by omega
   have c0 : (0 : Int) ≤ (c : Int) := by omega
   clear hla hlb itb hN hNm hcr
   refine wp_region_quiet_lit (by kernel_rfl) (lexB_flat (by kernel_rfl) (by kernel_rfl)) ?_
   repeat (go_big_quiet_step (first | (go_at_call 27; refine Calls.quiet_of (same_itemsQ s.ready[c] bb ba N cb ca _ HNN.out HNm.out (ITB.out.keep (below_drewL (Below.refl _ _))) (ITA.out.keep (below_drewL (Below.refl _ _)))))))
   refine wpQuiet_nil ?_
   intro _ hw'
   obtain ⟨nq, hw''⟩ := hw'
   subst hw''
   go_wp2_with fail
   go_meet
   case rel => exact ⟨rfl, below_drewL (Below.refl _ _)⟩
 case rest =>
  obtain ⟨rfl, l5⟩ := hcut
  obtain ⟨w5, hw5⟩ : ∃ w5, w5 = wc := ⟨_, rfl⟩
  rw [← hw5] at l5 ⊢
  have K5 := hidI (K4.out.trans (l5.mono K4.out.size))
  have HX5 := hidI (pkp_ HX4.out l5)
  have HHE : Hid (hdE p s (kk : Int) = 0) := by show hdE p s (kk : Int) = 0; unfold hdE; rw [if_pos DD.out.right.ok, if_pos (isNum_iff.2 ⟨by omega, by omega⟩)]
  have HHN : Hid (hdN p s (kk : Int) = (heldN s (kk : Int) : Int)) := by show hdN p s (kk : Int) = _; unfold hdN; rw [if_pos HHE.out]
  obtain ⟨q0, q1, q2, q3, q4, q5, q6, q7⟩ := out_cells HX5.out
  obtain ⟨x0, x1, x2⟩ := pl_cells (BX.out w5 K5.out).1
  obtain ⟨y0, y1, y2, y3, y4, y5, y6, y7⟩ := st_cells (BX.out w5 K5.out).2
  clear hw5 l5
  go_wp2_with fail
  refine (sheld_any p _ _ _ _ _ _ _ _ _ s _ _ _ _ _ _ _ _ _ (kk : Int) _ (HP.out.keep K5.out) (HS.out.keep K5.out)).mono ?_
  rintro e w6 ⟨rfl, l6⟩
  rw [HHE.out, HHN.out]
  have K6 := hidI (K5.out.trans (l6.mono K5.out.size))
  have L6 := hidI l6
  clear q0 q1 q2 q3 q4 q5 q6 q7 x0 x1 x2 y0 y1 y2 y3 y4 y5 y6 y7 l6
  obtain ⟨H, hH⟩ : ∃ H, H = heldN s (kk : Int) := ⟨_, rfl⟩
  rw [← hH]
  have HH := hidI hH
  rw [← hH] at HMO
  clear hH
  have hH4 : H ≤ 4 := by rw [HH.out]; have := DD.out.least.few; omega
  obtain ⟨y0, y1, y2, y3, y4, y5, y6, y7⟩ := st_cells (BX.out w6 K6.out).2
  go_wp2_with fail
  clear y0 y1 y2 y3 y4 y5 y6 y7
  go_loopw [16, 17, 18] (fun i _ _ wr => ∃ (k : Nat), k ≤ m3 ∧ i = .int .i64 k ∧ Below w5.heap.size w5 wr) (fun i _ _ _ => m3 - (intOf i).toNat)
  case atStart => exact ⟨0, Nat.zero_le _, rfl, L6.out⟩
  case round =>
   obtain ⟨k, hk, rfl, lr⟩ := hrel
   have KR := hidI (K5.out.trans (lr.mono K5.out.size))
   have LR := hidI lr
   clear lr
   obtain ⟨x0, x1, x2⟩ := pl_cells (BX.out wr KR.out).1
   obtain ⟨y0, y1, y2, y3, y4, y5, y6, y7⟩ := st_cells (BX.out wr KR.out).2
   by_cases hlt : k < m3
   ·have HLT := hidI hlt
    have hkl : k < s.takers.length := by omega
    have HHE2 : Hid (hdE p s (k : Int) = 0) := by show hdE p s (k : Int) = 0; unfold hdE; rw [if_pos DD.out.right.ok, if_pos (isNum_iff.2 ⟨by omega, by omega⟩)]
    have HHN2 : Hid (hdN p s (k : Int) = (heldN s (k : Int) : Int)) := by show hdN p s (k : Int) = _; unfold hdN; rw [if_pos HHE2.out]
    go_wp2_with fail
    refine (sheld_any p _ _ _ _ _ _ _ _ _ s _ _ _ _ _ _ _ _ _ (k : Int) _ (HP.out.keep KR.out) (HS.out.keep KR.out)).mono ?_
    rintro e w7 ⟨rfl, l7⟩
    rw [HHE2.out, HHN2.out]
    have K7 := hidI (KR.out.trans (l7.mono KR.out.size))
    have L7 := hidI (LR.out.trans (l7.mono LR.out.size))
    obtain ⟨gu, ou, ha, hgu, tc1, tc2⟩ := (HS.out.q3.keep K7.out).get hkl
    cases ha
    have hfree := TM.out k hkl
    unfold freeT tAt at hfree
    rw [List.getD_eq_getElem?_getD, List.getElem?_eq_getElem hkl] at hfree
    simp only [Option.getD_some, Bool.and_eq_true, decide_eq_true_eq] at hfree
    rw [← HH.out] at hfree
    obtain ⟨t, ht⟩ : ∃ t, t = s.takers[k] := ⟨_, rfl⟩
    rw [← ht] at tc1 tc2 hfree
    obtain ⟨tq, tm⟩ := t
    dsimp only at tc1 tc2 hfree
    obtain ⟨n, hn⟩ : ∃ n, n = heldN s (k : Int) := ⟨_, rfl⟩
    rw [← hn] at hfree ⊢
    have j1 : (0 : Int) ≤ (k : Int) := by omega
    have j2 : (k : Int) < m3 := by omega
    clear x0 x1 x2 y0 y1 y2 y3 y4 y5 y6 y7 l7 ht hn
    obtain ⟨y0, y1, y2, y3, y4, y5, y6, y7⟩ := st_cells (BX.out w7 K7.out).2
    by_cases hq : tq = (j : Int)
    ·have hq' : (tq == (j : Int)) = true := by simpa using hq
     by_cases hm : (n : Int) < tm
     ·have hmd : decide ((n : Int) < tm) = true := by simpa using hm
      have hHn : ¬ n < H := by have := hfree ⟨hq, hm⟩; omega
      have hHd : decide (n < H) = false := by simpa using hHn
      have hHd' : decide ((n : Int) < (H : Int)) = false := by simpa using hHn
      clear hq hfree
      go_wp2_with fail
      go_roundw
      case rel => exact ⟨k + 1, HLT.out, by have := HLT.out; go_num, L7.out⟩
      case measure => have := HLT.out; simp [intOf]; omega
     ·have hmd : decide ((n : Int) < tm) = false := by simpa using hm
      clear hq hfree
      go_wp2_with fail
      go_roundw
      case rel => exact ⟨k + 1, HLT.out, by have := HLT.out; go_num, L7.out⟩
      case measure => have := HLT.out; simp [intOf]; omega
    ·have hq' : (tq == (j : Int)) = false := by simpa using hq
     clear hq hfree
     go_wp2_with fail
     go_roundw
     case rel => exact ⟨k + 1, HLT.out, by have := HLT.out; go_num, L7.out⟩
     case measure => have := HLT.out; simp [intOf]; omega
   ·have hke : k = m3 := by omega
    subst hke
    clear hlt hk
    go_wp2_with fail
    refine (takersBegun_any _).mono ?_
    rintro e w8 ⟨rfl, l8⟩
    have K8 := hidI (KR.out.trans (l8.mono KR.out.size))
    have L8 := LR.out.trans (l8.mono LR.out.size)
    obtain ⟨q0, q1, q2, q3, q4, q5, q6, q7⟩ := out_cells (pkp_ HX5.out L8)
    clear x0 x1 x2 y0 y1 y2 y3 y4 y5 y6 y7
    obtain ⟨y0, y1, y2, y3, y4, y5, y6, y7⟩ := st_cells (BX.out w8 K8.out).2
    have hkl : kk < s.takers.length := by omega
    obtain ⟨gu, ou, ha, hgu, tc1, tc2⟩ := (HS.out.q3.keep K8.out).get hkl
    cases ha
    have hmo := HMO.out
    obtain ⟨t, ht⟩ : ∃ t, t = s.takers[kk] := ⟨_, rfl⟩
    rw [← ht] at tc1 tc2 hmo
    obtain ⟨tq, tm⟩ := t
    dsimp only at tc1 tc2 hmo
    have hmd : decide ((H : Int) < tm) = true := by simpa using hmo
    have LL := hidI (HBW.out.trans (K8.out.mono s0))
    clear ht l8 L8
    go_wp2_with fail
    go_ret
    exact ⟨rfl, LL.out⟩
end Go.Proofs.Ytpoichgodamnkaa
