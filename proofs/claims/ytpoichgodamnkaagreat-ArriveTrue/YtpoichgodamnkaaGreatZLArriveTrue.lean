/- The walk of the law ArriveTrue. -/
import Derived.BigRegion
import Derived.BigQuiet
import Derived.OpenShut
import Derived.Laws.StructEq
import Derived.Test.YtpoichgodamnkaaGreatVAn
import Derived.Test.YtpoichgodamnkaaGreatKux
import Derived.Test.YtpoichgodamnkaaGreatKxx
import Derived.Test.YtpoichgodamnkaaGreatLax
namespace Go.Proofs.YtpoichgodamnkaaGreat
open Go.RowKit Go.Maps
set_option linter.unusedVariables false
set_option maxRecDepth 100000
set_option maxHeartbeats 8000000
theorem let_zero {p : PlanD} {s : StateD} {l : List ArrD} (h : letE p s l = 0) : RightX p s 0 ∧ Arrived p s (arrS p 600 s l) (arrN p 600 s l) ∧ l.length ≤ arrN p 600 s l ∧ arrN p 600 s l ≤ 600 ∧ l.length ≤ 4 := by
 unfold letE at h
 by_cases h1 : stE p s = 0
 ·rw [if_neg (by simp [h1])] at h
  obtain ⟨g1, g2, g3⟩ := arE_zero h
  have hR := right_of h1
  obtain ⟨k1, k2, k3⟩ := arr_done 600 hR g2 (Nat.le_trans (phi_le hR g1) (by omega)) (by omega)
  exact ⟨hR, k1, k2, k3, g1⟩
 ·rw [if_pos h1] at h; exact absurd h h1
theorem ItemsAt.front {W : World} {a : Option Addr} {xs ys : List ItemD} (h : ItemsAt W a (xs ++ ys)) : ItemsAt W a xs := by
 by_cases e : xs = []
 ·exact .inl e
 obtain ⟨g, o, rfl, hg, hc⟩ := h.cells (by rw [List.length_append]; have := List.length_pos_iff.2 e; omega)
 refine .inr ⟨g, o, rfl, hg, fun i hi => ?_⟩
 have := hc i (by rw [List.length_append]; omega)
 rwa [List.getElem_append_left hi] at this
theorem ItemsAt.behind {W : World} {g o : Nat} {xs : List ItemD} (h : ItemsAt W (some ⟨g, o, none⟩) xs) (d : Nat) : ItemsAt W (some ⟨g, o + d * 5, none⟩) (xs.drop d) := by
 by_cases e : xs.length ≤ d
 ·exact .inl (List.drop_eq_nil_of_le e)
 obtain ⟨g', o', e', hg, hc⟩ := h.cells (by omega)
 cases e'
 refine .inr ⟨g, o + d * 5, rfl, hg, fun i hi => ?_⟩
 rw [List.length_drop] at hi
 have := hc (d + i) (by omega)
 have e2 : o + (d + i) * 5 = o + d * 5 + i * 5 := by omega
 rw [e2] at this
 rw [List.getElem_drop]
 exact this
theorem ItemsAt.after {W : World} {b : Option Addr} {c d : Nat} {xs : List ItemD} (h : ItemsAt W b xs) (hc : xs.length ≤ c) : ItemsAt W (if c = d then b else Option.map (fun x => x.add (d * 5)) b) (xs.drop d) := by
 by_cases e : xs.length ≤ d
 ·exact .inl (List.drop_eq_nil_of_le e)
 obtain ⟨g, o, rfl, hg, hcc⟩ := h.cells (by omega)
 rw [if_neg (by omega)]
 have e2 : (Addr.add ⟨g, o, none⟩ (d * 5)) = ⟨g, o + d * 5, none⟩ := by
  unfold Addr.add
  split
  ·rename_i h0; rw [h0]; rfl
  ·rfl
 show ItemsAt W (some (Addr.add ⟨g, o, none⟩ (d * 5))) _
 rw [e2]
 exact h.behind d
theorem same_itemsR (xs : List ItemD) (a1 a2 : Option Addr) (n1 n2 c1 c2 : Nat) (w : World) (h1 : xs.length = n1) (h2 : xs.length = n2) (hm : n1 ≤ maxLen) (i1 : ItemsAt w a1 xs) (i2 : ItemsAt w a2 xs) :
 Calls Tryz.prog 27 #[.slice a1 n1 c1, .slice a2 n2 c2] w fun e w' => e = .returned (.bool true) ∧ ∃ m, w' = w.drewN m := by
 subst h1
 rw [← h2]
 exact same_itemsQ xs a1 a2 xs.length c1 c2 w rfl hm i1 i2
theorem walk_ArriveTrue (p : PlanD) (a1 a2 a3 : Option Addr) (n1 c1 n2 c2 n3 c3 : Nat) (s : StateD) (b1 b2 b3 : Option Addr) (m1 d1 m2 d2 m3 d3 : Nat) (l : List ArrD) (b : Option Addr) (mb cb : Nat) (qq : Int) (w : World) (hp : PlanAt w a1 a2 a3 n1 n2 n3 p) (hs : StateAt w b1 b2 b3 m1 m2 m3 s) (hn2 : b2 = none → d2 = 0) (hn3 : b3 = none → d3 = 0) (hl : ArrsAt w b l) (hll : l.length = mb) (hmc : mb ≤ cb) (hcm : cb ≤ maxLen) (hbn : b = none → cb = 0 ∧ mb = 0) (hqv : (Lit.int .i64 qq).wf = true) :
 Calls Tryz.prog 4 #[.agg #[.slice a1 n1 c1, .slice a2 n2 c2, .slice a3 n3 c3], .agg #[.slice b1 m1 d1, .slice b2 m2 d2, .slice b3 m3 d3, .int .i64 s.nextSeq, .int .i64 s.nextTag, .int .i64 s.came, .int .i64 s.acked, .int .i64 s.dropped], .slice b mb cb, .int .i64 qq] w fun e w' => e = .returned (.bool true) ∧ Below w.heap.size w w' := by
 obtain ⟨W2, hW2, hBw, hs2, hbx⟩ := ps_boxed w #[.slice a1 n1 c1, .slice a2 n2 c2, .slice a3 n3 c3] #[.slice b1 m1 d1, .slice b2 m2 d2, .slice b3 m3 d3, .int .i64 s.nextSeq, .int .i64 s.nextTag, .int .i64 s.came, .int .i64 s.acked, .int .i64 s.dropped]
 have HW2 := hidI hW2
 have HZ2 := hidI hs2
 have BX := hidI hbx
 have HS := hidI (hs.keep hBw)
 have HP := hidI (hp.keep hBw)
 have HA := hidI (hl.keep hBw)
 have HLL := hidI hll
 have HMC : Hid (mb ≤ cb ∧ cb ≤ maxLen ∧ (b = none → cb = 0 ∧ mb = 0)) := ⟨hmc, hcm, hbn⟩
 have HN2 := hidI hn2
 have HN3 := hidI hn3
 have s0 := hBw.size
 have HBW := hidI hBw
 have hqv' : -9223372036854775808 ≤ qq ∧ qq ≤ 9223372036854775807 := bounds_i64 hqv
 have HQ := hidI hqv'
 obtain ⟨E, hE⟩ : ∃ E, E = letE p s l := ⟨_, rfl⟩
 obtain ⟨N, hN⟩ : ∃ N, N = numOf E ((arrN p 600 s l : Nat)) := ⟨_, rfl⟩
 have HE := hidI hE
 have HN := hidI hN
 obtain ⟨x0, x1, x2⟩ := pl_cells (hbx W2 (Below.refl _ _)).1
 obtain ⟨y0, y1, y2, y3, y4, y5, y6, y7⟩ := st_cells (hbx W2 (Below.refl _ _)).2
 clear hW2 hbx hs2 hp hs hBw hn2 hn3 hE hN hl hll hmc hcm hbn hqv hqv'
 go_enter Tryz.func4, Tryz.ntmps4
 go_wp2_with fail
 rw [← HW2.out]
 refine (letters_any p _ _ _ _ _ _ _ _ _ s _ _ _ _ _ _ _ _ _ l b mb cb _ HP.out HS.out HN2.out HN3.out HA.out HLL.out (Nat.le_trans HMC.out.1 HMC.out.2.1) HMC.out.2.2).mono ?_
 rintro e v1 ⟨u1, rfl, hr, kk⟩
 rw [← HE.out] at hr ⊢
 rw [← HN.out]
 obtain ⟨X, hX⟩ : ∃ X, X = resV E (arrS p 600 s l) := ⟨_, rfl⟩
 obtain ⟨f1, f2, f3, t1, g1, t2, g2, t3, g3, w1, rfl, hw, lw, hb, hs', hn'⟩ := hr.boxV hX
 have HX := hidI hX
 have HW1 := hidI hw
 have HS1 := hidI hs'
 obtain ⟨B1, hB⟩ : ∃ B1, B1 = v1.heap.size := ⟨_, rfl⟩
 have HBB1 := hidI hB
 rw [← hB] at hb
 have HB1 := hidI hb
 have K1 := hidI (kk.trans (lw.mono kk.size))
 clear x0 x1 x2 y0 y1 y2 y3 y4 y5 y6 y7 hr hX hw hs' hn' hB kk lw hb
 go_upto_region 2 with fail
 rw [← HW1.out, ← HBB1.out]
 by_cases z1 : E ≠ 0
 ·have g1 : (E != 0) = true := bne_iff_ne.2 z1
  clear z1
  go_wp2_with fail
  refine (arriveBegun_any _).mono ?_
  rintro e w7 ⟨rfl, k7⟩
  go_wp2_with fail
  go_ret
  exact ⟨rfl, HBW.out.trans ((K1.out.trans (k7.mono K1.out.size)).mono s0)⟩
 rw [Classical.not_not] at z1
 subst z1
 obtain ⟨hR0, hAr, hA1, hA2, hA4⟩ := let_zero HE.out.symm
 have hX0 : X = arrS p 600 s l := by rw [HX.out]; exact if_pos rfl
 have hN0 : N = ((arrN p 600 s l : Nat) : Int) := by rw [HN.out]; exact if_pos rfl
 rw [← hX0] at hAr
 obtain ⟨M, hM⟩ : ∃ M, M = arrN p 600 s l := ⟨_, rfl⟩
 rw [← hM] at hAr hA1 hA2 hN0
 subst hN0
 have AR := hidI hAr
 have R0 := hidI hR0
 obtain rfl : t1 = m1 := by have h1 := HS1.out.l1; have h2 := HS.out.l1; have h3 := hAr.len; omega
 obtain rfl : t2 = m2 := by have h1 := HS1.out.l2; have h2 := HS.out.l2; have h3 := hAr.outs; rw [h3] at h1; omega
 obtain rfl : t3 = m3 := by have h1 := HS1.out.l3; have h2 := HS.out.l3; have h3 := hAr.takers; rw [h3] at h1; omega
 have hmbM : mb ≤ M := by rw [← HLL.out]; exact hA1
 have hmM : M ≤ 600 := hA2
 have hm1 : t1 ≤ 100 := by have h1 := (small_state hR0).1; have h2 := HS.out.l1; omega
 clear hX0 hM hAr hR0 hA1 hA2 hA4
 obtain ⟨x0, x1, x2⟩ := pl_cells (BX.out w1 K1.out).1
 obtain ⟨y0, y1, y2, y3, y4, y5, y6, y7⟩ := st_cells HB1.out
 go_wp2_with fail
 refine (scheck_any p _ _ _ _ _ _ _ _ _ X _ _ _ _ _ _ _ _ _ _ (HP.out.keep K1.out) HS1.out).mono ?_
 rintro e w2 ⟨rfl, k2⟩
 rw [AR.out.right.ok]
 have K2 := hidI (K1.out.trans (k2.mono K1.out.size))
 have HB2 := hidI (pkp_ HB1.out k2)
 have HS2 := hidI (HS1.out.keep k2)
 clear x0 x1 x2 y0 y1 y2 y3 y4 y5 y6 y7 k2
 obtain ⟨y0, y1, y2, y3, y4, y5, y6, y7⟩ := st_cells (BX.out w2 K2.out).2
 obtain ⟨z0, z1, z2, z3, z4, z5, z6, z7⟩ := st_cells HB2.out
 have c1 : decide (((M : Nat) : Int) < (mb : Int)) = false := by rw [decide_eq_false_iff_not]; omega
 have c1' : decide (M < mb) = false := by rw [decide_eq_false_iff_not]; omega
 have c2 : IntKind.i64.wrap (X.came - s.came) = ((M : Nat) : Int) := by have h := AR.out.came; rw [IntKind.wrap_i64]; omega
 have c3 : (((M : Nat) : Int) != ((M : Nat) : Int)) = false := by simp
 have c4 : (X.acked != s.acked) = false := by rw [AR.out.acked]; simp
 have c5 : (X.nextTag != s.nextTag) = false := by rw [AR.out.tag]; simp
 have c6 : decide (X.dropped < s.dropped) = false := by have h := AR.out.dropped; rw [decide_eq_false_iff_not]; omega
 have c7 : (((t1 : Nat) : Int) != ((t1 : Nat) : Int)) = false := by simp
 go_upto_region 7 with fail
 clear y0 y1 y2 y3 y4 y5 y6 y7 c1 c1' c2 c3 c4 c5 c6 c7 z1 z2 z4 z6
 have hb1 : B1 < w2.heap.size := lth_ HB2.out
 go_region
 obtain ⟨w3, hw3⟩ : ∃ w3, w3 = (w2.alloc (.cells #[.slice f1 t1 g1, .slice b2 t2 d2, .slice b3 t3 d3, .int .i64 X.nextSeq, .int .i64 s.nextTag, .int .i64 X.came, .int .i64 s.acked, .int .i64 X.dropped] 31)).drew := ⟨_, rfl⟩
 have l3 : Below w2.heap.size w2 w3 := by rw [hw3]; exact ((Below.refl _ _).alloc (Nat.le_refl _) _).drew
 have hx3 : w3.heap[w2.heap.size]? = some (.cells #[.slice f1 t1 g1, .slice b2 t2 d2, .slice b3 t3 d3, .int .i64 X.nextSeq, .int .i64 X.nextTag, .int .i64 X.came, .int .i64 X.acked, .int .i64 X.dropped] 31 (0, 0)) := by rw [hw3, AR.out.tag, AR.out.acked]; exact World.alloc_heap_new w2 _
 rw [← hw3]
 obtain ⟨B3, hB3⟩ : ∃ B3, B3 = w2.heap.size := ⟨_, rfl⟩
 rw [← hB3] at hx3 ⊢
 have K3 := hidI (K2.out.trans (l3.mono K2.out.size))
 have HB3 := hidI (pkp_ HB2.out l3)
 have HS3 := hidI (HS2.out.keep l3)
 have hsq := HS.out.keep K3.out
 have hsm : StateAt w3 f1 b2 b3 t1 t2 t3 X := ⟨HS3.out.l1, HS3.out.l2, HS3.out.l3, HS3.out.x1, HS3.out.x2, HS3.out.x3, HS3.out.q1, by rw [AR.out.outs]; exact hsq.q2, by rw [AR.out.takers]; exact hsq.q3⟩
 have SR := hidI (same_states X f1 b2 b3 f1 f2 f3 t1 g1 t2 d2 t3 d3 g1 g2 g3 w3 hsm HS3.out)
 obtain ⟨y0, y1, y2, y3, y4, y5, y6, y7⟩ := st_cells hx3
 clear z0 z3 z5 z7
 obtain ⟨z0, z1, z2, z3, z4, z5, z6, z7⟩ := st_cells HB3.out
 clear hw3 l3 hx3 hB3 hsq hsm hb1
 go_wp2_with fail
 refine SR.out.mono ?_
 rintro e w4 ⟨rfl, l4⟩
 have K4 := hidI (K3.out.trans (l4.mono K3.out.size))
 have HB4 := hidI (pkp_ HB3.out l4)
 have HS4 := hidI (HS3.out.keep l4)
 have HSQ := hidI (HS.out.keep K4.out)
 clear l4 SR y0 y1 y2 y3 y4 y5 y6 y7 z0 z1 z2 z3 z4 z5 z6 z7
 obtain ⟨y0, y1, y2, y3, y4, y5, y6, y7⟩ := st_cells (BX.out w4 K4.out).2
 by_cases ht0 : t1 = 0
 ·have e0 : (((t1 : Nat) : Int) == 0) = true := by rw [ht0]; rfl
  clear ht0
  go_wp2_with fail
  refine (arriveBegun_any _).mono ?_
  rintro e w7 ⟨rfl, k7⟩
  go_wp2_with fail
  go_ret
  exact ⟨rfl, HBW.out.trans ((K4.out.trans (k7.mono K4.out.size)).mono s0)⟩
 have e0 : (((t1 : Nat) : Int) == 0) = false := by rw [beq_eq_false_iff_ne]; omega
 go_wp2_with fail
 refine (choose_gen qq t1 _ HQ.out.1 HQ.out.2 (by omega) (by omega)).mono ?_
 rintro e w5 ⟨c, hc, rfl, h5⟩
 rw [h5]
 clear h5 y0 y1 y2 y3 y4 y5 y6 y7 e0
 have hcs : c < s.ready.length := by have h := HS.out.l1; omega
 have hcx : c < X.ready.length := by have h := HS1.out.l1; omega
 obtain ⟨d, new, hd, hln, hnw⟩ := AR.out.old c hcs
 have hlo := lineAt_lt R0.out hcs
 rw [lineAt_get hcs] at hd hln hlo
 rw [lineAt_get hcx] at hln
 obtain ⟨A, hA⟩ : ∃ A, A = s.ready[c].drop d := ⟨_, rfl⟩
 rw [← hA] at hln
 have hAl : ∀ z ∈ A, z.seq < s.nextSeq := fun z hz => hlo z (List.mem_of_mem_drop (by rw [← hA]; exact hz))
 obtain ⟨LA, hLA⟩ : ∃ LA, LA = A.length := ⟨_, rfl⟩
 obtain ⟨LS, hLS⟩ : ∃ LS, LS = s.ready[c].length := ⟨_, rfl⟩
 obtain ⟨L, hL⟩ : ∃ L, L = X.ready[c].length := ⟨_, rfl⟩
 have hLAS : LA + d = LS := by rw [hLA, hLS, hA, List.length_drop]; omega
 have hLL : L = LA + new.length := by rw [hL, hln, List.length_append, hLA]
 have HLAS := hidI hLAS
 have HLLQ := hidI hLL
 have hLAL : LA ≤ L := by omega
 have hLALS : LA ≤ LS := by omega
 clear hLAS hLL
 obtain ⟨gs, os, bs, cs, ha, hgs, hls⟩ := HSQ.out.q1.get hcs
 subst ha
 obtain ⟨gx, ox, bx, cx, ha, hgx, hlx⟩ := HS4.out.q1.get hcx
 subst ha
 have hLx : L ≤ 6 := by rw [hL]; exact AR.out.right.line6 (List.getElem_mem hcx)
 have hLs6 : LS ≤ 6 := by rw [hLS]; exact R0.out.line6 (List.getElem_mem hcs)
 have HLS : Hid (LineCell w4 gs (os + c) s.ready[c] bs cs) := hls
 have HLX : Hid (LineCell w4 gx (ox + c) X.ready[c] bx cx) := hlx
 have HLN := hidI hln
 have HAA := hidI hA
 have HAL := hidI hAl
 have HNW := hidI hnw
 have HLA := hidI hLA
 have HLSS := hidI hLS
 have HL := hidI hL
 have k0 : (0 : Int) ≤ (c : Int) := by omega
 have k1 : (c : Int) < (t1 : Int) := by omega
 clear hls hlx hln hA hAl hnw hLA hLS hL hlo hd ht0
 go_wp2_with fail
 go_loopw [14] (fun i wr => ∃ k n : Nat, k ≤ LA ∧ i = .int .i64 k ∧ wr = w4.drewN n) (fun i _ => LA - (intOf i).toNat)
 case atStart => exact ⟨0, 0, Nat.zero_le _, rfl, rfl⟩
 case round =>
  obtain ⟨k, n, hk, rfl, hwr⟩ := hrel
  have HWR := hidI hwr
  have lr : Below w4.heap.size w4 wr := by rw [hwr]; exact below_drewL (Below.refl _ _)
  have LR := hidI lr
  have KR := hidI (K4.out.trans (lr.mono K4.out.size))
  have hlx := HLX.out.keep hgx lr
  have e1 := hlx.cell
  have itx := hlx.it
  rw [← HL.out] at e1
  rw [HLN.out] at itx
  obtain ⟨y0, y1, y2, y3, y4, y5, y6, y7⟩ := st_cells (BX.out wr KR.out).2
  obtain ⟨z0, z1, z2, z3, z4, z5, z6, z7⟩ := st_cells (pkp_ HB4.out lr)
  clear hwr lr hlx
  by_cases hlt : k < LA
  ·have HLT := hidI hlt
   obtain ⟨gi, oi, rfl, hgi, hci⟩ := itx.cells (by rw [List.length_append, ← HLA.out]; omega)
   obtain ⟨i0, -⟩ := hci k (by rw [List.length_append, ← HLA.out]; omega)
   have hkA : k < A.length := by rw [← HLA.out]; exact hlt
   rw [List.getElem_append_left hkA] at i0
   have hsq := HAL.out _ (List.getElem_mem hkA)
   obtain ⟨sq, hsqe⟩ : ∃ sq, sq = (A[k]'hkA).seq := ⟨_, rfl⟩
   rw [← hsqe] at i0 hsq
   have r1 : decide ((k : Int) < (L : Int)) = true := by rw [decide_eq_true_eq]; omega
   have r1' : decide (k < L) = true := by rw [decide_eq_true_eq]; omega
   have r2 : decide (sq < s.nextSeq) = true := by rw [decide_eq_true_eq]; exact hsq
   have r3 : (k : Int) < (L : Int) := by omega
   have r0 : (0 : Int) ≤ (k : Int) := by omega
   clear hci hsqe itx hkA
   go_upto_region 14 with fail
   refine wp_region_quiet_lit (by kernel_rfl) (lexB_flat (by kernel_rfl) (by kernel_rfl)) ?_
   repeat (go_big_quiet_step (fail))
   refine wpQuiet_nil ?_
   intro _ hw'
   obtain ⟨nq, hw''⟩ := hw'
   subst hw''
   go_wp2_with fail
   go_roundw
   case rel => exact ⟨k + 1, _, HLT.out, by have := HLT.out; go_num, by rw [HWR.out, World.drewN_drewN]⟩
   case measure => have := HLT.out; simp [intOf]; omega
  ·have hkL : k = LA := by omega
   subst hkL
   clear hlt hk
   go_upto_region 14 with fail
   go_cut [123] from 102 to 125 (fun s123 wx => s123 = .bool false ∧ Below w4.heap.size w4 wx)
   case first =>
    by_cases hmo : k < L
    ·obtain ⟨gi, oi, rfl, hgi, hci⟩ := itx.cells (by rw [List.length_append, ← HLA.out]; have := HLLQ.out; omega)
     have hkn : k < (A ++ new).length := by rw [List.length_append, ← HLA.out]; have := HLLQ.out; omega
     obtain ⟨i0, -⟩ := hci k hkn
     have hsq : s.nextSeq ≤ ((A ++ new)[k]'hkn).seq := by
      rw [List.getElem_append_right (by rw [← HLA.out]; exact Nat.le_refl _)]
      exact HNW.out _ (List.getElem_mem _)
     obtain ⟨sq, hsqe⟩ : ∃ sq, sq = ((A ++ new)[k]'hkn).seq := ⟨_, rfl⟩
     rw [← hsqe] at i0 hsq
     have r1 : decide ((k : Int) < (L : Int)) = true := by rw [decide_eq_true_eq]; omega
     have r1' : decide (k < L) = true := by rw [decide_eq_true_eq]; omega
     have r2 : decide (sq < s.nextSeq) = false := by rw [decide_eq_false_iff_not]; omega
     have r3 : (k : Int) < (L : Int) := by omega
     have r0 : (0 : Int) ≤ (k : Int) := by omega
     clear hci hsqe itx hkn
     refine wp_region_quiet_lit (by kernel_rfl) (lexB_flat (by kernel_rfl) (by kernel_rfl)) ?_
     repeat (go_big_quiet_step (fail))
     refine wpQuiet_nil ?_
     intro _ hw'
     obtain ⟨nq, hw''⟩ := hw'
     subst hw''
     go_wp2_with fail
     go_meet
     case rel => exact ⟨rfl, below_drewL LR.out⟩
    ·have r1 : decide ((k : Int) < (L : Int)) = false := by rw [decide_eq_false_iff_not]; omega
     have r1' : decide (k < L) = false := by rw [decide_eq_false_iff_not]; omega
     have r0 : (0 : Int) ≤ (k : Int) := by omega
     clear itx
     refine wp_region_quiet_lit (by kernel_rfl) (lexB_flat (by kernel_rfl) (by kernel_rfl)) ?_
     repeat (go_big_quiet_step (fail))
     refine wpQuiet_nil ?_
     intro _ hw'
     obtain ⟨nq, hw''⟩ := hw'
     subst hw''
     go_wp2_with fail
     go_meet
     case rel => exact ⟨rfl, below_drewL LR.out⟩
   case rest =>
    obtain ⟨rfl, l6⟩ := hcut
    clear itx
    as_aux_lemma =>
     obtain ⟨w6, hw6⟩ : ∃ w6, w6 = wc := ⟨_, rfl⟩
     rw [← hw6] at l6 ⊢
     clear hw6
     have r0 : (0 : Int) ≤ (k : Int) := by omega
     have K6 := hidI (K4.out.trans (l6.mono K4.out.size))
     have hlx := HLX.out.keep hgx l6
     have hls := HLS.out.keep hgs l6
     have HX6 := hidI hlx
     have HS6 := hidI hls
     have e1 := hlx.cell
     have e2 := hls.cell
     rw [← HL.out] at e1
     rw [← HLSS.out] at e2
     clear y0 y1 y2 y3 y4 y5 y6 y7 z0 z1 z2 z3 z4 z5 z6 z7
     obtain ⟨y0, y1, y2, y3, y4, y5, y6, y7⟩ := st_cells (BX.out w6 K6.out).2
     obtain ⟨z0, z1, z2, z3, z4, z5, z6, z7⟩ := st_cells (pkp_ HB4.out l6)
     have r4 : decide ((k : Int) ≤ (LS : Int)) = true := by rw [decide_eq_true_eq]; omega
     have r4' : decide (k ≤ LS) = true := by rw [decide_eq_true_eq]; omega
     have r5 : IntKind.i64.wrap ((LS : Int) - (k : Int)) = ((d : Nat) : Int) := by have := HLAS.out; rw [IntKind.wrap_i64]; omega
     have r6 : (k : Int) ≤ (cx : Int) := by have h := HX6.out.le; rw [← HL.out] at h; omega
     have r7 : ((d : Nat) : Int) ≤ (LS : Int) := by have := HLAS.out; omega
     have r8 : (0 : Int) ≤ ((d : Nat) : Int) := by omega
     have BB : Hid (∀ W', Below w6.heap.size w6 W' → (W'.cell? ⟨w.heap.size + 1, 0, none⟩ = some (.slice (some ⟨gs, os, none⟩) t1 d1) ∧ W'.cell? ⟨B1, 0, none⟩ = some (.slice (some ⟨gx, ox, none⟩) t1 g1) ∧ W'.cell? ⟨gs, os + c, none⟩ = some (.slice bs LS cs) ∧ W'.cell? ⟨gx, ox + c, none⟩ = some (.slice bx L cx)) ∧ Below w6.heap.size w6 W') := fun W' h => by
      have h1 := HX6.out.keep (Nat.lt_of_lt_of_le hgx l6.size) h
      have h2 := HS6.out.keep (Nat.lt_of_lt_of_le hgs l6.size) h
      have c1 := h1.cell
      have c2 := h2.cell
      rw [← HL.out] at c1
      rw [← HLSS.out] at c2
      exact ⟨⟨(st_cells (BX.out W' (K6.out.trans (h.mono K6.out.size))).2).1, (st_cells (pkp_ HB4.out (l6.trans (h.mono l6.size)))).1, c2, c1⟩, h⟩
     have ITX : Hid (∀ W', Below w6.heap.size w6 W' → ItemsAt W' bx A) := fun W' h => by
      have h1 := (HX6.out.keep (Nat.lt_of_lt_of_le hgx l6.size) h).it
      rw [HLN.out] at h1
      exact h1.front
     have ITS : Hid (∀ W', Below w6.heap.size w6 W' → ItemsAt W' (if cs = d then bs else Option.map (fun x => x.add (d * 5)) bs) A) := fun W' h => by
      have h1 := HS6.out.keep (Nat.lt_of_lt_of_le hgs l6.size) h
      rw [HAA.out]
      exact h1.it.after h1.le
     clear y0 y1 y2 y3 y4 y5 y6 y7 z0 z1 z2 z3 z4 z5 z6 z7 e1 e2 hlx hls
     go_upto_region 16 with fail
     refine wp_region_held_drew (S := fun W' => (W'.cell? ⟨w.heap.size + 1, 0, none⟩ = some (.slice (some ⟨gs, os, none⟩) t1 d1) ∧ W'.cell? ⟨B1, 0, none⟩ = some (.slice (some ⟨gx, ox, none⟩) t1 g1) ∧ W'.cell? ⟨gs, os + c, none⟩ = some (.slice bs LS cs) ∧ W'.cell? ⟨gx, ox + c, none⟩ = some (.slice bx L cx)) ∧ Below w6.heap.size w6 W') (by kernel_rfl) (BB.out _ (Below.refl _ _).drew) (fun hHeld => ?_)
     refine rdy 0 (fun K hK => ?_)
     go_simp
     refine (arriveBegun_any _).mono ?_
     rintro e w7 ⟨rfl, l7⟩
     refine hK.out _ _ (BB.out _ (hHeld.2.trans (l7.mono hHeld.2.size))) (fun hHeld => ?_)
     clear hK K
     try refine nrm ?_
     refine tk 1 ?_
     refine tk 2 ?_
     refine tk 3 ?_
     refine tk 4 ?_
     refine tk 5 ?_
     refine tk 6 ?_
     refine tk 7 ?_
     refine tk 8 ?_
     refine tk 9 ?_
     refine tk 10 ?_
     refine tk 11 ?_
     refine tk 12 ?_
     refine tk 13 ?_
     refine tk 14 ?_
     refine tk 15 ?_
     refine tk 16 ?_
     refine tk 17 ?_
     refine tk 18 ?_
     refine tk 19 ?_
     refine tk 20 ?_
     refine tk 21 ?_
     refine tk 22 ?_
     refine tk 23 ?_
     refine tk 24 ?_
     refine tk 25 ?_
     refine tk 26 ?_
     refine tk 27 ?_
     refine tk 28 ?_
     refine tk 29 ?_
     refine tk 30 ?_
     refine tk 31 ?_
     refine tk 32 ?_
     refine rdy 33 (fun K hK => ?_)
     go_simp
     refine (same_itemsR A _ _ _ _ _ _ _ HLA.out.symm (by rw [← HLA.out]; have := HLAS.out; omega) (by unfold maxLen; omega) (ITX.out _ hHeld.2) (ITS.out _ hHeld.2)).mono ?_
     rintro e w8 ⟨rfl, m, hw8⟩
     have l8 : Below w6.heap.size w6 w8 := by rw [hw8]; exact below_drewL hHeld.2
     clear hw8 ITS
     generalize (if cs = d then bs else Option.map (fun x => x.add (d * 5)) bs) = A5
     refine hK.out _ _ (BB.out _ l8) (fun hHeld => ?_)
     clear hK K
     try refine nrm ?_
     refine tk 34 ?_
     refine tk 35 ?_
     refine wpAnyH_done (by kernel_rfl) ?_ _
     go_wp2_with fail
     go_ret
     exact ⟨rfl, HBW.out.trans ((K6.out.trans (l8.mono K6.out.size)).mono s0)⟩
end Go.Proofs.YtpoichgodamnkaaGreat
