/- The walk of the law ReplyBack. -/
import Derived.BigRegion
import Derived.BigQuiet
import Derived.OpenShut
import Derived.Laws.StructEq
import Derived.Test.YtpoichgodamnkaaGreatVJr
import Derived.Test.YtpoichgodamnkaaGreatKux
import Derived.Test.YtpoichgodamnkaaGreatKxx
import Derived.Test.YtpoichgodamnkaaGreatLax
import Derived.Test.YtpoichgodamnkaaGreatLcx
namespace Go.Proofs.YtpoichgodamnkaaGreat
open Go.RowKit Go.Maps
set_option linter.unusedVariables false
set_option maxRecDepth 100000
set_option maxHeartbeats 8000000
theorem again_cells (x : ItemD) (r : List ItemD) : (itemCells (x :: r)).set 3 (.bool true) = itemCells (againI x :: r) := by cases x; rfl
theorem walk_ReplyBack (p : PlanD) (a1 a2 a3 : Option Addr) (n1 c1 n2 c2 n3 c3 : Nat) (s : StateD) (b1 b2 b3 : Option Addr) (m1 d1 m2 d2 m3 d3 : Nat) (q other : Int) (w : World) (hp : PlanAt w a1 a2 a3 n1 n2 n3 p) (hs : StateAt w b1 b2 b3 m1 m2 m3 s) (hn2 : b2 = none → d2 = 0) (hn3 : b3 = none → d3 = 0) (hov : (Lit.int .i64 other).wf = true) :
 Calls Tryz.prog 10 #[.agg #[.slice a1 n1 c1, .slice a2 n2 c2, .slice a3 n3 c3], .agg #[.slice b1 m1 d1, .slice b2 m2 d2, .slice b3 m3 d3, .int .i64 s.nextSeq, .int .i64 s.nextTag, .int .i64 s.came, .int .i64 s.acked, .int .i64 s.dropped], .int .i64 q, .int .i64 other] w fun e w' => e = .returned (.bool true) ∧ Below w.heap.size w w' := by
 obtain ⟨W2, hW2, hBw, hs2, hbx⟩ := ps_boxed w #[.slice a1 n1 c1, .slice a2 n2 c2, .slice a3 n3 c3] #[.slice b1 m1 d1, .slice b2 m2 d2, .slice b3 m3 d3, .int .i64 s.nextSeq, .int .i64 s.nextTag, .int .i64 s.came, .int .i64 s.acked, .int .i64 s.dropped]
 have HW2 := hidI hW2
 have BX := hidI hbx
 have HS := hidI (hs.keep hBw)
 have HP := hidI (hp.keep hBw)
 have HN := hidI (And.intro hn2 hn3)
 have hov' : -9223372036854775808 ≤ other ∧ other ≤ 9223372036854775807 := bounds_i64 hov
 have HO := hidI hov'
 have s0 := hBw.size
 have HBW := hidI hBw
 obtain ⟨x0, x1, x2⟩ := pl_cells (hbx W2 (Below.refl _ _)).1
 obtain ⟨y0, y1, y2, y3, y4, y5, y6, y7⟩ := st_cells (hbx W2 (Below.refl _ _)).2
 obtain ⟨E, hE⟩ : ∃ E, E = delE p s q := ⟨_, rfl⟩
 obtain ⟨T, hT⟩ : ∃ T, T = numOf E s.nextTag := ⟨_, rfl⟩
 have HE := hidI hE
 have HT := hidI hT
 clear hW2 hbx hs2 hp hs hBw hn2 hn3 hov hov' hE hT
 go_enter Tryz.func10, Tryz.ntmps10
 go_wp2_with fail
 rw [← HW2.out]
 refine (deliver_any p _ _ _ _ _ _ _ _ _ s _ _ _ _ _ _ _ _ _ q _ HP.out HS.out HN.out.1 HN.out.2).mono ?_
 rintro e v1 ⟨u1, rfl, hr, kk⟩
 rw [← HE.out] at hr ⊢
 rw [← HT.out]
 obtain ⟨X, hX⟩ : ∃ X, X = resV E (delS s q) := ⟨_, rfl⟩
 obtain ⟨f1, f2, f3, t1, g1, t2, g2, t3, g3, w1, rfl, hw, lw, hb, hs', hn'⟩ := hr.boxV hX
 have HX := hidI hX
 have HW1 := hidI hw
 have HS1 := hidI hs'
 have HN1 := hidI hn'
 obtain ⟨B1, hB⟩ : ∃ B1, B1 = v1.heap.size := ⟨_, rfl⟩
 have HBB1 := hidI hB
 rw [← hB] at hb
 have HB1 := hidI hb
 have K1 := hidI (kk.trans (lw.mono kk.size))
 clear x0 x1 x2 y0 y1 y2 y3 y4 y5 y6 y7 hr hX hw hs' hn' hB kk lw hb
 go_upto_region 2 with fail
 rw [← HW1.out, ← HBB1.out]
 obtain ⟨x0, x1, x2⟩ := pl_cells (BX.out w1 K1.out).1
 obtain ⟨y0, y1, y2, y3, y4, y5, y6, y7⟩ := st_cells HB1.out
 obtain ⟨F, hF⟩ : ∃ F, F = rejE p X T := ⟨_, rfl⟩
 have HF := hidI hF
 clear hF
 go_wp2_with fail
 refine (reject_any p _ _ _ _ _ _ _ _ _ X _ _ _ _ _ _ _ _ _ T true _ (HP.out.keep K1.out) HS1.out HN1.out.1 HN1.out.2).mono ?_
 rintro e v2 ⟨u2, rfl, hr, kk⟩
 rw [← HF.out] at hr ⊢
 obtain ⟨Y, hY⟩ : ∃ Y, Y = resV F (rejS p X T true) := ⟨_, rfl⟩
 obtain ⟨j1, j2, j3, o1, i1, o2, i2, o3, i3, w2, rfl, hw, lw, hb, hs', -⟩ := hr.boxV hY
 have HY := hidI hY
 have HW2b := hidI hw
 have HS2 := hidI hs'
 obtain ⟨B2, hB⟩ : ∃ B2, B2 = v2.heap.size := ⟨_, rfl⟩
 have HBB2 := hidI hB
 rw [← hB] at hb
 have HB2 := hidI hb
 have K2 := hidI (K1.out.trans ((kk.trans (lw.mono kk.size)).mono K1.out.size))
 clear x0 x1 x2 y0 y1 y2 y3 y4 y5 y6 y7 hr hY hw hs' hB kk lw hb
 go_upto_region 3 with fail
 rw [← HW2b.out, ← HBB2.out]
 by_cases z : E ≠ 0
 ·have g1 : (E != 0) = true := bne_iff_ne.2 z
  clear z
  go_wp2_with fail
  refine (replyBegun_any _).mono ?_
  rintro e w7 ⟨rfl, k7⟩
  go_wp2_with fail
  go_ret
  exact ⟨rfl, HBW.out.trans ((K2.out.trans (k7.mono K2.out.size)).mono s0)⟩
 rw [Classical.not_not] at z
 subst z
 by_cases z : F ≠ 0
 ·have g1 : (F != 0) = true := bne_iff_ne.2 z
  clear z
  go_wp2_with fail
  refine (replyBegun_any _).mono ?_
  rintro e w7 ⟨rfl, k7⟩
  go_wp2_with fail
  go_ret
  exact ⟨rfl, HBW.out.trans ((K2.out.trans (k7.mono K2.out.size)).mono s0)⟩
 rw [Classical.not_not] at z
 subst z
 have hX0 : X = delS s q := by rw [HX.out]; exact if_pos rfl
 have hT0 : T = s.nextTag := by rw [HT.out]; exact if_pos rfl
 have hY0 : Y = rejS p (delS s q) s.nextTag true := by rw [HY.out, hX0, hT0]; exact if_pos rfl
 obtain ⟨j, x, r, rfl, hbk⟩ := backed HE.out.symm (by rw [← hX0, ← hT0]; exact HF.out.symm)
 rw [← hY0] at hbk
 have BK := hidI hbk
 clear hX0 hT0 hY0 HX HT HY HF hbk
 have hjl : j < s.ready.length := BK.out.lt
 have hYl : Y.ready.length = s.ready.length := by rw [BK.out.ready, List.length_set]
 obtain rfl : o1 = m1 := by have h1 := HS2.out.l1; have h2 := HS.out.l1; omega
 obtain rfl : o2 = m2 := by have h1 := HS2.out.l2; have h2 := HS.out.l2; rw [BK.out.outs] at h1; omega
 have hm1 : o1 ≤ 100 := by have h1 := (small_state BK.out.was).1; have h2 := HS.out.l1; omega
 have hjm : j < o1 := by have h2 := HS.out.l1; omega
 have HSS := hidI (HS.out.keep K2.out)
 obtain ⟨g, o, bl, cl, ha, hg, hl⟩ := HSS.out.q1.get hjl
 subst ha
 have hsj : s.ready[j] = x :: r := by have := BK.out.line; rwa [lineAt_get hjl] at this
 obtain ⟨L, hL⟩ : ∃ L, L = r.length := ⟨_, rfl⟩
 have HL := hidI hL
 have e1 := hl.cell
 rw [hsj, List.length_cons, ← hL] at e1
 have its := hl.it
 rw [hsj] at its
 have hL5 : L ≤ 5 := by have := BK.out.was.line6 (List.getElem_mem hjl); rw [hsj, List.length_cons, ← hL] at this; omega
 have HIT := hidI its
 have HNIL : Hid (bl = none → cl = 0 ∧ L + 1 = 0) := fun h => by
  have h1 := hl.nil h
  have h2 := hl.le
  rw [hsj, List.length_cons, ← HL.out] at h2
  omega
 have HLCK := hidI hl
 have HSJ := hidI hsj
 obtain ⟨y0, y1, y2, y3, y4, y5, y6, y7⟩ := st_cells (BX.out w2 K2.out).2
 obtain ⟨z0, z1, z2, z3, z4, z5, z6, z7⟩ := st_cells HB2.out
 have q0 : (0 : Int) ≤ (j : Int) := by omega
 have q1 : decide ((j : Int) < 0) = false := by rw [decide_eq_false_iff_not]; omega
 have q2 : decide ((o1 : Int) ≤ (j : Int)) = false := by rw [decide_eq_false_iff_not]; omega
 have q2' : decide (o1 ≤ j) = false := by rw [decide_eq_false_iff_not]; omega
 have q3 : (((L + 1 : Nat) : Int) == 0) = false := by rw [beq_eq_false_iff_ne]; omega
 have q3' : (((L : Int) + 1) == 0) = false := by rw [beq_eq_false_iff_ne]; omega
 have q4 : (((o1 : Nat) : Int) != ((o1 : Nat) : Int)) = false := by simp
 have q5 : (j : Int) < (o1 : Int) := by omega
 clear hl hL hsj its hYl
 go_upto_region 7 with fail
 clear z0 z1 z2 z3 z4 z5 z6 z7 q1 q2 q2' q3 q3' q4 y1 y2 y3 y4 y5 y6 y7
 obtain ⟨W3, hW3⟩ : ∃ W3, W3 = w2.alloc (.cells #[] 43) := ⟨_, rfl⟩
 have HW3 := hidI hW3
 have k3 : Below w2.heap.size w2 W3 := by rw [hW3]; exact (Below.refl _ _).alloc (Nat.le_refl _) _
 have HO3 : Hid (W3.ownsRow w2.heap.size 43 5 (.slice (some ⟨w2.heap.size, 0, none⟩) 0 0) 0 (itemCells [])) := by
  have := World.ownsRow_lit (base := w2.heap.size) (e := 43) (size := 5) w2 #[] 0 (Nat.le_refl _) (by unfold maxLen; omega) rfl
  show W3.ownsRow _ _ _ _ _ _
  rw [hW3]; exact this
 have HRW := hidI (items_row.1 (HIT.out.keep k3))
 have HLEN : Hid ((itemCells (x :: r)).length = (L + 1) * 5) := by show _ = _; rw [itemCells_len, List.length_cons, HL.out]
 have K3 := hidI k3
 have hs3 := k3.size
 have hlt0 : w.heap.size + 1 < w2.heap.size := lth_ (BX.out w2 K2.out).2
 clear hW3 k3
 go_upto_region 8 with (at_builtin; rw [← HW3.out]; refine append_row elemItem (by kernel_rfl) _ _ rfl w2.heap.size _ 0 (itemCells []) rfl HO3.out bl (L + 1) cl (itemCells (x :: r)) rfl HLEN.out HNIL.out HRW.out (itemCells_one _) (by unfold maxLen; omega) (by omega) hs3 ?_; intro v4 w4 ho4 hg4 _; rw [Nat.zero_add, show itemCells [] ++ itemCells (x :: r) = itemCells (x :: r) from rfl] at ho4)
 have k4 : Below w2.heap.size w2 w4 := K3.out.grown hg4 hs3 (fun j hj => (HO3.out.lt j hj).1)
 have HO4 := hidI ho4
 rcases ho4.2 with ⟨rfl, h0⟩ | ⟨g4, cap4, cur4, rfl, hb4, hg4', -, -, -⟩
 ·exact absurd h0 (by omega)
 have it4 : ItemsAt w4 (some ⟨g4, 0, none⟩) (x :: r) := by
  obtain ⟨a, c, hv, _, _, _, hrow⟩ := own_row HO4.out
  cases hv
  exact items_row.2 hrow
 obtain ⟨_, _, ha, hgi, hci⟩ := it4.cells (by simp)
 cases ha
 obtain ⟨c0, c1, c2, c3, c4⟩ := hci 0 (by simp)
 simp at c0 c1 c2 c3 c4
 have fz := foc_ hg4' 3
 clear it4 hci hg4' ho4 hg4 y0
 go_upto_region 9 with fail
 obtain ⟨w5, hw5⟩ : ∃ w5, w5 = w4.setCell ⟨g4, 3, none⟩ (.bool true) := ⟨_, rfl⟩
 have ho5 := (HO4.out.stored 3 (.bool true)).1
 rw [← hw5, again_cells] at ho5
 have l5 : Below w2.heap.size w2 w5 := by rw [hw5]; exact k4.setCell hb4 _
 have it5 : ItemsAt w5 (some ⟨g4, 0, none⟩) (againI x :: r) := by
  obtain ⟨a, c, hv, _, _, _, hrow⟩ := own_row ho5
  cases hv
  exact items_row.2 hrow
 rw [← hw5]
 have IT5 := hidI it5
 have K5 := hidI (K2.out.trans (l5.mono K2.out.size))
 have HB5 := hidI (pkp_ HB2.out l5)
 have HS5 := hidI (HS2.out.keep l5)
 have HSQ := hidI (HS.out.keep K5.out)
 clear hw5 ho5 l5 it5 c0 c1 c2 c3 c4 fz HO4 HO3 HRW HW3 k4
 obtain ⟨y0, y1, y2, y3, y4, y5, y6, y7⟩ := st_cells (BX.out w5 K5.out).2
 go_wp2_with fail
 refine (choose_gen other o1 _ HO.out.1 HO.out.2 (by omega) (by omega)).mono ?_
 rintro e w6 ⟨c, hc, rfl, h6⟩
 rw [h6]
 clear h6 y0 y1 y2 y3 y4 y5 y6 y7
 have hjy : j < Y.ready.length := by have h := HS2.out.l1; omega
 have hyj : Y.ready[j] = againI x :: r := by
  have e : Y.ready[j]? = some (againI x :: r) := by rw [BK.out.ready, List.getElem?_set_self hjl]
  rw [List.getElem?_eq_getElem hjy] at e; exact Option.some.inj e
 obtain ⟨gy, oy, by1, cy, ha, hgy, hly⟩ := HS5.out.q1.get hjy
 subst ha
 rw [hyj] at hly
 have HLY := hidI hly
 have r1 : (Y.came == s.came) = true := by rw [BK.out.came]; simp
 have r2 : (Y.dropped == s.dropped) = true := by rw [BK.out.dropped]; simp
 have r3 : (((o2 : Nat) : Int) == ((o2 : Nat) : Int)) = true := by simp
 have p0 : (0 : Int) ≤ (c : Int) := by omega
 have p1 : (c : Int) < (o1 : Int) := by omega
 clear hly hyj
 by_cases hcj : c = j
 ·subst hcj
  have r0 : ((c : Int) == (c : Int)) = true := by simp
  have BB : Hid (∀ W', Below w5.heap.size w5 W' → (W'.cell? ⟨B2, 0, none⟩ = some (.slice (some ⟨gy, oy, none⟩) o1 i1) ∧ W'.cell? ⟨B2, 1, none⟩ = some (.slice j2 o2 i2) ∧ W'.cell? ⟨B2, 5, none⟩ = some (.int .i64 Y.came) ∧ W'.cell? ⟨B2, 7, none⟩ = some (.int .i64 Y.dropped) ∧ W'.cell? ⟨w.heap.size + 1, 0, none⟩ = some (.slice (some ⟨g, o, none⟩) o1 d1) ∧ W'.cell? ⟨w.heap.size + 1, 1, none⟩ = some (.slice b2 o2 d2) ∧ W'.cell? ⟨w.heap.size + 1, 5, none⟩ = some (.int .i64 s.came) ∧ W'.cell? ⟨w.heap.size + 1, 7, none⟩ = some (.int .i64 s.dropped) ∧ W'.cell? ⟨gy, oy + c, none⟩ = some (.slice by1 (L + 1) cy)) ∧ Below w5.heap.size w5 W') := fun W' h => by
   obtain ⟨u0, u1, -, -, -, u5, -, u7⟩ := st_cells (pkp_ HB5.out h)
   obtain ⟨v0, v1, -, -, -, v5, -, v7⟩ := st_cells (BX.out W' (K5.out.trans (h.mono K5.out.size))).2
   have c1 := (HLY.out.keep hgy h).cell
   rw [List.length_cons, ← HL.out] at c1
   exact ⟨⟨u0, u1, u5, u7, v0, v1, v5, v7, c1⟩, h⟩
  have IT1 : Hid (∀ W', Below w5.heap.size w5 W' → ItemsAt W' by1 (againI x :: r) ∧ ItemsAt W' (some ⟨g4, 0, none⟩) (againI x :: r)) := fun W' h => ⟨(HLY.out.keep hgy h).it, IT5.out.keep h⟩
  go_upto_region 10 with fail
  refine wp_region_held_drew (S := fun W' => (W'.cell? ⟨B2, 0, none⟩ = some (.slice (some ⟨gy, oy, none⟩) o1 i1) ∧ W'.cell? ⟨B2, 1, none⟩ = some (.slice j2 o2 i2) ∧ W'.cell? ⟨B2, 5, none⟩ = some (.int .i64 Y.came) ∧ W'.cell? ⟨B2, 7, none⟩ = some (.int .i64 Y.dropped) ∧ W'.cell? ⟨w.heap.size + 1, 0, none⟩ = some (.slice (some ⟨g, o, none⟩) o1 d1) ∧ W'.cell? ⟨w.heap.size + 1, 1, none⟩ = some (.slice b2 o2 d2) ∧ W'.cell? ⟨w.heap.size + 1, 5, none⟩ = some (.int .i64 s.came) ∧ W'.cell? ⟨w.heap.size + 1, 7, none⟩ = some (.int .i64 s.dropped) ∧ W'.cell? ⟨gy, oy + c, none⟩ = some (.slice by1 (L + 1) cy)) ∧ Below w5.heap.size w5 W') (by kernel_rfl) (BB.out _ (Below.refl _ _).drew) (fun hHeld => ?_)
  refine rdy 0 (fun K hK => ?_)
  go_simp
  refine (replyBegun_any _).mono ?_
  rintro e w7 ⟨rfl, l7⟩
  refine hK.out _ _ (BB.out _ (hHeld.2.trans (l7.mono hHeld.2.size))) (fun hHeld => ?_)
  clear hK K l7
  try refine nrm ?_
  refine tk 1 ?_
  refine tk 2 ?_
  refine tk 3 ?_
  refine tk 4 ?_
  refine tk 5 ?_
  refine tk 6 ?_
  refine tk 7 ?_
  refine rdy 8 (fun K hK => ?_)
  go_simp
  refine (same_itemsQ (againI x :: r) _ _ _ _ _ _ (by rw [List.length_cons, ← HL.out]) (by unfold maxLen; omega) ((IT1.out _ hHeld.2).1) ((IT1.out _ hHeld.2).2)).mono ?_
  rintro e w8 ⟨rfl, m, hw8⟩
  have l8 : Below w5.heap.size w5 w8 := by rw [hw8]; exact below_drewL hHeld.2
  clear hw8
  refine hK.out _ _ (BB.out _ l8) (fun hHeld => ?_)
  clear hK K
  try refine nrm ?_
  refine tk 9 ?_
  refine tk 10 ?_
  refine tk 11 ?_
  refine tk 12 ?_
  refine tk 13 ?_
  refine tk 14 ?_
  refine sk 15 ?_
  refine sk 16 ?_
  refine sk 17 ?_
  refine sk 18 ?_
  refine sk 19 ?_
  refine sk 20 ?_
  refine sk 21 ?_
  refine sk 22 ?_
  refine sk 23 ?_
  refine sk 24 ?_
  refine sk 25 ?_
  refine tk 26 ?_
  refine tk 27 ?_
  refine tk 28 ?_
  refine tk 29 ?_
  refine tk 30 ?_
  refine tk 31 ?_
  refine tk 32 ?_
  refine tk 33 ?_
  refine tk 34 ?_
  refine tk 35 ?_
  refine tk 36 ?_
  refine tk 37 ?_
  refine tk 38 ?_
  refine tk 39 ?_
  refine tk 40 ?_
  refine tk 41 ?_
  refine tk 42 ?_
  refine tk 43 ?_
  refine tk 44 ?_
  refine tk 45 ?_
  refine tk 46 ?_
  refine tk 47 ?_
  refine tk 48 ?_
  refine tk 49 ?_
  refine tk 50 ?_
  refine tk 51 ?_
  refine wpAnyH_done (by kernel_rfl) ?_ _
  go_wp2_with fail
  go_ret
  exact ⟨rfl, HBW.out.trans ((K5.out.trans (l8.mono K5.out.size)).mono s0)⟩
 ·have r0 : ((c : Int) == (j : Int)) = false := by rw [beq_eq_false_iff_ne]; omega
  have hcs : c < s.ready.length := by have h := HS.out.l1; omega
  have hcy : c < Y.ready.length := by have h := HS2.out.l1; omega
  have hyc : Y.ready[c] = s.ready[c] := by
   have e : Y.ready[c]? = s.ready[c]? := by rw [BK.out.ready, List.getElem?_set_ne (by omega)]
   rw [List.getElem?_eq_getElem hcy, List.getElem?_eq_getElem hcs] at e; exact Option.some.inj e
  obtain ⟨_, _, bc, cc, ha, hgyc, hlc⟩ := HS5.out.q1.get hcy
  cases ha
  obtain ⟨_, _, bd, cd, ha, hgsc, hld⟩ := HSQ.out.q1.get hcs
  cases ha
  rw [hyc] at hlc
  obtain ⟨N, hN⟩ : ∃ N, N = s.ready[c].length := ⟨_, rfl⟩
  have HNN := hidI hN
  have hN6 : N ≤ 6 := by rw [hN]; exact BK.out.was.line6 (List.getElem_mem hcs)
  have HLC := hidI hlc
  have HLD := hidI hld
  clear hlc hld hN hyc
  have BB : Hid (∀ W', Below w5.heap.size w5 W' → (W'.cell? ⟨B2, 0, none⟩ = some (.slice (some ⟨gy, oy, none⟩) o1 i1) ∧ W'.cell? ⟨B2, 1, none⟩ = some (.slice j2 o2 i2) ∧ W'.cell? ⟨B2, 5, none⟩ = some (.int .i64 Y.came) ∧ W'.cell? ⟨B2, 7, none⟩ = some (.int .i64 Y.dropped) ∧ W'.cell? ⟨w.heap.size + 1, 0, none⟩ = some (.slice (some ⟨g, o, none⟩) o1 d1) ∧ W'.cell? ⟨w.heap.size + 1, 1, none⟩ = some (.slice b2 o2 d2) ∧ W'.cell? ⟨w.heap.size + 1, 5, none⟩ = some (.int .i64 s.came) ∧ W'.cell? ⟨w.heap.size + 1, 7, none⟩ = some (.int .i64 s.dropped) ∧ W'.cell? ⟨gy, oy + j, none⟩ = some (.slice by1 (L + 1) cy) ∧ W'.cell? ⟨gy, oy + c, none⟩ = some (.slice bc N cc) ∧ W'.cell? ⟨g, o + c, none⟩ = some (.slice bd N cd)) ∧ Below w5.heap.size w5 W') := fun W' h => by
   obtain ⟨u0, u1, -, -, -, u5, -, u7⟩ := st_cells (pkp_ HB5.out h)
   obtain ⟨v0, v1, -, -, -, v5, -, v7⟩ := st_cells (BX.out W' (K5.out.trans (h.mono K5.out.size))).2
   have c1 := (HLY.out.keep hgy h).cell
   rw [List.length_cons, ← HL.out] at c1
   have c2 := (HLC.out.keep hgyc h).cell
   have c3 := (HLD.out.keep hgsc h).cell
   rw [← HNN.out] at c2 c3
   exact ⟨⟨u0, u1, u5, u7, v0, v1, v5, v7, c1, c2, c3⟩, h⟩
  have IT1 : Hid (∀ W', Below w5.heap.size w5 W' → ItemsAt W' by1 (againI x :: r) ∧ ItemsAt W' (some ⟨g4, 0, none⟩) (againI x :: r)) := fun W' h => ⟨(HLY.out.keep hgy h).it, IT5.out.keep h⟩
  go_upto_region 10 with fail
  refine wp_region_held_drew (S := fun W' => (W'.cell? ⟨B2, 0, none⟩ = some (.slice (some ⟨gy, oy, none⟩) o1 i1) ∧ W'.cell? ⟨B2, 1, none⟩ = some (.slice j2 o2 i2) ∧ W'.cell? ⟨B2, 5, none⟩ = some (.int .i64 Y.came) ∧ W'.cell? ⟨B2, 7, none⟩ = some (.int .i64 Y.dropped) ∧ W'.cell? ⟨w.heap.size + 1, 0, none⟩ = some (.slice (some ⟨g, o, none⟩) o1 d1) ∧ W'.cell? ⟨w.heap.size + 1, 1, none⟩ = some (.slice b2 o2 d2) ∧ W'.cell? ⟨w.heap.size + 1, 5, none⟩ = some (.int .i64 s.came) ∧ W'.cell? ⟨w.heap.size + 1, 7, none⟩ = some (.int .i64 s.dropped) ∧ W'.cell? ⟨gy, oy + j, none⟩ = some (.slice by1 (L + 1) cy) ∧ W'.cell? ⟨gy, oy + c, none⟩ = some (.slice bc N cc) ∧ W'.cell? ⟨g, o + c, none⟩ = some (.slice bd N cd)) ∧ Below w5.heap.size w5 W') (by kernel_rfl) (BB.out _ (Below.refl _ _).drew) (fun hHeld => ?_)
  refine rdy 0 (fun K hK => ?_)
  go_simp
  refine (replyBegun_any _).mono ?_
  rintro e w7 ⟨rfl, l7⟩
  refine hK.out _ _ (BB.out _ (hHeld.2.trans (l7.mono hHeld.2.size))) (fun hHeld => ?_)
  clear hK K l7
  try refine nrm ?_
  refine tk 1 ?_
  refine tk 2 ?_
  refine tk 3 ?_
  refine tk 4 ?_
  refine tk 5 ?_
  refine tk 6 ?_
  refine tk 7 ?_
  refine rdy 8 (fun K hK => ?_)
  go_simp
  refine (same_itemsQ (againI x :: r) _ _ _ _ _ _ (by rw [List.length_cons, ← HL.out]) (by unfold maxLen; omega) ((IT1.out _ hHeld.2).1) ((IT1.out _ hHeld.2).2)).mono ?_
  rintro e w8 ⟨rfl, m, hw8⟩
  have l8 : Below w5.heap.size w5 w8 := by rw [hw8]; exact below_drewL hHeld.2
  clear hw8
  refine hK.out _ _ (BB.out _ l8) (fun hHeld => ?_)
  clear hK K
  try refine nrm ?_
  refine tk 9 ?_
  refine tk 10 ?_
  refine tk 11 ?_
  refine tk 12 ?_
  refine tk 13 ?_
  refine tk 14 ?_
  refine tk 15 ?_
  refine tk 16 ?_
  refine tk 17 ?_
  refine tk 18 ?_
  refine tk 19 ?_
  refine tk 20 ?_
  refine tk 21 ?_
  refine tk 22 ?_
  refine tk 23 ?_
  refine tk 24 ?_
  refine rdy 25 (fun K hK => ?_)
  go_simp
  refine (same_itemsQ s.ready[c] _ _ _ _ _ _ (HNN.out.symm) (by unfold maxLen; omega) ((HLC.out.keep hgyc hHeld.2).it) ((HLD.out.keep hgsc hHeld.2).it)).mono ?_
  rintro e w9 ⟨rfl, m, hw9⟩
  have l9 : Below w5.heap.size w5 w9 := by rw [hw9]; exact below_drewL hHeld.2
  clear hw9
  refine hK.out _ _ (BB.out _ l9) (fun hHeld => ?_)
  clear hK K
  try refine nrm ?_
  refine tk 26 ?_
  refine tk 27 ?_
  refine tk 28 ?_
  refine tk 29 ?_
  refine tk 30 ?_
  refine tk 31 ?_
  refine tk 32 ?_
  refine tk 33 ?_
  refine tk 34 ?_
  refine tk 35 ?_
  refine tk 36 ?_
  refine tk 37 ?_
  refine tk 38 ?_
  refine tk 39 ?_
  refine tk 40 ?_
  refine tk 41 ?_
  refine tk 42 ?_
  refine tk 43 ?_
  refine tk 44 ?_
  refine tk 45 ?_
  refine tk 46 ?_
  refine tk 47 ?_
  refine tk 48 ?_
  refine tk 49 ?_
  refine tk 50 ?_
  refine tk 51 ?_
  refine wpAnyH_done (by kernel_rfl) ?_ _
  go_wp2_with fail
  go_ret
  exact ⟨rfl, HBW.out.trans ((K5.out.trans (l9.mono K5.out.size)).mono s0)⟩
end Go.Proofs.YtpoichgodamnkaaGreat
