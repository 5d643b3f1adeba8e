/- The walk of the law HandTrue. -/
import Derived.BigRegion
import Derived.BigQuiet
import Derived.OpenShut
import Derived.Laws.StructEq
import Derived.Test.YtpoichgodamnkaaGreatLdx
import Derived.Test.YtpoichgodamnkaaGreatKux
import Derived.Test.YtpoichgodamnkaaGreatKxx
import Derived.Test.YtpoichgodamnkaaGreatLax
namespace Go.Proofs.YtpoichgodamnkaaGreat
open Go.RowKit Go.Maps
set_option linter.unusedVariables false
set_option maxRecDepth 100000
set_option maxHeartbeats 8000000
theorem ItemsAt.front {W : World} {a : Option Addr} {xs ys : List ItemD} (h : ItemsAt W a (xs ++ ys)) : ItemsAt W a xs := by
 by_cases e : xs = []
 ·exact .inl e
 obtain ⟨g, o, rfl, hg, hc⟩ := h.cells (by rw [List.length_append]; have := List.length_pos_iff.2 e; omega)
 refine .inr ⟨g, o, rfl, hg, fun i hi => ?_⟩
 have := hc i (by rw [List.length_append]; omega)
 rwa [List.getElem_append_left hi] at this
theorem ItemsAt.behind {W : World} {g o : Nat} {xs : List ItemD} (h : ItemsAt W (some ⟨g, o, none⟩) xs) (d : Nat) : ItemsAt W (some ⟨g, o + d * 5, none⟩) (xs.drop d) := by
 by_cases e : xs.length ≤ d
 ·exact .inl (List.drop_eq_nil_of_le e)
 obtain ⟨g', o', e', hg, hc⟩ := h.cells (by omega)
 cases e'
 refine .inr ⟨g, o + d * 5, rfl, hg, fun i hi => ?_⟩
 rw [List.length_drop] at hi
 have := hc (d + i) (by omega)
 have e2 : o + (d + i) * 5 = o + d * 5 + i * 5 := by omega
 rw [e2] at this
 rw [List.getElem_drop]
 exact this
theorem ItemsAt.after {W : World} {b : Option Addr} {c d : Nat} {xs : List ItemD} (h : ItemsAt W b xs) (hc : xs.length ≤ c) : ItemsAt W (if c = d then b else Option.map (fun x => x.add (d * 5)) b) (xs.drop d) := by
 by_cases e : xs.length ≤ d
 ·exact .inl (List.drop_eq_nil_of_le e)
 obtain ⟨g, o, rfl, hg, hcc⟩ := h.cells (by omega)
 rw [if_neg (by omega)]
 have e2 : (Addr.add ⟨g, o, none⟩ (d * 5)) = ⟨g, o + d * 5, none⟩ := by
  unfold Addr.add
  split
  ·rename_i h0; rw [h0]; rfl
  ·rfl
 show ItemsAt W (some (Addr.add ⟨g, o, none⟩ (d * 5))) _
 rw [e2]
 exact h.behind d
theorem same_itemsR (xs : List ItemD) (a1 a2 : Option Addr) (n1 n2 c1 c2 : Nat) (w : World) (h1 : xs.length = n1) (h2 : xs.length = n2) (hm : n1 ≤ maxLen) (i1 : ItemsAt w a1 xs) (i2 : ItemsAt w a2 xs) :
 Calls Tryz.prog 27 #[.slice a1 n1 c1, .slice a2 n2 c2] w fun e w' => e = .returned (.bool true) ∧ ∃ m, w' = w.drewN m := by
 subst h1
 rw [← h2]
 exact same_itemsQ xs a1 a2 xs.length c1 c2 w rfl hm i1 i2
theorem cells5I {W : World} {B : Nat} {v0 v1 v2 v3 v4 : Value} {T : TypeId} (h : W.heap[B]? = some (.cells #[v0, v1, v2, v3, v4] T (0, 0))) : W.cell? ⟨B, 0, none⟩ = some v0 ∧ W.cell? ⟨B, 1, none⟩ = some v1 ∧ W.cell? ⟨B, 2, none⟩ = some v2 ∧ W.cell? ⟨B, 3, none⟩ = some v3 ∧ W.cell? ⟨B, 4, none⟩ = some v4 :=
 ⟨coc_ h 0, coc_ h 1, coc_ h 2, coc_ h 3, coc_ h 4⟩
theorem cell_below {W W' : World} {g i : Nat} {v : Value} (h : W.cell? ⟨g, i, none⟩ = some v) (hg : g < W.heap.size) (hB : Below W.heap.size W W') : W'.cell? ⟨g, i, none⟩ = some v := (hB.cell hg).trans h
theorem take_mem {zs : List Int} {k : Nat} (hk : k < zs.length) (c : Int) : decide (c ∈ zs.take (k + 1)) = (decide (c ∈ zs.take k) || (zs[k] == c)) := by
 apply Bool.eq_iff_iff.2
 rw [decide_eq_true_eq, Bool.or_eq_true, decide_eq_true_eq, beq_iff_eq, List.take_succ_eq_append_getElem hk, List.mem_append, List.mem_singleton]
 exact ⟨fun h => h.imp id Eq.symm, fun h => h.imp id Eq.symm⟩
theorem walk_HandTrue (p : PlanD) (a1 a2 a3 : Option Addr) (n1 c1 n2 c2 n3 c3 : Nat) (s : StateD) (b1 b2 b3 : Option Addr) (m1 d1 m2 d2 m3 d3 : Nat) (post : Int) (key body : ByteArray) (qq : Int) (w : World) (hp : PlanAt w a1 a2 a3 n1 n2 n3 p) (hs : StateAt w b1 b2 b3 m1 m2 m3 s) (hn2 : b2 = none → d2 = 0) (hn3 : b3 = none → d3 = 0) (hqv : (Lit.int .i64 qq).wf = true) :
 Calls Tryz.prog 6 #[.agg #[.slice a1 n1 c1, .slice a2 n2 c2, .slice a3 n3 c3], .agg #[.slice b1 m1 d1, .slice b2 m2 d2, .slice b3 m3 d3, .int .i64 s.nextSeq, .int .i64 s.nextTag, .int .i64 s.came, .int .i64 s.acked, .int .i64 s.dropped], .int .i64 post, .string key, .string body, .int .i64 qq] w fun e w' => e = .returned (.bool true) ∧ Below w.heap.size w w' := by
 obtain ⟨W2, hW2, hBw, hs2, hbx⟩ := ps_boxed w #[.slice a1 n1 c1, .slice a2 n2 c2, .slice a3 n3 c3] #[.slice b1 m1 d1, .slice b2 m2 d2, .slice b3 m3 d3, .int .i64 s.nextSeq, .int .i64 s.nextTag, .int .i64 s.came, .int .i64 s.acked, .int .i64 s.dropped]
 have HW2 := hidI hW2
 have BX := hidI hbx
 have HS := hidI (hs.keep hBw)
 have HP := hidI (hp.keep hBw)
 have HN := hidI (And.intro hn2 hn3)
 have hqv' : -9223372036854775808 ≤ qq ∧ qq ≤ 9223372036854775807 := bounds_i64 hqv
 have HQ := hidI hqv'
 have s0 := hBw.size
 have HBW := hidI hBw
 obtain ⟨x0, x1, x2⟩ := pl_cells (hbx W2 (Below.refl _ _)).1
 obtain ⟨y0, y1, y2, y3, y4, y5, y6, y7⟩ := st_cells (hbx W2 (Below.refl _ _)).2
 obtain ⟨E, hE⟩ : ∃ E, E = pubE p s post key body := ⟨_, rfl⟩
 obtain ⟨T, hT⟩ : ∃ T, T = numOf E (((qsC p key post.toNat).length : Nat)) := ⟨_, rfl⟩
 obtain ⟨F, hF⟩ : ∃ F, F = rtE p post key := ⟨_, rfl⟩
 have HE := hidI hE
 have HT := hidI hT
 have HF := hidI hF
 clear hW2 hbx hs2 hp hs hBw hn2 hn3 hqv hqv' hE hT hF
 go_enter Tryz.func6, Tryz.ntmps6
 go_wp2_with fail
 rw [← HW2.out]
 refine (publish_any p _ _ _ _ _ _ _ _ _ s _ _ _ _ _ _ _ _ _ post key body _ HP.out HS.out HN.out.1 HN.out.2).mono ?_
 rintro e v1 ⟨u1, rfl, hr, kk⟩
 rw [← HE.out] at hr ⊢
 rw [← HT.out]
 obtain ⟨X, hX⟩ : ∃ X, X = resV E (arrS p 600 s (pubL p post key body)) := ⟨_, rfl⟩
 obtain ⟨f1, f2, f3, t1, g1, t2, g2, t3, g3, w1, rfl, hw, lw, hb, hs', -⟩ := hr.boxV hX
 have HX := hidI hX
 have HW1 := hidI hw
 have HS1 := hidI hs'
 obtain ⟨B1, hB⟩ : ∃ B1, B1 = v1.heap.size := ⟨_, rfl⟩
 have HBB1 := hidI hB
 rw [← hB] at hb
 have HB1 := hidI hb
 have K1 := hidI (kk.trans (lw.mono kk.size))
 clear x0 x1 x2 y0 y1 y2 y3 y4 y5 y6 y7 hr hX hw hs' hB kk lw hb
 go_upto_region 2 with fail
 rw [← HW1.out, ← HBB1.out]
 obtain ⟨x0, x1, x2⟩ := pl_cells (BX.out w1 K1.out).1
 go_wp2_with fail
 refine (queues_any p _ _ _ _ _ _ _ _ _ post key _ (HP.out.keep K1.out)).mono ?_
 rintro e w2 ⟨zs, az, cz, rfl, hz1, hz2, hz12, hzi, l2⟩
 rw [← HF.out]
 have K2 := hidI (K1.out.trans (l2.mono K1.out.size))
 have HB2 := hidI (pkp_ HB1.out l2)
 have HS2 := hidI (HS1.out.keep l2)
 have HZ1 := hidI hz1
 have HZI := hidI hzi
 obtain ⟨Z, hZ⟩ : ∃ Z, Z = zs.length := ⟨_, rfl⟩
 rw [← hZ] at hz12 ⊢
 have HZL := hidI hZ
 clear x0 x1 x2 l2 hz1 hz2 hzi hZ
 by_cases z : E ≠ 0
 ·have g1 : (E != 0) = true := bne_iff_ne.2 z
  clear z
  go_wp2_with fail
  refine (handBegun_any _).mono ?_
  rintro e w7 ⟨rfl, k7⟩
  go_wp2_with fail
  go_ret
  exact ⟨rfl, HBW.out.trans ((K2.out.trans (k7.mono K2.out.size)).mono s0)⟩
 rw [Classical.not_not] at z
 subst z
 obtain ⟨hR, hrt, hbd, hl4, hok, hsq⟩ := pub_zero HE.out.symm
 obtain ⟨na, hAr⟩ := pub_done HE.out.symm
 have hF0 : F = 0 := by rw [HF.out]; exact hrt
 have hX0 : X = arrS p 600 s (pubL p post key body) := by rw [HX.out]; exact if_pos rfl
 have hzq : zs = qsC p key post.toNat := by
  obtain ⟨z1, z2, z3, z4⟩ := rt_zero hrt
  exact (HZ1.out hrt).uniq (qsC_is (chk_right z1) (by omega))
 have hT0 : T = (Z : Int) := by rw [HT.out, HZL.out, hzq]; exact if_pos rfl
 rw [← hX0] at hAr
 have AR := hidI hAr
 have R0 := hidI hR
 have HZQ := hidI hzq
 have HX0 := hidI hX0
 have HOK := hidI hok
 have HSQ6 := hidI hsq
 subst hF0 hT0
 obtain rfl : t1 = m1 := by have h1 := HS1.out.l1; have h2 := HS.out.l1; have h3 := hAr.len; omega
 obtain rfl : n2 = t1 := by have h1 := HS.out.l1; have h2 := hR.len; have h3 := HP.out.l2; omega
 have hn4 : n2 ≤ 4 := by have h1 := (hR.rp).few.2.1; have h2 := HP.out.l2; omega
 clear HZ1 hR hrt hbd hl4 hok hsq hAr hX0 hzq HX
 have g0 : ((0 : Int) != 0) = false := rfl
 have g0' : ((0 : Int) == 0) = true := rfl
 have gZ : ((Z : Int) == (Z : Int)) = true := by simp
 have gZ' : ((Z : Int) != (Z : Int)) = false := by simp
 have gn : (((n2 : Nat) : Int) != ((n2 : Nat) : Int)) = false := by simp
 obtain ⟨x0, x1, x2⟩ := pl_cells (BX.out w2 K2.out).1
 by_cases hn0 : n2 = 0
 ·have e0 : (((n2 : Nat) : Int) == 0) = true := by rw [hn0]; rfl
  clear hn0
  go_wp2_with fail
  refine (handBegun_any _).mono ?_
  rintro e w7 ⟨rfl, k7⟩
  go_wp2_with fail
  go_ret
  exact ⟨rfl, HBW.out.trans ((K2.out.trans (k7.mono K2.out.size)).mono s0)⟩
 have e0 : (((n2 : Nat) : Int) == 0) = false := by rw [beq_eq_false_iff_ne]; omega
 obtain ⟨y0, y1, y2, y3, y4, y5, y6, y7⟩ := st_cells (BX.out w2 K2.out).2
 obtain ⟨z0, z1, z2, z3, z4, z5, z6, z7⟩ := st_cells HB2.out
 go_wp2_with fail
 clear y0 y1 y2 y3 y4 y5 y6 y7 z0 z1 z2 z3 z4 z5 z6 z7 e0 g0 g0' gZ gZ' gn
 go_loopw [18] (fun i wr => ∃ k : Nat, k ≤ n2 ∧ i = .int .i64 k ∧ (∀ q, q < k → (qAt p q).dead = -1) ∧ wr = w2) (fun i _ => n2 - (intOf i).toNat)
 case atStart => exact ⟨0, Nat.zero_le _, rfl, fun q hq => absurd hq (Nat.not_lt_zero _), rfl⟩
 case round =>
  obtain ⟨k, hk, rfl, hdd, rfl⟩ := hrel
  have HDD := hidI hdd
  clear hdd
  by_cases hlt : k < n2
  ·have HLT := hidI hlt
   have hkq : k < p.queues.length := by have h := HP.out.l2; omega
   obtain ⟨gq, oq, ha, hgq, d0, d1', d2'⟩ := (HP.out.p2.keep K2.out).get hkq
   subst ha
   have hqk : qAt p k = p.queues[k] := by unfold qAt; rw [List.getD_eq_getElem?_getD, List.getElem?_eq_getElem hkq]; rfl
   obtain ⟨dd, hdde⟩ : ∃ dd, dd = p.queues[k].dead := ⟨_, rfl⟩
   rw [← hdde] at d2'
   have HQK : Hid ((qAt p k).dead = dd) := by show _ = _; rw [hqk, hdde]
   have j1 : (0 : Int) ≤ (k : Int) := by omega
   have j2 : (k : Int) < (n2 : Int) := by omega
   clear hqk hdde
   by_cases hdm : dd = -1
   ·have r1 : (dd != -1) = false := by rw [hdm]; rfl
    have HDM := hidI hdm
    clear hdm
    go_wp2_with fail
    go_roundw
    case rel => exact ⟨k + 1, HLT.out, by have := HLT.out; go_num, fun q hq => by
     by_cases e : q = k
     ·subst e; rw [HQK.out, HDM.out]
     ·exact HDD.out q (by omega), by first | trivial | rfl⟩
    case measure => have := HLT.out; simp [intOf]; omega
   ·have r1 : (dd != -1) = true := bne_iff_ne.2 hdm
    clear hdm
    go_wp2_with fail
    refine (handBegun_any _).mono ?_
    rintro e w7 ⟨rfl, k7⟩
    go_wp2_with fail
    go_ret
    exact ⟨rfl, HBW.out.trans ((K2.out.trans (k7.mono K2.out.size)).mono s0)⟩
  ·have hke : k = n2 := by omega
   subst hke
   clear hlt hk
   go_wp2_with fail
   refine (choose_gen qq k _ HQ.out.1 HQ.out.2 (by omega) (by omega)).mono ?_
   rintro e w3 ⟨c, hc, rfl, h3⟩
   rw [h3]
   clear h3 x0 x1 x2
   go_wp2_with fail
   go_loopw [20, 21] (fun u i wr2 => ∃ n : Nat, n ≤ Z ∧ i = .int .i64 n ∧ u = .bool (decide ((c : Int) ∈ zs.take n)) ∧ wr2 = wr) (fun _ i _ => Z - (intOf i).toNat)
   case atStart => exact ⟨0, Nat.zero_le _, rfl, by simp, rfl⟩
   case round =>
    obtain ⟨n, hn, rfl, rfl, rfl⟩ := hrel
    by_cases hlt : n < Z
    ·have HLT := hidI hlt
     have hnz : n < zs.length := by rw [← HZL.out]; exact hlt
     have HTM := hidI (take_mem hnz (c : Int))
     obtain ⟨gz, hgz⟩ : ∃ gz, az = some ⟨gz, 0, none⟩ ∧ ∀ i (h : i < zs.length), wr.cell? ⟨gz, i, none⟩ = some (.int .i64 zs[i]) := by
      rcases HZI.out with h | ⟨g, h1, h2, h3⟩
      ·rw [h] at hnz; exact absurd hnz (by simp)
      ·exact ⟨g, h1, h3⟩
     obtain ⟨rfl, hcell⟩ := hgz
     have e1 := hcell n hnz
     obtain ⟨zz, hzz⟩ : ∃ zz, zz = zs[n] := ⟨_, rfl⟩
     rw [← hzz] at e1 HTM
     obtain ⟨bb, hbb⟩ : ∃ bb, bb = decide ((c : Int) ∈ zs.take n) := ⟨_, rfl⟩
     rw [← hbb] at HTM ⊢
     have j1 : (0 : Int) ≤ (n : Int) := by omega
     have j2 : (n : Int) < (Z : Int) := by omega
     clear hcell hzz hbb
     cases bb with
     | true =>
       go_wp2_with fail
       go_roundw
       case rel => exact ⟨n + 1, HLT.out, by have := HLT.out; go_num, by rw [HTM.out]; rfl, by first | trivial | rfl⟩
       case measure => have := HLT.out; simp [intOf]; omega
     | false =>
       go_wp2_with fail
       go_roundw
       case rel => exact ⟨n + 1, HLT.out, by have := HLT.out; go_num, by rw [HTM.out]; rfl, by first | trivial | rfl⟩
       case measure => have := HLT.out; simp [intOf]; omega
    ·have hne : n = zs.length := by rw [← HZL.out]; omega
     have hte : zs.take n = zs := by rw [hne]; exact List.take_length
     rw [hte]
     have hnZ : n = Z := by rw [HZL.out]; exact hne
     subst hnZ
     clear hlt hn hne hte
     have hcs : c < s.ready.length := by have h := HS.out.l1; omega
     have hcx : c < X.ready.length := by have h := HS1.out.l1; omega
     have hcq : c < p.queues.length := by have h := HP.out.l2; omega
     have hdd : ∀ q, q < p.queues.length → (qAt p q).dead = -1 := fun q hq => HDD.out q (by have h := HP.out.l2; omega)
     have hli := arr_line (key := key) (body := body) hdd (qsC p key post.toNat) 600 s R0.out HOK.out (qsC_nodup p key post.toNat) (by have h1 := qsC_len p key post.toNat; have h2 := R0.out.rp.few.2.1; omega) (by have := HSQ6.out; omega) c
     rw [← HZQ.out, show arrsOf zs key body 0 = pubL p post key body by unfold pubL; rw [HZQ.out], ← HX0.out, lineAt_get hcs, lineAt_get hcx] at hli
     have HLI := hidI hli
     have HSR := hidI (HS.out.keep K2.out)
     obtain ⟨gs, os, bs, cs, ha, hgs, hls⟩ := HSR.out.q1.get hcs
     subst ha
     obtain ⟨gx, ox, bx, cx, ha, hgx, hlx⟩ := HS2.out.q1.get hcx
     subst ha
     obtain ⟨LS, hLS⟩ : ∃ LS, LS = s.ready[c].length := ⟨_, rfl⟩
     obtain ⟨L, hL⟩ : ∃ L, L = X.ready[c].length := ⟨_, rfl⟩
     have hL6 : L ≤ 6 := by rw [hL]; exact AR.out.right.line6 (List.getElem_mem hcx)
     have hLS6 : LS ≤ 6 := by rw [hLS]; exact R0.out.line6 (List.getElem_mem hcs)
     have e1 := hls.cell
     have e2 := hlx.cell
     rw [← hLS] at e1
     rw [← hL] at e2
     have HLS := hidI hls
     have HLX := hidI hlx
     have HLSE := hidI hLS
     have HLE := hidI hL
     obtain ⟨y0, y1, y2, y3, y4, y5, y6, y7⟩ := st_cells (BX.out wr K2.out).2
     obtain ⟨z0, z1, z2, z3, z4, z5, z6, z7⟩ := st_cells HB2.out
     have p0 : (0 : Int) ≤ (c : Int) := by omega
     have p1 : (c : Int) < (k : Int) := by omega
     clear hdd hli hls hlx hLS hL
     go_upto_region 18 with fail
     refine wp_region_quiet_lit (by kernel_rfl) (lexB_flat (by kernel_rfl) (by kernel_rfl)) ?_
     repeat (go_big_quiet_step (fail))
     refine wpQuiet_nil ?_
     intro _ hw'
     obtain ⟨nq, hw''⟩ := hw'
     subst hw''
     obtain ⟨w4, hw4⟩ : ∃ w4, w4 = wr.drewN nq := ⟨_, rfl⟩
     have l4 : Below wr.heap.size wr w4 := by rw [hw4]; exact below_drewL (Below.refl _ _)
     rw [← hw4]
     have K4 := hidI (K2.out.trans (l4.mono K2.out.size))
     have HLS4 := hidI (HLS.out.keep hgs l4)
     have HLX4 := hidI (HLX.out.keep hgx l4)
     have hgs4 : gs < w4.heap.size := Nat.lt_of_lt_of_le hgs l4.size
     have hgx4 : gx < w4.heap.size := Nat.lt_of_lt_of_le hgx l4.size
     clear hw4 l4 y0 y1 y2 y3 y4 y5 y6 y7 z0 z1 z2 z3 z4 z5 z6 z7 e1 e2
     by_cases hm : (c : Int) ∈ zs
     rotate_left
     ·have hd0 : decide ((c : Int) ∈ zs) = false := by simpa using hm
      have heq := HLI.out.1 hm
      rw [hd0]
      have hLLS : L = LS := by rw [HLE.out, HLSE.out, heq]
      subst hLLS
      go_wp2_with fail
      refine (handBegun_any _).mono ?_
      rintro e w5 ⟨rfl, l5⟩
      have h1 := (HLS4.out.keep hgs4 l5).it
      have h2 := (HLX4.out.keep hgx4 l5).it
      rw [heq] at h2
      have SA := hidI (same_itemsQ s.ready[c] bs bx L cs cx w5 HLSE.out.symm (by unfold maxLen; omega) h1 h2)
      have K5 := hidI (K4.out.trans (l5.mono K4.out.size))
      clear l5 h1 h2 heq hd0
      go_wp2_with fail
      refine SA.out.mono ?_
      rintro e w6 ⟨rfl, m, rfl⟩
      go_wp2_with fail
      go_ret
      exact ⟨rfl, HBW.out.trans ((below_drewL K5.out).mono s0)⟩
     have hd0 : decide ((c : Int) ∈ zs) = true := by simpa using hm
     obtain ⟨sq, hsq1, hlc⟩ := HLI.out.2 hm
     rw [hd0]
     have hlim := R0.out.room c hcs
     rw [lineAt_get hcs] at hlim
     have hqm : qAt p c ∈ p.queues := by unfold qAt; rw [List.getD_eq_getElem?_getD, List.getElem?_eq_getElem hcq]; exact List.getElem_mem hcq
     obtain ⟨d, hd, hpl, hmin⟩ := putL_end (it := ⟨sq, key, body, false, 0⟩) ((R0.out.rp).queues _ hqm).1 hlim
     rw [hpl] at hlc
     obtain ⟨A, hA⟩ : ∃ A, A = s.ready[c].drop d := ⟨_, rfl⟩
     rw [← hA] at hlc hmin
     obtain ⟨KA, hKA⟩ : ∃ KA, KA = A.length := ⟨_, rfl⟩
     have hLA : L = KA + 1 := by rw [HLE.out, hlc, hKA]; simp
     have hLSA : LS = KA + d := by rw [HLSE.out, hKA, hA, List.length_drop]; omega
     subst hLA
     have HAA := hidI hA
     have HLC := hidI hlc
     have HKA := hidI hKA
     have HLSA := hidI hLSA
     have HMIN := hidI hmin
     have HSQ1 := hidI hsq1
     have hd5 : d ≤ 6 := by omega
     have hKLS : KA ≤ LS := by omega
     clear hA hlc hKA hLSA hmin hsq1 hlim hpl hd0 hd hqm
     have itx := HLX4.out.it
     rw [HLC.out] at itx
     obtain ⟨gi, oi, rfl, hgi, hci⟩ := itx.cells (by simp)
     obtain ⟨v0', v1', v2', v3', v4'⟩ := hci KA (by rw [List.length_append, ← HKA.out]; simp)
     rw [List.getElem_append_right (by rw [← HKA.out]; exact Nat.le_refl _)] at v0' v1' v2' v3' v4'
     simp [← HKA.out] at v0' v1' v2' v3' v4'
     have r0 : (0 : Int) ≤ (KA : Int) := by omega
     have r1 : (KA : Int) < ((KA + 1 : Nat) : Int) := by omega
     have r1' : (KA : Int) < (KA : Int) + 1 := by omega
     have r2 : IntKind.i64.wrap (((KA + 1 : Nat) : Int) - 1) = (KA : Int) := by rw [IntKind.wrap_i64]; omega
     have r2' : IntKind.i64.wrap ((KA : Int) + 1 - 1) = (KA : Int) := by rw [IntKind.wrap_i64]; omega
     have r3 : (((KA + 1 : Nat) : Int) == 0) = false := by rw [beq_eq_false_iff_ne]; omega
     have r3' : (((KA : Int) + 1) == 0) = false := by rw [beq_eq_false_iff_ne]; omega
     clear itx hci
     go_upto_region 25 with fail
     obtain ⟨gq, oq, ha, hgq, qc0, qc1, qc2⟩ := HP.out.p2.get hcq
     subst ha
     obtain ⟨lim, hlim⟩ : ∃ lim, lim = (qAt p c).limit := ⟨_, rfl⟩
     have hqk : qAt p c = p.queues[c] := by unfold qAt; rw [List.getD_eq_getElem?_getD, List.getElem?_eq_getElem hcq]; rfl
     rw [← hqk, ← hlim] at qc1
     have hmn : (KA : Int) + 1 = min ((LS : Int) + 1) lim := by have h := HMIN.out; rw [← HKA.out, ← HLSE.out, ← hlim] at h; rw [← h]; simp
     obtain ⟨w5, hw5⟩ : ∃ w5, w5 = w4.alloc (.cells #[.int .i64 sq, .string key, .string body, .bool false, .int .i64 0] 43) := ⟨_, rfl⟩
     have l5 : Below w4.heap.size w4 w5 := by rw [hw5]; exact (Below.refl _ _).alloc (Nat.le_refl _) _
     have hx5 : w5.heap[w4.heap.size]? = some (.cells #[.int .i64 sq, .string key, .string body, .bool false, .int .i64 0] 43 (0, 0)) := by rw [hw5]; exact World.alloc_heap_new w4 _
     rw [← hw5]
     obtain ⟨B5, hB5⟩ : ∃ B5, B5 = w4.heap.size := ⟨_, rfl⟩
     rw [← hB5] at hx5 ⊢
     have HX5 := hidI hx5
     have K5 := hidI (K4.out.trans (l5.mono K4.out.size))
     have HLS5 := hidI (HLS4.out.keep hgs4 l5)
     have HLX5 := hidI (HLX4.out.keep hgx4 l5)
     have hgs5 : gs < w5.heap.size := Nat.lt_of_lt_of_le hgs4 l5.size
     have hgx5 : gx < w5.heap.size := Nat.lt_of_lt_of_le hgx4 l5.size
     have QC1 := hidI qc1
     have HGQ := hidI hgq
     have t1 : decide ((KA : Int) ≤ (LS : Int)) = true := by rw [decide_eq_true_eq]; omega
     have t1' : decide (KA ≤ LS) = true := by rw [decide_eq_true_eq]; omega
     have t2 : decide (s.nextSeq ≤ sq) = true := by rw [decide_eq_true_eq]; exact HSQ1.out
     have t3 : (KA : Int) ≤ (cx : Int) := by have h := HLX5.out.le; rw [← HLE.out] at h; omega
     have t4 : IntKind.i64.wrap ((LS : Int) - (KA : Int)) = ((d : Nat) : Int) := by have := HLSA.out; rw [IntKind.wrap_i64]; omega
     have t5 : ((d : Nat) : Int) ≤ (LS : Int) := by have := HLSA.out; omega
     have t6 : (0 : Int) ≤ ((d : Nat) : Int) := by omega
     have t7 : IntKind.i64.wrap ((LS : Int) + 1) = (LS : Int) + 1 := by rw [IntKind.wrap_i64]; omega
     have t8 : ((KA : Int) + 1 == min ((LS : Int) + 1) lim) = true := by rw [← hmn]; simp
     have t9 : (((KA + 1 : Nat) : Int) == min ((LS : Int) + 1) lim) = true := by rw [← hmn]; simp
     have BB : Hid (∀ W', Below w5.heap.size w5 W' → (W'.cell? ⟨B5, 0, none⟩ = some (.int .i64 sq) ∧ W'.cell? ⟨B5, 1, none⟩ = some (.string key) ∧ W'.cell? ⟨B5, 2, none⟩ = some (.string body) ∧ W'.cell? ⟨B5, 3, none⟩ = some (.bool false) ∧ W'.cell? ⟨B5, 4, none⟩ = some (.int .i64 0) ∧ W'.cell? ⟨w.heap.size + 1, 3, none⟩ = some (.int .i64 s.nextSeq) ∧ W'.cell? ⟨w.heap.size, 1, none⟩ = some (.slice (some ⟨gq, oq, none⟩) k c2) ∧ W'.cell? ⟨gq, oq + c * 3 + 1, none⟩ = some (.int .i64 lim)) ∧ Below w5.heap.size w5 W') := fun W' h => by
      have kW := K5.out.trans (h.mono K5.out.size)
      obtain ⟨i0, i1, i2, i3, i4⟩ := cells5I (pkp_ HX5.out h)
      obtain ⟨-, -, -, v3, -⟩ := st_cells (BX.out W' kW).2
      obtain ⟨-, p1, -⟩ := pl_cells (BX.out W' kW).1
      exact ⟨⟨i0, i1, i2, i3, i4, v3, p1, cell_below QC1.out HGQ.out kW⟩, h⟩
     have ITX : Hid (∀ W', Below w5.heap.size w5 W' → ItemsAt W' (some ⟨gi, oi, none⟩) A) := fun W' h => by
      have h1 := (HLX5.out.keep hgx5 h).it
      rw [HLC.out] at h1
      exact h1.front
     have ITS : Hid (∀ W', Below w5.heap.size w5 W' → ItemsAt W' (if cs = d then bs else Option.map (fun x => x.add (d * 5)) bs) A) := fun W' h => by
      have h1 := HLS5.out.keep hgs5 h
      rw [HAA.out]
      exact h1.it.after h1.le
     clear hw5 l5 hx5 hB5 qc0 qc1 qc2 hgq hqk hlim hmn v0' v1' v2' v3' v4' r1 r1' r2 r2' r3 r3' hgi
     refine wp_region_held_drew (S := fun W' => (W'.cell? ⟨B5, 0, none⟩ = some (.int .i64 sq) ∧ W'.cell? ⟨B5, 1, none⟩ = some (.string key) ∧ W'.cell? ⟨B5, 2, none⟩ = some (.string body) ∧ W'.cell? ⟨B5, 3, none⟩ = some (.bool false) ∧ W'.cell? ⟨B5, 4, none⟩ = some (.int .i64 0) ∧ W'.cell? ⟨w.heap.size + 1, 3, none⟩ = some (.int .i64 s.nextSeq) ∧ W'.cell? ⟨w.heap.size, 1, none⟩ = some (.slice (some ⟨gq, oq, none⟩) k c2) ∧ W'.cell? ⟨gq, oq + c * 3 + 1, none⟩ = some (.int .i64 lim)) ∧ Below w5.heap.size w5 W') (by kernel_rfl) (BB.out _ (Below.refl _ _).drew) (fun hHeld => ?_)
     as_aux_lemma =>
      refine rdy 0 (fun K hK => ?_)
      go_simp
      refine (handBegun_any _).mono ?_
      rintro e w7 ⟨rfl, l7⟩
      refine hK.out _ _ (BB.out _ (hHeld.2.trans (l7.mono hHeld.2.size))) (fun hHeld => ?_)
      clear hK K l7
      try refine nrm ?_
      refine tk 1 ?_
      refine tk 2 ?_
      refine tk 3 ?_
      refine tk 4 ?_
      refine tk 5 ?_
      refine tk 6 ?_
      refine tk 7 ?_
      refine tk 8 ?_
      refine tk 9 ?_
      refine tk 10 ?_
      refine tk 11 ?_
      refine tk 12 ?_
      refine tk 13 ?_
      refine tk 14 ?_
      refine tk 15 ?_
      refine tk 16 ?_
      refine tk 17 ?_
      refine tk 18 ?_
      refine tk 19 ?_
      refine tk 20 ?_
      refine tk 21 ?_
      refine tk 22 ?_
      refine tk 23 ?_
      refine tk 24 ?_
      refine tk 25 ?_
      refine tk 26 ?_
      refine tk 27 ?_
      refine tk 28 ?_
      refine tk 29 ?_
      refine tk 30 ?_
      refine tk 31 ?_
      refine tk 32 ?_
      refine tk 33 ?_
      refine tk 34 ?_
      refine tk 35 ?_
      refine tk 36 ?_
      refine tk 37 ?_
      refine tk 38 ?_
      refine tk 39 ?_
      refine tk 40 ?_
      refine tk 41 ?_
      refine tk 42 ?_
      refine tk 43 ?_
      refine tk 44 ?_
      refine tk 45 ?_
      refine rdy 46 (fun K hK => ?_)
      go_simp
      refine (same_itemsR A _ _ _ _ _ _ _ HKA.out.symm (by rw [← HKA.out]; have := HLSA.out; omega) (by unfold maxLen; omega) (ITX.out _ hHeld.2) (ITS.out _ hHeld.2)).mono ?_
      rintro e w8 ⟨rfl, m, hw8⟩
      have l8 : Below w5.heap.size w5 w8 := by rw [hw8]; exact below_drewL hHeld.2
      clear hw8 ITS
      generalize (if cs = d then bs else Option.map (fun x => x.add (d * 5)) bs) = A5
      refine hK.out _ _ (BB.out _ l8) (fun hHeld => ?_)
      clear hK K
      try refine nrm ?_
      refine tk 47 ?_
      refine tk 48 ?_
      refine tk 49 ?_
      refine tk 50 ?_
      refine tk 51 ?_
      refine tk 52 ?_
      refine tk 53 ?_
      refine tk 54 ?_
      refine tk 55 ?_
      refine tk 56 ?_
      refine tk 57 ?_
      refine tk 58 ?_
      refine tk 59 ?_
      refine tk 60 ?_
      refine tk 61 ?_
      refine tk 62 ?_
      refine tk 63 ?_
      refine wpAnyH_done (by kernel_rfl) ?_ _
      go_wp2_with fail
      go_ret
      exact ⟨rfl, HBW.out.trans ((K5.out.trans (l8.mono K5.out.size)).mono s0)⟩
end Go.Proofs.YtpoichgodamnkaaGreat
