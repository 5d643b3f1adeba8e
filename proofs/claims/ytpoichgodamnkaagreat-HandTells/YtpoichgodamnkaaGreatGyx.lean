import Derived.Deep.RegionHeld3
import Derived.Deep.DeepCutAuto
import Derived.Test.YtpoichgodamnkaaGreatGqx
import Derived.Test.YtpoichgodamnkaaGreatGbx
import Derived.Test.YtpoichgodamnkaaGreatGvx
import Derived.Test.YtpoichgodamnkaaGreatSAn
namespace Go.Proofs.YtpoichgodamnkaaGreat
open Go.RowKit Go.Maps
set_option linter.unusedVariables false
set_option maxRecDepth 100000
set_option maxHeartbeats 8000000
def pubL (p : PlanD) (post : Int) (key body : ByteArray) : List ArrD := arrsOf (qsC p key post.toNat) key body 0
def pubX (p : PlanD) (s : StateD) (post : Int) (key body : ByteArray) : Int := if rtE p post key ≠ 0 then rtE p post key else if 12 < body.size then 1 else letE p s (pubL p post key body)
theorem publish1_does (p : PlanD) (a1 a2 a3 : Option Addr) (n1 c1 n2 c2 n3 c3 : Nat) (s : StateD) (post : Int) (key body : ByteArray) (Bp Bo Bk Bb : Nat) (w : World) (hp : PlanAt w a1 a2 a3 n1 n2 n3 p) (x0 : w.heap[Bp]? = some (.cells #[.slice a1 n1 c1, .slice a2 n2 c2, .slice a3 n3 c3] 26 (0, 0))) (x1 : w.heap[Bo]? = some (.cells #[.int .i64 post] 3 (0, 0))) (x2 : w.heap[Bk]? = some (.cells #[.string key] 9 (0, 0))) (x3 : w.heap[Bb]? = some (.cells #[.string body] 9 (0, 0))) (hR : RightX p s 0) :
  Does 82 #[.pointer (some ⟨Bp, 0, none⟩), .pointer (some ⟨Bo, 0, none⟩), .pointer (some ⟨Bk, 0, none⟩), .pointer (some ⟨Bb, 0, none⟩)] w s (pubX p s post key body) ((qsC p key post.toNat).length : Nat) (arrS p 600 s (pubL p post key body)) := by
 intro W n t hBW hwt htn hnW hbx
 obtain ⟨E, hE⟩ : ∃ E, E = pubX p s post key body := ⟨_, rfl⟩
 obtain ⟨NN, hNN⟩ : ∃ NN : Int, NN = ((qsC p key post.toNat).length : Nat) := ⟨_, rfl⟩
 rw [← hE, ← hNN]
 have HE := hidI hE
 have HNN := hidI hNN
 have HP := hidI (hp.keep hBW)
 have HR := hidI hR
 have HBX := hidI hbx
 have X0 := hidI (pkp_ x0 hBW)
 have X1 := hidI (pkp_ x1 hBW)
 have X2 := hidI (pkp_ x2 hBW)
 have X3 := hidI (pkp_ x3 hBW)
 have hap : (#[Value.pointer (some ⟨t, 0, none⟩)] ++ #[Value.pointer (some ⟨Bp, 0, none⟩), Value.pointer (some ⟨Bo, 0, none⟩), Value.pointer (some ⟨Bk, 0, none⟩), Value.pointer (some ⟨Bb, 0, none⟩)] : Array Value) = #[.pointer (some ⟨t, 0, none⟩), .pointer (some ⟨Bp, 0, none⟩), .pointer (some ⟨Bo, 0, none⟩), .pointer (some ⟨Bk, 0, none⟩), .pointer (some ⟨Bb, 0, none⟩)] := rfl
 rw [hap]
 obtain ⟨p0, p1, p2⟩ := pl_cells X0.out
 have o0 := coc_ X1.out 0
 have k0 := coc_ X2.out 0
 have g0 := coc_ X3.out 0
 simp at o0 k0 g0
 clear hE hNN hp x0 x1 x2 x3 hR hbx hap hBW
 go_enter Tryz.func82, Tryz.ntmps82
 go_wp2_with fail
 refine (queues_any p _ _ _ _ _ _ _ _ _ post key W HP.out).mono ?_
 rintro e w1 ⟨zs, az, cz, rfl, hz1, -, hzl, hzi, k1⟩
 obtain ⟨E1, hE1⟩ : ∃ E1, E1 = rtE p post key := ⟨_, rfl⟩
 rw [← hE1] at hz1 ⊢
 have HE1 := hidI hE1
 obtain ⟨nz, hnz⟩ : ∃ nz, nz = zs.length := ⟨_, rfl⟩
 have HNZ := hidI hnz
 rw [← hnz] at hzl ⊢
 have HZ1 := hidI hz1
 have HZI := hidI hzi
 have K1 := hidI k1
 have s1 := k1.size
 clear hE1 hnz hz1 hzi p0 p1 p2 o0 k0 g0 k1
 have ka := K1.out.alloc s1 (.cells #[.int .i64 E1] 33)
 by_cases hz : E1 = 0
 rotate_left
 ·have HZN := hidI hz
  have HEE : Hid (E = E1) := by show E = E1; rw [HE.out]; unfold pubX; rw [if_pos (by rw [← HE1.out]; exact hz), HE1.out]
  have KAA := hidI ka
  clear ka
  go_wp2_with fail
  refine (ok_yes E1 _ _ (one_new _ _ _) (by simp) HZN.out).mono ?_
  rintro e w2 ⟨rfl, k2⟩
  exact ⟨rfl, FrameT.of_below (KAA.out.trans (k2.mono KAA.out.size)) hnW, .inl ⟨by rw [HEE.out]; exact HZN.out, by rw [HEE.out]; rfl⟩⟩
 subst hz
 have HE2 : Hid (E = if 12 < body.size then 1 else letE p s (pubL p post key body)) := by show E = _; rw [HE.out]; unfold pubX; rw [if_neg (by rw [← HE1.out]; simp)]
 go_wp2_with (go_at_call 72; refine (ok_no _ _ (one_new _ _ _) (by simp)).mono ?_; rintro e w2 ⟨rfl, k2⟩; have k2' := ka.trans (k2.mono ka.size); have K2 := hidI k2'; have g0 := coc_ (pkp_ X3.out k2') 0; simp at g0; have HZ2 := hidI ((HZI.out.keep ((Below.refl _ _).alloc (Nat.le_refl _) (.cells #[.int .i64 0] 33))).keep k2); clear k2 k2' ka)
 have s2 := K2.out.size
 obtain ⟨V3, hV3⟩ : ∃ V3, V3 = w2.alloc (.cells #[.bool (decide ((12 : Int) < (body.size : Int)))] 4) := ⟨_, rfl⟩
 have l3 : Below w2.heap.size w2 V3 := by rw [hV3]; exact (Below.refl _ _).alloc (Nat.le_refl _) _
 have hbn : IsBools V3 w2.heap.size 0 [decide ((12 : Int) < (body.size : Int))] := by rw [hV3]; exact bools_new w2 [decide ((12 : Int) < (body.size : Int))]
 have HV3 := hidI hV3
 have HBN := hidI hbn
 have K3 := hidI (K2.out.trans (l3.mono s2))
 have HZ3 := hidI (HZ2.out.keep l3)
 clear hV3 l3 hbn
 go_wp2_with fail
 rw [← HV3.out]
 by_cases hb : (12 : Int) < (body.size : Int)
 ·have HE1' : Hid (E = 1) := by show E = 1; rw [HE2.out, if_pos (by omega)]
  refine (never_yes 1 [decide ((12 : Int) < (body.size : Int))] _ _ (by simp) HBN.out (by simp; omega)).mono ?_
  rintro e w4 ⟨rfl, rfl⟩
  exact ⟨rfl, FrameT.of_below K3.out hnW, .inl ⟨by rw [HE1'.out]; decide, by rw [HE1'.out]; rfl⟩⟩
 refine (never_no 1 [decide ((12 : Int) < (body.size : Int))] _ _ (by simp) HBN.out (by simp; omega)).mono ?_
 rintro e w4 ⟨rfl, hw4⟩
 rw [hw4]
 clear hw4
 have HE3 : Hid (E = letE p s (pubL p post key body)) := by show E = _; rw [HE2.out, if_neg (by omega)]
 clear hb
 have HQZ : Hid (zs = qsC p key post.toNat) := by
  show zs = _
  refine (HZ1.out trivial).uniq (qsC_is HR.out.rp ?_)
  have h1 := HE1.out
  unfold rtE at h1
  rw [if_pos HR.out.pl] at h1
  by_cases h : isNum post p.posts.length = true
  ·have := isNum_iff.1 h; omega
  ·rw [if_neg h] at h1; cases h1
 obtain ⟨b1, b2, b3, m1, d1, m2, d2, m3, d3, hbv, hov⟩ := HBX.out.keep K3.out
 have HBV := hidI hbv
 have HOV := hidI hov
 have HPV := hidI (HP.out.keep K3.out)
 have SA : Hid (∀ W', Below V3.heap.size V3 W' → ((W'.cell? ⟨Bp, 0, none⟩ = some (.slice a1 n1 c1) ∧ W'.cell? ⟨Bp, 1, none⟩ = some (.slice a2 n2 c2) ∧ W'.cell? ⟨Bp, 2, none⟩ = some (.slice a3 n3 c3)) ∧ (W'.cell? ⟨t, 0, none⟩ = some (.slice b1 m1 d1) ∧ W'.cell? ⟨t, 1, none⟩ = some (.slice b2 m2 d2) ∧ W'.cell? ⟨t, 2, none⟩ = some (.slice b3 m3 d3) ∧ W'.cell? ⟨t, 3, none⟩ = some (.int .i64 s.nextSeq) ∧ W'.cell? ⟨t, 4, none⟩ = some (.int .i64 s.nextTag) ∧ W'.cell? ⟨t, 5, none⟩ = some (.int .i64 s.came) ∧ W'.cell? ⟨t, 6, none⟩ = some (.int .i64 s.acked) ∧ W'.cell? ⟨t, 7, none⟩ = some (.int .i64 s.dropped)) ∧ W'.cell? ⟨Bk, 0, none⟩ = some (.string key) ∧ W'.cell? ⟨Bb, 0, none⟩ = some (.string body))) := fun W' h => by
  have y := K3.out.trans (h.mono K3.out.size)
  exact ⟨pl_cells (pkp_ X0.out y), st_cells (pkp_ HBV.out h), coc_ (pkp_ X2.out y) 0, coc_ (pkp_ X3.out y) 0⟩
 clear hbv hov g0
 go_upto_region 4 with fail
 go_cut [9, 10, 8] (fun s9 s10 s8 wx => ∃ BB u num, s9 = .pointer (some ⟨BB, 0, none⟩) ∧ s10 = .int .i64 num ∧ s8 = .int .i64 E ∧ wx.heap[BB]? = some (.cells u 31 (0, 0)) ∧ StRes wx n (.agg u) E (arrS p 600 s (pubL p post key body)) ∧ Below V3.heap.size V3 wx)
 case first =>
  refine wp_region_held_drew (S := fun W' => ((W'.cell? ⟨Bp, 0, none⟩ = some (.slice a1 n1 c1) ∧ W'.cell? ⟨Bp, 1, none⟩ = some (.slice a2 n2 c2) ∧ W'.cell? ⟨Bp, 2, none⟩ = some (.slice a3 n3 c3)) ∧ (W'.cell? ⟨t, 0, none⟩ = some (.slice b1 m1 d1) ∧ W'.cell? ⟨t, 1, none⟩ = some (.slice b2 m2 d2) ∧ W'.cell? ⟨t, 2, none⟩ = some (.slice b3 m3 d3) ∧ W'.cell? ⟨t, 3, none⟩ = some (.int .i64 s.nextSeq) ∧ W'.cell? ⟨t, 4, none⟩ = some (.int .i64 s.nextTag) ∧ W'.cell? ⟨t, 5, none⟩ = some (.int .i64 s.came) ∧ W'.cell? ⟨t, 6, none⟩ = some (.int .i64 s.acked) ∧ W'.cell? ⟨t, 7, none⟩ = some (.int .i64 s.dropped)) ∧ W'.cell? ⟨Bk, 0, none⟩ = some (.string key) ∧ W'.cell? ⟨Bb, 0, none⟩ = some (.string body))) (by kernel_rfl) (SA.out _ (Below.refl _ _).drew) (fun hHeld => ?_)
  obtain ⟨wq, hwq⟩ : ∃ wq, wq = V3.drew := ⟨_, rfl⟩
  have Lwq : Hid (Below V3.heap.size V3 wq) := by show Below V3.heap.size V3 wq; rw [hwq]; exact (Below.refl _ _).drew
  rw [← hwq] at hHeld ⊢
  clear hwq
  refine tk 0 ?_
  refine tk 1 ?_
  refine tk 2 ?_
  refine tk 3 ?_
  refine tk 4 ?_
  refine tk 5 ?_
  refine tk 6 ?_
  refine wpAnyH_ready (rs := [7, 13]) (by kernel_rfl) (by simp) ?_
  refine AllReadyH.cons rfl (fun K hK => ?_) (AllReadyH.cons rfl (fun K hK => ?_) AllReadyH.nil)
  ·go_simp
   refine (arrivals_any zs az nz cz key body 0 _ HNZ.out.symm (by omega) (HZ3.out.keep Lwq.out)).mono ?_
   rintro e wo ⟨vo, rfl, hoo, ko⟩
   obtain ⟨ao, co, hvo, hco, hcm, hno, -⟩ := own_row hoo
   subst hvo
   have Lwo : Hid (Below V3.heap.size V3 wo) := Lwq.out.trans (ko.mono Lwq.out.size)
   have HRo : Hid (ArrsAt wo ao (pubL p post key body)) := by show ArrsAt wo ao _; have h := own_at hoo; rw [HQZ.out] at h; exact h
   have HNO := hidI hno
   have HRL : Hid ((pubL p post key body).length = nz) := by show _ = nz; unfold pubL arrsOf; rw [List.length_map, ← HQZ.out, HNZ.out]
   refine hK.out _ _ (SA.out _ Lwo.out) (fun hHo => ?_)
   clear hK K hoo hno ko
   try refine nrm ?_
   refine wpAnyH_ready (rs := [8, 13]) (by kernel_rfl) (by simp) ?_
   refine AllReadyH.cons rfl (fun K hK => ?_) (AllReadyH.cons rfl (fun K hK => ?_) AllReadyH.nil)
   ·go_simp
    refine (letters_any p a1 a2 a3 n1 c1 n2 c2 n3 c3 s b1 b2 b3 m1 d1 m2 d2 m3 d3 (pubL p post key body) ao nz co _ (HPV.out.keep Lwo.out) (HOV.out.keep Lwo.out).state (HOV.out.keep Lwo.out).nils.1 (HOV.out.keep Lwo.out).nils.2 HRo.out HRL.out (by unfold maxLen; omega) HNO.out).mono ?_
    rintro e wd ⟨vd, rfl, hresd, kd⟩
    rw [← HE3.out] at hresd ⊢
    obtain ⟨x1, x2, x3, q1, e1, q2, e2, q3, e3, i1, i2, i3, i4, i5, rfl⟩ := hresd.shape
    have Lwd : Hid (Below V3.heap.size V3 wd) := Lwo.out.trans (kd.mono Lwo.out.size)
    have HSd := hidI (hresd.lower (n' := n) (by have := Lwo.out.size; have := K3.out.size; omega))
    obtain ⟨num, hnum⟩ : ∃ num, num = numOf E ((arrN p 600 s (pubL p post key body) : Nat)) := ⟨_, rfl⟩
    rw [← hnum]
    refine hK.out _ _ (SA.out _ Lwd.out) (fun hHd => ?_)
    clear hK K hresd kd hnum
    try refine nrm ?_
    refine tk 9 ?_
    refine tk 10 ?_
    refine tk 11 ?_
    refine tk 12 ?_
    refine rdy 13 (fun K hK => ?_)
    go_simp
    obtain ⟨wa, hwa⟩ : ∃ wa, wa = wd.alloc (.cells #[.slice none 0 0, .slice none 0 0, .slice none 0 0, .int .i64 0, .int .i64 0, .int .i64 0, .int .i64 0, .int .i64 0] 31) := ⟨_, rfl⟩
    have la : Below wd.heap.size wd wa := by rw [hwa]; exact (Below.refl _ _).alloc (Nat.le_refl _) _
    have Lwa : Hid (Below V3.heap.size V3 wa) := Lwd.out.trans (la.mono Lwd.out.size)
    have ba : wa.heap[wd.heap.size]? = some (.cells #[.slice none 0 0, .slice none 0 0, .slice none 0 0, .int .i64 0, .int .i64 0, .int .i64 0, .int .i64 0, .int .i64 0] 31 (0, 0)) := by rw [hwa]; exact World.alloc_heap_new wd _
    obtain ⟨BB, hBB⟩ : ∃ BB, BB = wd.heap.size := ⟨_, rfl⟩
    have hBg : V3.heap.size ≤ BB := by rw [hBB]; exact Lwd.out.size
    rw [← hwa, ← hBB]
    rw [← hBB] at ba
    have HSa := hidI (HSd.out.keep la)
    refine hK.out _ _ (SA.out _ Lwa.out) (fun hHa => ?_)
    clear hK K hwa hBB
    try refine nrm ?_
    refine rdy 14 (fun K hK => ?_)
    obtain ⟨c0, c1', c2', c3', c4, c5, c6, c7⟩ := st_cells ba
    have g0 := foc_ ba 0
    have g1 := foc_ ba 1
    have g2 := foc_ ba 2
    have g3 := foc_ ba 3
    have g4 := foc_ ba 4
    have g5 := foc_ ba 5
    have g6 := foc_ ba 6
    have g7 := foc_ ba 7
    go_simp
    generalize hWz : World.setCell (World.setCell (World.setCell (World.setCell (World.setCell (World.setCell (World.setCell (World.setCell wa _ _) _ _) _ _) _ _) _ _) _ _) _ _) _ _ = Wz
    obtain ⟨bz, tz⟩ := store8 ba hWz
    have lz : Below V3.heap.size V3 Wz := Lwa.out.trans (tz.below Lwa.out.size hBg)
    have rz := HSa.out.turn ba tz
    have RL := hidI (And.intro bz (And.intro rz lz))
    refine hK.out _ _ (SA.out _ lz) (fun hHz => ?_)
    clear hK K
    try refine nrm ?_
    refine tk 15 ?_
    refine tk 16 ?_
    refine wpAnyH_done (by kernel_rfl) ?_ _
    clear c0 c1' c2' c3' c4 c5 c6 c7 g0 g1 g2 g3 g4 g5 g6 g7 bz rz lz hHz tz hWz
    go_wp2_with fail
    go_meet
    case rel => exact ⟨BB, _, num, rfl, rfl, rfl, RL.out⟩
   ·go_simp
    obtain ⟨wa, hwa⟩ : ∃ wa, wa = wo.alloc (.cells #[.slice none 0 0, .slice none 0 0, .slice none 0 0, .int .i64 0, .int .i64 0, .int .i64 0, .int .i64 0, .int .i64 0] 31) := ⟨_, rfl⟩
    have la : Below wo.heap.size wo wa := by rw [hwa]; exact (Below.refl _ _).alloc (Nat.le_refl _) _
    have Lwa : Hid (Below V3.heap.size V3 wa) := Lwo.out.trans (la.mono Lwo.out.size)
    have ba : wa.heap[wo.heap.size]? = some (.cells #[.slice none 0 0, .slice none 0 0, .slice none 0 0, .int .i64 0, .int .i64 0, .int .i64 0, .int .i64 0, .int .i64 0] 31 (0, 0)) := by rw [hwa]; exact World.alloc_heap_new wo _
    obtain ⟨BB, hBB⟩ : ∃ BB, BB = wo.heap.size := ⟨_, rfl⟩
    have hBg : V3.heap.size ≤ BB := by rw [hBB]; exact Lwo.out.size
    rw [← hwa, ← hBB]
    rw [← hBB] at ba
    have HRa := hidI (HRo.out.keep la)
    refine hK.out _ _ (SA.out _ Lwa.out) (fun hHa => ?_)
    clear hK K hwa hBB
    try refine nrm ?_
    refine rdy 8 (fun K hK => ?_)
    go_simp
    refine (letters_any p a1 a2 a3 n1 c1 n2 c2 n3 c3 s b1 b2 b3 m1 d1 m2 d2 m3 d3 (pubL p post key body) ao nz co _ (HPV.out.keep Lwa.out) (HOV.out.keep Lwa.out).state (HOV.out.keep Lwa.out).nils.1 (HOV.out.keep Lwa.out).nils.2 HRa.out HRL.out (by unfold maxLen; omega) HNO.out).mono ?_
    rintro e wd ⟨vd, rfl, hresd, kd⟩
    rw [← HE3.out] at hresd ⊢
    obtain ⟨x1, x2, x3, q1, e1, q2, e2, q3, e3, i1, i2, i3, i4, i5, rfl⟩ := hresd.shape
    have Lwd : Hid (Below V3.heap.size V3 wd) := Lwa.out.trans (kd.mono Lwa.out.size)
    have HSd := hidI (hresd.lower (n' := n) (by have := Lwa.out.size; have := K3.out.size; omega))
    obtain ⟨num, hnum⟩ : ∃ num, num = numOf E ((arrN p 600 s (pubL p post key body) : Nat)) := ⟨_, rfl⟩
    rw [← hnum]
    have bd := pkp_ ba kd
    refine hK.out _ _ (SA.out _ Lwd.out) (fun hHd => ?_)
    clear hK K hresd kd hnum
    try refine nrm ?_
    refine tk 9 ?_
    refine tk 10 ?_
    refine tk 11 ?_
    refine tk 12 ?_
    refine rdy 14 (fun K hK => ?_)
    obtain ⟨c0, c1', c2', c3', c4, c5, c6, c7⟩ := st_cells bd
    have g0 := foc_ bd 0
    have g1 := foc_ bd 1
    have g2 := foc_ bd 2
    have g3 := foc_ bd 3
    have g4 := foc_ bd 4
    have g5 := foc_ bd 5
    have g6 := foc_ bd 6
    have g7 := foc_ bd 7
    go_simp
    generalize hWz : World.setCell (World.setCell (World.setCell (World.setCell (World.setCell (World.setCell (World.setCell (World.setCell wd _ _) _ _) _ _) _ _) _ _) _ _) _ _) _ _ = Wz
    obtain ⟨bz, tz⟩ := store8 bd hWz
    have lz : Below V3.heap.size V3 Wz := Lwd.out.trans (tz.below Lwd.out.size hBg)
    have rz := HSd.out.turn bd tz
    have RL := hidI (And.intro bz (And.intro rz lz))
    refine hK.out _ _ (SA.out _ lz) (fun hHz => ?_)
    clear hK K
    try refine nrm ?_
    refine tk 15 ?_
    refine tk 16 ?_
    refine wpAnyH_done (by kernel_rfl) ?_ _
    clear c0 c1' c2' c3' c4 c5 c6 c7 g0 g1 g2 g3 g4 g5 g6 g7 bz rz lz hHz tz hWz
    go_wp2_with fail
    go_meet
    case rel => exact ⟨BB, _, num, rfl, rfl, rfl, RL.out⟩
  ·go_simp
   obtain ⟨wa, hwa⟩ : ∃ wa, wa = wq.alloc (.cells #[.slice none 0 0, .slice none 0 0, .slice none 0 0, .int .i64 0, .int .i64 0, .int .i64 0, .int .i64 0, .int .i64 0] 31) := ⟨_, rfl⟩
   have la : Below wq.heap.size wq wa := by rw [hwa]; exact (Below.refl _ _).alloc (Nat.le_refl _) _
   have Lwa : Hid (Below V3.heap.size V3 wa) := Lwq.out.trans (la.mono Lwq.out.size)
   have ba : wa.heap[wq.heap.size]? = some (.cells #[.slice none 0 0, .slice none 0 0, .slice none 0 0, .int .i64 0, .int .i64 0, .int .i64 0, .int .i64 0, .int .i64 0] 31 (0, 0)) := by rw [hwa]; exact World.alloc_heap_new wq _
   obtain ⟨BB, hBB⟩ : ∃ BB, BB = wq.heap.size := ⟨_, rfl⟩
   have hBg : V3.heap.size ≤ BB := by rw [hBB]; exact Lwq.out.size
   rw [← hwa, ← hBB]
   rw [← hBB] at ba
   refine hK.out _ _ (SA.out _ Lwa.out) (fun hHa => ?_)
   clear hK K hwa hBB
   try refine nrm ?_
   refine rdy 7 (fun K hK => ?_)
   go_simp
   refine (arrivals_any zs az nz cz key body 0 _ HNZ.out.symm (by omega) (HZ3.out.keep Lwa.out)).mono ?_
   rintro e wo ⟨vo, rfl, hoo, ko⟩
   obtain ⟨ao, co, hvo, hco, hcm, hno, -⟩ := own_row hoo
   subst hvo
   have Lwo : Hid (Below V3.heap.size V3 wo) := Lwa.out.trans (ko.mono Lwa.out.size)
   have HRo : Hid (ArrsAt wo ao (pubL p post key body)) := by show ArrsAt wo ao _; have h := own_at hoo; rw [HQZ.out] at h; exact h
   have HNO := hidI hno
   have HRL : Hid ((pubL p post key body).length = nz) := by show _ = nz; unfold pubL arrsOf; rw [List.length_map, ← HQZ.out, HNZ.out]
   have bo := pkp_ ba ko
   refine hK.out _ _ (SA.out _ Lwo.out) (fun hHo => ?_)
   clear hK K hoo hno ko
   try refine nrm ?_
   refine rdy 8 (fun K hK => ?_)
   go_simp
   refine (letters_any p a1 a2 a3 n1 c1 n2 c2 n3 c3 s b1 b2 b3 m1 d1 m2 d2 m3 d3 (pubL p post key body) ao nz co _ (HPV.out.keep Lwo.out) (HOV.out.keep Lwo.out).state (HOV.out.keep Lwo.out).nils.1 (HOV.out.keep Lwo.out).nils.2 HRo.out HRL.out (by unfold maxLen; omega) HNO.out).mono ?_
   rintro e wd ⟨vd, rfl, hresd, kd⟩
   rw [← HE3.out] at hresd ⊢
   obtain ⟨x1, x2, x3, q1, e1, q2, e2, q3, e3, i1, i2, i3, i4, i5, rfl⟩ := hresd.shape
   have Lwd : Hid (Below V3.heap.size V3 wd) := Lwo.out.trans (kd.mono Lwo.out.size)
   have HSd := hidI (hresd.lower (n' := n) (by have := Lwo.out.size; have := K3.out.size; omega))
   obtain ⟨num, hnum⟩ : ∃ num, num = numOf E ((arrN p 600 s (pubL p post key body) : Nat)) := ⟨_, rfl⟩
   rw [← hnum]
   have bd := pkp_ bo kd
   refine hK.out _ _ (SA.out _ Lwd.out) (fun hHd => ?_)
   clear hK K hresd kd hnum
   try refine nrm ?_
   refine tk 9 ?_
   refine tk 10 ?_
   refine tk 11 ?_
   refine tk 12 ?_
   refine rdy 14 (fun K hK => ?_)
   obtain ⟨c0, c1', c2', c3', c4, c5, c6, c7⟩ := st_cells bd
   have g0 := foc_ bd 0
   have g1 := foc_ bd 1
   have g2 := foc_ bd 2
   have g3 := foc_ bd 3
   have g4 := foc_ bd 4
   have g5 := foc_ bd 5
   have g6 := foc_ bd 6
   have g7 := foc_ bd 7
   go_simp
   generalize hWz : World.setCell (World.setCell (World.setCell (World.setCell (World.setCell (World.setCell (World.setCell (World.setCell wd _ _) _ _) _ _) _ _) _ _) _ _) _ _) _ _ = Wz
   obtain ⟨bz, tz⟩ := store8 bd hWz
   have lz : Below V3.heap.size V3 Wz := Lwd.out.trans (tz.below Lwd.out.size hBg)
   have rz := HSd.out.turn bd tz
   have RL := hidI (And.intro bz (And.intro rz lz))
   refine hK.out _ _ (SA.out _ lz) (fun hHz => ?_)
   clear hK K
   try refine nrm ?_
   refine tk 15 ?_
   refine tk 16 ?_
   refine wpAnyH_done (by kernel_rfl) ?_ _
   clear c0 c1' c2' c3' c4 c5 c6 c7 g0 g1 g2 g3 g4 g5 g6 g7 bz rz lz hHz tz hWz
   go_wp2_with fail
   go_meet
   case rel => exact ⟨BB, _, num, rfl, rfl, rfl, RL.out⟩
 case rest =>
  obtain ⟨BB, u, num, rfl, rfl, rfl, hbb, hrs, hBx⟩ := hcut
  have HBB := hidI hbb
  have HRS := hidI hrs
  have KV := hidI hBx
  have KX := hidI (K3.out.trans (hBx.mono K3.out.size))
  have hsx := KX.out.size
  clear hbb hrs hBx
  by_cases hz : E = 0
  rotate_left
  ·have HZN := hidI hz
   clear hz
   go_wp2_with fail
   refine (ok_yes E _ _ (one_new _ _ _) (by simp) HZN.out).mono ?_
   rintro e w6 ⟨rfl, k6⟩
   have ka := KX.out.alloc hsx (.cells #[.int .i64 E] 33)
   exact ⟨rfl, FrameT.of_below (ka.trans (k6.mono ka.size)) hnW, .inl ⟨HZN.out, rfl⟩⟩
  have HEZ := hidI hz
  have hE0 := HRS.out.1 hz
  obtain ⟨y1, y2, y3, r1, f1, r2, f2, r3, f3, hv, ho⟩ := hE0
  cases hv
  have HOX := hidI ho
  have ka := KV.out.alloc KV.out.size (.cells #[.int .i64 0] 33)
  clear ho
  subst hz
  go_wp2_with fail
  refine (ok_no _ _ (one_new _ _ _) (by simp)).mono ?_
  rintro e w6 ⟨rfl, k6⟩
  have K6 := hidI (ka.trans (k6.mono ka.size))
  have HO6 := hidI ((HOX.out.keep ((Below.refl _ _).alloc (Nat.le_refl _) (.cells #[.int .i64 0] 33))).keep k6)
  have B6 := hidI (pkp_ (pkp_ HBB.out ((Below.refl _ _).alloc (Nat.le_refl _) (.cells #[.int .i64 0] 33))) k6)
  have T6 := hidI (pkp_ HBV.out K6.out)
  obtain ⟨c0, c1', c2', c3', c4, c5, c6, c7⟩ := st_cells B6.out
  obtain ⟨z0, z1, z2, z3, z4, z5, z6, z7⟩ := st_cells T6.out
  have g0 := foc_ T6.out 0
  have g1 := foc_ T6.out 1
  have g2 := foc_ T6.out 2
  have g3 := foc_ T6.out 3
  have g4 := foc_ T6.out 4
  have g5 := foc_ T6.out 5
  have g6 := foc_ T6.out 6
  have g7 := foc_ T6.out 7
  clear ka k6
  go_wp2_with fail
  generalize hWz : World.setCell (World.setCell (World.setCell (World.setCell (World.setCell (World.setCell (World.setCell (World.setCell w6 _ _) _ _) _ _) _ _) _ _) _ _) _ _) _ _ = Wz
  obtain ⟨bz, tz⟩ := store8 T6.out hWz
  have oz := HO6.out.turn T6.out (by decide) tz
  have HNZN : Hid ((nz : Int) = NN) := by show (nz : Int) = NN; rw [HNN.out, ← HQZ.out, HNZ.out]
  go_ret
  exact ⟨(FrameT.of_below (K3.out.trans (K6.out.mono K3.out.size)) hnW).turnB tz (by have := K6.out.size; have := K3.out.size; omega), by rw [← HNZN.out]; rfl, ⟨_, _, _, _, _, _, _, _, _, bz, oz⟩⟩
def pubE (p : PlanD) (s : StateD) (post : Int) (key body : ByteArray) : Int := if stE p s ≠ 0 then stE p s else pubX p s post key body
theorem publish_any (p : PlanD) (a1 a2 a3 : Option Addr) (n1 c1 n2 c2 n3 c3 : Nat) (s : StateD) (b1 b2 b3 : Option Addr) (m1 d1 m2 d2 m3 d3 : Nat) (post : Int) (key body : ByteArray) (w : World) (hp : PlanAt w a1 a2 a3 n1 n2 n3 p) (hs : StateAt w b1 b2 b3 m1 m2 m3 s) (hn2 : b2 = none → d2 = 0) (hn3 : b3 = none → d3 = 0)  :
  Calls Tryz.prog 28 #[.agg #[.slice a1 n1 c1, .slice a2 n2 c2, .slice a3 n3 c3], .agg #[.slice b1 m1 d1, .slice b2 m2 d2, .slice b3 m3 d3, .int .i64 s.nextSeq, .int .i64 s.nextTag, .int .i64 s.came, .int .i64 s.acked, .int .i64 s.dropped], .int .i64 post, .string key, .string body] w fun e w' => ∃ v, e = .returned (.tuple #[v, .int .i64 (numOf (pubE p s post key body) (((qsC p key post.toNat).length : Nat))), .int .i64 (pubE p s post key body)]) ∧ StRes w' w.heap.size v (pubE p s post key body) (arrS p 600 s (pubL p post key body)) ∧ Below w.heap.size w w' := by
 obtain ⟨hz5, hg5, hB5⟩ := allocs_heap [.cells #[.slice a1 n1 c1, .slice a2 n2 c2, .slice a3 n3 c3] 26, .cells #[.slice b1 m1 d1, .slice b2 m2 d2, .slice b3 m3 d3, .int .i64 s.nextSeq, .int .i64 s.nextTag, .int .i64 s.came, .int .i64 s.acked, .int .i64 s.dropped] 31, .cells #[.int .i64 post] 3, .cells #[.string key] 9, .cells #[.string body] 9, .cells #[.slice none 0 0, .slice none 0 0, .slice none 0 0, .int .i64 0, .int .i64 0, .int .i64 0, .int .i64 0, .int .i64 0] 31] w
 obtain ⟨W5, hW5⟩ : ∃ W5, W5 = List.foldl World.alloc w [.cells #[.slice a1 n1 c1, .slice a2 n2 c2, .slice a3 n3 c3] 26, .cells #[.slice b1 m1 d1, .slice b2 m2 d2, .slice b3 m3 d3, .int .i64 s.nextSeq, .int .i64 s.nextTag, .int .i64 s.came, .int .i64 s.acked, .int .i64 s.dropped] 31, .cells #[.int .i64 post] 3, .cells #[.string key] 9, .cells #[.string body] 9, .cells #[.slice none 0 0, .slice none 0 0, .slice none 0 0, .int .i64 0, .int .i64 0, .int .i64 0, .int .i64 0, .int .i64 0] 31] := ⟨_, rfl⟩
 rw [← hW5] at hz5 hg5 hB5
 have HW5 : Hid (W5 = ((((((w.alloc (.cells #[.slice a1 n1 c1, .slice a2 n2 c2, .slice a3 n3 c3] 26)).alloc (.cells #[.slice b1 m1 d1, .slice b2 m2 d2, .slice b3 m3 d3, .int .i64 s.nextSeq, .int .i64 s.nextTag, .int .i64 s.came, .int .i64 s.acked, .int .i64 s.dropped] 31)).alloc (.cells #[.int .i64 post] 3)).alloc (.cells #[.string key] 9)).alloc (.cells #[.string body] 9)).alloc (.cells #[.slice none 0 0, .slice none 0 0, .slice none 0 0, .int .i64 0, .int .i64 0, .int .i64 0, .int .i64 0, .int .i64 0] 31))) := hW5
 have hz5' : W5.heap.size = w.heap.size + 6 := by rw [hz5]; rfl
 have x0 := hg5 0 _ rfl
 have x1 := hg5 1 _ rfl
 have x2 := hg5 2 _ rfl
 have x3 := hg5 3 _ rfl
 have x4 := hg5 4 _ rfl
 have x5 := hg5 5 _ rfl
 obtain ⟨E, hE⟩ : ∃ E, E = pubE p s post key body := ⟨_, rfl⟩
 rw [← hE]
 obtain ⟨N, hN⟩ : ∃ N, N = numOf E (((qsC p key post.toNat).length : Nat)) := ⟨_, rfl⟩
 rw [← hN]
 have T := told_any p a1 a2 a3 n1 c1 n2 c2 n3 c3 s b1 b2 b3 m1 d1 m2 d2 m3 d3 82 (fun _ _ => rfl) #[.pointer (some ⟨w.heap.size, 0, none⟩), .pointer (some ⟨w.heap.size + 2, 0, none⟩), .pointer (some ⟨w.heap.size + 3, 0, none⟩), .pointer (some ⟨w.heap.size + 4, 0, none⟩)] E (((qsC p key post.toNat).length : Nat)) (arrS p 600 s (pubL p post key body)) W5 (hp.keep hB5) (hs.keep hB5) hn2 hn3
  (fun h => by rw [hE]; unfold pubE; rw [if_pos h])
  (fun h => by
   have e : E = pubX p s post key body := by rw [hE]; unfold pubE; rw [if_neg (by simp [h])]
   rw [e]
   exact publish1_does p a1 a2 a3 n1 c1 n2 c2 n3 c3 s post key body _ _ _ _ W5 (hp.keep hB5) x0 x2 x3 x4 (right_of h))
 rw [show (if E = 0 then ((((qsC p key post.toNat).length : Nat) : Int)) else 0) = N from hN.symm] at T
 have HT := hidI T
 have X4 := hidI x5
 have HZ5 := hidI hz5'
 have HB5 := hidI hB5
 have hmf : ∀ (fn : Fn) (first cap : Array Value) (w : World), (Instr.makeFunc fn first cap).run Tryz.prog w = .ok (.func fn first cap) w := fun _ _ _ _ => rfl
 clear T hW5 hz5 hz5' hg5 hB5 x0 x1 x2 x3 x4 x5 hE hN hp hs hn2 hn3
 go_enter Tryz.func28, Tryz.ntmps28
 go_wp2_with fail
 rw [← HW5.out]
 refine HT.out.mono ?_
 rintro e w6 ⟨v, rfl, hres, hB6⟩
 have x6 := pkp_ X4.out hB6
 obtain ⟨y0, y1, y2, y3, y4, y5, y6, y7⟩ := st_cells x6
 have f0 := foc_ x6 0
 have f1 := foc_ x6 1
 have f2 := foc_ x6 2
 have f3 := foc_ x6 3
 have f4 := foc_ x6 4
 have f5 := foc_ x6 5
 have f6 := foc_ x6 6
 have f7 := foc_ x6 7
 obtain ⟨x1, x2, x3, k1, e1, k2, e2, k3, e3, i1, i2, i3, i4, i5, rfl⟩ := hres.shape
 have X6 := hidI x6
 have HRES := hidI hres
 have HB6 := hidI hB6
 clear x6 hres hB6
 go_wp2_with fail
 generalize hW4 : World.setCell (World.setCell (World.setCell (World.setCell (World.setCell (World.setCell (World.setCell (World.setCell w6 _ _) _ _) _ _) _ _) _ _) _ _) _ _) _ _ = W4
 obtain ⟨b4, t4⟩ := store8 X6.out hW4
 obtain ⟨z0, z1, z2, z3, z4, z5, z6, z7⟩ := st_cells b4
 exact bodyPost_ret (v := .tuple #[.agg #[.slice x1 k1 e1, .slice x2 k2 e2, .slice x3 k3 e3, .int .i64 i1, .int .i64 i2, .int .i64 i3, .int .i64 i4, .int .i64 i5], .int .i64 N, .int .i64 E]) (by simp [results, Tryz.results28, go_sem, z0, z1, z2, z3, z4, z5, z6, z7]) rfl ⟨_, rfl, (HRES.out.turn X6.out t4).lower (by have := HZ5.out; omega), HB5.out.trans ((HB6.out.mono HB5.out.size).trans (t4.below (by have := HB6.out.size; have := HZ5.out; omega) (by omega)))⟩
theorem publishOf_any (p : PlanD) (a1 a2 a3 : Option Addr) (n1 c1 n2 c2 n3 c3 : Nat) (s : StateD) (b1 b2 b3 : Option Addr) (m1 d1 m2 d2 m3 d3 : Nat) (post : Int) (key body : ByteArray) (w : World) (hp : PlanAt w a1 a2 a3 n1 n2 n3 p) (hs : StateAt w b1 b2 b3 m1 m2 m3 s) (hn2 : b2 = none → d2 = 0) (hn3 : b3 = none → d3 = 0) :
  Calls Tryz.prog 29 #[.agg #[.slice a1 n1 c1, .slice a2 n2 c2, .slice a3 n3 c3], .agg #[.slice b1 m1 d1, .slice b2 m2 d2, .slice b3 m3 d3, .int .i64 s.nextSeq, .int .i64 s.nextTag, .int .i64 s.came, .int .i64 s.acked, .int .i64 s.dropped], .int .i64 post, .string key, .string body] w fun e w' => ∃ v, e = .returned (.tuple #[v, .int .i64 (numOf (pubE p s post key body) ((qsC p key post.toNat).length : Nat)), .int .i64 (pubE p s post key body)]) ∧ StRes w' w.heap.size v (pubE p s post key body) (arrS p 600 s (pubL p post key body)) ∧ Below w.heap.size w w' := by
 obtain ⟨E, hE⟩ : ∃ E, E = pubE p s post key body := ⟨_, rfl⟩
 rw [← hE]
 obtain ⟨N, hN⟩ : ∃ N, N = numOf E ((qsC p key post.toNat).length : Nat) := ⟨_, rfl⟩
 rw [← hN]
 obtain ⟨E0, hE0⟩ : ∃ E0, E0 = stE p s := ⟨_, rfl⟩
 obtain ⟨W3, hW3, hBw, hs3, hbx⟩ := psz_boxed w #[.slice a1 n1 c1, .slice a2 n2 c2, .slice a3 n3 c3] #[.slice b1 m1 d1, .slice b2 m2 d2, .slice b3 m3 d3, .int .i64 s.nextSeq, .int .i64 s.nextTag, .int .i64 s.came, .int .i64 s.acked, .int .i64 s.dropped]
 have HW3 := hidI hW3
 have BX := hidI hbx
 have HE := hidI hE
 have HE0 := hidI hE0
 have HN := hidI hN
 have HS := hidI (hs.keep hBw)
 have HP := hidI (hp.keep hBw)
 have HBW := hidI hBw
 have HS3 := hidI hs3
 have HN2 := hidI hn2
 have HN3 := hidI hn3
 have s0 := hBw.size
 obtain ⟨x0, x1, x2⟩ := pl_cells (hbx W3 (Below.refl _ _)).1
 obtain ⟨y0, y1, y2, y3, y4, y5, y6, y7⟩ := st_cells (hbx W3 (Below.refl _ _)).2.1
 have HER : Hid (∀ (D : Int) (W W4 : World), D ≠ 0 → E = D → Below W3.heap.size W3 W → TurnB (w.heap.size + 2) W W4 → ∃ v, Ending.returned (.tuple #[zerS, .int .i64 0, .int .i64 D]) = .returned (.tuple #[v, .int .i64 N, .int .i64 E]) ∧ StRes W4 w.heap.size v E (arrS p 600 s (pubL p post key body)) ∧ Below w.heap.size w W4) := fun D W W4 hD hED hB hT => by
  have hN0 : N = 0 := by rw [HN.out]; unfold numOf; rw [if_neg (by rw [hED]; exact hD)]
  refine ⟨zerS, by rw [hN0, hED], ⟨fun h => absurd (hED ▸ h) hD, fun _ => rfl⟩, HBW.out.trans ((hB.mono s0).trans (hT.below (by have := hB.size; have := HS3.out; omega) (by omega)))⟩
 clear hW3 hbx hs3 hp hs hBw hE hE0 hN hn2 hn3
 go_enter Tryz.func29, Tryz.ntmps29
 go_wp2_with fail
 rw [← HW3.out]
 refine (rcheckState_any p _ _ _ _ _ _ _ _ _ s _ _ _ _ _ _ _ _ _ _ HP.out HS.out).mono ?_
 rintro e w4 ⟨rfl, k4⟩
 rw [← HE0.out]
 have s4 := k4.size
 have K4 := hidI k4
 clear x0 x1 x2 y0 y1 y2 y3 y4 y5 y6 y7
 have r4 := (BX.out w4 k4).2.2
 obtain ⟨z0, z1, z2, z3, z4, z5, z6, z7⟩ := st_cells r4
 have e0 := foc_ r4 0
 have e1 := foc_ r4 1
 have e2 := foc_ r4 2
 have e3 := foc_ r4 3
 have e4 := foc_ r4 4
 have e5 := foc_ r4 5
 have e6 := foc_ r4 6
 have e7 := foc_ r4 7
 have R4 := hidI r4
 clear r4
 clear k4
 by_cases hz : E0 = 0
 rotate_left
 ·have hz' : (E0 != 0) = true := bne_iff_ne.2 hz
  have HZ := hidI hz
  have HEE : Hid (E = E0) := by show E = E0; rw [HE.out]; unfold pubE; rw [if_pos (by rw [← HE0.out]; exact hz), HE0.out]
  clear hz
  go_wp2_with fail
  generalize hW4 : World.setCell (World.setCell (World.setCell (World.setCell (World.setCell (World.setCell (World.setCell (World.setCell w4 _ _) _ _) _ _) _ _) _ _) _ _) _ _) _ _ = W4
  obtain ⟨b4, t4⟩ := store8 R4.out hW4
  obtain ⟨z0, z1, z2, z3, z4, z5, z6, z7⟩ := st_cells b4
  exact bodyPost_ret (v := .tuple #[zerS, .int .i64 0, .int .i64 E0]) (by simp [results, Tryz.results29, go_sem, z0, z1, z2, z3, z4, z5, z6, z7, zerS]) rfl (HER.out E0 _ _ HZ.out HEE.out K4.out t4)
 subst hz
 have HR := hidI (right_of HE0.out.symm)
 have HE1 : Hid (E = pubX p s post key body) := by show E = _; rw [HE.out]; unfold pubE; rw [if_neg (by simp [← HE0.out])]
 obtain ⟨x0, x1, x2⟩ := pl_cells (BX.out w4 K4.out).1
 go_wp2_with fail
 refine (routeError_any p _ _ _ _ _ _ _ _ _ post key w4 (HP.out.keep K4.out)).mono ?_
 rintro e w5 ⟨rfl, k5'⟩
 obtain ⟨E1, hE1⟩ : ∃ E1, E1 = rtE p post key := ⟨_, rfl⟩
 rw [← hE1]
 have HX1 := hidI hE1
 have K5 := hidI (K4.out.trans (k5'.mono s4))
 have s5 := K5.out.size
 clear z0 z1 z2 z3 z4 z5 z6 z7 e0 e1 e2 e3 e4 e5 e6 e7
 clear x0 x1 x2 hE1 k5' R4
 have r5 := (BX.out w5 K5.out).2.2
 obtain ⟨z0, z1, z2, z3, z4, z5, z6, z7⟩ := st_cells r5
 have e0 := foc_ r5 0
 have e1 := foc_ r5 1
 have e2 := foc_ r5 2
 have e3 := foc_ r5 3
 have e4 := foc_ r5 4
 have e5 := foc_ r5 5
 have e6 := foc_ r5 6
 have e7 := foc_ r5 7
 have R5 := hidI r5
 clear r5
 by_cases hz : E1 = 0
 rotate_left
 ·have hz' : (E1 != 0) = true := bne_iff_ne.2 hz
  have HZ := hidI hz
  have HEE : Hid (E = E1) := by show E = E1; rw [HE1.out]; unfold pubX; rw [if_pos (by rw [← HX1.out]; exact hz), HX1.out]
  clear hz
  go_wp2_with fail
  generalize hW4 : World.setCell (World.setCell (World.setCell (World.setCell (World.setCell (World.setCell (World.setCell (World.setCell w5 _ _) _ _) _ _) _ _) _ _) _ _) _ _) _ _ = W4
  obtain ⟨b4, t4⟩ := store8 R5.out hW4
  obtain ⟨z0, z1, z2, z3, z4, z5, z6, z7⟩ := st_cells b4
  exact bodyPost_ret (v := .tuple #[zerS, .int .i64 0, .int .i64 E1]) (by simp [results, Tryz.results29, go_sem, z0, z1, z2, z3, z4, z5, z6, z7, zerS]) rfl (HER.out E1 _ _ HZ.out HEE.out K5.out t4)
 subst hz
 have HE2 : Hid (E = if 12 < body.size then 1 else letE p s (pubL p post key body)) := by show E = _; rw [HE1.out]; unfold pubX; rw [if_neg (by rw [← HX1.out]; simp)]
 by_cases hb : (12 : Int) < (body.size : Int)
 ·have HEE : Hid (E = 1) := by show E = 1; rw [HE2.out, if_pos (by omega)]
  go_wp2_with fail
  generalize hW4 : World.setCell (World.setCell (World.setCell (World.setCell (World.setCell (World.setCell (World.setCell (World.setCell w5 _ _) _ _) _ _) _ _) _ _) _ _) _ _) _ _ = W4
  obtain ⟨b4, t4⟩ := store8 R5.out hW4
  obtain ⟨z0, z1, z2, z3, z4, z5, z6, z7⟩ := st_cells b4
  exact bodyPost_ret (v := .tuple #[zerS, .int .i64 0, .int .i64 1]) (by simp [results, Tryz.results29, go_sem, z0, z1, z2, z3, z4, z5, z6, z7, zerS]) rfl (HER.out 1 _ _ (by decide) HEE.out K5.out t4)
 have HE3 : Hid (E = letE p s (pubL p post key body)) := by show E = _; rw [HE2.out, if_neg (by omega)]
 have hb' : ¬ (12 : Int) < (body.size : Int) := hb
 have h1 : isNum post p.posts.length = true ∧ kerr key.data.toList = 0 := by
  have h1 := HX1.out
  unfold rtE at h1
  rw [if_pos HR.out.pl] at h1
  by_cases h : isNum post p.posts.length = true
  ·rw [if_pos h] at h1; exact ⟨h, h1.symm⟩
  ·rw [if_neg h] at h1; cases h1
 obtain ⟨pn, hpn⟩ : ∃ pn : Nat, post = pn := ⟨post.toNat, by have := isNum_iff.1 h1.1; omega⟩
 subst hpn
 have HPN : Hid (pn < n1) := by have h := isNum_iff.1 h1.1; have := HP.out.l1; show pn < n1; omega
 have HKS : Hid (key.size ≤ 24) := by have := (werr_zero h1.2).1; show key.size ≤ 24; simpa using this
 obtain ⟨x0, x1, x2⟩ := pl_cells (BX.out w5 K5.out).1
 clear h1 hb R5 z0 z1 z2 z3 z4 z5 z6 z7 e0 e1 e2 e3 e4 e5 e6 e7
 go_wp2_with fail
 refine (queuesOf_any p _ _ _ _ _ _ _ _ _ pn key w5 (HP.out.keep K5.out) HR.out.rp HPN.out HKS.out).mono ?_
 rintro e w6 ⟨zs, az, cz, rfl, hz1, hzl, hzi, k6'⟩
 have HZQ : Hid (zs = qsC p key pn) := hz1.uniq (qsC_is HR.out.rp (by have := HPN.out; have := HP.out.l1; omega))
 obtain ⟨nz, hnz⟩ : ∃ nz, nz = zs.length := ⟨_, rfl⟩
 have HNZ := hidI hnz
 rw [← hnz] at hzl ⊢
 have HZI := hidI hzi
 have K6 := hidI (K5.out.trans (k6'.mono s5))
 have s6 := K6.out.size
 clear hz1 hzi hnz x0 x1 x2 k6' hb'
 go_wp2_with fail
 go_loopw [15, 17] (fun l i wr => ∃ (k : Nat), k ≤ nz ∧ i = .int .i64 k ∧ wr.ownsRow w6.heap.size 101 4 l k (arrCells (arrsOf (zs.take k) key body 0)) ∧ Below w6.heap.size w6 wr) (fun _ i _ => nz - (intOf i).toNat)
 case atStart => exact ⟨0, Nat.zero_le _, rfl, World.ownsRow_nil _ _ _ _, Below.refl _ _⟩
 case round =>
  obtain ⟨k, hk, rfl, hown, hB⟩ := hrel
  have HO := hidI hown
  have HB := hidI hB
  have hBs := hB.size
  clear hown
  by_cases hlt : k < nz
  ·have HLT := hidI hlt
   have hkl : k < zs.length := by rw [← HNZ.out]; exact hlt
   obtain ⟨g, ha, hg, hc⟩ : ∃ g, az = some ⟨g, 0, none⟩ ∧ g < wr.heap.size ∧ wr.cell? ⟨g, k, none⟩ = some (.int .i64 (zs[k]'hkl)) := by
    rcases HZI.out.keep hB with e | ⟨g, ha, hg, h⟩
    ·exfalso; rw [e] at hkl; simp at hkl
    ·exact ⟨g, ha, hg, h k hkl⟩
   have HNX : Hid (arrsOf (zs.take (k + 1)) key body 0 = arrsOf (zs.take k) key body 0 ++ [⟨zs[k]'hkl, key, body, 0⟩]) := by show arrsOf _ _ _ _ = _; unfold arrsOf; rw [List.take_succ_eq_append_getElem hkl, List.map_append]; rfl
   obtain ⟨z, hzz⟩ : ∃ z, z = zs[k]'hkl := ⟨_, rfl⟩
   rw [← hzz] at hc HNX
   subst ha
   obtain ⟨W4, hW4⟩ : ∃ W4, W4 = wr.alloc (.cells #[.int .i64 z, .string key, .string body, .int .i64 0] 101) := ⟨_, rfl⟩
   have k4 : Below wr.heap.size wr W4 := by rw [hW4]; exact (Below.refl _ _).alloc (Nat.le_refl _) _
   have HO4 := hidI (cp2_ HO.out k4)
   have HRW : Hid (RowAt W4 (some ⟨wr.heap.size, 0, none⟩) (arrCells [⟨z, key, body, 0⟩])) := by show RowAt W4 _ _; rw [hW4]; exact row_lit (cs := [.int .i64 z, .string key, .string body, .int .i64 0])
   have K4' := hidI (hB.trans (k4.mono hBs))
   have HW4 := hidI hW4
   have hs4 := K4'.out.size
   have j1 : (0 : Int) ≤ (k : Int) := by omega
   have j2 : (k : Int) < nz := by omega
   clear hW4 k4 hzz
   go_wp2_with (at_builtin; rw [← HW4.out]; refine append_row elemArr (by kernel_rfl) _ _ rfl w6.heap.size _ k (arrCells (arrsOf (zs.take k) key body 0)) rfl HO4.out (some ⟨wr.heap.size, 0, none⟩) 1 1 (arrCells [⟨z, key, body, 0⟩]) rfl rfl (fun h => by cases h) HRW.out (arrCells_one _) (by unfold maxLen; omega) (by omega) hs4 ?_; intro v6 w7 hown6 hgrow6 hblk6)
   go_roundw
   case rel => exact ⟨k + 1, HLT.out, by have := HLT.out; go_num, by rw [HNX.out, arrCells_append]; exact hown6, K4'.out.grown hgrow6 hs4 (fun j hj => (HO4.out.lt j hj).1)⟩
   case measure => have := HLT.out; simp [intOf]; omega
  ·have hke : k = nz := by omega
   obtain rfl := hke.symm
   have hO := HO.out
   rw [List.take_of_length_le (by rw [HNZ.out]; exact Nat.le_refl _)] at hO
   obtain ⟨al, cl, hvl, hlc, hlm, hln, hla⟩ := own_row hO
   subst hvl
   have HPL : Hid (arrsOf zs key body 0 = pubL p (pn : Int) key body) := by show arrsOf zs key body 0 = _; unfold pubL; rw [HZQ.out, Int.toNat_natCast]
   have HAL : Hid (ArrsAt wr al (pubL p (pn : Int) key body)) := by show ArrsAt wr al _; rw [← HPL.out]; exact hla
   have HAN : Hid ((pubL p (pn : Int) key body).length = nz) := by show _ = nz; rw [← HPL.out]; unfold arrsOf; rw [List.length_map, HNZ.out]
   have K7 := hidI (K6.out.trans (HB.out.mono s6))
   have s7 := K7.out.size
   have HLC : Hid (nz ≤ cl ∧ cl ≤ maxLen) := ⟨hlc, hlm⟩
   obtain ⟨x0, x1, x2⟩ := pl_cells (BX.out wr K7.out).1
   obtain ⟨y0, y1, y2, y3, y4, y5, y6, y7⟩ := st_cells (BX.out wr K7.out).2.1
   clear hlt hk hO hla hlc hlm hln hB
   go_wp2_with fail
   refine (lettersOf_any p _ _ _ _ _ _ _ _ _ s _ _ _ _ _ _ _ _ _ (pubL p (pn : Int) key body) al nz cl wr (HP.out.keep K7.out) (HS.out.keep K7.out) HN2.out HN3.out HAL.out HAN.out HLC.out.1 HLC.out.2).mono ?_
   rintro e w8 ⟨v8, rfl, hr8, k8'⟩
   rw [← HE3.out] at hr8 ⊢
   obtain ⟨g1, g2, g3, t1, f1, t2, f2, t3, f3, i1, i2, i3, i4, i5, rfl⟩ := hr8.shape
   obtain ⟨w9, hw9⟩ : ∃ w9, w9 = w8.alloc (.cells #[.slice g1 t1 f1, .slice g2 t2 f2, .slice g3 t3 f3, .int .i64 i1, .int .i64 i2, .int .i64 i3, .int .i64 i4, .int .i64 i5] 31) := ⟨_, rfl⟩
   have l9 : Below w8.heap.size w8 w9 := by rw [hw9]; exact (Below.refl _ _).alloc (Nat.le_refl _) _
   have b9 : w9.heap[w8.heap.size]? = some (.cells #[.slice g1 t1 f1, .slice g2 t2 f2, .slice g3 t3 f3, .int .i64 i1, .int .i64 i2, .int .i64 i3, .int .i64 i4, .int .i64 i5] 31 (0, 0)) := by rw [hw9]; exact World.alloc_heap_new w8 _
   have K8 := hidI (K7.out.trans (k8'.mono s7))
   have K9 := hidI (K8.out.trans (l9.mono K8.out.size))
   have HR9 := hidI ((hr8.lower (n' := w.heap.size) (by omega)).keep l9)
   have HW9 := hidI hw9
   have r9 := (BX.out w9 K9.out).2.2
   have R9 := hidI r9
   have B9 := hidI b9
   clear x0 x1 x2 y0 y1 y2 y3 y4 y5 y6 y7 hw9 l9 hr8 k8'
   go_upto_region 16 with fail
   rw [← HW9.out]
   obtain ⟨z0, z1, z2, z3, z4, z5, z6, z7⟩ := st_cells r9
   have e0 := foc_ r9 0
   have e1 := foc_ r9 1
   have e2 := foc_ r9 2
   have e3 := foc_ r9 3
   have e4 := foc_ r9 4
   have e5 := foc_ r9 5
   have e6 := foc_ r9 6
   have e7 := foc_ r9 7
   obtain ⟨y0, y1, y2, y3, y4, y5, y6, y7⟩ := st_cells b9
   clear r9 b9
   by_cases hz : E = 0
   rotate_left
   ·have hz' : (E != 0) = true := bne_iff_ne.2 hz
    have HZ := hidI hz
    clear hz
    go_wp2_with fail
    generalize hW4 : World.setCell (World.setCell (World.setCell (World.setCell (World.setCell (World.setCell (World.setCell (World.setCell w9 _ _) _ _) _ _) _ _) _ _) _ _) _ _) _ _ = W4
    obtain ⟨b4, t4⟩ := store8 R9.out hW4
    obtain ⟨z0, z1, z2, z3, z4, z5, z6, z7⟩ := st_cells b4
    exact bodyPost_ret (v := .tuple #[zerS, .int .i64 0, .int .i64 E]) (by simp [results, Tryz.results29, go_sem, z0, z1, z2, z3, z4, z5, z6, z7, zerS]) rfl (HER.out E _ _ HZ.out rfl K9.out t4)
   have HNV : Hid (N = (nz : Int)) := by show N = _; rw [HN.out]; unfold numOf; rw [if_pos hz, Int.toNat_natCast, ← HZQ.out, HNZ.out]
   have HEZ := hidI hz
   subst hz
   go_wp2_with fail
   generalize hW4 : World.setCell (World.setCell (World.setCell (World.setCell (World.setCell (World.setCell (World.setCell (World.setCell w9 _ _) _ _) _ _) _ _) _ _) _ _) _ _) _ _ = W4
   obtain ⟨b4, t4⟩ := store8 R9.out hW4
   obtain ⟨z0, z1, z2, z3, z4, z5, z6, z7⟩ := st_cells b4
   exact bodyPost_ret (v := .tuple #[.agg #[.slice g1 t1 f1, .slice g2 t2 f2, .slice g3 t3 f3, .int .i64 i1, .int .i64 i2, .int .i64 i3, .int .i64 i4, .int .i64 i5], .int .i64 nz, .int .i64 0]) (by simp [results, Tryz.results29, go_sem, z0, z1, z2, z3, z4, z5, z6, z7]) rfl ⟨_, by rw [HNV.out], HR9.out.turn R9.out t4, HBW.out.trans ((K9.out.mono s0).trans (t4.below (by have := K9.out.size; have := HS3.out; omega) (by omega)))⟩
def handA : StateD := arrS officeP 600 bS (pubL officeP 0 ⟨#[120, 46, 121]⟩ ⟨#[110, 101, 119]⟩)
theorem facts_H : (pubE officeP bS 0 ⟨#[120, 46, 121]⟩ ⟨#[110, 101, 119]⟩ = 0 ∧ pubE officeP bS 3 ⟨#[120, 46, 121]⟩ ⟨#[110, 101, 119]⟩ = 5 ∧ pubE officeP bS 0 ⟨#[120, 46, 121]⟩ ⟨#[97, 98, 99, 100, 101, 102, 103, 104, 105, 106, 107, 108, 109]⟩ = 1 ∧ pubE officeP bS 2 ⟨#[122]⟩ ⟨#[]⟩ = 0) ∧ (numOf 0 ((qsC officeP ⟨#[120, 46, 121]⟩ (Int.toNat 0)).length : Nat) = 2 ∧ numOf 5 ((qsC officeP ⟨#[120, 46, 121]⟩ (Int.toNat 3)).length : Nat) = 0 ∧ numOf 1 ((qsC officeP ⟨#[120, 46, 121]⟩ (Int.toNat 0)).length : Nat) = 0 ∧ numOf 0 ((qsC officeP ⟨#[122]⟩ (Int.toNat 2)).length : Nat) = 0) ∧ handA.came = 7 ∧ handA.ready.length = 3 := by decide +kernel
theorem facts_J : lineAt handA 0 = [⟨3, ⟨#[120, 46, 121]⟩, ⟨#[116, 104, 114, 101, 101]⟩, false, 0⟩, ⟨4, ⟨#[120, 46, 121]⟩, ⟨#[110, 101, 119]⟩, false, 0⟩] ∧ lineAt handA 1 = [⟨5, ⟨#[120, 46, 121]⟩, ⟨#[110, 101, 119]⟩, false, 0⟩] := by
 refine ⟨?_, ?_⟩ <;> kernel_rfl
theorem handBegun_any (w : World) : Calls Tryz.prog 30 #[] w fun e w' => e = .returned (.bool true) ∧ Below w.heap.size w w' := by
 have F := hidI facts_H
 go_enter Tryz.func30, Tryz.ntmps30
 go_wp2_with fail
 refine (office_any _).mono ?_
 rintro e a1 ⟨rfl, ka1, hp1⟩
 have HP1 := hidI hp1
 have KA1 := hidI (ka1)
 have JA1 := hidI ka1
 clear hp1 ka1
 go_wp2_with fail
 refine (busy_any _).mono ?_
 rintro e b1 ⟨gI1, gR1, gO1, gT1, rfl, hb1, -, -, kb1⟩
 have HS1 := hidI (hb1.state 1)
 have HPB1 := hidI (HP1.out.keep kb1)
 have KB1 := hidI (KA1.out.trans (kb1.mono KA1.out.size))
 have JB1 := hidI kb1
 clear hb1 kb1
 go_wp2_with fail
 refine (publish_any officeP _ _ _ _ _ _ _ _ _ bS _ _ _ _ _ _ _ _ _ 0 ⟨#[120, 46, 121]⟩ ⟨#[110, 101, 119]⟩ _ HPB1.out HS1.out (fun h => by cases h) (fun h => by cases h)).mono ?_
 rintro e c1 ⟨v1, rfl, hr1, kc1⟩
 rw [F.out.1.1] at hr1 ⊢
 rw [F.out.2.1.1]
 have hr' : StRes c1 b1.heap.size v1 0 handA := hr1
 obtain ⟨x1, x2, x3, t1, e1, t2, e2, t3, e3, rfl, ho4⟩ := hr'.1 rfl
 clear hr'
 obtain rfl : t1 = 3 := ho4.l1.symm.trans F.out.2.2.2
 obtain ⟨d1, hd1⟩ : ∃ d1, d1 = c1.alloc (.cells #[.slice x1 3 e1, .slice x2 t2 e2, .slice x3 t3 e3, .int .i64 handA.nextSeq, .int .i64 handA.nextTag, .int .i64 handA.came, .int .i64 handA.acked, .int .i64 handA.dropped] 31) := ⟨_, rfl⟩
 have bx1 : d1.heap[c1.heap.size]? = some (.cells #[.slice x1 3 e1, .slice x2 t2 e2, .slice x3 t3 e3, .int .i64 handA.nextSeq, .int .i64 handA.nextTag, .int .i64 handA.came, .int .i64 handA.acked, .int .i64 handA.dropped] 31 (0, 0)) := by rw [hd1]; exact World.alloc_heap_new c1 _
 have ld1 : Below c1.heap.size c1 d1 := by rw [hd1]; exact (Below.refl _ _).alloc (Nat.le_refl _) _
 have HO1 := hidI (ho4.keep ld1)
 obtain ⟨BA, hBA⟩ : ∃ BA, BA = c1.heap.size := ⟨_, rfl⟩
 have HBA := hidI hBA
 rw [← hBA] at bx1
 have HBX1 := hidI bx1
 clear bx1 ho4 hBA
 have KC1 := hidI (KB1.out.trans (kc1.mono KB1.out.size))
 have KD1 := hidI (KC1.out.trans (ld1.mono KC1.out.size))
 have HD1 := hidI hd1
 have LD1 := hidI ld1
 have LC1 := hidI kc1
 clear hd1 ld1 hr1 kc1
 go_upto_region 2 with fail
 rw [← HD1.out, ← HBA.out]
 go_wp2_with fail
 refine (office_any _).mono ?_
 rintro e a2 ⟨rfl, ka2, hp2⟩
 have HP2 := hidI hp2
 have KA2 := hidI (KD1.out.trans (ka2.mono KD1.out.size))
 have JA2 := hidI ka2
 clear hp2 ka2
 go_wp2_with fail
 refine (busy_any _).mono ?_
 rintro e b2 ⟨gI2, gR2, gO2, gT2, rfl, hb2, -, -, kb2⟩
 have HS2 := hidI (hb2.state 1)
 have HPB2 := hidI (HP2.out.keep kb2)
 have KB2 := hidI (KA2.out.trans (kb2.mono KA2.out.size))
 have JB2 := hidI kb2
 clear hb2 kb2
 go_wp2_with fail
 refine (publish_any officeP _ _ _ _ _ _ _ _ _ bS _ _ _ _ _ _ _ _ _ 3 ⟨#[120, 46, 121]⟩ ⟨#[110, 101, 119]⟩ _ HPB2.out HS2.out (fun h => by cases h) (fun h => by cases h)).mono ?_
 rintro e c2 ⟨v2, rfl, hr2, kc2⟩
 rw [F.out.1.2.1] at hr2 ⊢
 rw [F.out.2.1.2.1]
 obtain ⟨x21, x22, x23, k21, e21, k22, e22, k23, e23, i21, i22, i23, i24, i25, rfl⟩ := hr2.shape
 obtain ⟨d2, hd2⟩ : ∃ d2, d2 = c2.alloc (.cells #[.slice x21 k21 e21, .slice x22 k22 e22, .slice x23 k23 e23, .int .i64 i21, .int .i64 i22, .int .i64 i23, .int .i64 i24, .int .i64 i25] 31) := ⟨_, rfl⟩
 have ld2 : Below c2.heap.size c2 d2 := by rw [hd2]; exact (Below.refl _ _).alloc (Nat.le_refl _) _
 have KC2 := hidI (KB2.out.trans (kc2.mono KB2.out.size))
 have KD2 := hidI (KC2.out.trans (ld2.mono KC2.out.size))
 have HD2 := hidI hd2
 have LD2 := hidI ld2
 have LC2 := hidI kc2
 clear hd2 ld2 hr2 kc2
 go_upto_region 3 with fail
 rw [← HD2.out]
 go_wp2_with fail
 refine (office_any _).mono ?_
 rintro e a3 ⟨rfl, ka3, hp3⟩
 have HP3 := hidI hp3
 have KA3 := hidI (KD2.out.trans (ka3.mono KD2.out.size))
 have JA3 := hidI ka3
 clear hp3 ka3
 go_wp2_with fail
 refine (busy_any _).mono ?_
 rintro e b3 ⟨gI3, gR3, gO3, gT3, rfl, hb3, -, -, kb3⟩
 have HS3 := hidI (hb3.state 1)
 have HPB3 := hidI (HP3.out.keep kb3)
 have KB3 := hidI (KA3.out.trans (kb3.mono KA3.out.size))
 have JB3 := hidI kb3
 clear hb3 kb3
 go_wp2_with fail
 refine (publish_any officeP _ _ _ _ _ _ _ _ _ bS _ _ _ _ _ _ _ _ _ 0 ⟨#[120, 46, 121]⟩ ⟨#[97, 98, 99, 100, 101, 102, 103, 104, 105, 106, 107, 108, 109]⟩ _ HPB3.out HS3.out (fun h => by cases h) (fun h => by cases h)).mono ?_
 rintro e c3 ⟨v3, rfl, hr3, kc3⟩
 rw [F.out.1.2.2.1] at hr3 ⊢
 rw [F.out.2.1.2.2.1]
 obtain ⟨x31, x32, x33, k31, e31, k32, e32, k33, e33, i31, i32, i33, i34, i35, rfl⟩ := hr3.shape
 obtain ⟨d3, hd3⟩ : ∃ d3, d3 = c3.alloc (.cells #[.slice x31 k31 e31, .slice x32 k32 e32, .slice x33 k33 e33, .int .i64 i31, .int .i64 i32, .int .i64 i33, .int .i64 i34, .int .i64 i35] 31) := ⟨_, rfl⟩
 have ld3 : Below c3.heap.size c3 d3 := by rw [hd3]; exact (Below.refl _ _).alloc (Nat.le_refl _) _
 have KC3 := hidI (KB3.out.trans (kc3.mono KB3.out.size))
 have KD3 := hidI (KC3.out.trans (ld3.mono KC3.out.size))
 have HD3 := hidI hd3
 have LD3 := hidI ld3
 have LC3 := hidI kc3
 clear hd3 ld3 hr3 kc3
 go_upto_region 4 with fail
 rw [← HD3.out]
 go_wp2_with fail
 refine (office_any _).mono ?_
 rintro e a4 ⟨rfl, ka4, hp4⟩
 have HP4 := hidI hp4
 have KA4 := hidI (KD3.out.trans (ka4.mono KD3.out.size))
 have JA4 := hidI ka4
 clear hp4 ka4
 go_wp2_with fail
 refine (busy_any _).mono ?_
 rintro e b4 ⟨gI4, gR4, gO4, gT4, rfl, hb4, -, -, kb4⟩
 have HS4 := hidI (hb4.state 1)
 have HPB4 := hidI (HP4.out.keep kb4)
 have KB4 := hidI (KA4.out.trans (kb4.mono KA4.out.size))
 have JB4 := hidI kb4
 clear hb4 kb4
 go_wp2_with fail
 refine (publish_any officeP _ _ _ _ _ _ _ _ _ bS _ _ _ _ _ _ _ _ _ 2 ⟨#[122]⟩ ⟨#[]⟩ _ HPB4.out HS4.out (fun h => by cases h) (fun h => by cases h)).mono ?_
 rintro e c4 ⟨v4, rfl, hr4, kc4⟩
 rw [F.out.1.2.2.2] at hr4 ⊢
 rw [F.out.2.1.2.2.2]
 obtain ⟨x41, x42, x43, k41, e41, k42, e42, k43, e43, i41, i42, i43, i44, i45, rfl⟩ := hr4.shape
 obtain ⟨d4, hd4⟩ : ∃ d4, d4 = c4.alloc (.cells #[.slice x41 k41 e41, .slice x42 k42 e42, .slice x43 k43 e43, .int .i64 i41, .int .i64 i42, .int .i64 i43, .int .i64 i44, .int .i64 i45] 31) := ⟨_, rfl⟩
 have ld4 : Below c4.heap.size c4 d4 := by rw [hd4]; exact (Below.refl _ _).alloc (Nat.le_refl _) _
 have KC4 := hidI (KB4.out.trans (kc4.mono KB4.out.size))
 have KD4 := hidI (KC4.out.trans (ld4.mono KC4.out.size))
 have HD4 := hidI hd4
 have LD4 := hidI ld4
 have LC4 := hidI kc4
 clear hd4 ld4 hr4 kc4
 go_upto_region 5 with fail
 rw [← HD4.out]
 have HKK : Hid (Below d1.heap.size d1 d4) := by
  show Below d1.heap.size d1 d4
  have st : ∀ {A B C D E' : World}, Below A.heap.size A B → Below B.heap.size B C → Below C.heap.size C D → Below D.heap.size D E' → Below A.heap.size A E' := fun h1 h2 h3 h4 => by
   have k1 := h1.trans (h2.mono h1.size)
   have k2 := k1.trans (h3.mono k1.size)
   exact k2.trans (h4.mono k2.size)
  have q2 := st JA2.out JB2.out LC2.out LD2.out
  have q3 := st JA3.out JB3.out LC3.out LD3.out
  have q4 := st JA4.out JB4.out LC4.out LD4.out
  have q23 := q2.trans (q3.mono q2.size)
  exact q23.trans (q4.mono q23.size)
 have hbA := pkp_ HBX1.out HKK.out
 have hoA := HO1.out.keep HKK.out
 obtain ⟨g, bl0, cl0, hg0, q0, i0⟩ := hoA.lineCell (q := 0) (by rw [F.out.2.2.2]; decide)
 subst hg0
 obtain ⟨g', bl1, cl1, hg1, q1, i1⟩ := hoA.lineCell (q := 1) (by rw [F.out.2.2.2]; decide)
 cases hg1
 have FB := facts_J
 rw [FB.1] at q0 i0
 rw [FB.2] at q1 i1
 obtain ⟨ga, oa, rfl, hga, hxa⟩ := i0.cells (by simp)
 obtain ⟨gb, ob, rfl, hgb, hxb⟩ := i1.cells (by simp)
 obtain ⟨r0, r1, r2, r3, r4⟩ := hxa 1 (by simp)
 obtain ⟨s0, s1, s2, s3, s4⟩ := hxb 0 (by simp)
 simp at r0 r1 r2 r3 r4 s0 s1 s2 s3 s4 q0 q1
 obtain ⟨y0, y1, y2, y3, y4, y5, y6, y7⟩ := st_cells hbA
 rw [F.out.2.2.1] at y5
 clear hbA hoA hxa hxb FB hga hgb
 go_wp2_with fail
 go_ret
 exact ⟨rfl, KD4.out⟩
end Go.Proofs.YtpoichgodamnkaaGreat
