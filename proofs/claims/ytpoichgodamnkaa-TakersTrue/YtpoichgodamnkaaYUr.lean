import Derived.Deep.RegionHeld3
import Derived.Deep.DeepCutAuto
import Derived.Test.YtpoichgodamnkaaYUk
import Derived.Test.YtpoichgodamnkaaTmx
import Derived.Test.YtpoichgodamnkaaTbx
namespace Go.Proofs.Ytpoichgodamnkaa
open Go.RowKit Go.Maps
set_option linter.unusedVariables false
set_option maxRecDepth 100000
set_option maxHeartbeats 8000000
def aS : StateD := joinS bS 0 3
def bbS : StateD := delS aS 0
theorem facts_T : (joinE officeP bS 0 3 = 0 ∧ goneIdx bS.takers = 0 ∧ nextE officeP aS 0 = 0 ∧ nextK aS 0 = 0 ∧ delE officeP aS 0 = 0) ∧ (nextE officeP bS 1 = 8 ∧ joinE officeP bS 0 5 = 3 ∧ nextE officeP bS 0 = 0 ∧ nextK bS 0 = 1 ∧ aS.nextTag = 6) := by decide +kernel
theorem facts_U : bbS.outs = [bOut 1, ⟨6, 0, 0, ⟨2, ⟨#[120, 46, 121]⟩, ⟨#[116, 119, 111]⟩, false, 0⟩⟩] ∧ bbS.ready = [[⟨3, ⟨#[120, 46, 121]⟩, ⟨#[116, 104, 114, 101, 101]⟩, false, 0⟩], [], []] ∧ aS.takers = [⟨0, 3⟩, ⟨0, 2⟩] := by
 have e : nextK aS 0 = 0 := facts_T.1.2.2.2.1
 unfold bbS delS delO
 rw [e]
 exact ⟨rfl, rfl, rfl⟩
theorem get_len {xs ys : List (List ItemD)} (e : xs = ys) (h : 0 < xs.length) {n : Nat} (hn : (ys.getD 0 []).length = n) : (xs[0]'h).length = n := by
 subst e
 rw [List.getD_eq_getElem?_getD, List.getElem?_eq_getElem h] at hn
 exact hn
theorem takersBegun_any (w : World) : Calls Try.prog 22 #[] w fun e w' => e = .returned (.bool true) ∧ Below w.heap.size w w' := by
 have F := hidI facts_T
 go_enter Try.func22, Try.ntmps22
 go_wp2_with fail
 refine (office_any _).mono ?_
 rintro e w1 ⟨rfl, k1, hp1⟩
 have HP1 := hidI hp1
 clear hp1
 go_wp2_with fail
 refine (busy_any _).mono ?_
 rintro e w2 ⟨gI, gR, gO, gT, rfl, hb2, -, -, k2'⟩
 have HS2 := hidI (hb2.state 1)
 have k2 := k1.trans (k2'.mono k1.size)
 clear hb2
 go_wp2_with fail
 refine (join_any officeP _ _ _ _ _ _ _ _ _ bS _ _ _ _ _ _ _ _ _ 0 3 _ (HP1.out.keep k2') HS2.out (fun h => by cases h) (fun h => by cases h)).mono ?_
 rintro e w3 ⟨v3, rfl, hres3, k3'⟩
 rw [F.out.1.1] at hres3 ⊢
 rw [show numOf 0 ((goneIdx bS.takers : Nat) : Int) = 0 by unfold numOf; rw [if_pos rfl, F.out.1.2.1]; rfl]
 have hres3' : StRes w3 w2.heap.size v3 0 aS := hres3
 obtain ⟨x1, x2, x3, t1, e1, t2, e2, t3, e3, rfl, ho3⟩ := hres3'.1 rfl
 clear hres3'
 have k3 := k2.trans (k3'.mono k2.size)
 obtain rfl : t1 = 3 := ho3.l1.symm.trans rfl
 obtain rfl : t2 = 1 := ho3.l2.symm.trans rfl
 obtain rfl : t3 = 2 := ho3.l3.symm.trans rfl
 obtain ⟨w4, hw4⟩ : ∃ w4, w4 = w3.alloc (.cells #[.slice x1 3 e1, .slice x2 1 e2, .slice x3 2 e3, .int .i64 aS.nextSeq, .int .i64 aS.nextTag, .int .i64 aS.came, .int .i64 aS.acked, .int .i64 aS.dropped] 31) := ⟨_, rfl⟩
 have l4 : Below w3.heap.size w3 w4 := by rw [hw4]; exact (Below.refl _ _).alloc (Nat.le_refl _) _
 have b4 : w4.heap[w3.heap.size]? = some (.cells #[.slice x1 3 e1, .slice x2 1 e2, .slice x3 2 e3, .int .i64 aS.nextSeq, .int .i64 aS.nextTag, .int .i64 aS.came, .int .i64 aS.acked, .int .i64 aS.dropped] 31 (0, 0)) := by rw [hw4]; exact World.alloc_heap_new w3 _
 have k4 := k3.trans (l4.mono k3.size)
 have HO4 := hidI (ho3.keep l4)
 obtain ⟨BA, hBA⟩ : ∃ BA, BA = w3.heap.size := ⟨_, rfl⟩
 have HBA := hidI hBA
 rw [← hBA] at b4
 have HB4 := hidI b4
 have HW4 := hidI hw4
 have K4 := hidI k4
 have SA : Hid (∀ W, Below w4.heap.size w4 W → (W.cell? ⟨BA, 0, none⟩ = some (.slice x1 3 e1) ∧ W.cell? ⟨BA, 1, none⟩ = some (.slice x2 1 e2) ∧ W.cell? ⟨BA, 2, none⟩ = some (.slice x3 2 e3) ∧ W.cell? ⟨BA, 3, none⟩ = some (.int .i64 aS.nextSeq) ∧ W.cell? ⟨BA, 4, none⟩ = some (.int .i64 aS.nextTag) ∧ W.cell? ⟨BA, 5, none⟩ = some (.int .i64 aS.came) ∧ W.cell? ⟨BA, 6, none⟩ = some (.int .i64 aS.acked) ∧ W.cell? ⟨BA, 7, none⟩ = some (.int .i64 aS.dropped))) := fun W hW => st_cells (pkp_ HB4.out hW)
 clear hres3 ho3 l4 b4 hw4 k1 k2 k2' k3 k3' HP1 HS2 k4 hBA
 go_upto_region 2 with fail
 rw [← HW4.out, ← HBA.out]
 refine wp_region_held_drew (S := fun W => (W.cell? ⟨BA, 0, none⟩ = some (.slice x1 3 e1) ∧ W.cell? ⟨BA, 1, none⟩ = some (.slice x2 1 e2) ∧ W.cell? ⟨BA, 2, none⟩ = some (.slice x3 2 e3) ∧ W.cell? ⟨BA, 3, none⟩ = some (.int .i64 aS.nextSeq) ∧ W.cell? ⟨BA, 4, none⟩ = some (.int .i64 aS.nextTag) ∧ W.cell? ⟨BA, 5, none⟩ = some (.int .i64 aS.came) ∧ W.cell? ⟨BA, 6, none⟩ = some (.int .i64 aS.acked) ∧ W.cell? ⟨BA, 7, none⟩ = some (.int .i64 aS.dropped))) (by kernel_rfl) (SA.out _ (Below.refl _ _).drew) (fun hHeld => ?_)
 refine tk 1 ?_
 refine rdy 0 (fun K hK => ?_)
 go_simp
 refine (office_any _).mono ?_
 rintro e w5 ⟨rfl, k5', hp5⟩
 have k5 : Below w4.heap.size w4 w5 := bud_ k5'
 have HP5 := hidI hp5
 refine hK.out _ _ (SA.out _ k5) (fun hHeld2 => ?_)
 clear hHeld hK K k5' hp5
 try simp only [Act.put, List.getElem_toArray, List.getElem_cons_succ, List.getElem_cons_zero, List.setIfInBounds_toArray, List.set_cons_zero, List.set_cons_succ]
 refine rdy 2 (fun K hK => ?_)
 go_simp
 refine (next_any officeP _ _ _ _ _ _ _ _ _ aS _ _ _ _ _ _ _ _ _ 0 _ HP5.out (HO4.out.keep k5).state).mono ?_
 rintro e w6 ⟨rfl, k6'⟩
 rw [F.out.1.2.2.1, F.out.1.2.2.2.1, show numOf 0 0 = 0 from rfl]
 have k6 : Below w4.heap.size w4 w6 := k5.trans (k6'.mono k5.size)
 refine hK.out _ _ (SA.out _ k6) (fun hHeld3 => ?_)
 clear hHeld2 hK K k5 k6' HP5
 try simp only [Act.put, List.getElem_toArray, List.getElem_cons_succ, List.getElem_cons_zero, List.setIfInBounds_toArray, List.set_cons_zero, List.set_cons_succ]
 refine tk 3 ?_
 refine tk 4 ?_
 refine tk 5 ?_
 refine tk 6 ?_
 refine tk 7 ?_
 refine wpAnyH_done (by kernel_rfl) ?_ _
 clear hHeld3
 go_wp2_with fail
 have Lw6 : Hid (Below w4.heap.size w4 w6.drew) := k6.drew
 go_cut [6, 7, 8] (fun s6 s7 s8 wx => ∃ BB y1 y2 y3 f1 f2 f3, s6 = .pointer (some ⟨BB, 0, none⟩) ∧ s7 = .int .i64 6 ∧ s8 = .int .i64 0 ∧ wx.heap[BB]? = some (.cells #[.slice y1 3 f1, .slice y2 2 f2, .slice y3 2 f3, .int .i64 bbS.nextSeq, .int .i64 bbS.nextTag, .int .i64 bbS.came, .int .i64 bbS.acked, .int .i64 bbS.dropped] 31 (0, 0)) ∧ OwnSt wx 0 y1 y2 y3 3 f1 2 f2 2 f3 bbS ∧ Below w4.heap.size w4 wx)
 case first =>
  refine wp_region_held_drew (S := fun W => (W.cell? ⟨BA, 0, none⟩ = some (.slice x1 3 e1) ∧ W.cell? ⟨BA, 1, none⟩ = some (.slice x2 1 e2) ∧ W.cell? ⟨BA, 2, none⟩ = some (.slice x3 2 e3) ∧ W.cell? ⟨BA, 3, none⟩ = some (.int .i64 aS.nextSeq) ∧ W.cell? ⟨BA, 4, none⟩ = some (.int .i64 aS.nextTag) ∧ W.cell? ⟨BA, 5, none⟩ = some (.int .i64 aS.came) ∧ W.cell? ⟨BA, 6, none⟩ = some (.int .i64 aS.acked) ∧ W.cell? ⟨BA, 7, none⟩ = some (.int .i64 aS.dropped))) (by kernel_rfl) (SA.out _ k6.drew) (fun hHeld => ?_)
  refine tk 1 ?_
  obtain ⟨wq, hwq⟩ : ∃ wq, wq = w6.drew := ⟨_, rfl⟩
  have Lwq : Hid (Below w4.heap.size w4 wq) := by show Below w4.heap.size w4 wq; rw [hwq]; exact Lw6.out
  rw [← hwq] at hHeld ⊢
  clear hwq
  refine wpAnyH_ready (rs := [0, 7]) (by kernel_rfl) (by simp) ?_
  refine AllReadyH.cons rfl (fun K hK => ?_) (AllReadyH.cons rfl (fun K hK => ?_) AllReadyH.nil)
  ·go_simp
   refine (office_any _).mono ?_
   rintro e wo ⟨rfl, ko, hpo⟩
   have Lwo : Hid (Below w4.heap.size w4 wo) := Lwq.out.trans (ko.mono Lwq.out.size)
   have HPo := hidI hpo
   refine hK.out _ _ (SA.out _ Lwo.out) (fun hHo => ?_)
   clear hK K hpo
   try refine nrm ?_
   refine wpAnyH_ready (rs := [2, 7]) (by kernel_rfl) (by simp) ?_
   refine AllReadyH.cons rfl (fun K hK => ?_) (AllReadyH.cons rfl (fun K hK => ?_) AllReadyH.nil)
   ·go_simp
    refine (deliver_any officeP _ _ _ _ _ _ _ _ _ aS _ _ _ _ _ _ _ _ _ 0 _ HPo.out (HO4.out.keep Lwo.out).state (HO4.out.keep Lwo.out).nils.1 (HO4.out.keep Lwo.out).nils.2).mono ?_
    rintro e wd ⟨vd, rfl, hresd, kd⟩
    rw [F.out.1.2.2.2.2] at hresd ⊢
    rw [show numOf 0 aS.nextTag = 6 by unfold numOf; rw [if_pos rfl]; exact F.out.2.2.2.2.2]
    have hresd' : StRes wd wo.heap.size vd 0 bbS := hresd
    obtain ⟨y1, y2, y3, q1, f1, q2, f2, q3, f3, rfl, hod⟩ := hresd'.1 rfl
    obtain rfl : q1 = 3 := hod.l1.symm.trans rfl
    obtain rfl : q2 = 2 := hod.l2.symm.trans rfl
    obtain rfl : q3 = 2 := hod.l3.symm.trans rfl
    have Lwd : Hid (Below w4.heap.size w4 wd) := Lwo.out.trans (kd.mono Lwo.out.size)
    have HOd := hidI (hod.lower (Nat.zero_le _))
    refine hK.out _ _ (SA.out _ Lwd.out) (fun hHd => ?_)
    clear hK K hresd hresd'
    try refine nrm ?_
    refine tk 3 ?_
    refine tk 4 ?_
    refine tk 5 ?_
    refine tk 6 ?_
    refine rdy 7 (fun K hK => ?_)
    go_simp
    obtain ⟨wa, hwa⟩ : ∃ wa, wa = wd.alloc (.cells #[.slice none 0 0, .slice none 0 0, .slice none 0 0, .int .i64 0, .int .i64 0, .int .i64 0, .int .i64 0, .int .i64 0] 31) := ⟨_, rfl⟩
    have la : Below wd.heap.size wd wa := by rw [hwa]; exact (Below.refl _ _).alloc (Nat.le_refl _) _
    have Lwa : Hid (Below w4.heap.size w4 wa) := Lwd.out.trans (la.mono Lwd.out.size)
    have ba : wa.heap[wd.heap.size]? = some (.cells #[.slice none 0 0, .slice none 0 0, .slice none 0 0, .int .i64 0, .int .i64 0, .int .i64 0, .int .i64 0, .int .i64 0] 31 (0, 0)) := by rw [hwa]; exact World.alloc_heap_new wd _
    obtain ⟨BB, hBB⟩ : ∃ BB, BB = wd.heap.size := ⟨_, rfl⟩
    have hBg : w4.heap.size ≤ BB := by rw [hBB]; exact Lwd.out.size
    rw [← hwa, ← hBB]
    rw [← hBB] at ba
    have HOa := hidI (HOd.out.keep la)
    refine hK.out _ _ (SA.out _ Lwa.out) (fun hHa => ?_)
    clear hK K hwa hBB
    try refine nrm ?_
    refine rdy 8 (fun K hK => ?_)
    obtain ⟨c0, c1, c2, c3, c4, c5, c6, c7⟩ := st_cells ba
    have g0 := foc_ ba 0
    have g1 := foc_ ba 1
    have g2 := foc_ ba 2
    have g3 := foc_ ba 3
    have g4 := foc_ ba 4
    have g5 := foc_ ba 5
    have g6 := foc_ ba 6
    have g7 := foc_ ba 7
    go_simp
    generalize hWz : World.setCell (World.setCell (World.setCell (World.setCell (World.setCell (World.setCell (World.setCell (World.setCell wa _ _) _ _) _ _) _ _) _ _) _ _) _ _) _ _ = Wz
    obtain ⟨bz, tz⟩ := store8 ba hWz
    have lz : Below w4.heap.size w4 Wz := Lwa.out.trans (tz.below Lwa.out.size hBg)
    have oz := HOa.out.turn ba (by decide) tz
    have RL := hidI (And.intro bz (And.intro oz lz))
    refine hK.out _ _ (SA.out _ lz) (fun hHz => ?_)
    clear hK K
    try refine nrm ?_
    refine tk 9 ?_
    refine tk 10 ?_
    refine wpAnyH_done (by kernel_rfl) ?_ _
    clear c0 c1 c2 c3 c4 c5 c6 c7 g0 g1 g2 g3 g4 g5 g6 g7 bz oz lz hHz tz hWz
    go_wp2_with fail
    go_meet
    case rel => exact ⟨BB, y1, y2, y3, f1, f2, f3, rfl, rfl, rfl, RL.out⟩
   ·go_simp
    obtain ⟨wa, hwa⟩ : ∃ wa, wa = wo.alloc (.cells #[.slice none 0 0, .slice none 0 0, .slice none 0 0, .int .i64 0, .int .i64 0, .int .i64 0, .int .i64 0, .int .i64 0] 31) := ⟨_, rfl⟩
    have la : Below wo.heap.size wo wa := by rw [hwa]; exact (Below.refl _ _).alloc (Nat.le_refl _) _
    have Lwa : Hid (Below w4.heap.size w4 wa) := Lwo.out.trans (la.mono Lwo.out.size)
    have ba : wa.heap[wo.heap.size]? = some (.cells #[.slice none 0 0, .slice none 0 0, .slice none 0 0, .int .i64 0, .int .i64 0, .int .i64 0, .int .i64 0, .int .i64 0] 31 (0, 0)) := by rw [hwa]; exact World.alloc_heap_new wo _
    obtain ⟨BB, hBB⟩ : ∃ BB, BB = wo.heap.size := ⟨_, rfl⟩
    have hBg : w4.heap.size ≤ BB := by rw [hBB]; exact Lwo.out.size
    rw [← hwa, ← hBB]
    rw [← hBB] at ba
    have HPa := hidI (HPo.out.keep la)
    refine hK.out _ _ (SA.out _ Lwa.out) (fun hHa => ?_)
    clear hK K hwa hBB
    try refine nrm ?_
    refine rdy 2 (fun K hK => ?_)
    go_simp
    refine (deliver_any officeP _ _ _ _ _ _ _ _ _ aS _ _ _ _ _ _ _ _ _ 0 _ HPa.out (HO4.out.keep Lwa.out).state (HO4.out.keep Lwa.out).nils.1 (HO4.out.keep Lwa.out).nils.2).mono ?_
    rintro e wd ⟨vd, rfl, hresd, kd⟩
    rw [F.out.1.2.2.2.2] at hresd ⊢
    rw [show numOf 0 aS.nextTag = 6 by unfold numOf; rw [if_pos rfl]; exact F.out.2.2.2.2.2]
    have hresd' : StRes wd wa.heap.size vd 0 bbS := hresd
    obtain ⟨y1, y2, y3, q1, f1, q2, f2, q3, f3, rfl, hod⟩ := hresd'.1 rfl
    obtain rfl : q1 = 3 := hod.l1.symm.trans rfl
    obtain rfl : q2 = 2 := hod.l2.symm.trans rfl
    obtain rfl : q3 = 2 := hod.l3.symm.trans rfl
    have Lwd : Hid (Below w4.heap.size w4 wd) := Lwa.out.trans (kd.mono Lwa.out.size)
    have HOd := hidI (hod.lower (Nat.zero_le _))
    have bd := pkp_ ba kd
    refine hK.out _ _ (SA.out _ Lwd.out) (fun hHd => ?_)
    clear hK K hresd hresd'
    try refine nrm ?_
    refine tk 3 ?_
    refine tk 4 ?_
    refine tk 5 ?_
    refine tk 6 ?_
    refine rdy 8 (fun K hK => ?_)
    obtain ⟨c0, c1, c2, c3, c4, c5, c6, c7⟩ := st_cells bd
    have g0 := foc_ bd 0
    have g1 := foc_ bd 1
    have g2 := foc_ bd 2
    have g3 := foc_ bd 3
    have g4 := foc_ bd 4
    have g5 := foc_ bd 5
    have g6 := foc_ bd 6
    have g7 := foc_ bd 7
    go_simp
    generalize hWz : World.setCell (World.setCell (World.setCell (World.setCell (World.setCell (World.setCell (World.setCell (World.setCell wd _ _) _ _) _ _) _ _) _ _) _ _) _ _) _ _ = Wz
    obtain ⟨bz, tz⟩ := store8 bd hWz
    have lz : Below w4.heap.size w4 Wz := Lwd.out.trans (tz.below Lwd.out.size hBg)
    have oz := HOd.out.turn bd (by decide) tz
    have RL := hidI (And.intro bz (And.intro oz lz))
    refine hK.out _ _ (SA.out _ lz) (fun hHz => ?_)
    clear hK K
    try refine nrm ?_
    refine tk 9 ?_
    refine tk 10 ?_
    refine wpAnyH_done (by kernel_rfl) ?_ _
    clear c0 c1 c2 c3 c4 c5 c6 c7 g0 g1 g2 g3 g4 g5 g6 g7 bz oz lz hHz tz hWz
    go_wp2_with fail
    go_meet
    case rel => exact ⟨BB, y1, y2, y3, f1, f2, f3, rfl, rfl, rfl, RL.out⟩
  ·go_simp
   obtain ⟨wa, hwa⟩ : ∃ wa, wa = wq.alloc (.cells #[.slice none 0 0, .slice none 0 0, .slice none 0 0, .int .i64 0, .int .i64 0, .int .i64 0, .int .i64 0, .int .i64 0] 31) := ⟨_, rfl⟩
   have la : Below wq.heap.size wq wa := by rw [hwa]; exact (Below.refl _ _).alloc (Nat.le_refl _) _
   have Lwa : Hid (Below w4.heap.size w4 wa) := Lwq.out.trans (la.mono Lwq.out.size)
   have ba : wa.heap[wq.heap.size]? = some (.cells #[.slice none 0 0, .slice none 0 0, .slice none 0 0, .int .i64 0, .int .i64 0, .int .i64 0, .int .i64 0, .int .i64 0] 31 (0, 0)) := by rw [hwa]; exact World.alloc_heap_new wq _
   obtain ⟨BB, hBB⟩ : ∃ BB, BB = wq.heap.size := ⟨_, rfl⟩
   have hBg : w4.heap.size ≤ BB := by rw [hBB]; exact Lwq.out.size
   rw [← hwa, ← hBB]
   rw [← hBB] at ba
   refine hK.out _ _ (SA.out _ Lwa.out) (fun hHa => ?_)
   clear hK K hwa hBB
   try refine nrm ?_
   refine rdy 0 (fun K hK => ?_)
   go_simp
   refine (office_any _).mono ?_
   rintro e wo ⟨rfl, ko, hpo⟩
   have Lwo : Hid (Below w4.heap.size w4 wo) := Lwa.out.trans (ko.mono Lwa.out.size)
   have HPo := hidI hpo
   have bo := pkp_ ba ko
   refine hK.out _ _ (SA.out _ Lwo.out) (fun hHo => ?_)
   clear hK K hpo
   try refine nrm ?_
   refine rdy 2 (fun K hK => ?_)
   go_simp
   refine (deliver_any officeP _ _ _ _ _ _ _ _ _ aS _ _ _ _ _ _ _ _ _ 0 _ HPo.out (HO4.out.keep Lwo.out).state (HO4.out.keep Lwo.out).nils.1 (HO4.out.keep Lwo.out).nils.2).mono ?_
   rintro e wd ⟨vd, rfl, hresd, kd⟩
   rw [F.out.1.2.2.2.2] at hresd ⊢
   rw [show numOf 0 aS.nextTag = 6 by unfold numOf; rw [if_pos rfl]; exact F.out.2.2.2.2.2]
   have hresd' : StRes wd wo.heap.size vd 0 bbS := hresd
   obtain ⟨y1, y2, y3, q1, f1, q2, f2, q3, f3, rfl, hod⟩ := hresd'.1 rfl
   obtain rfl : q1 = 3 := hod.l1.symm.trans rfl
   obtain rfl : q2 = 2 := hod.l2.symm.trans rfl
   obtain rfl : q3 = 2 := hod.l3.symm.trans rfl
   have Lwd : Hid (Below w4.heap.size w4 wd) := Lwo.out.trans (kd.mono Lwo.out.size)
   have HOd := hidI (hod.lower (Nat.zero_le _))
   have bd := pkp_ bo kd
   refine hK.out _ _ (SA.out _ Lwd.out) (fun hHd => ?_)
   clear hK K hresd hresd'
   try refine nrm ?_
   refine tk 3 ?_
   refine tk 4 ?_
   refine tk 5 ?_
   refine tk 6 ?_
   refine rdy 8 (fun K hK => ?_)
   obtain ⟨c0, c1, c2, c3, c4, c5, c6, c7⟩ := st_cells bd
   have g0 := foc_ bd 0
   have g1 := foc_ bd 1
   have g2 := foc_ bd 2
   have g3 := foc_ bd 3
   have g4 := foc_ bd 4
   have g5 := foc_ bd 5
   have g6 := foc_ bd 6
   have g7 := foc_ bd 7
   go_simp
   generalize hWz : World.setCell (World.setCell (World.setCell (World.setCell (World.setCell (World.setCell (World.setCell (World.setCell wd _ _) _ _) _ _) _ _) _ _) _ _) _ _) _ _ = Wz
   obtain ⟨bz, tz⟩ := store8 bd hWz
   have lz : Below w4.heap.size w4 Wz := Lwd.out.trans (tz.below Lwd.out.size hBg)
   have oz := HOd.out.turn bd (by decide) tz
   have RL := hidI (And.intro bz (And.intro oz lz))
   refine hK.out _ _ (SA.out _ lz) (fun hHz => ?_)
   clear hK K
   try refine nrm ?_
   refine tk 9 ?_
   refine tk 10 ?_
   refine wpAnyH_done (by kernel_rfl) ?_ _
   clear c0 c1 c2 c3 c4 c5 c6 c7 g0 g1 g2 g3 g4 g5 g6 g7 bz oz lz hHz tz hWz
   go_wp2_with fail
   go_meet
   case rel => exact ⟨BB, y1, y2, y3, f1, f2, f3, rfl, rfl, rfl, RL.out⟩
 case rest =>
  obtain ⟨BB, y1, y2, y3, f1, f2, f3, rfl, rfl, rfl, hbb, hob, hBx⟩ := hcut
  have HBB := hidI hbb
  have HOB := hidI hob
  have HBX := hidI hBx
  have HBAx := hidI (pkp_ HB4.out hBx)
  have HOAx := hidI (HO4.out.keep hBx)
  clear hbb hob hBx k6 Lw6
  go_wp2_with fail
  refine (office_any _).mono ?_
  rintro e v1 ⟨rfl, k1, hp1⟩
  have HP1 := hidI hp1
  clear hp1
  go_wp2_with fail
  refine (busy_any _).mono ?_
  rintro e v2 ⟨gI, gR, gO, gT, rfl, hb2, -, -, k2'⟩
  have HS2 := hidI (hb2.state 1)
  have k2 := k1.trans (k2'.mono k1.size)
  clear hb2 k1
  go_wp2_with fail
  refine (next_any officeP _ _ _ _ _ _ _ _ _ bS _ _ _ _ _ _ _ _ _ 1 _ (HP1.out.keep k2') HS2.out).mono ?_
  rintro e v3 ⟨rfl, k3'⟩
  rw [F.out.2.1]
  have k3 := k2.trans (k3'.mono k2.size)
  clear k2 k2' k3' HP1 HS2
  go_wp2_with fail
  refine (office_any _).mono ?_
  rintro e v4 ⟨rfl, k4', hp4⟩
  have HP4 := hidI hp4
  clear hp4
  go_wp2_with fail
  refine (busy_any _).mono ?_
  rintro e v5 ⟨gI, gR, gO, gT, rfl, hb5, -, -, k5'⟩
  have HS5 := hidI (hb5.state 1)
  have k5 := k3.trans ((k4'.trans (k5'.mono k4'.size)).mono k3.size)
  clear hb5 k4' k3
  go_wp2_with fail
  refine (join_any officeP _ _ _ _ _ _ _ _ _ bS _ _ _ _ _ _ _ _ _ 0 5 _ (HP4.out.keep k5') HS5.out (fun h => by cases h) (fun h => by cases h)).mono ?_
  rintro e v6 ⟨u6, rfl, hres6, k6'⟩
  rw [F.out.2.2.1] at hres6 ⊢
  rw [show numOf 3 ((goneIdx bS.takers : Nat) : Int) = 0 from rfl, hres6.2 (by decide)]
  unfold zerS
  have k6 := k5.trans (k6'.mono k5.size)
  clear k5 k5' k6' hres6 HP4 HS5
  obtain ⟨vz, hvz⟩ : ∃ vz, vz = v6.alloc (.cells #[.slice none 0 0, .slice none 0 0, .slice none 0 0, .int .i64 0, .int .i64 0, .int .i64 0, .int .i64 0, .int .i64 0] 31) := ⟨_, rfl⟩
  have l7 : Below wc.heap.size wc vz := by rw [hvz]; exact k6.alloc k6.size _
  have HVZ := hidI hvz
  clear hvz
  go_wp2_with fail
  rw [← HVZ.out]
  refine (office_any _).mono ?_
  rintro e v7 ⟨rfl, k7', hp7⟩
  have HP7 := hidI hp7
  have k7 := l7.trans (k7'.mono l7.size)
  clear hp7 l7 k6 k7'
  go_wp2_with fail
  refine (busy_any _).mono ?_
  rintro e v8 ⟨gI, gR, gO, gT, rfl, hb8, -, -, k8'⟩
  have HS8 := hidI (hb8.state 1)
  have k8 := k7.trans (k8'.mono k7.size)
  clear hb8 k7
  go_wp2_with fail
  refine (next_any officeP _ _ _ _ _ _ _ _ _ bS _ _ _ _ _ _ _ _ _ 0 _ (HP7.out.keep k8') HS8.out).mono ?_
  rintro e v9 ⟨rfl, k9'⟩
  rw [F.out.2.2.2.1, F.out.2.2.2.2.1, show numOf 0 1 = 1 from rfl]
  have k9 := k8.trans (k9'.mono k8.size)
  clear k8 k8' k9' HP7 HS8
  have K9 := hidI k9
  have hob := HOB.out.keep k9
  have hoa := HOAx.out.keep k9
  obtain ⟨c0, c1, c2, c3, c4, c5, c6, c7⟩ := st_cells (pkp_ HBB.out k9)
  obtain ⟨d0, d1, d2, d3, d4, d5, d6, d7⟩ := st_cells (pkp_ HBAx.out k9)
  obtain ⟨go, rfl⟩ : ∃ go, y2 = some ⟨go, 0, none⟩ := by
   rcases hob.r2.2 with ⟨e, e0⟩ | ⟨g, cap, cur, e, _⟩
   ·cases e0
   ·cases e; exact ⟨g, rfl⟩
  have o1 := hob.r2.cellAt 9 (by omega)
  have o2 := hob.r2.cellAt 13 (by omega)
  rw [facts_U.1] at o1 o2
  simp [outCells, OutD.cells, bOut] at o1 o2
  obtain ⟨ga, rfl⟩ : ∃ ga, x3 = some ⟨ga, 0, none⟩ := by
   rcases hoa.r3.2 with ⟨e, e0⟩ | ⟨g, cap, cur, e, _⟩
   ·cases e0
   ·cases e; exact ⟨g, rfl⟩
  have p1 := hoa.r3.cellAt 0 (by omega)
  have p2 := hoa.r3.cellAt 1 (by omega)
  rw [facts_U.2.2] at p1 p2
  simp [tkC_, TakerD.cells] at p1 p2
  obtain ⟨vs, hr1, hlv⟩ := hob.r1
  obtain ⟨gr, rfl⟩ : ∃ gr, y1 = some ⟨gr, 0, none⟩ := by
   rcases hr1.2 with ⟨e, e0⟩ | ⟨g, cap, cur, e, _⟩
   ·cases e0
   ·cases e; exact ⟨g, rfl⟩
  have hrl : (0 : Nat) < bbS.ready.length := by rw [facts_U.2.1]; decide
  obtain ⟨v, bl, cl, hv1, hl0⟩ := hlv.get 0 hrl
  have q1 := hr1.cellAt 0 (by omega)
  rw [hv1, hl0.v] at q1
  have hlen : (bbS.ready[0]'hrl).length = 1 := get_len facts_U.2.1 hrl rfl
  rw [hlen] at q1
  clear hob hoa hr1 hlv hv1 hl0 hlen k9
  go_wp2_with fail
  go_ret
  exact ⟨rfl, K4.out.trans ((HBX.out.trans (K9.out.mono HBX.out.size)).mono K4.out.size)⟩
end Go.Proofs.Ytpoichgodamnkaa
