import Derived.Deep.RegionHeld3
import Derived.Test.YtpoichgodamnkaaGreatKlx
import Derived.Test.YtpoichgodamnkaaGreatKcx
namespace Go.Proofs.YtpoichgodamnkaaGreat
open Go.RowKit Go.Maps
set_option linter.unusedVariables false
set_option maxRecDepth 100000
set_option maxHeartbeats 8000000
theorem StBox.nextTwo {W : World} {n t : Nat} {s : StateD} (h : StBox W n t s) : StBox ((W.setCell ⟨t, 3, none⟩ (.int .i64 (s.nextSeq + 1))).setCell ⟨t, 5, none⟩ (.int .i64 (s.came + 1))) n t (upS s) := (h.field3 _).field5 _
theorem receive_any (p : PlanD) (a1 a2 a3 : Option Addr) (n1 c1 n2 c2 n3 c3 : Nat) (s : StateD) (a : ArrD) (xs : List ArrD) (ab : Option Addr) (am ac N H n t : Nat) (w0 w : World) (hp : PlanAt w0 a1 a2 a3 n1 n2 n3 p) (h0 : Below w0.heap.size w0 w) (ht : w0.heap.size ≤ t) (htn : t < n) (hnH : n ≤ H) (hHN : H < N) (hNw : N ≤ w.heap.size) (hR : RightX p s 0) (ha : ArrOk p a) (hs : s.nextSeq < 1048576) (hd : s.dropped ≤ 10000000) (hh : Hall w N H t (.slice a1 n1 c1) (.slice a2 n2 c2) (.slice a3 n3 c3) xs ab am ac) (hxl : xs.length ≤ 10000) (hbx : StBox w n t s) :
 Calls Tryz.prog 65 #[.pointer (some ⟨H, 0, none⟩), .agg #[.int .i64 a.queue, .string a.key, .string a.body, .int .i64 a.deaths]] w fun e w' => ∃ ab' am' ac', e = okE ∧ Hall w' N H t (.slice a1 n1 c1) (.slice a2 n2 c2) (.slice a3 n3 c3) (xs ++ recvB p s a) ab' am' ac' ∧ StBox w' n t (recvS p s a) ∧ FrameT n t w w' := by
 obtain ⟨qn, hqn⟩ : ∃ qn : Nat, a.queue = qn := ⟨a.queue.toNat, (Int.toNat_of_nonneg ha.q.1).symm⟩
 have hq2 : qn < n2 := by have h1 := ha.q.2; have h2 := hp.l2; omega
 have HRS : Hid (recvS p s a = putS p (upS s) qn (arrItem s a) ∧ recvB p s a = putB p (upS s) qn (arrItem s a)) := by
  show recvS p s a = _ ∧ recvB p s a = _
  unfold recvS recvB; rw [hqn]; exact ⟨rfl, rfl⟩
 have hsr : (upS s).ready.length = n2 := by show s.ready.length = n2; rw [hR.len]; exact hp.l2
 have HSRL := hidI hsr
 have hql : qn < (upS s).ready.length := by rw [hsr]; exact hq2
 have HLO := hidI (hR.line _ (lineAt_mem (s := s) hql))
 have HIO := hidI (recv_item hR ha hs)
 have HPH := hidI (notin_has hql HLO.out (recv_new (a := a) hR))
 have HRM : Hid (((lineAt (upS s) qn).length : Int) ≤ (qAt p qn).limit) := hR.room qn hql
 have HDR : Hid (0 ≤ (upS s).dropped ∧ (upS s).dropped ≤ 10000000) := ⟨hR.dr, hd⟩
 have HARR := hidI (recv_arrs hR ha hs)
 have HC := hidI hR.pl
 have hns := hR.ns
 have hcs := hR.cs
 have HFEW := hidI (chk_right hR.pl).few
 obtain ⟨W1, hW1⟩ : ∃ W1, W1 = w.alloc (.cells #[.int .i64 a.queue, .string a.key, .string a.body, .int .i64 a.deaths] 101) := ⟨_, rfl⟩
 have k1 : Below w.heap.size w W1 := by rw [hW1]; exact (Below.refl _ _).alloc (Nat.le_refl _) _
 have b1 : W1.heap[w.heap.size]? = some (.cells #[.int .i64 a.queue, .string a.key, .string a.body, .int .i64 a.deaths] 101 (0, 0)) := by rw [hW1]; exact World.alloc_heap_new w _
 have HZ1 : Hid (W1.heap.size = w.heap.size + 1) := by show W1.heap.size = _; rw [hW1]; simp
 have HW1 := hidI hW1
 have K1 := hidI k1
 have HB1 := hidI b1
 have HH1 := hidI (hh.keep k1)
 have HBX1 := hidI (hbx.keep k1)
 have HP := hidI hp
 have H0 := hidI h0
 have HAM := hidI hh.len
 have HROW := hidI hh.row
 have HSS : Hid (∀ W', Below W1.heap.size W1 W' → (W'.cell? ⟨w.heap.size, 0, none⟩ = some (.int .i64 a.queue) ∧ W'.cell? ⟨w.heap.size, 1, none⟩ = some (.string a.key) ∧ W'.cell? ⟨w.heap.size, 2, none⟩ = some (.string a.body) ∧ W'.cell? ⟨w.heap.size, 3, none⟩ = some (.int .i64 a.deaths)) ∧ W'.cell? ⟨H, 0, none⟩ = some (.pointer (some ⟨t, 0, none⟩)) ∧ W'.cell? ⟨t, 3, none⟩ = some (.int .i64 s.nextSeq)) := fun W' h => by
  obtain ⟨_, _, _, _, _, _, _, _, _, hb, _⟩ := HBX1.out.keep h
  exact ⟨⟨coc_ (pkp_ HB1.out h) 0, coc_ (pkp_ HB1.out h) 1, coc_ (pkp_ HB1.out h) 2, coc_ (pkp_ HB1.out h) 3⟩, coc_ (pkp_ HH1.out.box h) 0, coc_ hb 3⟩
 have hs0 := h0.size
 have jw1 : IntKind.i64.wrap (s.nextSeq + 1) = s.nextSeq + 1 := by rw [IntKind.wrap_i64]; omega
 have jw2 : IntKind.i64.wrap (s.came + 1) = s.came + 1 := by rw [IntKind.wrap_i64]; omega
 have HQN := hidI hqn
 clear hW1 k1 b1 hh hbx hp h0 hR ha hsr hql hqn hcs hns
 go_enter Tryz.func65, Tryz.ntmps65
 go_upto_region 1 with fail
 rw [← HW1.out]
 refine wp_region_held_drew (S := fun W' => (W'.cell? ⟨w.heap.size, 0, none⟩ = some (.int .i64 a.queue) ∧ W'.cell? ⟨w.heap.size, 1, none⟩ = some (.string a.key) ∧ W'.cell? ⟨w.heap.size, 2, none⟩ = some (.string a.body) ∧ W'.cell? ⟨w.heap.size, 3, none⟩ = some (.int .i64 a.deaths)) ∧ W'.cell? ⟨H, 0, none⟩ = some (.pointer (some ⟨t, 0, none⟩)) ∧ W'.cell? ⟨t, 3, none⟩ = some (.int .i64 s.nextSeq)) (by kernel_rfl) (HSS.out _ (Below.refl _ _).drew) (fun hHeld => ?_)
 refine tk 0 ?_
 refine tk 1 ?_
 refine tk 2 ?_
 refine tk 3 ?_
 refine tk 4 ?_
 refine tk 5 ?_
 refine tk 6 ?_
 refine tk 7 ?_
 refine wpAnyH_ready (rs := [8, 9]) (by kernel_rfl) (by simp) ?_
 refine AllReadyH.cons rfl (fun K hK => ?_) (AllReadyH.cons rfl (fun K hK => ?_) AllReadyH.nil)
 ·go_simp
  refine (letter_any a.queue a.deaths s.nextSeq a.key a.body _).mono ?_
  rintro e w2 ⟨rfl, k2'⟩
  have k2 : Below W1.heap.size W1 w2 := bud_ k2'
  refine hK.out _ _ (HSS.out _ k2) (fun _ => ?_)
  clear hK K hHeld k2'
  try refine nrm ?_
  refine rdy 9 (fun K hK => ?_)
  go_simp
  refine hK.out _ _ (HSS.out _ (k2.alloc k2.size _)) (fun _ => ?_)
  clear hK K
  try refine nrm ?_
  refine rdy 10 (fun K hK => ?_)
  go_simp
  refine hK.out _ _ (HSS.out _ (k2.alloc k2.size _)) (fun _ => ?_)
  clear hK K
  try refine nrm ?_
  refine wpAnyH_done (by kernel_rfl) ?_ _
  obtain ⟨X1, hX1⟩ : ∃ X1, X1 = w2.alloc (.cells #[.int .i64 s.nextSeq, .string a.key, .string a.body, .bool false, .int .i64 a.deaths] 43) := ⟨_, rfl⟩
  rw [← hX1]
  obtain ⟨xb, hxbb⟩ : ∃ xb, xb = w2.heap.size := ⟨_, rfl⟩
  rw [← hxbb]
  have hxb : X1.heap[xb]? = some (.cells #[.int .i64 s.nextSeq, .string a.key, .string a.body, .bool false, .int .i64 a.deaths] 43 (0, 0)) := by rw [hX1, hxbb]; exact World.alloc_heap_new w2 _
  have kX : Below W1.heap.size W1 X1 := by rw [hX1]; exact k2.alloc k2.size _
  clear hX1 hxbb k2
  have HXB := hidI hxb
  have KX := hidI kX
  have lxb := lth_ hxb
  have hxne : xb ≠ t := by
   intro e
   obtain ⟨_, _, _, _, _, _, _, _, _, hb, _⟩ := HBX1.out.keep kX
   rw [e, hb] at hxb; cases hxb
  clear hxb kX
  obtain ⟨⟨_, _, _, _⟩, hc0, ht3⟩ := HSS.out _ KX.out
  obtain ⟨g1, g2, g3, gm1, gd1, gm2, gd2, gm3, gd3, hbt, -⟩ := HBX1.out.keep KX.out
  have ft3 := foc_ hbt 3
  have ct5 := coc_ hbt 5
  simp at ct5
  have ft5 := foc_ hbt 5
  have htH : t ≠ H := by omega
  clear hbt
  obtain ⟨X3, hX3⟩ : ∃ X3, X3 = (X1.setCell ⟨t, 3, none⟩ (.int .i64 (s.nextSeq + 1))).setCell ⟨t, 5, none⟩ (.int .i64 (s.came + 1)) := ⟨_, rfl⟩
  have t3 : TurnB t X1 X3 := by rw [hX3]; exact (sct_ _ _ _ _).trans (sct_ _ _ _ _)
  have hbx3 : StBox X3 n t (upS s) := by rw [hX3]; exact (HBX1.out.keep KX.out).nextTwo
  have hh3 : Hall X3 N H t (.slice a1 n1 c1) (.slice a2 n2 c2) (.slice a3 n3 c3) xs ab am ac := ⟨(t3.block H (by have := lth_ HH1.out.box; have := KX.out.size; omega) (by omega)).trans (pkp_ HH1.out.box KX.out), row_turnA (cp2_ HH1.out.row KX.out) t3 (by omega)⟩
  have hxb3 := (t3.block xb (lth_ HXB.out) hxne).trans HXB.out
  have ha3 := (t3.block w.heap.size (by have := HZ1.out; have := KX.out.size; omega) (by omega)).trans (pkp_ HB1.out KX.out)
  have F3 : Hid (FrameT n t w X3) := ((FrameT.of_below K1.out (by omega)).trans (FrameT.of_below KX.out (by have := HZ1.out; omega))).turnB t3 (by have := KX.out.size; have := HZ1.out; omega)
  have s3 : w.heap.size + 1 ≤ X3.heap.size := by have := t3.size; have := KX.out.size; have := HZ1.out; omega
  have HX3 := hidI hX3
  have HBX3 := hidI hbx3
  have HH3 := hidI hh3
  have HXB3 := hidI hxb3
  have HA3 := hidI ha3
  have HS3 : Hid (∀ W', Below X3.heap.size X3 W' → (W'.cell? ⟨H, 1, none⟩ = some (.slice a1 n1 c1) ∧ W'.cell? ⟨H, 2, none⟩ = some (.slice a2 n2 c2) ∧ W'.cell? ⟨H, 3, none⟩ = some (.slice a3 n3 c3) ∧ W'.cell? ⟨H, 0, none⟩ = some (.pointer (some ⟨t, 0, none⟩))) ∧ W'.cell? ⟨w.heap.size, 0, none⟩ = some (.int .i64 (qn : Int)) ∧ (W'.cell? ⟨xb, 0, none⟩ = some (.int .i64 s.nextSeq) ∧ W'.cell? ⟨xb, 1, none⟩ = some (.string a.key) ∧ W'.cell? ⟨xb, 2, none⟩ = some (.string a.body) ∧ W'.cell? ⟨xb, 3, none⟩ = some (.bool false) ∧ W'.cell? ⟨xb, 4, none⟩ = some (.int .i64 a.deaths))) := fun W' h => ⟨⟨coc_ (pkp_ HH3.out.box h) 1, coc_ (pkp_ HH3.out.box h) 2, coc_ (pkp_ HH3.out.box h) 3, coc_ (pkp_ HH3.out.box h) 0⟩, by rw [← HQN.out]; exact coc_ (pkp_ HA3.out h) 0, coc_ (pkp_ HXB3.out h) 0, coc_ (pkp_ HXB3.out h) 1, coc_ (pkp_ HXB3.out h) 2, coc_ (pkp_ HXB3.out h) 3, coc_ (pkp_ HXB3.out h) 4⟩
  clear hX3 t3 hbx3 hh3 hxb3 ha3
  go_upto_region 4 with fail
  rw [← HX3.out]
  refine wp_region_held_drew (S := fun W' => (W'.cell? ⟨H, 1, none⟩ = some (.slice a1 n1 c1) ∧ W'.cell? ⟨H, 2, none⟩ = some (.slice a2 n2 c2) ∧ W'.cell? ⟨H, 3, none⟩ = some (.slice a3 n3 c3) ∧ W'.cell? ⟨H, 0, none⟩ = some (.pointer (some ⟨t, 0, none⟩))) ∧ W'.cell? ⟨w.heap.size, 0, none⟩ = some (.int .i64 (qn : Int)) ∧ (W'.cell? ⟨xb, 0, none⟩ = some (.int .i64 s.nextSeq) ∧ W'.cell? ⟨xb, 1, none⟩ = some (.string a.key) ∧ W'.cell? ⟨xb, 2, none⟩ = some (.string a.body) ∧ W'.cell? ⟨xb, 3, none⟩ = some (.bool false) ∧ W'.cell? ⟨xb, 4, none⟩ = some (.int .i64 a.deaths))) (by kernel_rfl) (HS3.out _ (Below.refl _ _).drew) (fun hHeld => ?_)
  refine tk 0 ?_
  refine tk 1 ?_
  refine tk 2 ?_
  refine tk 3 ?_
  refine tk 4 ?_
  refine tk 5 ?_
  refine tk 6 ?_
  refine tk 7 ?_
  refine tk 8 ?_
  refine tk 9 ?_
  refine tk 10 ?_
  refine tk 11 ?_
  refine rdy 12 (fun K hK => ?_)
  go_simp
  refine (cput_any p a1 a2 a3 n1 c1 n2 c2 n3 c3 (upS s) qn (arrItem s a) n t w0 X3.drew HP.out (H0.out.trans ((F3.out.drew.below (by omega) ht))) ht htn (by show n ≤ X3.heap.size; omega) HC.out hq2 HSRL.out HLO.out HIO.out HPH.out HRM.out HDR.out HBX3.out.drew).mono ?_
  rintro e w5 ⟨v5, rfl, ⟨m5, ho5⟩, hbx5, hF5, hK5⟩
  have dr : Below X3.heap.size X3 X3.drew := (Below.refl _ _).drew
  have bH := (hK5 H _ _ (pkp_ HH3.out.box dr) (by decide) (by decide)).trans (pkp_ HH3.out.box dr)
  have bA := (hK5 w.heap.size _ _ (pkp_ HA3.out dr) (by decide) (by decide)).trans (pkp_ HA3.out dr)
  have bX := (hK5 xb _ _ (pkp_ HXB3.out dr) (by decide) (by decide)).trans (pkp_ HXB3.out dr)
  have hh5 := (HH3.out.keep dr).keep2 hK5
  have SOF : Hid (∀ W' : World, W'.heap[w.heap.size]? = some (.cells #[.int .i64 a.queue, .string a.key, .string a.body, .int .i64 a.deaths] 101 (0, 0)) → W'.heap[xb]? = some (.cells #[.int .i64 s.nextSeq, .string a.key, .string a.body, .bool false, .int .i64 a.deaths] 43 (0, 0)) → ∀ u : Value, W'.heap[H]? = some (.cells #[.pointer (some ⟨t, 0, none⟩), .slice a1 n1 c1, .slice a2 n2 c2, .slice a3 n3 c3, u] 97 (0, 0)) → (W'.cell? ⟨H, 1, none⟩ = some (.slice a1 n1 c1) ∧ W'.cell? ⟨H, 2, none⟩ = some (.slice a2 n2 c2) ∧ W'.cell? ⟨H, 3, none⟩ = some (.slice a3 n3 c3) ∧ W'.cell? ⟨H, 0, none⟩ = some (.pointer (some ⟨t, 0, none⟩))) ∧ W'.cell? ⟨w.heap.size, 0, none⟩ = some (.int .i64 (qn : Int)) ∧ (W'.cell? ⟨xb, 0, none⟩ = some (.int .i64 s.nextSeq) ∧ W'.cell? ⟨xb, 1, none⟩ = some (.string a.key) ∧ W'.cell? ⟨xb, 2, none⟩ = some (.string a.body) ∧ W'.cell? ⟨xb, 3, none⟩ = some (.bool false) ∧ W'.cell? ⟨xb, 4, none⟩ = some (.int .i64 a.deaths))) := fun W' h1 h2 u h3 => ⟨⟨coc_ h3 1, coc_ h3 2, coc_ h3 3, coc_ h3 0⟩, by rw [← HQN.out]; exact coc_ h1 0, coc_ h2 0, coc_ h2 1, coc_ h2 2, coc_ h2 3, coc_ h2 4⟩
  obtain ⟨a5, c5, hv5, -, -, hn5, hr5⟩ := own_row ho5
  subst hv5
  refine hK.out _ _ (SOF.out _ bA bX _ bH) (fun _ => ?_)
  clear hK K hHeld
  try refine nrm ?_
  have s5 := hF5.size
  have s5' : X3.heap.size ≤ w5.heap.size := s5
  have e5 : (putB p (upS s) qn (arrItem s a)).length = m5 := by have h1 := ho5.1; rw [arrCells_len] at h1; omega
  have hm5 : m5 ≤ 4 := by have h1 := HARR.out.2; rw [HRS.out.2, e5] at h1; have h2 := HFEW.out.2.1; omega
  have F5 : Hid (FrameT n t w w5) := F3.out.trans ⟨hF5.os, hF5.tape, hF5.output, hF5.size, hF5.block⟩
  refine rdy 13 (fun K hK => ?_)
  go_simp
  refine (wait_any N H t (.slice a1 n1 c1) (.slice a2 n2 c2) (.slice a3 n3 c3) xs (putB p (upS s) qn (arrItem s a)) ab a5 am ac m5 c5 w5 hh5 hHN (by omega) hr5 e5 hn5 (by have := HAM.out; omega)).mono ?_
  rintro e w6 ⟨a6, c6, rfl, hh6, hHF⟩
  have hlow : ∀ g, (Value.slice ab am ac).ownBlock = some g → g < w.heap.size := fun g hg => (HROW.out.lt g hg).2
  have bA6 := (hHF.blk w.heap.size (by omega) (by omega) (fun e => by have := hlow _ e; omega)).trans bA
  have bX6 := (hHF.typ xb _ _ bX (by decide) (fun e => by rw [e, bH] at bX; cases bX)).trans bX
  refine hK.out _ _ (SOF.out _ bA6 bX6 _ hh6.box) (fun _ => ?_)
  clear hK K
  try refine nrm ?_
  refine wpAnyH_done (by kernel_rfl) ?_ _
  have hbx6 := hHF.stBox hbx5 ⟨_, bH⟩
  have F6 : Hid (FrameT n t w w6) := F5.out.trans ⟨hHF.os, hHF.tape, hHF.output, hHF.size, fun k h1 h2 => hHF.low k (by omega) (by omega)⟩
  have HHH6 := hidI hh6
  have HBX6 := hidI hbx6
  clear hh6 hbx6 hHF bA6 bX6 bA bX bH hh5 ho5 hr5 hbx5 hF5 hK5 dr
  go_wp2_with fail
  go_end0
  exact ⟨a6, am + m5, c6, rfl, by rw [HRS.out.2]; exact HHH6.out, by rw [HRS.out.1]; exact HBX6.out, F6.out⟩
 ·go_simp
  refine hK.out _ _ (HSS.out _ (by repeat (first | exact Below.refl _ _ | assumption | refine Below.drew ?_ | refine Below.alloc ?_ (by first | (simp; done) | (simp; omega) | omega) _ | refine Below.setCell ?_ (by first | (simp; done) | (simp; omega) | omega) _))) (fun _ => ?_)
  clear hK K hHeld
  try refine nrm ?_
  obtain ⟨Y1, hY1⟩ : ∃ Y1, Y1 = (W1.alloc (.cells #[.int .i64 0, .string ⟨#[]⟩, .string ⟨#[]⟩, .bool false, .int .i64 0] 43)).drew := ⟨_, rfl⟩
  rw [← hY1]
  obtain ⟨xb, hxbb⟩ : ∃ xb, xb = W1.heap.size := ⟨_, rfl⟩
  rw [← hxbb]
  have hy : Y1.heap[xb]? = some (.cells #[.int .i64 0, .string ⟨#[]⟩, .string ⟨#[]⟩, .bool false, .int .i64 0] 43 (0, 0)) := by rw [hY1, hxbb]; exact World.alloc_heap_new W1 _
  have kY : Below W1.heap.size W1 Y1 := by rw [hY1]; exact ((Below.refl _ _).alloc (Nat.le_refl _) _).drew
  have HXBB := hidI hxbb
  clear hY1 hxbb
  refine rdy 8 (fun K hK => ?_)
  go_simp
  refine (letter_any a.queue a.deaths s.nextSeq a.key a.body _).mono ?_
  rintro e w2 ⟨rfl, k2'⟩
  have k2 : Below W1.heap.size W1 w2 := kY.trans (k2'.mono kY.size)
  have hy2 := pkp_ hy k2'
  refine hK.out _ _ (HSS.out _ k2) (fun _ => ?_)
  clear hK K
  try refine nrm ?_
  have d0 := coc_ hy2 0
  have d1 := coc_ hy2 1
  have d2 := coc_ hy2 2
  have d3 := coc_ hy2 3
  have d4 := coc_ hy2 4
  have f0 := foc_ hy2 0
  have f1 := foc_ hy2 1
  have f2 := foc_ hy2 2
  have f3 := foc_ hy2 3
  have f4 := foc_ hy2 4
  simp at d0 d1 d2 d3 d4
  refine rdy 10 (fun K hK => ?_)
  go_simp
  generalize hX1 : World.setCell (World.setCell (World.setCell (World.setCell (World.setCell w2 _ _) _ _) _ _) _ _) _ _ = X1
  have hxb : X1.heap[xb]? = some (.cells #[.int .i64 s.nextSeq, .string a.key, .string a.body, .bool false, .int .i64 a.deaths] 43 (0, 0)) := by rw [← hX1]; exact scb_ (scb_ (scb_ (scb_ (scb_ hy2 (j := 0) _) (j := 1) _) (j := 2) _) (j := 3) _) (j := 4) _
  have tX : TurnB xb w2 X1 := by rw [← hX1]; exact ((((sct_ _ _ _ _).trans (sct_ _ _ _ _)).trans (sct_ _ _ _ _)).trans (sct_ _ _ _ _)).trans (sct_ _ _ _ _)
  have kX : Below W1.heap.size W1 X1 := k2.trans (tX.below k2.size (by have := HXBB.out; omega))
  refine hK.out _ _ (HSS.out _ kX) (fun _ => ?_)
  clear hK K
  try refine nrm ?_
  refine wpAnyH_done (by kernel_rfl) ?_ _
  clear hX1 tX k2 k2' kY hy hy2 d0 d1 d2 d3 d4 f0 f1 f2 f3 f4
  have HXB := hidI hxb
  have KX := hidI kX
  have lxb := lth_ hxb
  have hxne : xb ≠ t := by
   intro e
   obtain ⟨_, _, _, _, _, _, _, _, _, hb, _⟩ := HBX1.out.keep kX
   rw [e, hb] at hxb; cases hxb
  clear hxb kX
  obtain ⟨⟨_, _, _, _⟩, hc0, ht3⟩ := HSS.out _ KX.out
  obtain ⟨g1, g2, g3, gm1, gd1, gm2, gd2, gm3, gd3, hbt, -⟩ := HBX1.out.keep KX.out
  have ft3 := foc_ hbt 3
  have ct5 := coc_ hbt 5
  simp at ct5
  have ft5 := foc_ hbt 5
  have htH : t ≠ H := by omega
  clear hbt
  obtain ⟨X3, hX3⟩ : ∃ X3, X3 = (X1.setCell ⟨t, 3, none⟩ (.int .i64 (s.nextSeq + 1))).setCell ⟨t, 5, none⟩ (.int .i64 (s.came + 1)) := ⟨_, rfl⟩
  have t3 : TurnB t X1 X3 := by rw [hX3]; exact (sct_ _ _ _ _).trans (sct_ _ _ _ _)
  have hbx3 : StBox X3 n t (upS s) := by rw [hX3]; exact (HBX1.out.keep KX.out).nextTwo
  have hh3 : Hall X3 N H t (.slice a1 n1 c1) (.slice a2 n2 c2) (.slice a3 n3 c3) xs ab am ac := ⟨(t3.block H (by have := lth_ HH1.out.box; have := KX.out.size; omega) (by omega)).trans (pkp_ HH1.out.box KX.out), row_turnA (cp2_ HH1.out.row KX.out) t3 (by omega)⟩
  have hxb3 := (t3.block xb (lth_ HXB.out) hxne).trans HXB.out
  have ha3 := (t3.block w.heap.size (by have := HZ1.out; have := KX.out.size; omega) (by omega)).trans (pkp_ HB1.out KX.out)
  have F3 : Hid (FrameT n t w X3) := ((FrameT.of_below K1.out (by omega)).trans (FrameT.of_below KX.out (by have := HZ1.out; omega))).turnB t3 (by have := KX.out.size; have := HZ1.out; omega)
  have s3 : w.heap.size + 1 ≤ X3.heap.size := by have := t3.size; have := KX.out.size; have := HZ1.out; omega
  have HX3 := hidI hX3
  have HBX3 := hidI hbx3
  have HH3 := hidI hh3
  have HXB3 := hidI hxb3
  have HA3 := hidI ha3
  have HS3 : Hid (∀ W', Below X3.heap.size X3 W' → (W'.cell? ⟨H, 1, none⟩ = some (.slice a1 n1 c1) ∧ W'.cell? ⟨H, 2, none⟩ = some (.slice a2 n2 c2) ∧ W'.cell? ⟨H, 3, none⟩ = some (.slice a3 n3 c3) ∧ W'.cell? ⟨H, 0, none⟩ = some (.pointer (some ⟨t, 0, none⟩))) ∧ W'.cell? ⟨w.heap.size, 0, none⟩ = some (.int .i64 (qn : Int)) ∧ (W'.cell? ⟨xb, 0, none⟩ = some (.int .i64 s.nextSeq) ∧ W'.cell? ⟨xb, 1, none⟩ = some (.string a.key) ∧ W'.cell? ⟨xb, 2, none⟩ = some (.string a.body) ∧ W'.cell? ⟨xb, 3, none⟩ = some (.bool false) ∧ W'.cell? ⟨xb, 4, none⟩ = some (.int .i64 a.deaths))) := fun W' h => ⟨⟨coc_ (pkp_ HH3.out.box h) 1, coc_ (pkp_ HH3.out.box h) 2, coc_ (pkp_ HH3.out.box h) 3, coc_ (pkp_ HH3.out.box h) 0⟩, by rw [← HQN.out]; exact coc_ (pkp_ HA3.out h) 0, coc_ (pkp_ HXB3.out h) 0, coc_ (pkp_ HXB3.out h) 1, coc_ (pkp_ HXB3.out h) 2, coc_ (pkp_ HXB3.out h) 3, coc_ (pkp_ HXB3.out h) 4⟩
  clear hX3 t3 hbx3 hh3 hxb3 ha3
  go_upto_region 4 with fail
  rw [← HX3.out]
  refine wp_region_held_drew (S := fun W' => (W'.cell? ⟨H, 1, none⟩ = some (.slice a1 n1 c1) ∧ W'.cell? ⟨H, 2, none⟩ = some (.slice a2 n2 c2) ∧ W'.cell? ⟨H, 3, none⟩ = some (.slice a3 n3 c3) ∧ W'.cell? ⟨H, 0, none⟩ = some (.pointer (some ⟨t, 0, none⟩))) ∧ W'.cell? ⟨w.heap.size, 0, none⟩ = some (.int .i64 (qn : Int)) ∧ (W'.cell? ⟨xb, 0, none⟩ = some (.int .i64 s.nextSeq) ∧ W'.cell? ⟨xb, 1, none⟩ = some (.string a.key) ∧ W'.cell? ⟨xb, 2, none⟩ = some (.string a.body) ∧ W'.cell? ⟨xb, 3, none⟩ = some (.bool false) ∧ W'.cell? ⟨xb, 4, none⟩ = some (.int .i64 a.deaths))) (by kernel_rfl) (HS3.out _ (Below.refl _ _).drew) (fun hHeld => ?_)
  refine tk 0 ?_
  refine tk 1 ?_
  refine tk 2 ?_
  refine tk 3 ?_
  refine tk 4 ?_
  refine tk 5 ?_
  refine tk 6 ?_
  refine tk 7 ?_
  refine tk 8 ?_
  refine tk 9 ?_
  refine tk 10 ?_
  refine tk 11 ?_
  refine rdy 12 (fun K hK => ?_)
  go_simp
  refine (cput_any p a1 a2 a3 n1 c1 n2 c2 n3 c3 (upS s) qn (arrItem s a) n t w0 X3.drew HP.out (H0.out.trans ((F3.out.drew.below (by omega) ht))) ht htn (by show n ≤ X3.heap.size; omega) HC.out hq2 HSRL.out HLO.out HIO.out HPH.out HRM.out HDR.out HBX3.out.drew).mono ?_
  rintro e w5 ⟨v5, rfl, ⟨m5, ho5⟩, hbx5, hF5, hK5⟩
  have dr : Below X3.heap.size X3 X3.drew := (Below.refl _ _).drew
  have bH := (hK5 H _ _ (pkp_ HH3.out.box dr) (by decide) (by decide)).trans (pkp_ HH3.out.box dr)
  have bA := (hK5 w.heap.size _ _ (pkp_ HA3.out dr) (by decide) (by decide)).trans (pkp_ HA3.out dr)
  have bX := (hK5 xb _ _ (pkp_ HXB3.out dr) (by decide) (by decide)).trans (pkp_ HXB3.out dr)
  have hh5 := (HH3.out.keep dr).keep2 hK5
  have SOF : Hid (∀ W' : World, W'.heap[w.heap.size]? = some (.cells #[.int .i64 a.queue, .string a.key, .string a.body, .int .i64 a.deaths] 101 (0, 0)) → W'.heap[xb]? = some (.cells #[.int .i64 s.nextSeq, .string a.key, .string a.body, .bool false, .int .i64 a.deaths] 43 (0, 0)) → ∀ u : Value, W'.heap[H]? = some (.cells #[.pointer (some ⟨t, 0, none⟩), .slice a1 n1 c1, .slice a2 n2 c2, .slice a3 n3 c3, u] 97 (0, 0)) → (W'.cell? ⟨H, 1, none⟩ = some (.slice a1 n1 c1) ∧ W'.cell? ⟨H, 2, none⟩ = some (.slice a2 n2 c2) ∧ W'.cell? ⟨H, 3, none⟩ = some (.slice a3 n3 c3) ∧ W'.cell? ⟨H, 0, none⟩ = some (.pointer (some ⟨t, 0, none⟩))) ∧ W'.cell? ⟨w.heap.size, 0, none⟩ = some (.int .i64 (qn : Int)) ∧ (W'.cell? ⟨xb, 0, none⟩ = some (.int .i64 s.nextSeq) ∧ W'.cell? ⟨xb, 1, none⟩ = some (.string a.key) ∧ W'.cell? ⟨xb, 2, none⟩ = some (.string a.body) ∧ W'.cell? ⟨xb, 3, none⟩ = some (.bool false) ∧ W'.cell? ⟨xb, 4, none⟩ = some (.int .i64 a.deaths))) := fun W' h1 h2 u h3 => ⟨⟨coc_ h3 1, coc_ h3 2, coc_ h3 3, coc_ h3 0⟩, by rw [← HQN.out]; exact coc_ h1 0, coc_ h2 0, coc_ h2 1, coc_ h2 2, coc_ h2 3, coc_ h2 4⟩
  obtain ⟨a5, c5, hv5, -, -, hn5, hr5⟩ := own_row ho5
  subst hv5
  refine hK.out _ _ (SOF.out _ bA bX _ bH) (fun _ => ?_)
  clear hK K hHeld
  try refine nrm ?_
  have s5 := hF5.size
  have s5' : X3.heap.size ≤ w5.heap.size := s5
  have e5 : (putB p (upS s) qn (arrItem s a)).length = m5 := by have h1 := ho5.1; rw [arrCells_len] at h1; omega
  have hm5 : m5 ≤ 4 := by have h1 := HARR.out.2; rw [HRS.out.2, e5] at h1; have h2 := HFEW.out.2.1; omega
  have F5 : Hid (FrameT n t w w5) := F3.out.trans ⟨hF5.os, hF5.tape, hF5.output, hF5.size, hF5.block⟩
  refine rdy 13 (fun K hK => ?_)
  go_simp
  refine (wait_any N H t (.slice a1 n1 c1) (.slice a2 n2 c2) (.slice a3 n3 c3) xs (putB p (upS s) qn (arrItem s a)) ab a5 am ac m5 c5 w5 hh5 hHN (by omega) hr5 e5 hn5 (by have := HAM.out; omega)).mono ?_
  rintro e w6 ⟨a6, c6, rfl, hh6, hHF⟩
  have hlow : ∀ g, (Value.slice ab am ac).ownBlock = some g → g < w.heap.size := fun g hg => (HROW.out.lt g hg).2
  have bA6 := (hHF.blk w.heap.size (by omega) (by omega) (fun e => by have := hlow _ e; omega)).trans bA
  have bX6 := (hHF.typ xb _ _ bX (by decide) (fun e => by rw [e, bH] at bX; cases bX)).trans bX
  refine hK.out _ _ (SOF.out _ bA6 bX6 _ hh6.box) (fun _ => ?_)
  clear hK K
  try refine nrm ?_
  refine wpAnyH_done (by kernel_rfl) ?_ _
  have hbx6 := hHF.stBox hbx5 ⟨_, bH⟩
  have F6 : Hid (FrameT n t w w6) := F5.out.trans ⟨hHF.os, hHF.tape, hHF.output, hHF.size, fun k h1 h2 => hHF.low k (by omega) (by omega)⟩
  have HHH6 := hidI hh6
  have HBX6 := hidI hbx6
  clear hh6 hbx6 hHF bA6 bX6 bA bX bH hh5 ho5 hr5 hbx5 hF5 hK5 dr
  go_wp2_with fail
  go_end0
  exact ⟨a6, am + m5, c6, rfl, by rw [HRS.out.2]; exact HHH6.out, by rw [HRS.out.1]; exact HBX6.out, F6.out⟩
end Go.Proofs.YtpoichgodamnkaaGreat
