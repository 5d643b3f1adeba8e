import Derived.Deep.RegionHeld3
import Derived.Deep.DeepCutAuto
import Derived.Test.YtpoichgodamnkaaGreatKlx
import Derived.Test.YtpoichgodamnkaaGreatKmx
import Derived.Test.YtpoichgodamnkaaGreatKcx
namespace Go.Proofs.YtpoichgodamnkaaGreat
open Go.RowKit Go.Maps
set_option linter.unusedVariables false
set_option maxRecDepth 100000
set_option maxHeartbeats 8000000
theorem takeJe : type_of% @tk := @tk
def rejX (s : StateD) (tag : Int) : Int := if outIdx s tag = s.outs.length then 5 else if 524288 < s.nextSeq then 2 else 0
theorem arE_ok {p : PlanD} {s : StateD} {l : List ArrD} (h1 : l.length ≤ 4) (h2 : ∀ a ∈ l, ArrOk p a) : arE p s l = if 524288 < s.nextSeq then 2 else 0 := by
 unfold arE
 have g1 : l.all (arrQ p.queues.length) = true := List.all_eq_true.2 (fun a ha => isNum_iff.2 (h2 a ha).q)
 have g2 : l.all (fun a => itemOk (arrI a)) = true := List.all_eq_true.2 (fun a ha => itemOk_mk (Int.le_refl _) (by show (0 : Int) < 1048576; omega) (h2 a ha).k (h2 a ha).b (h2 a ha).d.1 (h2 a ha).d.2)
 rw [if_neg (by omega), g1, g2]; simp
theorem rejE_right {p : PlanD} {s : StateD} {tag : Int} (h : stE p s = 0) : rejE p s tag = rejX s tag := by
 unfold rejE ackE rejX
 rw [if_neg (show ¬ stE p s ≠ 0 by simp [h])]
 by_cases h2 : outIdx s tag = s.outs.length
 ·rw [if_pos h2, if_pos h2]; rfl
 ·rw [if_neg h2, if_neg h2]; rfl
theorem out_cells8 {W : World} {B : Nat} {v0 v1 v2 v3 v4 v5 v6 v7 : Value} {T : TypeId} (h : W.heap[B]? = some (.cells #[v0, v1, v2, v3, v4, v5, v6, v7] T (0, 0))) : W.cell? ⟨B, 0, none⟩ = some v0 ∧ W.cell? ⟨B, 1, none⟩ = some v1 ∧ W.cell? ⟨B, 2, none⟩ = some v2 ∧ W.cell? ⟨B, 3, none⟩ = some v3 ∧ W.cell? ⟨B, 4, none⟩ = some v4 ∧ W.cell? ⟨B, 5, none⟩ = some v5 ∧ W.cell? ⟨B, 6, none⟩ = some v6 ∧ W.cell? ⟨B, 7, none⟩ = some v7 :=
 ⟨coc_ h 0, coc_ h 1, coc_ h 2, coc_ h 3, coc_ h 4, coc_ h 5, coc_ h 6, coc_ h 7⟩
theorem rej1_does (p : PlanD) (a1 a2 a3 : Option Addr) (n1 c1 n2 c2 n3 c3 : Nat) (s : StateD) (tag : Int) (back : Bool) (Bp Bt Bb : Nat) (w : World) (hp : PlanAt w a1 a2 a3 n1 n2 n3 p) (x0 : w.heap[Bp]? = some (.cells #[.slice a1 n1 c1, .slice a2 n2 c2, .slice a3 n3 c3] 26 (0, 0))) (x1 : w.heap[Bt]? = some (.cells #[.int .i64 tag] 3 (0, 0))) (x2 : w.heap[Bb]? = some (.cells #[.bool back] 4 (0, 0))) (hR : RightX p s 0) :
 DoesM 94 #[.pointer (some ⟨Bt, 0, none⟩), .pointer (some ⟨Bb, 0, none⟩), .pointer (some ⟨Bp, 0, none⟩)] w s (rejX s tag) (rejS p s tag back) := by
 intro W n t hBW hwt htn hnW hbx
 have HT := hidI (takeIn_any s tag n t W htn hnW (small_state hR).2.2.1 hbx)
 have hap : (#[Value.pointer (some ⟨t, 0, none⟩)] ++ #[Value.pointer (some ⟨Bt, 0, none⟩), Value.pointer (some ⟨Bb, 0, none⟩), Value.pointer (some ⟨Bp, 0, none⟩)] : Array Value) = #[.pointer (some ⟨t, 0, none⟩), .pointer (some ⟨Bt, 0, none⟩), .pointer (some ⟨Bb, 0, none⟩), .pointer (some ⟨Bp, 0, none⟩)] := rfl
 rw [hap]
 have c0 := coc_ (pkp_ x1 hBW) 0
 simp at c0
 have HR := hidI hR
 have lp := lth_ x0
 have lb := lth_ x2
 clear hap x1 hbx hR
 go_enter Tryz.func94, Tryz.ntmps94
 go_wp2_with fail
 refine HT.out.mono ?_
 rintro e w1 ⟨hF, hc⟩
 have HF := hidI hF
 clear hF c0
 rcases hc with ⟨he, rfl⟩ | ⟨hne, rfl, hb⟩
 ·unfold panE
  exact ⟨rfl, HF.out, .inl ⟨by unfold rejX; rw [if_pos he]; decide, by unfold rejX; rw [if_pos he]; rfl⟩⟩
 have HNE := hidI hne
 obtain ⟨i, o, hO⟩ := hasOut hne
 rw [hO.out]
 have HOUT := hidI hO
 have HB1 := hidI hb
 have HOK : Hid (itemOk o.item = true) := (HR.out.fine hO.mem).2.item
 obtain ⟨hq0, hq1, hq2⟩ := hO.queue HR.out
 obtain ⟨q, hq⟩ : ∃ q : Nat, o.queue = q := ⟨o.queue.toNat, by omega⟩
 obtain ⟨tg, tk, qu, it⟩ := o
 dsimp only at hq hq0 hq1 hq2
 subst hq
 obtain ⟨sq, ky, bd, ag, de⟩ := it
 unfold OutD.val
 dsimp only
 obtain ⟨w2, hw2⟩ : ∃ w2, w2 = w1.alloc (.cells #[.int .i64 tg, .int .i64 tk, .int .i64 (q : Int), .int .i64 sq, .string ky, .string bd, .bool ag, .int .i64 de] 91) := ⟨_, rfl⟩
 have hx2 : w2.heap[w1.heap.size]? = some (.cells #[.int .i64 tg, .int .i64 tk, .int .i64 (q : Int), .int .i64 sq, .string ky, .string bd, .bool ag, .int .i64 de] 91 (0, 0)) := by rw [hw2]; exact World.alloc_heap_new w1 _
 have l2 : Below w1.heap.size w1 w2 := by rw [hw2]; exact (Below.refl _ _).alloc (Nat.le_refl _) _
 have HW2 := hidI hw2
 obtain ⟨B5, hB5⟩ : ∃ B5, B5 = w1.heap.size := ⟨_, rfl⟩
 have HB5 := hidI hB5
 rw [← hB5] at hx2
 have HX2 := hidI hx2
 have hF2 : FrameT n t W w2 := HF.out.trans (FrameT.of_below l2 (Nat.le_trans hnW HF.out.size))
 have HF2 := hidI hF2
 have hnB : n ≤ B5 := by rw [hB5]; exact Nat.le_trans hnW HF.out.size
 have HST2 := hidI (HB1.out.keep l2)
 have L2 := hidI l2
 clear hne hb hO hw2 hx2 l2 hB5
 go_upto_region 2 with fail
 rw [← HW2.out, ← HB5.out]
 have cb := coc_ ((hF2.block Bb (by have := hBW.size; omega) (by have := hBW.size; omega)).trans (pkp_ x2 hBW)) 0
 simp at cb
 have hpl := (hF2.block Bp (by have := hBW.size; omega) (by have := hBW.size; omega)).trans (pkp_ x0 hBW)
 obtain ⟨p0, p1, p2⟩ := pl_cells hpl
 obtain ⟨v0, v1, v2, v3, v4, v5, v6, v7⟩ := out_cells8 HX2.out
 have hn2 := hp.l2
 obtain ⟨M, hM⟩ : ∃ M, M = rejM p s tag back := ⟨_, rfl⟩
 obtain ⟨A, hA⟩ : ∃ A, A = rejA p s tag back := ⟨_, rfl⟩
 have HM := hidI hM
 have HA := hidI hA
 have HRL := hidI (HR.out.less HOUT.out)
 have hF3 := hF2.size
 clear hM hA hF2 hpl
 cases back with
 | true =>
   have f6 := foc_ HX2.out 6
   go_upto_region 4 with fail
   generalize hW3 : w2.setCell ⟨B5, 6, none⟩ (.bool true) = w3
   have hx3 : w3.heap[B5]? = some (.cells #[.int .i64 tg, .int .i64 tk, .int .i64 (q : Int), .int .i64 sq, .string ky, .string bd, .bool true, .int .i64 de] 91 (0, 0)) := by rw [← hW3]; exact scb_ HX2.out (j := 6) _
   have t3 : TurnB B5 w2 w3 := by rw [← hW3]; exact sct_ w2 B5 6 _
   have hF3' := TurnB.frame HF2.out t3 hnB (Nat.le_trans hnW HF2.out.size)
   have HF3 := hidI hF3'
   have HST3 : Hid (StBox w3 n t (lessS s tag)) := HB1.out.keep (by rw [← hW3]; exact L2.out.setCell (p := ⟨B5, 6, none⟩) (by show _ ≤ B5; rw [HB5.out]; exact Nat.le_refl _) _)
   clear v0 v1 v2 v3 v4 v5 v6 v7 f6 cb p0 p1 p2 hW3
   obtain ⟨v0, v1, v2, v3, v4, v5, v6, v7⟩ := out_cells8 hx3
   obtain ⟨p0, p1, p2⟩ := pl_cells ((hF3'.block Bp (by have := hBW.size; omega) (by have := hBW.size; omega)).trans (pkp_ x0 hBW))
   clear hF3' t3 hx3
   go_wp2_with fail
   have hql : q < (lessS s tag).ready.length := by show q < s.ready.length; omega
   have hdl := HR.out.dropped_le
   refine (cput_any p a1 a2 a3 n1 c1 n2 c2 n3 c3 (lessS s tag) q ⟨sq, ky, bd, true, de⟩ n t w w3 hp (hBW.trans (HF3.out.below (by have := hBW.size; omega) hwt)) hwt htn (Nat.le_trans hnW HF3.out.size) HR.out.pl (by rw [← hn2]; omega) (by rw [← hn2]; exact HR.out.len) (HRL.out.line _ (lineAt_mem hql)) HOK.out (notin_has hql (HRL.out.line _ (lineAt_mem hql)) (HOUT.out.notin HR.out)) (HRL.out.room q hql) ⟨hdl.1, by show s.dropped ≤ _; omega⟩ HST3.out).mono ?_
   rintro e w5 ⟨v5', rfl, har, hst, hF5', -⟩
   have hMe : putS p (lessS s tag) q ⟨sq, ky, bd, true, de⟩ = M := by rw [HM.out]; unfold rejM; rw [if_pos rfl, HOUT.out.out]; rfl
   have hAe : putB p (lessS s tag) q ⟨sq, ky, bd, true, de⟩ = A := by rw [HA.out]; unfold rejA; rw [if_pos rfl, HOUT.out.out]; rfl
   rw [hMe] at hst
   rw [hAe] at har
   have hF5 := HF3.out.trans hF5'
   obtain ⟨ma, hra⟩ := har
   obtain ⟨aa, ca, hva, hca, hcm, hna, -⟩ := own_row hra
   subst hva
   have HRA : Hid (ArrsAt w5 aa A) := own_at hra
   have HNA := hidI hna
   have hAL : A.length = ma := by have h := hra.1; rw [arrCells_len] at h; omega
   have HAL := hidI hAL
   have HAE : Hid (letE p M A = rejX s tag) := by
    show letE p M A = _
    obtain ⟨g1, g2, g3⟩ := HR.out.rejM HOUT.out true
    unfold letE rejX
    rw [HM.out, HA.out, if_neg (by simp [g1.ok]), arE_ok g3 g2, (rejM_seq p s tag true).1, if_neg HNE.out]
   obtain ⟨b1, b2, b3, m1, d1, m2, d2, m3, d3, hbv, hov⟩ := hst
   have HBV := hidI hbv
   have HOV := hidI hov
   have KW : Hid (Below w.heap.size w w5) := hBW.trans (hF5.below (by have := hBW.size; omega) hwt)
   have HPV := hidI (hp.keep KW.out)
   have HF5 := hidI hF5
   have HN5 : Hid (n ≤ w5.heap.size) := Nat.le_trans hnW hF5.size
   have SA : Hid (∀ W', Below w5.heap.size w5 W' → ((W'.cell? ⟨Bp, 0, none⟩ = some (.slice a1 n1 c1) ∧ W'.cell? ⟨Bp, 1, none⟩ = some (.slice a2 n2 c2) ∧ W'.cell? ⟨Bp, 2, none⟩ = some (.slice a3 n3 c3)) ∧ (W'.cell? ⟨t, 0, none⟩ = some (.slice b1 m1 d1) ∧ W'.cell? ⟨t, 1, none⟩ = some (.slice b2 m2 d2) ∧ W'.cell? ⟨t, 2, none⟩ = some (.slice b3 m3 d3) ∧ W'.cell? ⟨t, 3, none⟩ = some (.int .i64 M.nextSeq) ∧ W'.cell? ⟨t, 4, none⟩ = some (.int .i64 M.nextTag) ∧ W'.cell? ⟨t, 5, none⟩ = some (.int .i64 M.came) ∧ W'.cell? ⟨t, 6, none⟩ = some (.int .i64 M.acked) ∧ W'.cell? ⟨t, 7, none⟩ = some (.int .i64 M.dropped)))) := fun W' h => by
    exact ⟨pl_cells (pkp_ (pkp_ x0 KW.out) h), st_cells (pkp_ HBV.out h)⟩
   obtain ⟨E, hE⟩ : ∃ E, E = letE p M A := ⟨_, rfl⟩
   have HE := hidI hE
   clear hbv hov hra hna hAL hE hF5 v0 v1 v2 v3 v4 v5 v6 v7 p0 p1 p2 hMe hAe hF5' hql hdl
   go_upto_region 6 with fail
   go_cut [7, 8, 9] (fun s7 s8 s9 wx => ∃ BB u num, s7 = .pointer (some ⟨BB, 0, none⟩) ∧ s8 = .int .i64 num ∧ s9 = .int .i64 E ∧ wx.heap[BB]? = some (.cells u 31 (0, 0)) ∧ StRes wx n (.agg u) E (arrS p 600 M A) ∧ Below w5.heap.size w5 wx)
   case first =>
    refine wp_region_held_drew (S := fun W' => (W'.cell? ⟨Bp, 0, none⟩ = some (.slice a1 n1 c1) ∧ W'.cell? ⟨Bp, 1, none⟩ = some (.slice a2 n2 c2) ∧ W'.cell? ⟨Bp, 2, none⟩ = some (.slice a3 n3 c3)) ∧ (W'.cell? ⟨t, 0, none⟩ = some (.slice b1 m1 d1) ∧ W'.cell? ⟨t, 1, none⟩ = some (.slice b2 m2 d2) ∧ W'.cell? ⟨t, 2, none⟩ = some (.slice b3 m3 d3) ∧ W'.cell? ⟨t, 3, none⟩ = some (.int .i64 M.nextSeq) ∧ W'.cell? ⟨t, 4, none⟩ = some (.int .i64 M.nextTag) ∧ W'.cell? ⟨t, 5, none⟩ = some (.int .i64 M.came) ∧ W'.cell? ⟨t, 6, none⟩ = some (.int .i64 M.acked) ∧ W'.cell? ⟨t, 7, none⟩ = some (.int .i64 M.dropped))) (by kernel_rfl) (SA.out _ (Below.refl _ _).drew) (fun hHeld => ?_)
    obtain ⟨wq, hwq⟩ : ∃ wq, wq = w5.drew := ⟨_, rfl⟩
    have Lwq : Hid (Below w5.heap.size w5 wq) := by show Below w5.heap.size w5 wq; rw [hwq]; exact (Below.refl _ _).drew
    rw [← hwq] at hHeld ⊢
    clear hwq
    refine takeJe 0 ?_
    refine takeJe 1 ?_
    refine takeJe 2 ?_
    refine takeJe 3 ?_
    refine takeJe 4 ?_
    refine wpAnyH_ready (rs := [5, 10]) (by kernel_rfl) (by simp) ?_
    refine AllReadyH.cons rfl (fun K hK => ?_) (AllReadyH.cons rfl (fun K hK => ?_) AllReadyH.nil)
    ·go_simp
     refine (letters_any p a1 a2 a3 n1 c1 n2 c2 n3 c3 M b1 b2 b3 m1 d1 m2 d2 m3 d3 A aa ma ca _ (HPV.out.keep Lwq.out) (HOV.out.keep Lwq.out).state (HOV.out.keep Lwq.out).nils.1 (HOV.out.keep Lwq.out).nils.2 (HRA.out.keep Lwq.out) HAL.out (by omega) HNA.out).mono ?_
     rintro e wd ⟨vd, rfl, hresd, kd⟩
     rw [← HE.out] at hresd ⊢
     obtain ⟨x1, x2, x3, q1, e1, q2, e2, q3, e3, i1, i2, i3, i4, i5, rfl⟩ := hresd.shape
     have Lwd : Hid (Below w5.heap.size w5 wd) := Lwq.out.trans (kd.mono Lwq.out.size)
     have HSd := hidI (hresd.lower (n' := n) (by have := Lwq.out.size; have := HN5.out; omega))
     obtain ⟨num, hnum⟩ : ∃ num, num = numOf E ((arrN p 600 M A : Nat)) := ⟨_, rfl⟩
     rw [← hnum]
     clear hnum
     refine hK.out _ _ (SA.out _ Lwd.out) (fun hHd => ?_)
     clear hK K hresd kd
     try refine nrm ?_
     refine takeJe 6 ?_
     refine takeJe 7 ?_
     refine takeJe 8 ?_
     refine takeJe 9 ?_
     refine rdy 10 (fun K hK => ?_)
     go_simp
     obtain ⟨wa, hwa⟩ : ∃ wa, wa = wd.alloc (.cells #[.slice none 0 0, .slice none 0 0, .slice none 0 0, .int .i64 0, .int .i64 0, .int .i64 0, .int .i64 0, .int .i64 0] 31) := ⟨_, rfl⟩
     have la : Below wd.heap.size wd wa := by rw [hwa]; exact (Below.refl _ _).alloc (Nat.le_refl _) _
     have Lwa : Hid (Below w5.heap.size w5 wa) := Lwd.out.trans (la.mono Lwd.out.size)
     have ba : wa.heap[wd.heap.size]? = some (.cells #[.slice none 0 0, .slice none 0 0, .slice none 0 0, .int .i64 0, .int .i64 0, .int .i64 0, .int .i64 0, .int .i64 0] 31 (0, 0)) := by rw [hwa]; exact World.alloc_heap_new wd _
     obtain ⟨BB, hBB⟩ : ∃ BB, BB = wd.heap.size := ⟨_, rfl⟩
     have hBg : w5.heap.size ≤ BB := by rw [hBB]; exact Lwd.out.size
     rw [← hwa, ← hBB]
     rw [← hBB] at ba
     have HSa := hidI (HSd.out.keep la)
     refine hK.out _ _ (SA.out _ Lwa.out) (fun hHa => ?_)
     clear hK K hwa hBB
     try refine nrm ?_
     refine rdy 11 (fun K hK => ?_)
     obtain ⟨c0, c1', c2', c3', c4, c5, c6, c7⟩ := st_cells ba
     have g0 := foc_ ba 0
     have g1 := foc_ ba 1
     have g2 := foc_ ba 2
     have g3 := foc_ ba 3
     have g4 := foc_ ba 4
     have g5 := foc_ ba 5
     have g6 := foc_ ba 6
     have g7 := foc_ ba 7
     go_simp
     generalize hWz : World.setCell (World.setCell (World.setCell (World.setCell (World.setCell (World.setCell (World.setCell (World.setCell wa _ _) _ _) _ _) _ _) _ _) _ _) _ _) _ _ = Wz
     obtain ⟨bz, tz⟩ := store8 ba hWz
     have lz : Below w5.heap.size w5 Wz := Lwa.out.trans (tz.below Lwa.out.size hBg)
     have rz := HSa.out.turn ba tz
     have RL := hidI (And.intro bz (And.intro rz lz))
     refine hK.out _ _ (SA.out _ lz) (fun hHz => ?_)
     clear hK K
     try refine nrm ?_
     refine takeJe 12 ?_
     refine takeJe 13 ?_
     refine wpAnyH_done (by kernel_rfl) ?_ _
     clear c0 c1' c2' c3' c4 c5 c6 c7 g0 g1 g2 g3 g4 g5 g6 g7 bz rz lz hHz tz hWz
     go_wp2_with fail
     go_meet
     case rel => exact ⟨BB, _, num, rfl, rfl, rfl, RL.out⟩
    ·go_simp
     obtain ⟨wa, hwa⟩ : ∃ wa, wa = wq.alloc (.cells #[.slice none 0 0, .slice none 0 0, .slice none 0 0, .int .i64 0, .int .i64 0, .int .i64 0, .int .i64 0, .int .i64 0] 31) := ⟨_, rfl⟩
     have la : Below wq.heap.size wq wa := by rw [hwa]; exact (Below.refl _ _).alloc (Nat.le_refl _) _
     have Lwa : Hid (Below w5.heap.size w5 wa) := Lwq.out.trans (la.mono Lwq.out.size)
     have ba : wa.heap[wq.heap.size]? = some (.cells #[.slice none 0 0, .slice none 0 0, .slice none 0 0, .int .i64 0, .int .i64 0, .int .i64 0, .int .i64 0, .int .i64 0] 31 (0, 0)) := by rw [hwa]; exact World.alloc_heap_new wq _
     obtain ⟨BB, hBB⟩ : ∃ BB, BB = wq.heap.size := ⟨_, rfl⟩
     have hBg : w5.heap.size ≤ BB := by rw [hBB]; exact Lwq.out.size
     rw [← hwa, ← hBB]
     rw [← hBB] at ba
     refine hK.out _ _ (SA.out _ Lwa.out) (fun hHa => ?_)
     clear hK K hwa hBB
     try refine nrm ?_
     refine rdy 5 (fun K hK => ?_)
     go_simp
     refine (letters_any p a1 a2 a3 n1 c1 n2 c2 n3 c3 M b1 b2 b3 m1 d1 m2 d2 m3 d3 A aa ma ca _ (HPV.out.keep Lwa.out) (HOV.out.keep Lwa.out).state (HOV.out.keep Lwa.out).nils.1 (HOV.out.keep Lwa.out).nils.2 (HRA.out.keep Lwa.out) HAL.out (by omega) HNA.out).mono ?_
     rintro e wd ⟨vd, rfl, hresd, kd⟩
     rw [← HE.out] at hresd ⊢
     obtain ⟨x1, x2, x3, q1, e1, q2, e2, q3, e3, i1, i2, i3, i4, i5, rfl⟩ := hresd.shape
     have Lwd : Hid (Below w5.heap.size w5 wd) := Lwa.out.trans (kd.mono Lwa.out.size)
     have HSd := hidI (hresd.lower (n' := n) (by have := Lwa.out.size; have := HN5.out; omega))
     obtain ⟨num, hnum⟩ : ∃ num, num = numOf E ((arrN p 600 M A : Nat)) := ⟨_, rfl⟩
     rw [← hnum]
     clear hnum
     have bd := pkp_ ba kd
     refine hK.out _ _ (SA.out _ Lwd.out) (fun hHd => ?_)
     clear hK K hresd kd
     try refine nrm ?_
     refine takeJe 6 ?_
     refine takeJe 7 ?_
     refine takeJe 8 ?_
     refine takeJe 9 ?_
     refine rdy 11 (fun K hK => ?_)
     obtain ⟨c0, c1', c2', c3', c4, c5, c6, c7⟩ := st_cells bd
     have g0 := foc_ bd 0
     have g1 := foc_ bd 1
     have g2 := foc_ bd 2
     have g3 := foc_ bd 3
     have g4 := foc_ bd 4
     have g5 := foc_ bd 5
     have g6 := foc_ bd 6
     have g7 := foc_ bd 7
     go_simp
     generalize hWz : World.setCell (World.setCell (World.setCell (World.setCell (World.setCell (World.setCell (World.setCell (World.setCell wd _ _) _ _) _ _) _ _) _ _) _ _) _ _) _ _ = Wz
     obtain ⟨bz, tz⟩ := store8 bd hWz
     have lz : Below w5.heap.size w5 Wz := Lwd.out.trans (tz.below Lwd.out.size hBg)
     have rz := HSd.out.turn bd tz
     have RL := hidI (And.intro bz (And.intro rz lz))
     refine hK.out _ _ (SA.out _ lz) (fun hHz => ?_)
     clear hK K
     try refine nrm ?_
     refine takeJe 12 ?_
     refine takeJe 13 ?_
     refine wpAnyH_done (by kernel_rfl) ?_ _
     clear c0 c1' c2' c3' c4 c5 c6 c7 g0 g1 g2 g3 g4 g5 g6 g7 bz rz lz hHz tz hWz
     go_wp2_with fail
     go_meet
     case rel => exact ⟨BB, _, num, rfl, rfl, rfl, RL.out⟩
   case rest =>
    obtain ⟨BB, u, num, rfl, rfl, rfl, hbb, hrs, hBx⟩ := hcut
    have HBB := hidI hbb
    have HRS := hidI hrs
    have KX := hidI hBx
    have hsx := hBx.size
    clear hbb hrs hBx
    by_cases hz : E = 0
    rotate_left
    ·have HZN := hidI hz
     clear hz
     go_wp2_with fail
     refine (ok_yes E _ _ (one_new _ _ _) (by simp) HZN.out).mono ?_
     rintro e w6 ⟨rfl, k6⟩
     have ka := KX.out.alloc hsx (.cells #[.int .i64 E] 33)
     exact ⟨rfl, HF5.out.trans (FrameT.of_below (ka.trans (k6.mono ka.size)) HN5.out), .inl ⟨by rw [← HAE.out, ← HE.out]; exact HZN.out, by rw [← HAE.out, ← HE.out]; rfl⟩⟩
    have HEZ := hidI hz
    have hE0 := HRS.out.1 hz
    obtain ⟨y1, y2, y3, r1, f1, r2, f2, r3, f3, hv, ho⟩ := hE0
    cases hv
    have HOX := hidI ho
    have ka := KX.out.alloc KX.out.size (.cells #[.int .i64 0] 33)
    clear ho
    subst hz
    go_wp2_with fail
    refine (ok_no _ _ (one_new _ _ _) (by simp)).mono ?_
    rintro e w6 ⟨rfl, k6⟩
    have K6 := hidI (ka.trans (k6.mono ka.size))
    have HO6 := hidI ((HOX.out.keep ((Below.refl _ _).alloc (Nat.le_refl _) (.cells #[.int .i64 0] 33))).keep k6)
    have B6 := hidI (pkp_ (pkp_ HBB.out ((Below.refl _ _).alloc (Nat.le_refl _) (.cells #[.int .i64 0] 33))) k6)
    have T6 := hidI (pkp_ HBV.out K6.out)
    obtain ⟨c0, c1', c2', c3', c4, c5, c6, c7⟩ := st_cells B6.out
    obtain ⟨z0, z1, z2, z3, z4, z5, z6, z7⟩ := st_cells T6.out
    have g0 := foc_ T6.out 0
    have g1 := foc_ T6.out 1
    have g2 := foc_ T6.out 2
    have g3 := foc_ T6.out 3
    have g4 := foc_ T6.out 4
    have g5 := foc_ T6.out 5
    have g6 := foc_ T6.out 6
    have g7 := foc_ T6.out 7
    clear ka k6
    go_wp2_with fail
    generalize hWz : World.setCell (World.setCell (World.setCell (World.setCell (World.setCell (World.setCell (World.setCell (World.setCell w6 _ _) _ _) _ _) _ _) _ _) _ _) _ _) _ _ = Wz
    obtain ⟨bz, tz⟩ := store8 T6.out hWz
    have oz := HO6.out.turn T6.out (by decide) tz
    rw [HM.out, HA.out] at oz bz
    go_end0
    exact ⟨(HF5.out.trans (FrameT.of_below K6.out HN5.out)).turnB tz (by have := K6.out.size; have := HN5.out; omega), .inr ⟨by rw [← HAE.out]; exact HE.out.symm, rfl, ⟨_, _, _, _, _, _, _, _, _, bz, oz⟩⟩⟩
 | false =>
   go_wp2_with fail
   have hdl := HR.out.dropped_le
   refine (drop_any p a1 a2 a3 n1 c1 n2 c2 n3 c3 (lessS s tag) q ⟨sq, ky, bd, ag, de⟩ n t w w2 hp (hBW.trans (HF2.out.below (by have := hBW.size; omega) hwt)) hwt HR.out.pl (by rw [← hn2]; omega) HOK.out ⟨hdl.1, by show s.dropped ≤ _; omega⟩ HST2.out).mono ?_
   rintro e w5 ⟨v5', rfl, har, hst, hF5'⟩
   have hMe : { lessS s tag with dropped := (lessS s tag).dropped + 1 } = M := by rw [HM.out]; unfold rejM; rw [if_neg (by decide)]; rfl
   have hAe : dieL p q ⟨sq, ky, bd, ag, de⟩ = A := by rw [HA.out]; unfold rejA; rw [if_neg (by decide), HOUT.out.out]; rfl
   rw [hMe] at hst
   rw [hAe] at har
   have hF5 : FrameT n t W w5 := HF2.out.trans ⟨hF5'.os, hF5'.tape, hF5'.output, hF5'.size, fun k h1 h2 => hF5'.block k (by omega) h2⟩
   obtain ⟨ma, hra⟩ := har
   obtain ⟨aa, ca, hva, hca, hcm, hna, -⟩ := own_row hra
   subst hva
   have HRA : Hid (ArrsAt w5 aa A) := own_at hra
   have HNA := hidI hna
   have hAL : A.length = ma := by have h := hra.1; rw [arrCells_len] at h; omega
   have HAL := hidI hAL
   have HAE : Hid (letE p M A = rejX s tag) := by
    show letE p M A = _
    obtain ⟨g1, g2, g3⟩ := HR.out.rejM HOUT.out false
    unfold letE rejX
    rw [HM.out, HA.out, if_neg (by simp [g1.ok]), arE_ok g3 g2, (rejM_seq p s tag false).1, if_neg HNE.out]
   obtain ⟨b1, b2, b3, m1, d1, m2, d2, m3, d3, hbv, hov⟩ := hst
   have HBV := hidI hbv
   have HOV := hidI hov
   have KW : Hid (Below w.heap.size w w5) := hBW.trans (hF5.below (by have := hBW.size; omega) hwt)
   have HPV := hidI (hp.keep KW.out)
   have HF5 := hidI hF5
   have HN5 : Hid (n ≤ w5.heap.size) := Nat.le_trans hnW hF5.size
   have SA : Hid (∀ W', Below w5.heap.size w5 W' → ((W'.cell? ⟨Bp, 0, none⟩ = some (.slice a1 n1 c1) ∧ W'.cell? ⟨Bp, 1, none⟩ = some (.slice a2 n2 c2) ∧ W'.cell? ⟨Bp, 2, none⟩ = some (.slice a3 n3 c3)) ∧ (W'.cell? ⟨t, 0, none⟩ = some (.slice b1 m1 d1) ∧ W'.cell? ⟨t, 1, none⟩ = some (.slice b2 m2 d2) ∧ W'.cell? ⟨t, 2, none⟩ = some (.slice b3 m3 d3) ∧ W'.cell? ⟨t, 3, none⟩ = some (.int .i64 M.nextSeq) ∧ W'.cell? ⟨t, 4, none⟩ = some (.int .i64 M.nextTag) ∧ W'.cell? ⟨t, 5, none⟩ = some (.int .i64 M.came) ∧ W'.cell? ⟨t, 6, none⟩ = some (.int .i64 M.acked) ∧ W'.cell? ⟨t, 7, none⟩ = some (.int .i64 M.dropped)))) := fun W' h => by
    exact ⟨pl_cells (pkp_ (pkp_ x0 KW.out) h), st_cells (pkp_ HBV.out h)⟩
   obtain ⟨E, hE⟩ : ∃ E, E = letE p M A := ⟨_, rfl⟩
   have HE := hidI hE
   clear hbv hov hra hna hAL hE hF5 v0 v1 v2 v3 v4 v5 v6 v7 p0 p1 p2 hMe hAe hF5' hdl cb
   go_upto_region 6 with fail
   go_cut [7, 8, 9] (fun s7 s8 s9 wx => ∃ BB u num, s7 = .pointer (some ⟨BB, 0, none⟩) ∧ s8 = .int .i64 num ∧ s9 = .int .i64 E ∧ wx.heap[BB]? = some (.cells u 31 (0, 0)) ∧ StRes wx n (.agg u) E (arrS p 600 M A) ∧ Below w5.heap.size w5 wx)
   case first =>
    refine wp_region_held_drew (S := fun W' => (W'.cell? ⟨Bp, 0, none⟩ = some (.slice a1 n1 c1) ∧ W'.cell? ⟨Bp, 1, none⟩ = some (.slice a2 n2 c2) ∧ W'.cell? ⟨Bp, 2, none⟩ = some (.slice a3 n3 c3)) ∧ (W'.cell? ⟨t, 0, none⟩ = some (.slice b1 m1 d1) ∧ W'.cell? ⟨t, 1, none⟩ = some (.slice b2 m2 d2) ∧ W'.cell? ⟨t, 2, none⟩ = some (.slice b3 m3 d3) ∧ W'.cell? ⟨t, 3, none⟩ = some (.int .i64 M.nextSeq) ∧ W'.cell? ⟨t, 4, none⟩ = some (.int .i64 M.nextTag) ∧ W'.cell? ⟨t, 5, none⟩ = some (.int .i64 M.came) ∧ W'.cell? ⟨t, 6, none⟩ = some (.int .i64 M.acked) ∧ W'.cell? ⟨t, 7, none⟩ = some (.int .i64 M.dropped))) (by kernel_rfl) (SA.out _ (Below.refl _ _).drew) (fun hHeld => ?_)
    obtain ⟨wq, hwq⟩ : ∃ wq, wq = w5.drew := ⟨_, rfl⟩
    have Lwq : Hid (Below w5.heap.size w5 wq) := by show Below w5.heap.size w5 wq; rw [hwq]; exact (Below.refl _ _).drew
    rw [← hwq] at hHeld ⊢
    clear hwq
    refine takeJe 0 ?_
    refine takeJe 1 ?_
    refine takeJe 2 ?_
    refine takeJe 3 ?_
    refine takeJe 4 ?_
    refine wpAnyH_ready (rs := [5, 10]) (by kernel_rfl) (by simp) ?_
    refine AllReadyH.cons rfl (fun K hK => ?_) (AllReadyH.cons rfl (fun K hK => ?_) AllReadyH.nil)
    ·go_simp
     refine (letters_any p a1 a2 a3 n1 c1 n2 c2 n3 c3 M b1 b2 b3 m1 d1 m2 d2 m3 d3 A aa ma ca _ (HPV.out.keep Lwq.out) (HOV.out.keep Lwq.out).state (HOV.out.keep Lwq.out).nils.1 (HOV.out.keep Lwq.out).nils.2 (HRA.out.keep Lwq.out) HAL.out (by omega) HNA.out).mono ?_
     rintro e wd ⟨vd, rfl, hresd, kd⟩
     rw [← HE.out] at hresd ⊢
     obtain ⟨x1, x2, x3, q1, e1, q2, e2, q3, e3, i1, i2, i3, i4, i5, rfl⟩ := hresd.shape
     have Lwd : Hid (Below w5.heap.size w5 wd) := Lwq.out.trans (kd.mono Lwq.out.size)
     have HSd := hidI (hresd.lower (n' := n) (by have := Lwq.out.size; have := HN5.out; omega))
     obtain ⟨num, hnum⟩ : ∃ num, num = numOf E ((arrN p 600 M A : Nat)) := ⟨_, rfl⟩
     rw [← hnum]
     clear hnum
     refine hK.out _ _ (SA.out _ Lwd.out) (fun hHd => ?_)
     clear hK K hresd kd
     try refine nrm ?_
     refine takeJe 6 ?_
     refine takeJe 7 ?_
     refine takeJe 8 ?_
     refine takeJe 9 ?_
     refine rdy 10 (fun K hK => ?_)
     go_simp
     obtain ⟨wa, hwa⟩ : ∃ wa, wa = wd.alloc (.cells #[.slice none 0 0, .slice none 0 0, .slice none 0 0, .int .i64 0, .int .i64 0, .int .i64 0, .int .i64 0, .int .i64 0] 31) := ⟨_, rfl⟩
     have la : Below wd.heap.size wd wa := by rw [hwa]; exact (Below.refl _ _).alloc (Nat.le_refl _) _
     have Lwa : Hid (Below w5.heap.size w5 wa) := Lwd.out.trans (la.mono Lwd.out.size)
     have ba : wa.heap[wd.heap.size]? = some (.cells #[.slice none 0 0, .slice none 0 0, .slice none 0 0, .int .i64 0, .int .i64 0, .int .i64 0, .int .i64 0, .int .i64 0] 31 (0, 0)) := by rw [hwa]; exact World.alloc_heap_new wd _
     obtain ⟨BB, hBB⟩ : ∃ BB, BB = wd.heap.size := ⟨_, rfl⟩
     have hBg : w5.heap.size ≤ BB := by rw [hBB]; exact Lwd.out.size
     rw [← hwa, ← hBB]
     rw [← hBB] at ba
     have HSa := hidI (HSd.out.keep la)
     refine hK.out _ _ (SA.out _ Lwa.out) (fun hHa => ?_)
     clear hK K hwa hBB
     try refine nrm ?_
     refine rdy 11 (fun K hK => ?_)
     obtain ⟨c0, c1', c2', c3', c4, c5, c6, c7⟩ := st_cells ba
     have g0 := foc_ ba 0
     have g1 := foc_ ba 1
     have g2 := foc_ ba 2
     have g3 := foc_ ba 3
     have g4 := foc_ ba 4
     have g5 := foc_ ba 5
     have g6 := foc_ ba 6
     have g7 := foc_ ba 7
     go_simp
     generalize hWz : World.setCell (World.setCell (World.setCell (World.setCell (World.setCell (World.setCell (World.setCell (World.setCell wa _ _) _ _) _ _) _ _) _ _) _ _) _ _) _ _ = Wz
     obtain ⟨bz, tz⟩ := store8 ba hWz
     have lz : Below w5.heap.size w5 Wz := Lwa.out.trans (tz.below Lwa.out.size hBg)
     have rz := HSa.out.turn ba tz
     have RL := hidI (And.intro bz (And.intro rz lz))
     refine hK.out _ _ (SA.out _ lz) (fun hHz => ?_)
     clear hK K
     try refine nrm ?_
     refine takeJe 12 ?_
     refine takeJe 13 ?_
     refine wpAnyH_done (by kernel_rfl) ?_ _
     clear c0 c1' c2' c3' c4 c5 c6 c7 g0 g1 g2 g3 g4 g5 g6 g7 bz rz lz hHz tz hWz
     go_wp2_with fail
     go_meet
     case rel => exact ⟨BB, _, num, rfl, rfl, rfl, RL.out⟩
    ·go_simp
     obtain ⟨wa, hwa⟩ : ∃ wa, wa = wq.alloc (.cells #[.slice none 0 0, .slice none 0 0, .slice none 0 0, .int .i64 0, .int .i64 0, .int .i64 0, .int .i64 0, .int .i64 0] 31) := ⟨_, rfl⟩
     have la : Below wq.heap.size wq wa := by rw [hwa]; exact (Below.refl _ _).alloc (Nat.le_refl _) _
     have Lwa : Hid (Below w5.heap.size w5 wa) := Lwq.out.trans (la.mono Lwq.out.size)
     have ba : wa.heap[wq.heap.size]? = some (.cells #[.slice none 0 0, .slice none 0 0, .slice none 0 0, .int .i64 0, .int .i64 0, .int .i64 0, .int .i64 0, .int .i64 0] 31 (0, 0)) := by rw [hwa]; exact World.alloc_heap_new wq _
     obtain ⟨BB, hBB⟩ : ∃ BB, BB = wq.heap.size := ⟨_, rfl⟩
     have hBg : w5.heap.size ≤ BB := by rw [hBB]; exact Lwq.out.size
     rw [← hwa, ← hBB]
     rw [← hBB] at ba
     refine hK.out _ _ (SA.out _ Lwa.out) (fun hHa => ?_)
     clear hK K hwa hBB
     try refine nrm ?_
     refine rdy 5 (fun K hK => ?_)
     go_simp
     refine (letters_any p a1 a2 a3 n1 c1 n2 c2 n3 c3 M b1 b2 b3 m1 d1 m2 d2 m3 d3 A aa ma ca _ (HPV.out.keep Lwa.out) (HOV.out.keep Lwa.out).state (HOV.out.keep Lwa.out).nils.1 (HOV.out.keep Lwa.out).nils.2 (HRA.out.keep Lwa.out) HAL.out (by omega) HNA.out).mono ?_
     rintro e wd ⟨vd, rfl, hresd, kd⟩
     rw [← HE.out] at hresd ⊢
     obtain ⟨x1, x2, x3, q1, e1, q2, e2, q3, e3, i1, i2, i3, i4, i5, rfl⟩ := hresd.shape
     have Lwd : Hid (Below w5.heap.size w5 wd) := Lwa.out.trans (kd.mono Lwa.out.size)
     have HSd := hidI (hresd.lower (n' := n) (by have := Lwa.out.size; have := HN5.out; omega))
     obtain ⟨num, hnum⟩ : ∃ num, num = numOf E ((arrN p 600 M A : Nat)) := ⟨_, rfl⟩
     rw [← hnum]
     clear hnum
     have bd := pkp_ ba kd
     refine hK.out _ _ (SA.out _ Lwd.out) (fun hHd => ?_)
     clear hK K hresd kd
     try refine nrm ?_
     refine takeJe 6 ?_
     refine takeJe 7 ?_
     refine takeJe 8 ?_
     refine takeJe 9 ?_
     refine rdy 11 (fun K hK => ?_)
     obtain ⟨c0, c1', c2', c3', c4, c5, c6, c7⟩ := st_cells bd
     have g0 := foc_ bd 0
     have g1 := foc_ bd 1
     have g2 := foc_ bd 2
     have g3 := foc_ bd 3
     have g4 := foc_ bd 4
     have g5 := foc_ bd 5
     have g6 := foc_ bd 6
     have g7 := foc_ bd 7
     go_simp
     generalize hWz : World.setCell (World.setCell (World.setCell (World.setCell (World.setCell (World.setCell (World.setCell (World.setCell wd _ _) _ _) _ _) _ _) _ _) _ _) _ _) _ _ = Wz
     obtain ⟨bz, tz⟩ := store8 bd hWz
     have lz : Below w5.heap.size w5 Wz := Lwd.out.trans (tz.below Lwd.out.size hBg)
     have rz := HSd.out.turn bd tz
     have RL := hidI (And.intro bz (And.intro rz lz))
     refine hK.out _ _ (SA.out _ lz) (fun hHz => ?_)
     clear hK K
     try refine nrm ?_
     refine takeJe 12 ?_
     refine takeJe 13 ?_
     refine wpAnyH_done (by kernel_rfl) ?_ _
     clear c0 c1' c2' c3' c4 c5 c6 c7 g0 g1 g2 g3 g4 g5 g6 g7 bz rz lz hHz tz hWz
     go_wp2_with fail
     go_meet
     case rel => exact ⟨BB, _, num, rfl, rfl, rfl, RL.out⟩
   case rest =>
    obtain ⟨BB, u, num, rfl, rfl, rfl, hbb, hrs, hBx⟩ := hcut
    have HBB := hidI hbb
    have HRS := hidI hrs
    have KX := hidI hBx
    have hsx := hBx.size
    clear hbb hrs hBx
    by_cases hz : E = 0
    rotate_left
    ·have HZN := hidI hz
     clear hz
     go_wp2_with fail
     refine (ok_yes E _ _ (one_new _ _ _) (by simp) HZN.out).mono ?_
     rintro e w6 ⟨rfl, k6⟩
     have ka := KX.out.alloc hsx (.cells #[.int .i64 E] 33)
     exact ⟨rfl, HF5.out.trans (FrameT.of_below (ka.trans (k6.mono ka.size)) HN5.out), .inl ⟨by rw [← HAE.out, ← HE.out]; exact HZN.out, by rw [← HAE.out, ← HE.out]; rfl⟩⟩
    have HEZ := hidI hz
    have hE0 := HRS.out.1 hz
    obtain ⟨y1, y2, y3, r1, f1, r2, f2, r3, f3, hv, ho⟩ := hE0
    cases hv
    have HOX := hidI ho
    have ka := KX.out.alloc KX.out.size (.cells #[.int .i64 0] 33)
    clear ho
    subst hz
    go_wp2_with fail
    refine (ok_no _ _ (one_new _ _ _) (by simp)).mono ?_
    rintro e w6 ⟨rfl, k6⟩
    have K6 := hidI (ka.trans (k6.mono ka.size))
    have HO6 := hidI ((HOX.out.keep ((Below.refl _ _).alloc (Nat.le_refl _) (.cells #[.int .i64 0] 33))).keep k6)
    have B6 := hidI (pkp_ (pkp_ HBB.out ((Below.refl _ _).alloc (Nat.le_refl _) (.cells #[.int .i64 0] 33))) k6)
    have T6 := hidI (pkp_ HBV.out K6.out)
    obtain ⟨c0, c1', c2', c3', c4, c5, c6, c7⟩ := st_cells B6.out
    obtain ⟨z0, z1, z2, z3, z4, z5, z6, z7⟩ := st_cells T6.out
    have g0 := foc_ T6.out 0
    have g1 := foc_ T6.out 1
    have g2 := foc_ T6.out 2
    have g3 := foc_ T6.out 3
    have g4 := foc_ T6.out 4
    have g5 := foc_ T6.out 5
    have g6 := foc_ T6.out 6
    have g7 := foc_ T6.out 7
    clear ka k6
    go_wp2_with fail
    generalize hWz : World.setCell (World.setCell (World.setCell (World.setCell (World.setCell (World.setCell (World.setCell (World.setCell w6 _ _) _ _) _ _) _ _) _ _) _ _) _ _) _ _ = Wz
    obtain ⟨bz, tz⟩ := store8 T6.out hWz
    have oz := HO6.out.turn T6.out (by decide) tz
    rw [HM.out, HA.out] at oz bz
    go_end0
    exact ⟨(HF5.out.trans (FrameT.of_below K6.out HN5.out)).turnB tz (by have := K6.out.size; have := HN5.out; omega), .inr ⟨by rw [← HAE.out]; exact HE.out.symm, rfl, ⟨_, _, _, _, _, _, _, _, _, bz, oz⟩⟩⟩
theorem reject_any (p : PlanD) (a1 a2 a3 : Option Addr) (n1 c1 n2 c2 n3 c3 : Nat) (s : StateD) (b1 b2 b3 : Option Addr) (m1 d1 m2 d2 m3 d3 : Nat) (tag : Int) (back : Bool) (w : World) (hp : PlanAt w a1 a2 a3 n1 n2 n3 p) (hs : StateAt w b1 b2 b3 m1 m2 m3 s) (hn2 : b2 = none → d2 = 0) (hn3 : b3 = none → d3 = 0) :
 Calls Tryz.prog 33 #[.agg #[.slice a1 n1 c1, .slice a2 n2 c2, .slice a3 n3 c3], .agg #[.slice b1 m1 d1, .slice b2 m2 d2, .slice b3 m3 d3, .int .i64 s.nextSeq, .int .i64 s.nextTag, .int .i64 s.came, .int .i64 s.acked, .int .i64 s.dropped], .int .i64 tag, .bool back] w fun e w' => ∃ v, e = .returned (.tuple #[v, .int .i64 (rejE p s tag)]) ∧ StRes w' w.heap.size v (rejE p s tag) (rejS p s tag back) ∧ Below w.heap.size w w' := by
 obtain ⟨hz5, hg5, hB5⟩ := allocs_heap [.cells #[.slice a1 n1 c1, .slice a2 n2 c2, .slice a3 n3 c3] 26, .cells #[.slice b1 m1 d1, .slice b2 m2 d2, .slice b3 m3 d3, .int .i64 s.nextSeq, .int .i64 s.nextTag, .int .i64 s.came, .int .i64 s.acked, .int .i64 s.dropped] 31, .cells #[.int .i64 tag] 3, .cells #[.bool back] 4, .cells #[.slice none 0 0, .slice none 0 0, .slice none 0 0, .int .i64 0, .int .i64 0, .int .i64 0, .int .i64 0, .int .i64 0] 31] w
 obtain ⟨W5, hW5⟩ : ∃ W5, W5 = List.foldl World.alloc w [.cells #[.slice a1 n1 c1, .slice a2 n2 c2, .slice a3 n3 c3] 26, .cells #[.slice b1 m1 d1, .slice b2 m2 d2, .slice b3 m3 d3, .int .i64 s.nextSeq, .int .i64 s.nextTag, .int .i64 s.came, .int .i64 s.acked, .int .i64 s.dropped] 31, .cells #[.int .i64 tag] 3, .cells #[.bool back] 4, .cells #[.slice none 0 0, .slice none 0 0, .slice none 0 0, .int .i64 0, .int .i64 0, .int .i64 0, .int .i64 0, .int .i64 0] 31] := ⟨_, rfl⟩
 rw [← hW5] at hz5 hg5 hB5
 have HW5 : Hid (W5 = (((((w.alloc (.cells #[.slice a1 n1 c1, .slice a2 n2 c2, .slice a3 n3 c3] 26)).alloc (.cells #[.slice b1 m1 d1, .slice b2 m2 d2, .slice b3 m3 d3, .int .i64 s.nextSeq, .int .i64 s.nextTag, .int .i64 s.came, .int .i64 s.acked, .int .i64 s.dropped] 31)).alloc (.cells #[.int .i64 tag] 3)).alloc (.cells #[.bool back] 4)).alloc (.cells #[.slice none 0 0, .slice none 0 0, .slice none 0 0, .int .i64 0, .int .i64 0, .int .i64 0, .int .i64 0, .int .i64 0] 31))) := hW5
 have hz5' : W5.heap.size = w.heap.size + 5 := by rw [hz5]; rfl
 have x0 := hg5 0 _ rfl
 have x1 := hg5 1 _ rfl
 have x2 := hg5 2 _ rfl
 have x3 := hg5 3 _ rfl
 have x4 := hg5 4 _ rfl
 obtain ⟨E, hE⟩ : ∃ E, E = rejE p s tag := ⟨_, rfl⟩
 rw [← hE]
 have T := made_any p a1 a2 a3 n1 c1 n2 c2 n3 c3 s b1 b2 b3 m1 d1 m2 d2 m3 d3 94 (fun _ _ => rfl) #[.pointer (some ⟨w.heap.size + 2, 0, none⟩), .pointer (some ⟨w.heap.size + 3, 0, none⟩), .pointer (some ⟨w.heap.size, 0, none⟩)] E (rejS p s tag back) W5 (hp.keep hB5) (hs.keep hB5) hn2 hn3
  (fun h => by rw [hE]; unfold rejE ackE; rw [if_pos h, if_pos h])
  (fun h => by
   have e : E = rejX s tag := by rw [hE]; exact rejE_right h
   rw [e]
   exact rej1_does p a1 a2 a3 n1 c1 n2 c2 n3 c3 s tag back _ _ _ W5 (hp.keep hB5) x0 x2 x3 (right_of h))
 have HT := hidI T
 have X4 := hidI x4
 have HZ5 := hidI hz5'
 have HB5 := hidI hB5
 have hmf : ∀ (fn : Fn) (first cap : Array Value) (w : World), (Instr.makeFunc fn first cap).run Tryz.prog w = .ok (.func fn first cap) w := fun _ _ _ _ => rfl
 clear T hW5 hz5 hz5' hg5 hB5 x0 x1 x2 x3 x4 hE hp hs hn2 hn3
 go_enter Tryz.func33, Tryz.ntmps33
 go_wp2_with fail
 rw [← HW5.out]
 refine HT.out.mono ?_
 rintro e w6 ⟨v, rfl, hres, hB6⟩
 have x6 := pkp_ X4.out hB6
 obtain ⟨y0, y1, y2, y3, y4, y5, y6, y7⟩ := st_cells x6
 have f0 := foc_ x6 0
 have f1 := foc_ x6 1
 have f2 := foc_ x6 2
 have f3 := foc_ x6 3
 have f4 := foc_ x6 4
 have f5 := foc_ x6 5
 have f6 := foc_ x6 6
 have f7 := foc_ x6 7
 obtain ⟨x1, x2, x3, k1, e1, k2, e2, k3, e3, i1, i2, i3, i4, i5, rfl⟩ := hres.shape
 have X6 := hidI x6
 have HRES := hidI hres
 have HB6 := hidI hB6
 clear x6 hres hB6
 go_wp2_with fail
 generalize hW4 : World.setCell (World.setCell (World.setCell (World.setCell (World.setCell (World.setCell (World.setCell (World.setCell w6 _ _) _ _) _ _) _ _) _ _) _ _) _ _) _ _ = W4
 obtain ⟨b4, t4⟩ := store8 X6.out hW4
 obtain ⟨z0, z1, z2, z3, z4, z5, z6, z7⟩ := st_cells b4
 exact bodyPost_ret (v := .tuple #[.agg #[.slice x1 k1 e1, .slice x2 k2 e2, .slice x3 k3 e3, .int .i64 i1, .int .i64 i2, .int .i64 i3, .int .i64 i4, .int .i64 i5], .int .i64 E]) (by simp [results, Tryz.results33, go_sem, z0, z1, z2, z3, z4, z5, z6, z7]) rfl ⟨_, rfl, (HRES.out.turn X6.out t4).lower (by have := HZ5.out; omega), HB5.out.trans ((HB6.out.mono HB5.out.size).trans (t4.below (by have := HB6.out.size; have := HZ5.out; omega) (by omega)))⟩
end Go.Proofs.YtpoichgodamnkaaGreat
