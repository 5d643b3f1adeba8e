import Derived.Deep.RegionHeld3
import Derived.Deep.DeepCutAuto
import Derived.Test.YtlbnkpicnokgoaaGreatSnx
import Derived.Test.YtlbnkpicnokgoaaGreatSgx
import Derived.Test.YtlbnkpicnokgoaaGreatSbx
import Derived.Test.YtlbnkpicnokgoaaGreatSax
namespace Go.Proofs.YtlbnkpicnokgoaaGreat
open Go.RowKit Go.Maps
set_option linter.unusedVariables false
set_option maxRecDepth 100000
set_option maxHeartbeats 8000000
def dS:ab_:=eh_ bp_ bS 1
def eS:ab_:=drS dS 0
theorem nm_:stE bp_ bS = 0∧drE bp_ bS 0 = 9∧dk_ bp_ bS 1 = 0∧drE bp_ dS 0 = 0∧drE bp_ bS 3 = 5∧eS.acked = 3∧eS.ready.length = 3∧(af_ eS 0).length = 0∧(drB dS 0).length = 2:=by decide +kernel
theorem iv_:drB dS 0 = [⟨#[116,119,111]⟩,⟨#[116,104,114,101,101]⟩]∧lenC bS.ready = [.int .i64 2,.int .i64 0,.int .i64 0]∧bS.ready.length = 3:=by
 refine ⟨?_,?_,?_⟩ <;> kernel_rfl
theorem el_ {W:World} {n m c:Nat} {a:Option Addr} {zs:List Int} {cs:List Value} (h:W.ownsRow n 3 1 (.slice a m c) m cs) (hc:cs = zs.map (.int .i64)):cC_ W a zs:=by
 subst hc;rcases h.2 with ⟨e,e0⟩ | ⟨g,cap,cur,e,e1⟩
 ·left
  have h1:=h.1;rw [List.length_map,e0] at h1;exact List.length_eq_zero_iff.1 (by omega)
 ·cases e;have h1:=h.1;rw [List.length_map] at h1;refine .inr ⟨g,rfl,(h.lt g rfl).2,fun i hi=>?_⟩;have:=h.cellAt i (by omega);rw [List.getElem?_map,List.getElem?_eq_getElem hi] at this;exact this
theorem eK_ {W:World} {n m c:Nat} {a:Option Addr} {xs:List ByteArray} (h:W.ownsRow n 9 1 (.slice a m c) m (xs.map .string)):a5_ W a xs:=by
 rcases h.2 with ⟨e,e0⟩ | ⟨g,cap,cur,e,e1⟩
 ·left
  have h1:=h.1;rw [List.length_map,e0] at h1;exact List.length_eq_zero_iff.1 (by omega)
 ·cases e;have h1:=h.1;rw [List.length_map] at h1;refine .inr ⟨g,0,rfl,fun i hi=>?_⟩;have:=h.cellAt i (by omega);rw [List.getElem?_map,List.getElem?_eq_getElem hi] at this;rw [Nat.zero_add];exact this
theorem d4_ {W W':World} {a:Option Addr} {xs:List ByteArray} (h:a5_ W a xs) (hx:xs≠[]) (hB:Below W.heap.size W W'):∃ g o,a = some ⟨g,o,none⟩∧aW_ W' g o xs:=by
 rcases h with h | ⟨g,o,ha,h⟩
 ·exact absurd h hx
 ·exact ⟨g,o,ha,fun i hi=>(hB.cell (p:=⟨g,o+i,none⟩) (gO_ (h i hi))).trans (h i hi)⟩
theorem bC_ (w:World):Calls Tryz.prog 13 #[] w fun e w'=>e = .returned (.bool true)∧Below w.heap.size w w':=by
 have F:=hidI nm_;go_enter Tryz.func13,Tryz.ntmps13;go_wp2_with fail
 refine (cA_ _).mono ?_;rintro e w1 ⟨rfl,k1,hp1⟩;have HP1:=hidI hp1;clear hp1;go_wp2_with fail
 refine (e8_ _).mono ?_;rintro e w2 ⟨gI,gR,gO,gT,rfl,hb2,-,-,k2'⟩;have HS2:=hidI (hb2.state 1);have k2:=k1.trans (k2'.mono k1.size);clear hb2;go_wp2_with fail
 refine (ej_ bp_ _ _ _ _ _ _ _ _ _ bS _ _ _ _ _ _ _ _ _ _ (HP1.out.keep k2') HS2.out).mono ?_;rintro e w3 ⟨v3,rfl,hly,k3'⟩;rw [F.out.1] at hly ⊢;have hro:=hly.1 rfl;rw [iv_.2.2] at hro;obtain ⟨al,cl,rfl,-⟩:=aA_ hro;have HLY:Hid (cC_ w3 al [2,0,0]):=el_ hro (by rw [iv_.2.1];rfl);have k3:=k2.trans (k3'.mono k2.size);have K3:=hidI k3;clear k1 k2 k2' k3' k3 HP1 HS2 hly hro;go_wp2_with fail
 refine (cA_ _).mono ?_;rintro e w5 ⟨rfl,k5,hp5⟩;have HP5:=hidI hp5;clear hp5;go_wp2_with fail
 refine (e8_ _).mono ?_;rintro e w6 ⟨gI,gR,gO,gT,rfl,hb6,-,-,k6'⟩;have HS6:=hidI (hb6.state 1);have k6:=k5.trans (k6'.mono k5.size);clear hb6;go_wp2_with fail
 refine (cE_ bp_ _ _ _ _ _ _ _ _ _ bS _ _ _ _ _ _ _ _ _ 0 _ (HP5.out.keep k6') HS6.out (fun h=>by cases h) (fun h=>by cases h)).mono ?_;rintro e w7 ⟨v7,u7,rfl,hres7,htx7,k7'⟩;rw [F.out.2.1] at hres7 htx7 ⊢;rw [hres7.2 (by decide),htx7.2 (by decide)];unfold zerS;have k7:=k6.trans (k7'.mono k6.size);obtain ⟨w8,hw8⟩:∃ w8,w8 = w7.alloc (.cells #[.slice none 0 0,.slice none 0 0,.slice none 0 0,.int .i64 0,.int .i64 0,.int .i64 0,.int .i64 0,.int .i64 0] 31):=⟨_,rfl⟩
 have l8:Below w3.heap.size w3 w8:=by rw [hw8];exact k7.alloc k7.size _
 have HW8:=hidI hw8;have L8:=hidI l8;clear k5 k6 k6' k7 k7' hres7 htx7 HP5 HS6 hw8 l8;go_wp2_with fail
 rw [← HW8.out];refine (cA_ _).mono ?_;rintro e w9 ⟨rfl,k9,hp9⟩;have HP9:=hidI hp9;clear hp9;go_wp2_with fail
 refine (e8_ _).mono ?_;rintro e wA ⟨gI,gR,gO,gT,rfl,hbA,-,-,kA'⟩;have HSA:=hidI (hbA.state 1);have kA:=k9.trans (kA'.mono k9.size);clear hbA;go_wp2_with fail
 refine (ei_ bp_ _ _ _ _ _ _ _ _ _ bS _ _ _ _ _ _ _ _ _ 1 _ (HP9.out.keep kA') HSA.out (fun h=>by cases h) (fun h=>by cases h)).mono ?_;rintro e wB ⟨vB,rfl,hresB,kB'⟩;rw [F.out.2.2.1] at hresB ⊢;have hresB':a4_ wB wA.heap.size vB 0 dS:=hresB;obtain ⟨x1,x2,x3,t1,e1,t2,e2,t3,e3,rfl,ho3⟩:=hresB'.1 rfl;have kB:=kA.trans (kB'.mono kA.size);obtain ⟨w4,hw4⟩:∃ w4,w4 = wB.alloc (.cells #[.slice x1 t1 e1,.slice x2 t2 e2,.slice x3 t3 e3,.int .i64 dS.nextSeq,.int .i64 dS.nextTag,.int .i64 dS.came,.int .i64 dS.acked,.int .i64 dS.dropped] 31):=⟨_,rfl⟩
 have l4:Below wB.heap.size wB w4:=by rw [hw4];exact (Below.refl _ _).alloc (Nat.le_refl _) _
 have b4:w4.heap[wB.heap.size]? = some (.cells #[.slice x1 t1 e1,.slice x2 t2 e2,.slice x3 t3 e3,.int .i64 dS.nextSeq,.int .i64 dS.nextTag,.int .i64 dS.came,.int .i64 dS.acked,.int .i64 dS.dropped] 31 (0,0)):=by rw [hw4];exact World.alloc_heap_new wB _
 have k4:=L8.out.trans ((kB.trans (l4.mono kB.size)).mono L8.out.size);have HO4:=hidI (ho3.keep l4);obtain ⟨BA,hBA⟩:∃ BA,BA = wB.heap.size:=⟨_,rfl⟩
 have HBA:=hidI hBA;rw [← hBA] at b4;have HB4:=hidI b4;have HW4:=hidI hw4;have K4:=hidI k4;have SA:Hid (∀ W,Below w4.heap.size w4 W→(W.cell? ⟨BA,0,none⟩ = some (.slice x1 t1 e1)∧W.cell? ⟨BA,1,none⟩ = some (.slice x2 t2 e2)∧W.cell? ⟨BA,2,none⟩ = some (.slice x3 t3 e3)∧W.cell? ⟨BA,3,none⟩ = some (.int .i64 dS.nextSeq)∧W.cell? ⟨BA,4,none⟩ = some (.int .i64 dS.nextTag)∧W.cell? ⟨BA,5,none⟩ = some (.int .i64 dS.came)∧W.cell? ⟨BA,6,none⟩ = some (.int .i64 dS.acked)∧W.cell? ⟨BA,7,none⟩ = some (.int .i64 dS.dropped))):=fun W hW=>aa_ (pkp_ HB4.out hW)
 clear hresB hresB' ho3 l4 b4 hw4 k9 kA kA' kB kB' HP9 HSA k4 hBA;go_upto_region 4 with fail
 rw [← HW4.out,← HBA.out];go_cut [8,9,10] (fun s6 s7 s8 wx=>∃ BB y1 y2 y3 q1 f1 q2 f2 q3 f3 ub uc,s6 = .pointer (some ⟨BB,0,none⟩)∧s7 = .slice ub (drB dS 0).length uc∧s8 = .int .i64 0∧wx.heap[BB]? = some (.cells #[.slice y1 q1 f1,.slice y2 q2 f2,.slice y3 q3 f3,.int .i64 eS.nextSeq,.int .i64 eS.nextTag,.int .i64 eS.came,.int .i64 eS.acked,.int .i64 eS.dropped] 31 (0,0))∧aM_ wx 0 y1 y2 y3 q1 f1 q2 f2 q3 f3 eS∧wx.ownsRow 0 9 1 (.slice ub (drB dS 0).length uc) (drB dS 0).length ((drB dS 0).map .string)∧Below w4.heap.size w4 wx)
 case first=>
  refine wp_region_held_drew (S:=fun W=>(W.cell? ⟨BA,0,none⟩ = some (.slice x1 t1 e1)∧W.cell? ⟨BA,1,none⟩ = some (.slice x2 t2 e2)∧W.cell? ⟨BA,2,none⟩ = some (.slice x3 t3 e3)∧W.cell? ⟨BA,3,none⟩ = some (.int .i64 dS.nextSeq)∧W.cell? ⟨BA,4,none⟩ = some (.int .i64 dS.nextTag)∧W.cell? ⟨BA,5,none⟩ = some (.int .i64 dS.came)∧W.cell? ⟨BA,6,none⟩ = some (.int .i64 dS.acked)∧W.cell? ⟨BA,7,none⟩ = some (.int .i64 dS.dropped))) (by kernel_rfl) (SA.out _ (Below.refl _ _).drew) (fun hHeld=>?_);refine tk 1 ?_;obtain ⟨wq,hwq⟩:∃ wq,wq = w4.drew:=⟨_,rfl⟩
  have Lwq:Hid (Below w4.heap.size w4 wq):=by show Below w4.heap.size w4 wq;rw [hwq];exact (Below.refl _ _).drew
  rw [← hwq] at hHeld ⊢;clear hwq;refine wpAnyH_ready (rs:=[0,7]) (by kernel_rfl) (by simp) ?_;refine AllReadyH.cons rfl (fun K hK=>?_) (AllReadyH.cons rfl (fun K hK=>?_) AllReadyH.nil)
  ·go_simp;refine (cA_ _).mono ?_;rintro e wo ⟨rfl,ko,hpo⟩;have Lwo:Hid (Below w4.heap.size w4 wo):=Lwq.out.trans (ko.mono Lwq.out.size);have HPo:=hidI hpo;refine hK.out _ _ (SA.out _ Lwo.out) (fun hHo=>?_);clear hK K hpo;try refine nrm ?_
   refine wpAnyH_ready (rs:=[2,7]) (by kernel_rfl) (by simp) ?_;refine AllReadyH.cons rfl (fun K hK=>?_) (AllReadyH.cons rfl (fun K hK=>?_) AllReadyH.nil)
   ·go_simp;refine (cE_ bp_ _ _ _ _ _ _ _ _ _ dS _ _ _ _ _ _ _ _ _ 0 _ HPo.out (HO4.out.keep Lwo.out).state (HO4.out.keep Lwo.out).nils.1 (HO4.out.keep Lwo.out).nils.2).mono ?_;rintro e wd ⟨vd,ud,rfl,hresd,htxd,kd⟩;rw [F.out.2.2.2.1] at hresd htxd ⊢;have hresd':a4_ wd wo.heap.size vd 0 eS:=hresd;obtain ⟨y1,y2,y3,q1,f1,q2,f2,q3,f3,rfl,hod⟩:=hresd'.1 rfl;have hrd:=htxd.1 rfl;obtain ⟨ub,uc,rfl,-⟩:=aA_ hrd;have Lwd:Hid (Below w4.heap.size w4 wd):=Lwo.out.trans (kd.mono Lwo.out.size);have HOd:=hidI (hod.lower (Nat.zero_le _));have HTd:=hidI (a2_ hrd (Nat.zero_le _));refine hK.out _ _ (SA.out _ Lwd.out) (fun hHd=>?_);clear hK K hresd hresd' htxd hrd hod;try refine nrm ?_
    refine tk 3 ?_;refine tk 4 ?_;refine tk 5 ?_;refine tk 6 ?_;refine rdy 7 (fun K hK=>?_);go_simp;obtain ⟨wa,hwa⟩:∃ wa,wa = wd.alloc (.cells #[.slice none 0 0,.slice none 0 0,.slice none 0 0,.int .i64 0,.int .i64 0,.int .i64 0,.int .i64 0,.int .i64 0] 31):=⟨_,rfl⟩
    have la:Below wd.heap.size wd wa:=by rw [hwa];exact (Below.refl _ _).alloc (Nat.le_refl _) _
    have Lwa:Hid (Below w4.heap.size w4 wa):=Lwd.out.trans (la.mono Lwd.out.size);have ba:wa.heap[wd.heap.size]? = some (.cells #[.slice none 0 0,.slice none 0 0,.slice none 0 0,.int .i64 0,.int .i64 0,.int .i64 0,.int .i64 0,.int .i64 0] 31 (0,0)):=by rw [hwa];exact World.alloc_heap_new wd _
    obtain ⟨BB,hBB⟩:∃ BB,BB = wd.heap.size:=⟨_,rfl⟩
    have hBg:w4.heap.size≤BB:=by rw [hBB];exact Lwd.out.size
    rw [← hwa,← hBB];rw [← hBB] at ba;have HOa:=hidI (HOd.out.keep la);have HTa:=hidI (cp2_ HTd.out la);refine hK.out _ _ (SA.out _ Lwa.out) (fun hHa=>?_);clear hK K hwa hBB;try refine nrm ?_
    refine rdy 8 (fun K hK=>?_);obtain ⟨c0,c1,c2,c3,c4,c5,c6,c7⟩:=aa_ ba;have g0:=foc_ ba 0;have g1:=foc_ ba 1;have g2:=foc_ ba 2;have g3:=foc_ ba 3;have g4:=foc_ ba 4;have g5:=foc_ ba 5;have g6:=foc_ ba 6;have g7:=foc_ ba 7;go_simp;generalize hWz:World.setCell (World.setCell (World.setCell (World.setCell (World.setCell (World.setCell (World.setCell (World.setCell wa _ _) _ _) _ _) _ _) _ _) _ _) _ _) _ _ = Wz;obtain ⟨bz,tz⟩:=store8 ba hWz;have lz:Below w4.heap.size w4 Wz:=Lwa.out.trans (tz.below Lwa.out.size hBg);have oz:=HOa.out.turn ba (by decide) tz;have rz:=bq_ HTa.out (fun j hj=>tz.block j (HTa.out.lt j hj).2 (fun e=>bl_ HTa.out ba (by decide) (by rw [hj,e])));have RL:=hidI (And.intro bz (And.intro oz (And.intro rz lz)));refine hK.out _ _ (SA.out _ lz) (fun hHz=>?_);clear hK K;try refine nrm ?_
    refine tk 9 ?_;refine tk 10 ?_;refine wpAnyH_done (by kernel_rfl) ?_ _;clear c0 c1 c2 c3 c4 c5 c6 c7 g0 g1 g2 g3 g4 g5 g6 g7 bz oz rz lz hHz tz hWz;go_wp2_with fail
    go_meet
    case rel=>exact ⟨BB,y1,y2,y3,q1,f1,q2,f2,q3,f3,ub,uc,rfl,rfl,rfl,RL.out⟩
   ·go_simp;obtain ⟨wa,hwa⟩:∃ wa,wa = wo.alloc (.cells #[.slice none 0 0,.slice none 0 0,.slice none 0 0,.int .i64 0,.int .i64 0,.int .i64 0,.int .i64 0,.int .i64 0] 31):=⟨_,rfl⟩
    have la:Below wo.heap.size wo wa:=by rw [hwa];exact (Below.refl _ _).alloc (Nat.le_refl _) _
    have Lwa:Hid (Below w4.heap.size w4 wa):=Lwo.out.trans (la.mono Lwo.out.size);have ba:wa.heap[wo.heap.size]? = some (.cells #[.slice none 0 0,.slice none 0 0,.slice none 0 0,.int .i64 0,.int .i64 0,.int .i64 0,.int .i64 0,.int .i64 0] 31 (0,0)):=by rw [hwa];exact World.alloc_heap_new wo _
    obtain ⟨BB,hBB⟩:∃ BB,BB = wo.heap.size:=⟨_,rfl⟩
    have hBg:w4.heap.size≤BB:=by rw [hBB];exact Lwo.out.size
    rw [← hwa,← hBB];rw [← hBB] at ba;have HPa:=hidI (HPo.out.keep la);refine hK.out _ _ (SA.out _ Lwa.out) (fun hHa=>?_);clear hK K hwa hBB;try refine nrm ?_
    refine rdy 2 (fun K hK=>?_);go_simp;refine (cE_ bp_ _ _ _ _ _ _ _ _ _ dS _ _ _ _ _ _ _ _ _ 0 _ HPa.out (HO4.out.keep Lwa.out).state (HO4.out.keep Lwa.out).nils.1 (HO4.out.keep Lwa.out).nils.2).mono ?_;rintro e wd ⟨vd,ud,rfl,hresd,htxd,kd⟩;rw [F.out.2.2.2.1] at hresd htxd ⊢;have hresd':a4_ wd wa.heap.size vd 0 eS:=hresd;obtain ⟨y1,y2,y3,q1,f1,q2,f2,q3,f3,rfl,hod⟩:=hresd'.1 rfl;have hrd:=htxd.1 rfl;obtain ⟨ub,uc,rfl,-⟩:=aA_ hrd;have Lwd:Hid (Below w4.heap.size w4 wd):=Lwa.out.trans (kd.mono Lwa.out.size);have HOd:=hidI (hod.lower (Nat.zero_le _));have HTd:=hidI (a2_ hrd (Nat.zero_le _));have bd:=pkp_ ba kd;refine hK.out _ _ (SA.out _ Lwd.out) (fun hHd=>?_);clear hK K hresd hresd' htxd hrd hod;try refine nrm ?_
    refine tk 3 ?_;refine tk 4 ?_;refine tk 5 ?_;refine tk 6 ?_;refine rdy 8 (fun K hK=>?_);obtain ⟨c0,c1,c2,c3,c4,c5,c6,c7⟩:=aa_ bd;have g0:=foc_ bd 0;have g1:=foc_ bd 1;have g2:=foc_ bd 2;have g3:=foc_ bd 3;have g4:=foc_ bd 4;have g5:=foc_ bd 5;have g6:=foc_ bd 6;have g7:=foc_ bd 7;go_simp;generalize hWz:World.setCell (World.setCell (World.setCell (World.setCell (World.setCell (World.setCell (World.setCell (World.setCell wd _ _) _ _) _ _) _ _) _ _) _ _) _ _) _ _ = Wz;obtain ⟨bz,tz⟩:=store8 bd hWz;have lz:Below w4.heap.size w4 Wz:=Lwd.out.trans (tz.below Lwd.out.size hBg);have oz:=HOd.out.turn bd (by decide) tz;have rz:=bq_ HTd.out (fun j hj=>tz.block j (HTd.out.lt j hj).2 (fun e=>bl_ HTd.out bd (by decide) (by rw [hj,e])));have RL:=hidI (And.intro bz (And.intro oz (And.intro rz lz)));refine hK.out _ _ (SA.out _ lz) (fun hHz=>?_);clear hK K;try refine nrm ?_
    refine tk 9 ?_;refine tk 10 ?_;refine wpAnyH_done (by kernel_rfl) ?_ _;clear c0 c1 c2 c3 c4 c5 c6 c7 g0 g1 g2 g3 g4 g5 g6 g7 bz oz rz lz hHz tz hWz;go_wp2_with fail
    go_meet
    case rel=>exact ⟨BB,y1,y2,y3,q1,f1,q2,f2,q3,f3,ub,uc,rfl,rfl,rfl,RL.out⟩
  ·go_simp;obtain ⟨wa,hwa⟩:∃ wa,wa = wq.alloc (.cells #[.slice none 0 0,.slice none 0 0,.slice none 0 0,.int .i64 0,.int .i64 0,.int .i64 0,.int .i64 0,.int .i64 0] 31):=⟨_,rfl⟩
   have la:Below wq.heap.size wq wa:=by rw [hwa];exact (Below.refl _ _).alloc (Nat.le_refl _) _
   have Lwa:Hid (Below w4.heap.size w4 wa):=Lwq.out.trans (la.mono Lwq.out.size);have ba:wa.heap[wq.heap.size]? = some (.cells #[.slice none 0 0,.slice none 0 0,.slice none 0 0,.int .i64 0,.int .i64 0,.int .i64 0,.int .i64 0,.int .i64 0] 31 (0,0)):=by rw [hwa];exact World.alloc_heap_new wq _
   obtain ⟨BB,hBB⟩:∃ BB,BB = wq.heap.size:=⟨_,rfl⟩
   have hBg:w4.heap.size≤BB:=by rw [hBB];exact Lwq.out.size
   rw [← hwa,← hBB];rw [← hBB] at ba;refine hK.out _ _ (SA.out _ Lwa.out) (fun hHa=>?_);clear hK K hwa hBB;try refine nrm ?_
   refine rdy 0 (fun K hK=>?_);go_simp;refine (cA_ _).mono ?_;rintro e wo ⟨rfl,ko,hpo⟩;have Lwo:Hid (Below w4.heap.size w4 wo):=Lwa.out.trans (ko.mono Lwa.out.size);have HPo:=hidI hpo;have bo:=pkp_ ba ko;refine hK.out _ _ (SA.out _ Lwo.out) (fun hHo=>?_);clear hK K hpo;try refine nrm ?_
   refine rdy 2 (fun K hK=>?_);go_simp;refine (cE_ bp_ _ _ _ _ _ _ _ _ _ dS _ _ _ _ _ _ _ _ _ 0 _ HPo.out (HO4.out.keep Lwo.out).state (HO4.out.keep Lwo.out).nils.1 (HO4.out.keep Lwo.out).nils.2).mono ?_;rintro e wd ⟨vd,ud,rfl,hresd,htxd,kd⟩;rw [F.out.2.2.2.1] at hresd htxd ⊢;have hresd':a4_ wd wo.heap.size vd 0 eS:=hresd;obtain ⟨y1,y2,y3,q1,f1,q2,f2,q3,f3,rfl,hod⟩:=hresd'.1 rfl;have hrd:=htxd.1 rfl;obtain ⟨ub,uc,rfl,-⟩:=aA_ hrd;have Lwd:Hid (Below w4.heap.size w4 wd):=Lwo.out.trans (kd.mono Lwo.out.size);have HOd:=hidI (hod.lower (Nat.zero_le _));have HTd:=hidI (a2_ hrd (Nat.zero_le _));have bd:=pkp_ bo kd;refine hK.out _ _ (SA.out _ Lwd.out) (fun hHd=>?_);clear hK K hresd hresd' htxd hrd hod;try refine nrm ?_
   refine tk 3 ?_;refine tk 4 ?_;refine tk 5 ?_;refine tk 6 ?_;refine rdy 8 (fun K hK=>?_);obtain ⟨c0,c1,c2,c3,c4,c5,c6,c7⟩:=aa_ bd;have g0:=foc_ bd 0;have g1:=foc_ bd 1;have g2:=foc_ bd 2;have g3:=foc_ bd 3;have g4:=foc_ bd 4;have g5:=foc_ bd 5;have g6:=foc_ bd 6;have g7:=foc_ bd 7;go_simp;generalize hWz:World.setCell (World.setCell (World.setCell (World.setCell (World.setCell (World.setCell (World.setCell (World.setCell wd _ _) _ _) _ _) _ _) _ _) _ _) _ _) _ _ = Wz;obtain ⟨bz,tz⟩:=store8 bd hWz;have lz:Below w4.heap.size w4 Wz:=Lwd.out.trans (tz.below Lwd.out.size hBg);have oz:=HOd.out.turn bd (by decide) tz;have rz:=bq_ HTd.out (fun j hj=>tz.block j (HTd.out.lt j hj).2 (fun e=>bl_ HTd.out bd (by decide) (by rw [hj,e])));have RL:=hidI (And.intro bz (And.intro oz (And.intro rz lz)));refine hK.out _ _ (SA.out _ lz) (fun hHz=>?_);clear hK K;try refine nrm ?_
   refine tk 9 ?_;refine tk 10 ?_;refine wpAnyH_done (by kernel_rfl) ?_ _;clear c0 c1 c2 c3 c4 c5 c6 c7 g0 g1 g2 g3 g4 g5 g6 g7 bz oz rz lz hHz tz hWz;go_wp2_with fail
   go_meet
   case rel=>exact ⟨BB,y1,y2,y3,q1,f1,q2,f2,q3,f3,ub,uc,rfl,rfl,rfl,RL.out⟩
 case rest=>
  obtain ⟨BB,y1,y2,y3,q1,f1,q2,f2,q3,f3,ub,uc,rfl,rfl,rfl,hbb,hob,hrb,hBx⟩:=hcut;have hq1:q1 = 3:=hob.l1.symm.trans F.out.2.2.2.2.2.2.1;subst hq1;rw [F.out.2.2.2.2.2.2.2.2] at hrb ⊢;have HBB:=hidI hbb;have HOB:=hidI hob;have HTB:Hid (a5_ wc ub [⟨#[116,119,111]⟩,⟨#[116,104,114,101,101]⟩]):=by
   rw [iv_.1] at hrb;exact eK_ hrb
  have HBX:=hidI hBx;clear hbb hob hBx hrb;go_wp2_with fail
  refine (cA_ _).mono ?_;rintro e v1 ⟨rfl,k1,hp1⟩;have HP1:=hidI hp1;clear hp1;go_wp2_with fail
  refine (e8_ _).mono ?_;rintro e v2 ⟨gI,gR,gO,gT,rfl,hb2,-,-,k2'⟩;have HS2:=hidI (hb2.state 1);have k2:=k1.trans (k2'.mono k1.size);clear hb2;go_wp2_with fail
  refine (cE_ bp_ _ _ _ _ _ _ _ _ _ bS _ _ _ _ _ _ _ _ _ 3 _ (HP1.out.keep k2') HS2.out (fun h=>by cases h) (fun h=>by cases h)).mono ?_;rintro e v3 ⟨z7,u7,rfl,hres7,htx7,k7'⟩;rw [F.out.2.2.2.2.1] at hres7 htx7 ⊢;rw [hres7.2 (by decide),htx7.2 (by decide)];unfold zerS;have k7:=k2.trans (k7'.mono k2.size);obtain ⟨vz,hvz⟩:∃ vz,vz = v3.alloc (.cells #[.slice none 0 0,.slice none 0 0,.slice none 0 0,.int .i64 0,.int .i64 0,.int .i64 0,.int .i64 0,.int .i64 0] 31):=⟨_,rfl⟩
  have lz:Below wc.heap.size wc vz:=by rw [hvz];exact k7.alloc k7.size _
  obtain ⟨v4,hv4⟩:∃ v4,v4 = vz.alloc (.cells #[.int .i64 2,.int .i64 0,.int .i64 0] 3):=⟨_,rfl⟩
  have l4:Below wc.heap.size wc v4:=by rw [hv4];exact lz.alloc lz.size _
  have hsz:vz.heap.size = v3.heap.size+1:=by rw [hvz];simp
  have hI4:cC_ v4 (some ⟨v3.heap.size+1,0,none⟩) [2,0,0]:=by
   rw [← hsz,hv4];refine .inr ⟨_,rfl,by simp,fun i hi=>?_⟩;have h:=World.alloc_heap_new vz (.cells #[.int .i64 2,.int .i64 0,.int .i64 0] 3);have hc:=coc_ h i;match i,hi with
   | 0,_=>exact hc
   | 1,_=>exact hc
   | 2,_=>exact hc
  have HV4:Hid (v4 = (v3.alloc (.cells #[.slice none 0 0,.slice none 0 0,.slice none 0 0,.int .i64 0,.int .i64 0,.int .i64 0,.int .i64 0,.int .i64 0] 31)).alloc (.cells #[.int .i64 2,.int .i64 0,.int .i64 0] 3)):=by show v4 = _;rw [hv4,hvz]
  have L4:=hidI l4;have HI4:=hidI hI4;have HK4:Hid (Below w3.heap.size w3 v4):=K4.out.trans ((HBX.out.trans (l4.mono HBX.out.size)).mono K4.out.size);clear k1 k2 k2' k7 k7' hres7 htx7 HP1 HS2 hv4 l4 hI4 hvz lz hsz;go_wp2_with fail
  rw [← HV4.out];refine (h5_ [2,0,0] _ _ 3 _ _ _ rfl (by omega) (HLY.out.keep HK4.out) HI4.out).mono ?_;rintro e v5 ⟨rfl,k5⟩;have K5:Hid (Below wc.heap.size wc v5):=L4.out.trans (k5.mono L4.out.size);obtain ⟨v6,hv6⟩:∃ v6,v6 = v5.alloc (.cells #[.string ⟨#[116,119,111]⟩,.string ⟨#[116,104,114,101,101]⟩] 9):=⟨_,rfl⟩
  have K6:Hid (Below wc.heap.size wc v6):=by show Below _ _ v6;rw [hv6];exact K5.out.alloc K5.out.size _
  have HT6:Hid (aW_ v6 v5.heap.size 0 [⟨#[116,119,111]⟩,⟨#[116,104,114,101,101]⟩]):=fun i hi=>by
   rw [hv6];have hc:=coc_ (World.alloc_heap_new v5 (.cells #[.string ⟨#[116,119,111]⟩,.string ⟨#[116,104,114,101,101]⟩] 9)) i;match i,hi with
   | 0,_=>exact hc
   | 1,_=>exact hc
  have HV6:=hidI hv6;have htb:=d4_ HTB.out (by decide) K6.out;obtain ⟨gt,ot,rfl,htb⟩:=htb;have HTX:=hidI htb;clear k5 hv6 htb;go_wp2_with fail
  rw [← HV6.out];refine (gF_ [⟨#[116,119,111]⟩,⟨#[116,104,114,101,101]⟩] _ _ _ _ _ _ _ (by unfold maxLen;simp) HTX.out HT6.out).mono ?_;rintro e v7 ⟨rfl,nn,hv7⟩;have K7:Hid (Below wc.heap.size wc v7):=by show Below _ _ v7;rw [hv7];exact bA_ K6.out
  obtain ⟨c0,c1,c2,c3,c4,c5,c6,c7⟩:=aa_ (pkp_ HBB.out K7.out);rw [F.out.2.2.2.2.2.1] at c6;obtain ⟨g,bl,cc,hg1,hgc,-,-,-⟩:=(HOB.out.keep K7.out).lineCellB (q:=0) (by rw [F.out.2.2.2.2.2.2.1];omega);subst hg1;rw [F.out.2.2.2.2.2.2.2.1] at hgc;clear hv7 c1 c2 c3 c4 c5 c7;go_wp2_with fail
  go_ret
  exact ⟨rfl,K3.out.trans ((K4.out.trans ((HBX.out.trans (K7.out.mono HBX.out.size)).mono K4.out.size)).mono K3.out.size)⟩
end Go.Proofs.YtlbnkpicnokgoaaGreat
