import Derived.Deep.RegionHeld3
import Derived.Deep.DeepCutAuto
import Derived.Test.YtlbnkpicnokgoaaGreatWKb
import Derived.Test.YtlbnkpicnokgoaaGreatWKf
import Derived.Test.YtlbnkpicnokgoaaGreatOcx
import Derived.ProofKit
import Derived.Test.YtlbnkpicnokgoaaGreatOax
import Derived.Test.YtlbnkpicnokgoaaGreatWUk
import Derived.Laws.StructEq
import Derived.Test.YtlbnkpicnokgoaaGreatOox
import Derived.Test.YtlbnkpicnokgoaaGreatOhx
import Derived.Test.YtlbnkpicnokgoaaGreatWKa
namespace Go.Proofs.YtlbnkpicnokgoaaGreat
open Go.RowKit Go.Maps
set_option linter.unusedVariables false
set_option maxRecDepth 100000
set_option maxHeartbeats 8000000
theorem kt_ (p:ad_) (a1 a2 a3:Option Addr) (n1 c1 n2 c2 n3 c3:Nat) (A:List ActD) (aa:Option Addr) (m ca:Nat) (w:World) (hp:ao_ w a1 a2 a3 n1 n2 n3 p) (hn4:n2≤4) (hm:A.length = m) (hm60:m≤60) (hrow:aJ_ w aa (aH_ A)) :
 Calls Tryz.prog 25 #[.agg #[.slice a1 n1 c1,.slice a2 n2 c2,.slice a3 n3 c3],.slice aa m ca] w fun e w'=>∃ v,e = .returned v∧(∃ b1 b2 b3 m1 d1 m2 d2 m3 d3 s,s = fE_ p A (co_ n2)∧v = .agg #[.slice b1 m1 d1,.slice b2 m2 d2,.slice b3 m3 d3,.int .i64 s.nextSeq,.int .i64 s.nextTag,.int .i64 s.came,.int .i64 s.acked,.int .i64 s.dropped]∧eo_ w' w.heap.size b1 b2 b3 m1 d1 m2 d2 m3 d3 s)∧Below w.heap.size w w':=by
 obtain ⟨W2,hW2⟩:∃ W2,W2 = (w.alloc (.cells #[.slice a1 n1 c1,.slice a2 n2 c2,.slice a3 n3 c3] 26)).alloc (.cells #[.slice none 0 0,.slice none 0 0,.slice none 0 0,.int .i64 0,.int .i64 0,.int .i64 0,.int .i64 0,.int .i64 0] 31):=⟨_,rfl⟩
 obtain ⟨hz2,hb1,hb2,hBw⟩:=cm_ w _ _ _ hW2;have HW2:=hidI hW2;have PX:Hid (∀ W,Below W2.heap.size W2 W→W.heap[w.heap.size]? = some (.cells #[.slice a1 n1 c1,.slice a2 n2 c2,.slice a3 n3 c3] 26 (0,0))):=fun W h=>pkp_ hb1 h
 have BX:Hid (∀ W,Below W2.heap.size W2 W→W.heap[w.heap.size+1]? = some (.cells #[.slice none 0 0,.slice none 0 0,.slice none 0 0,.int .i64 0,.int .i64 0,.int .i64 0,.int .i64 0,.int .i64 0] 31 (0,0))):=fun W h=>pkp_ hb2 h
 have HP:=hidI (hp.keep hBw);have HROW:=hidI (hrow.keep hBw);have HBW:=hidI hBw;have HZ:=hidI hz2;have HM:=hidI hm;have s0:=hBw.size;obtain ⟨x0,x1,x2⟩:=ag_ hb1;clear hW2 hb1 hb2 hz2 hp hBw hm hrow;go_enter Tryz.func25,Tryz.ntmps25;go_wp2_with fail
 rw [← HW2.out];refine (iX_ p a1 a2 a3 n1 c1 n2 c2 n3 c3 W2 HP.out hn4).mono ?_;rintro e w5 ⟨g,rfl,hln,hgl,k5⟩;have K5:=hidI k5;have HROW5:=hidI (HROW.out.keep k5);obtain ⟨w6,hw6⟩:∃ w6,w6 = w5.alloc (.cells #[.slice (some ⟨g,0,none⟩) n2 n2,.slice none 0 0,.slice none 0 0,.int .i64 0,.int .i64 0,.int .i64 0,.int .i64 0,.int .i64 0] 31):=⟨_,rfl⟩
 have l6:Below w5.heap.size w5 w6:=by rw [hw6];exact (Below.refl _ _).alloc (Nat.le_refl _) _
 have b6:w6.heap[w5.heap.size]? = some (.cells #[.slice (some ⟨g,0,none⟩) n2 n2,.slice none 0 0,.slice none 0 0,.int .i64 0,.int .i64 0,.int .i64 0,.int .i64 0,.int .i64 0] 31 (0,0)):=by rw [hw6];exact World.alloc_heap_new w5 _
 have HW6:=hidI hw6;obtain ⟨B,hB⟩:∃ B,B = w5.heap.size:=⟨_,rfl⟩
 have HBB:=hidI hB;rw [← hB] at b6;have hst:an_ w6 (some ⟨g,0,none⟩) none none n2 0 0 (co_ n2):=⟨List.length_replicate,rfl,rfl,by unfold maxLen;omega,by omega,by unfold maxLen;omega,hln.keep l6,.inl rfl,.inl rfl⟩;have HIN:Hid (StIn w6 W2.heap.size B (co_ n2)):=⟨_,_,_,_,_,_,_,_,_,b6,.inr ⟨g,hgl,rfl,⟨rfl,rfl,rfl,rfl,rfl,rfl⟩,rfl,hst⟩⟩;have L6:=hidI l6;have hlb:=lth_ b6;have HS5:Hid (W2.heap.size≤w5.heap.size):=K5.out.size;clear hst hw6 l6 b6 hB hln k5 x0 x1 x2 hgl;go_upto_region 2 with fail
 rw [← HW6.out,← HBB.out];go_wp2_with fail
 go_loopw [6,7,8] (fun i _ _ wr=>∃ (k:Nat),k≤m∧i = .int .i64 k∧∃ cur,ox_ p A (co_ n2) W2.heap.size w5 wr B k cur) (fun i _ _ _=>m - (intOf i).toNat)
 case atStart=>exact ⟨0,Nat.zero_le _,rfl,_,HIN.out,L6.out,hlb,by simp⟩
 case round=>
  obtain ⟨k,hk,rfl,cur,hinv⟩:=hrel;have HI:=hidI hinv;have hsr:=hinv.size;obtain ⟨b1,b2,b3,m1,d1,m2,d2,m3,d3,hbr,hrs⟩:=hinv.box;have HRS:=hidI hrs;obtain ⟨hsr',hn2',hn3',hc2',hm2'⟩:=hrs.state;have HBR:=hidI hbr;have HSR:=hidI hsr';have HNL:=hidI (And.intro hn2' (And.intro hn3' (And.intro hc2' hm2')));have KR:Hid (Below W2.heap.size W2 wr):=K5.out.trans (hinv.bel.mono K5.out.size);clear hinv hbr hrs hsr' hn2' hn3' hc2' hm2';by_cases hlt:k < m
  ·have HLT:=hidI hlt;have hkl:k < A.length:=by rw [HM.out];exact hlt
   obtain ⟨ga,oa,ha,hga,-,-,-,-,-⟩:=hL_ (HROW5.out.keep HI.out.bel) hkl;have HDR:Hid (A.drop k = A[k] :: A.drop (k+1)):=List.drop_eq_getElem_cons hkl;have HCE:Hid (∀ W',Below wr.heap.size wr W'→W'.cell? ⟨ga,oa+k * 5,none⟩ = some (.int .i64 A[k].kind)∧W'.cell? ⟨ga,oa+k * 5+1,none⟩ = some (.int .i64 A[k].a)∧W'.cell? ⟨ga,oa+k * 5+2,none⟩ = some (.int .i64 A[k].b)∧W'.cell? ⟨ga,oa+k * 5+3,none⟩ = some (.string A[k].key)∧W'.cell? ⟨ga,oa+k * 5+4,none⟩ = some (.string A[k].body)):=fun W' h=>by
    obtain ⟨ga',oa',ha',_,q0,q1,q2,q3,q4⟩:=hL_ ((HROW5.out.keep HI.out.bel).keep h) hkl;rw [ha] at ha';cases ha';exact ⟨q0,q1,q2,q3,q4⟩
   obtain ⟨x,hx⟩:∃ x,x = A[k]:=⟨_,rfl⟩
   rw [← hx] at HCE HDR;clear hx;obtain ⟨kd,ka,kb,ky,bd⟩:=x;subst ha;have i1':(0:Int)≤(k:Int):=by omega
   have i2':(k:Int) < m:=by omega
   obtain ⟨E,hE⟩:∃ E,E = doE p cur ⟨kd,ka,kb,ky,bd⟩:=⟨_,rfl⟩
   have HG:=hidI hE;obtain ⟨n,hn⟩:∃ n,n = wr.heap.size:=⟨_,rfl⟩
   have HNW:Hid (n≤wr.heap.size):=by show n≤_;omega
   have HNE:=hidI hn;have SC:Hid (∀ W',Below wr.heap.size wr W'→(W'.cell? ⟨w.heap.size,0,none⟩ = some (.slice a1 n1 c1)∧W'.cell? ⟨w.heap.size,1,none⟩ = some (.slice a2 n2 c2)∧W'.cell? ⟨w.heap.size,2,none⟩ = some (.slice a3 n3 c3))∧(W'.cell? ⟨B,0,none⟩ = some (.slice b1 m1 d1)∧W'.cell? ⟨B,1,none⟩ = some (.slice b2 m2 d2)∧W'.cell? ⟨B,2,none⟩ = some (.slice b3 m3 d3)∧W'.cell? ⟨B,3,none⟩ = some (.int .i64 cur.nextSeq)∧W'.cell? ⟨B,4,none⟩ = some (.int .i64 cur.nextTag)∧W'.cell? ⟨B,5,none⟩ = some (.int .i64 cur.came)∧W'.cell? ⟨B,6,none⟩ = some (.int .i64 cur.acked)∧W'.cell? ⟨B,7,none⟩ = some (.int .i64 cur.dropped))∧(W'.cell? ⟨ga,oa+k * 5,none⟩ = some (.int .i64 kd)∧W'.cell? ⟨ga,oa+k * 5+1,none⟩ = some (.int .i64 ka)∧W'.cell? ⟨ga,oa+k * 5+2,none⟩ = some (.int .i64 kb)∧W'.cell? ⟨ga,oa+k * 5+3,none⟩ = some (.string ky)∧W'.cell? ⟨ga,oa+k * 5+4,none⟩ = some (.string bd))):=fun W' h=>⟨ag_ (PX.out W' (KR.out.trans (h.mono KR.out.size))),aa_ (pkp_ HBR.out h),HCE.out W' h⟩
   clear hE hn;go_upto_region 5 with fail
   go_cut [7,8] from 11 to 29 (fun s7 s8 wx=>∃ BB u,s7 = .pointer (some ⟨BB,0,none⟩)∧s8 = .int .i64 E∧wx.heap[BB]? = some (.cells u 31 (0,0))∧bq_ wx n (.agg u) E (doS p cur ⟨kd,ka,kb,ky,bd⟩)∧Below wr.heap.size wr wx)
   case first=>
    refine wp_region_held_drew (S:=fun W'=>(W'.cell? ⟨w.heap.size,0,none⟩ = some (.slice a1 n1 c1)∧W'.cell? ⟨w.heap.size,1,none⟩ = some (.slice a2 n2 c2)∧W'.cell? ⟨w.heap.size,2,none⟩ = some (.slice a3 n3 c3))∧(W'.cell? ⟨B,0,none⟩ = some (.slice b1 m1 d1)∧W'.cell? ⟨B,1,none⟩ = some (.slice b2 m2 d2)∧W'.cell? ⟨B,2,none⟩ = some (.slice b3 m3 d3)∧W'.cell? ⟨B,3,none⟩ = some (.int .i64 cur.nextSeq)∧W'.cell? ⟨B,4,none⟩ = some (.int .i64 cur.nextTag)∧W'.cell? ⟨B,5,none⟩ = some (.int .i64 cur.came)∧W'.cell? ⟨B,6,none⟩ = some (.int .i64 cur.acked)∧W'.cell? ⟨B,7,none⟩ = some (.int .i64 cur.dropped))∧(W'.cell? ⟨ga,oa+k * 5,none⟩ = some (.int .i64 kd)∧W'.cell? ⟨ga,oa+k * 5+1,none⟩ = some (.int .i64 ka)∧W'.cell? ⟨ga,oa+k * 5+2,none⟩ = some (.int .i64 kb)∧W'.cell? ⟨ga,oa+k * 5+3,none⟩ = some (.string ky)∧W'.cell? ⟨ga,oa+k * 5+4,none⟩ = some (.string bd))) (by kernel_rfl) (SC.out _ (Below.refl _ _).drew) (fun hHeld=>?_);obtain ⟨wq,hwq⟩:∃ wq,wq = wr.drew:=⟨_,rfl⟩
    have Lwq:Hid (Below wr.heap.size wr wq):=by show Below wr.heap.size wr wq;rw [hwq];exact (Below.refl _ _).drew
    rw [← hwq] at hHeld ⊢;clear hwq;refine tk 0 ?_;refine tk 1 ?_;refine tk 2 ?_;refine tk 3 ?_;refine tk 4 ?_;refine tk 5 ?_;refine wpAnyH_ready (rs:=[6,10]) (by kernel_rfl) (by simp) ?_;refine AllReadyH.cons rfl (fun K hK=>?_) (AllReadyH.cons rfl (fun K hK=>?_) AllReadyH.nil)
    ·go_simp;refine (jN_ p a1 a2 a3 n1 c1 n2 c2 n3 c3 cur b1 b2 b3 m1 d1 m2 d2 m3 d3 ⟨kd,ka,kb,ky,bd⟩ _ ((HP.out.keep KR.out).keep Lwq.out) (HSR.out.keep Lwq.out) HNL.out.1 HNL.out.2.1 HNL.out.2.2.1 HNL.out.2.2.2).mono ?_;rintro e wd ⟨vd,rfl,hresd,kd⟩;rw [← HG.out] at hresd ⊢;obtain ⟨x1,x2,x3,q1,e1,q2,e2,q3,e3,i1,i2,i3,i4,i5,rfl⟩:=hresd.shape;have Lwd:Hid (Below wr.heap.size wr wd):=Lwq.out.trans (kd.mono Lwq.out.size);have HSd:=hidI (hresd.lower (n':=n) (by have:=Lwq.out.size;have:=HNW.out;omega));refine hK.out _ _ (SC.out _ Lwd.out) (fun hHd=>?_);clear hK K hresd kd;try refine nrm ?_
     refine tk 7 ?_;refine tk 8 ?_;refine tk 9 ?_;refine rdy 10 (fun K hK=>?_);go_simp;obtain ⟨wa,hwa⟩:∃ wa,wa = wd.alloc (.cells #[.slice none 0 0,.slice none 0 0,.slice none 0 0,.int .i64 0,.int .i64 0,.int .i64 0,.int .i64 0,.int .i64 0] 31):=⟨_,rfl⟩
     have la:Below wd.heap.size wd wa:=by rw [hwa];exact (Below.refl _ _).alloc (Nat.le_refl _) _
     have Lwa:Hid (Below wr.heap.size wr wa):=Lwd.out.trans (la.mono Lwd.out.size);have ba:wa.heap[wd.heap.size]? = some (.cells #[.slice none 0 0,.slice none 0 0,.slice none 0 0,.int .i64 0,.int .i64 0,.int .i64 0,.int .i64 0,.int .i64 0] 31 (0,0)):=by rw [hwa];exact World.alloc_heap_new wd _
     obtain ⟨BB,hBB⟩:∃ BB,BB = wd.heap.size:=⟨_,rfl⟩
     have hBg:wr.heap.size≤BB:=by rw [hBB];exact Lwd.out.size
     rw [← hwa,← hBB];rw [← hBB] at ba;have HSa:=hidI (HSd.out.keep la);refine hK.out _ _ (SC.out _ Lwa.out) (fun hHa=>?_);clear hK K hwa hBB;try refine nrm ?_
     refine rdy 11 (fun K hK=>?_);obtain ⟨c0,c1',c2',c3',c4,c5,c6,c7⟩:=aa_ ba;have g0:=foc_ ba 0;have g1:=foc_ ba 1;have g2:=foc_ ba 2;have g3:=foc_ ba 3;have g4:=foc_ ba 4;have g5:=foc_ ba 5;have g6:=foc_ ba 6;have g7:=foc_ ba 7;go_simp;generalize hWz:World.setCell (World.setCell (World.setCell (World.setCell (World.setCell (World.setCell (World.setCell (World.setCell wa _ _) _ _) _ _) _ _) _ _) _ _) _ _) _ _ = Wz;obtain ⟨bz,tz⟩:=store8 ba hWz;have lz:Below wr.heap.size wr Wz:=Lwa.out.trans (tz.below Lwa.out.size hBg);have rz:=HSa.out.turn ba tz;have RL:=hidI (And.intro bz (And.intro rz lz));refine hK.out _ _ (SC.out _ lz) (fun hHz=>?_);clear hK K;try refine nrm ?_
     refine tk 12 ?_;refine wpAnyH_done (by kernel_rfl) ?_ _;clear c0 c1' c2' c3' c4 c5 c6 c7 g0 g1 g2 g3 g4 g5 g6 g7 bz rz lz hHz tz hWz;go_wp2_with fail
     go_meet
     case rel=>exact ⟨BB,_,rfl,rfl,RL.out⟩
    ·go_simp;obtain ⟨wa,hwa⟩:∃ wa,wa = wq.alloc (.cells #[.slice none 0 0,.slice none 0 0,.slice none 0 0,.int .i64 0,.int .i64 0,.int .i64 0,.int .i64 0,.int .i64 0] 31):=⟨_,rfl⟩
     have la:Below wq.heap.size wq wa:=by rw [hwa];exact (Below.refl _ _).alloc (Nat.le_refl _) _
     have Lwa:Hid (Below wr.heap.size wr wa):=Lwq.out.trans (la.mono Lwq.out.size);have ba:wa.heap[wq.heap.size]? = some (.cells #[.slice none 0 0,.slice none 0 0,.slice none 0 0,.int .i64 0,.int .i64 0,.int .i64 0,.int .i64 0,.int .i64 0] 31 (0,0)):=by rw [hwa];exact World.alloc_heap_new wq _
     obtain ⟨BB,hBB⟩:∃ BB,BB = wq.heap.size:=⟨_,rfl⟩
     have hBg:wr.heap.size≤BB:=by rw [hBB];exact Lwq.out.size
     rw [← hwa,← hBB];rw [← hBB] at ba;refine hK.out _ _ (SC.out _ Lwa.out) (fun hHa=>?_);clear hK K hwa hBB;try refine nrm ?_
     refine rdy 6 (fun K hK=>?_);go_simp;refine (jN_ p a1 a2 a3 n1 c1 n2 c2 n3 c3 cur b1 b2 b3 m1 d1 m2 d2 m3 d3 ⟨kd,ka,kb,ky,bd⟩ _ ((HP.out.keep KR.out).keep Lwa.out) (HSR.out.keep Lwa.out) HNL.out.1 HNL.out.2.1 HNL.out.2.2.1 HNL.out.2.2.2).mono ?_;rintro e wd ⟨vd,rfl,hresd,kd⟩;rw [← HG.out] at hresd ⊢;obtain ⟨x1,x2,x3,q1,e1,q2,e2,q3,e3,i1,i2,i3,i4,i5,rfl⟩:=hresd.shape;have Lwd:Hid (Below wr.heap.size wr wd):=Lwa.out.trans (kd.mono Lwa.out.size);have HSd:=hidI (hresd.lower (n':=n) (by have:=Lwa.out.size;have:=HNW.out;omega));have bd:=pkp_ ba kd;refine hK.out _ _ (SC.out _ Lwd.out) (fun hHd=>?_);clear hK K hresd kd;try refine nrm ?_
     refine tk 7 ?_;refine tk 8 ?_;refine tk 9 ?_;refine rdy 11 (fun K hK=>?_);obtain ⟨c0,c1',c2',c3',c4,c5,c6,c7⟩:=aa_ bd;have g0:=foc_ bd 0;have g1:=foc_ bd 1;have g2:=foc_ bd 2;have g3:=foc_ bd 3;have g4:=foc_ bd 4;have g5:=foc_ bd 5;have g6:=foc_ bd 6;have g7:=foc_ bd 7;go_simp;generalize hWz:World.setCell (World.setCell (World.setCell (World.setCell (World.setCell (World.setCell (World.setCell (World.setCell wd _ _) _ _) _ _) _ _) _ _) _ _) _ _) _ _ = Wz;obtain ⟨bz,tz⟩:=store8 bd hWz;have lz:Below wr.heap.size wr Wz:=Lwd.out.trans (tz.below Lwd.out.size hBg);have rz:=HSd.out.turn bd tz;have RL:=hidI (And.intro bz (And.intro rz lz));refine hK.out _ _ (SC.out _ lz) (fun hHz=>?_);clear hK K;try refine nrm ?_
     refine tk 12 ?_;refine wpAnyH_done (by kernel_rfl) ?_ _;clear c0 c1' c2' c3' c4 c5 c6 c7 g0 g1 g2 g3 g4 g5 g6 g7 bz rz lz hHz tz hWz;go_wp2_with fail
     go_meet
     case rel=>exact ⟨BB,_,rfl,rfl,RL.out⟩
   case rest=>
    obtain ⟨BB,u,rfl,rfl,hbb,hrs,hBx⟩:=hcut;have HBBX:=hidI hbb;have HRX:=hidI hrs;have KX:=hidI hBx;have hsx:=hBx.size;clear hbb hrs hBx;by_cases hz:E = 0
    rotate_left
    ·have hz':(E == 0) = false:=by simpa using hz
     have HZN:=hidI hz;clear hz;go_wp2_with fail
     go_roundw
     case rel=>
      refine ⟨k+1,HLT.out,by have:=HLT.out;go_num,cur,HI.out.box.keep KX.out,HI.out.bel.trans (KX.out.mono HI.out.bel.size),by omega,?_⟩;rw [HI.out.done,HDR.out];conv=>lhs;unfold fE_ jz_
      rw [if_neg (by rw [← HG.out];exact HZN.out)]
     case measure=>have:=HLT.out;simp [intOf];omega
    subst hz;obtain ⟨h1,h2,h3,o1,o2,o3,o4,o5,o6,hv,hown⟩:=HRX.out.1 rfl;obtain ⟨NS,hNS⟩:∃ NS,NS = doS p cur ⟨kd,ka,kb,ky,bd⟩:=⟨_,rfl⟩
    rw [← hNS] at hown hv;have HNS:=hidI hNS;cases hv;have HO9:=hidI hown;have bB:=pkp_ HBR.out KX.out;have BBH:=hidI bB;obtain ⟨c0,c1',c2',c3',c4,c5,c6,c7⟩:=aa_ HBBX.out;obtain ⟨y0,y1,y2,y3,y4,y5,y6,y7⟩:=aa_ bB;have f0:=foc_ bB 0;have f1:=foc_ bB 1;have f2:=foc_ bB 2;have f3:=foc_ bB 3;have f4:=foc_ bB 4;have f5:=foc_ bB 5;have f6:=foc_ bB 6;have f7:=foc_ bB 7;clear hNS hown bB;go_wp2_with fail
    generalize hWz:World.setCell (World.setCell (World.setCell (World.setCell (World.setCell (World.setCell (World.setCell (World.setCell wc _ _) _ _) _ _) _ _) _ _) _ _) _ _) _ _ = Wz;obtain ⟨bz,tz⟩:=store8 BBH.out hWz;have oz:=fp_ HO9.out (B:=B) (by rw [HNE.out];exact hsr) tz;go_roundw
    case rel=>
     refine ⟨k+1,HLT.out,by have:=HLT.out;go_num,NS,⟨_,_,_,_,_,_,_,_,_,bz,.inl (oz.lower (by rw [HNE.out];exact KR.out.size))⟩,(HI.out.bel.trans (KX.out.mono HI.out.bel.size)).trans (tz.below (Nat.le_trans HI.out.bel.size KX.out.size) (by rw [HBB.out];exact Nat.le_refl _)),by have:=tz.size;omega,?_⟩;rw [HI.out.done,HDR.out];conv=>lhs;unfold fE_ jz_
     rw [if_pos HG.out.symm,HNS.out]
    case measure=>have:=HLT.out;simp [intOf];omega
  ·have hke:k = m:=by omega
   subst hke;clear hlt hk;have HCU:Hid (cur = fE_ p A (co_ n2)):=by
    show cur = _;rw [HI.out.done,← HM.out,List.drop_length];rfl
   obtain ⟨y0,y1,y2,y3,y4,y5,y6,y7⟩:=aa_ HBR.out;have r4:=BX.out wr KR.out;obtain ⟨z0,z1,z2,z3,z4,z5,z6,z7⟩:=aa_ r4;have e0:=foc_ r4 0;have e1:=foc_ r4 1;have e2:=foc_ r4 2;have e3:=foc_ r4 3;have e4:=foc_ r4 4;have e5:=foc_ r4 5;have e6:=foc_ r4 6;have e7:=foc_ r4 7;have R4:=hidI r4;clear r4;have hBW1:w.heap.size+1 < B:=by have:=HZ.out;have:=HS5.out;rw [HBB.out];omega
   go_wp2_with fail
   generalize hW9:World.setCell (World.setCell (World.setCell (World.setCell (World.setCell (World.setCell (World.setCell (World.setCell wr _ _) _ _) _ _) _ _) _ _) _ _) _ _) _ _ = W9;obtain ⟨b9,t9⟩:=store8 R4.out hW9;obtain ⟨z0,z1,z2,z3,z4,z5,z6,z7⟩:=aa_ b9;have hrs9:=HRS.out.turn (by have:=HZ.out;omega) t9;exact bodyPost_ret (v:=.agg #[.slice b1 m1 d1,.slice b2 m2 d2,.slice b3 m3 d3,.int .i64 cur.nextSeq,.int .i64 cur.nextTag,.int .i64 cur.came,.int .i64 cur.acked,.int .i64 cur.dropped]) (by simp [results,Tryz.results25,go_sem,z0,z1,z2,z3,z4,z5,z6,z7]) rfl ⟨_,rfl,⟨b1,b2,b3,m1,d1,m2,d2,m3,d3,cur,HCU.out,rfl,hrs9.lower s0⟩,HBW.out.trans ((KR.out.mono s0).trans (t9.below (by have:=KR.out.size;have:=HZ.out;omega) (by omega)))⟩
theorem kq_ (c:Int) (n:Nat) (w:World) (h1:-9223372036854775808≤c) (h2:c≤9223372036854775807) (hn:0 < n) (hm:n≤1000000000000) :
 Calls Tryz.prog 17 #[.int .i64 c,.int .i64 (n:Int)] w fun e w'=>∃ r:Nat,r < n∧e = .returned (.int .i64 r)∧w' = w:=by
 have hz:((n:Int) == 0) = false:=by rw [beq_eq_false_iff_ne];omega
 have hz':(n:Int)≠0:=by omega
 by_cases h:c < 0
 ·obtain ⟨k,rfl⟩:∃ k:Nat,c = -(k:Int) - 1:=⟨(-(c+1)).toNat,by omega⟩
  have e1:IntKind.i64.wrap (-(k:Int) - 1+1) = -(k:Int):=by rw [IntKind.wrap_i64];omega
  have e2:IntKind.i64.wrap (- -(k:Int)) = (k:Int):=by rw [IntKind.wrap_i64];omega
  have e2':IntKind.i64.wrap (k:Int) = (k:Int):=by rw [IntKind.wrap_i64];omega
  have e3:(k:Int).tmod (n:Int) = ((k % n:Nat):Int):=by rw [Int.tmod_eq_emod_of_nonneg (by omega)];omega
  have hl:=Nat.mod_lt k hn;have e4:IntKind.i64.wrap ((k % n:Nat):Int) = ((k % n:Nat):Int):=by rw [IntKind.wrap_i64];omega
  obtain ⟨r,hr⟩:∃ r,r = k % n:=⟨_,rfl⟩
  rw [← hr] at e3 e4 hl;clear hr;go_enter Tryz.func17,Tryz.ntmps17;go_wp2
  go_ret
  exact ⟨r,hl,rfl,rfl⟩
 ·obtain ⟨k,rfl⟩:∃ k:Nat,c = k:=⟨c.toNat,by omega⟩
  have e3:(k:Int).tmod (n:Int) = ((k % n:Nat):Int):=by rw [Int.tmod_eq_emod_of_nonneg (by omega)];omega
  have hl:=Nat.mod_lt k hn;have e4:IntKind.i64.wrap ((k % n:Nat):Int) = ((k % n:Nat):Int):=by rw [IntKind.wrap_i64];omega
  obtain ⟨r,hr⟩:∃ r,r = k % n:=⟨_,rfl⟩
  rw [← hr] at e3 e4 hl;clear hr;go_enter Tryz.func17,Tryz.ntmps17;go_wp2
  go_ret
  exact ⟨r,hl,rfl,rfl⟩
theorem jx_ (s:ab_) (b1 b2 b3 e1 e2 e3:Option Addr) (m1 d1 m2 d2 m3 d3 f1 f2 f3:Nat) (w:World) (ha:an_ w b1 b2 b3 m1 m2 m3 s) (hb:an_ w e1 e2 e3 m1 m2 m3 s) :
 Calls Tryz.prog 16 #[.agg #[.slice b1 m1 d1,.slice b2 m2 d2,.slice b3 m3 d3,.int .i64 s.nextSeq,.int .i64 s.nextTag,.int .i64 s.came,.int .i64 s.acked,.int .i64 s.dropped],.agg #[.slice e1 m1 f1,.slice e2 m2 f2,.slice e3 m3 f3,.int .i64 s.nextSeq,.int .i64 s.nextTag,.int .i64 s.came,.int .i64 s.acked,.int .i64 s.dropped]] w fun e w'=>e = .returned (.bool true)∧Below w.heap.size w w':=by
 obtain ⟨W2,hW2,hBw,hs2,hbx⟩:=nI_ w #[.slice b1 m1 d1,.slice b2 m2 d2,.slice b3 m3 d3,.int .i64 s.nextSeq,.int .i64 s.nextTag,.int .i64 s.came,.int .i64 s.acked,.int .i64 s.dropped] #[.slice e1 m1 f1,.slice e2 m2 f2,.slice e3 m3 f3,.int .i64 s.nextSeq,.int .i64 s.nextTag,.int .i64 s.came,.int .i64 s.acked,.int .i64 s.dropped];have HW2:=hidI hW2;have BX:=hidI hbx;have HA:=hidI (ha.keep hBw);have HB:=hidI (hb.keep hBw);have HBW:=hidI hBw;have HM1:Hid (s.ready.length = m1):=ha.l1;have HM2:Hid (s.outs.length = m2):=ha.l2;have HM3:Hid (s.takers.length = m3):=ha.l3;have hx1:=ha.x1;have hx2:=ha.x2;have hx3:=ha.x3;unfold maxLen at hx1 hx3;have s0:=hBw.size;have g1:((m1:Int) != (m1:Int)) = false:=by simp
 have g2:((m2:Int) != (m2:Int)) = false:=by simp
 have g3:((m3:Int) != (m3:Int)) = false:=by simp
 have g4:(s.nextSeq != s.nextSeq) = false:=by simp
 have g5:(s.nextTag != s.nextTag) = false:=by simp
 have g6:(s.came != s.came) = false:=by simp
 have g7:(s.acked != s.acked) = false:=by simp
 have g8:(s.dropped != s.dropped) = false:=by simp
 obtain ⟨y0,y1,y2,y3,y4,y5,y6,y7⟩:=aa_ (hbx W2 (Below.refl _ _)).1;obtain ⟨z0,z1,z2,z3,z4,z5,z6,z7⟩:=aa_ (hbx W2 (Below.refl _ _)).2;clear hW2 hbx hs2 ha hb hBw;go_enter Tryz.func16,Tryz.ntmps16;go_wp2_with fail
 rw [← HW2.out];clear y0 y1 y2 y3 y4 y5 y6 y7 z0 z1 z2 z3 z4 z5 z6 z7 g1 g2 g3 g4 g5 g6 g7 g8;go_loopw [5] (fun i wr=>∃ k:Nat,k≤m1∧i = .int .i64 k∧Below W2.heap.size W2 wr) (fun i _=>m1 - (intOf i).toNat)
 case atStart=>exact ⟨0,Nat.zero_le _,rfl,Below.refl _ _⟩
 case round=>
  obtain ⟨k,hk,rfl,hB⟩:=hrel;have hBs:=hB.size;have HBl:=hidI hB;obtain ⟨y0,y1,y2,y3,y4,y5,y6,y7⟩:=aa_ (BX.out wr hB).1;obtain ⟨z0,z1,z2,z3,z4,z5,z6,z7⟩:=aa_ (BX.out wr hB).2;by_cases hlt:k < m1
  ·have HLT:=hidI hlt;have hkl:k < s.ready.length:=by rw [HM1.out];exact hlt
   obtain ⟨g,o,b,c,ha,hg,hl⟩:=(HA.out.q1.keep hB).get hkl;obtain ⟨g',o',b',c',ha',hg',hl'⟩:=(HB.out.q1.keep hB).get hkl;subst ha ha';have c1:=hl.cell;have c2:=hl'.cell;obtain ⟨n,hn⟩:∃ n,n = (s.ready[k]'hkl).length:=⟨_,rfl⟩
   rw [← hn] at c1 c2;have SI:=hidI (k6_ (s.ready[k]'hkl) b b' n c c' wr.drew hn.symm (by rw [hn];exact Nat.le_trans hl.le hl.cm) (hl.it.keep (Below.refl _ _).drew) (hl'.it.keep (Below.refl _ _).drew));have j1:(0:Int)≤(k:Int):=by omega
   have j2:(k:Int) < m1:=by omega
   have SS:Hid (∀ W',Below wr.heap.size wr W'→(W'.cell? ⟨w.heap.size,0,none⟩ = some (.slice (some ⟨g,o,none⟩) m1 d1)∧W'.cell? ⟨w.heap.size+1,0,none⟩ = some (.slice (some ⟨g',o',none⟩) m1 f1)∧W'.cell? ⟨g,o+k,none⟩ = some (.slice b n c)∧W'.cell? ⟨g',o' + k,none⟩ = some (.slice b' n c'))):=fun W' hW'=>by
    have q:=BX.out W' (HBl.out.trans (hW'.mono hBs));exact ⟨coc_ q.1 0,coc_ q.2 0,(hW'.cell (p:=⟨g,o+k,none⟩) hg).trans c1,(hW'.cell (p:=⟨g',o' + k,none⟩) hg').trans c2⟩
   clear hl hl' hn;go_wp2_with fail
   refine wp_region_held_drew (S:=fun W'=>(W'.cell? ⟨w.heap.size,0,none⟩ = some (.slice (some ⟨g,o,none⟩) m1 d1)∧W'.cell? ⟨w.heap.size+1,0,none⟩ = some (.slice (some ⟨g',o',none⟩) m1 f1)∧W'.cell? ⟨g,o+k,none⟩ = some (.slice b n c)∧W'.cell? ⟨g',o' + k,none⟩ = some (.slice b' n c'))) (by kernel_rfl) (SS.out _ (Below.refl _ _).drew) (fun hHeld=>?_);refine tk 0 ?_;refine tk 1 ?_;refine tk 2 ?_;refine tk 3 ?_;refine tk 4 ?_;refine tk 5 ?_;refine tk 6 ?_;refine tk 7 ?_;refine tk 8 ?_;refine tk 9 ?_;refine rdy 10 (fun K hK=>?_);go_simp;refine SI.out.mono ?_;rintro e w3 ⟨rfl,k3'⟩;have k3:Below wr.heap.size wr w3:=bud_ k3';refine hK.out _ _ (SS.out _ k3) (fun hHeld2=>?_);clear hHeld hK K k3';try simp only [Act.put,List.getElem_toArray,List.getElem_cons_succ,List.getElem_cons_zero,List.setIfInBounds_toArray,List.set_cons_zero,List.set_cons_succ]
   refine tk 11 ?_;refine wpAnyH_done (by kernel_rfl) ?_ _;clear hHeld2;go_wp2_with fail
   go_roundw
   case rel=>exact ⟨k+1,HLT.out,by have:=HLT.out;go_num,HBl.out.trans (k3.mono hBs)⟩
   case measure=>have:=HLT.out;simp [intOf];omega
  ·have hke:m1 = k:=by omega
   subst hke;clear hlt hk;go_wp2_with fail
   clear y0 y1 y2 y3 y4 y5 y6 y7 z0 z1 z2 z3 z4 z5 z6 z7;go_loopw [6] (fun i wr=>∃ k:Nat,k≤m2∧i = .int .i64 k∧Below W2.heap.size W2 wr) (fun i _=>m2 - (intOf i).toNat)
   case atStart=>exact ⟨0,Nat.zero_le _,rfl,hB⟩
   case round=>
    clear hB hBs HBl;obtain ⟨k,hk,rfl,hB⟩:=hrel;have hBs:=hB.size;have HBl:=hidI hB;obtain ⟨y0,y1,y2,y3,y4,y5,y6,y7⟩:=aa_ (BX.out wr hB).1;obtain ⟨z0,z1,z2,z3,z4,z5,z6,z7⟩:=aa_ (BX.out wr hB).2;by_cases hlt:k < m2
    ·have HLT:=hidI hlt;have hkl:k < s.outs.length:=by rw [HM2.out];exact hlt
     obtain ⟨g,o,ha,hg,c0,c1,c2,c3,c4,c5,c6,c7⟩:=(HA.out.q2.keep hB).get hkl;obtain ⟨g',o',ha',hg',c0',c1',c2',c3',c4',c5',c6',c7'⟩:=(HB.out.q2.keep hB).get hkl;subst ha ha';have j1:(0:Int)≤(k:Int):=by omega
     have j2:(k:Int) < m2:=by omega
     go_wp2_with fail
     go_quiet (fail)
     go_wp2_with fail
     go_roundw
     case rel=>exact ⟨k+1,HLT.out,by have:=HLT.out;go_num,cW_ HBl.out⟩
     case measure=>have:=HLT.out;simp [intOf];omega
    ·have hke:m2 = k:=by omega
     subst hke;clear hlt hk;go_wp2_with fail
     clear y0 y1 y2 y3 y4 y5 y6 y7 z0 z1 z2 z3 z4 z5 z6 z7;go_loopw [7] (fun i wr=>∃ k:Nat,k≤m3∧i = .int .i64 k∧Below W2.heap.size W2 wr) (fun i _=>m3 - (intOf i).toNat)
     case atStart=>exact ⟨0,Nat.zero_le _,rfl,hB⟩
     case round=>
      clear hB hBs HBl;obtain ⟨k,hk,rfl,hB⟩:=hrel;have hBs:=hB.size;have HBl:=hidI hB;obtain ⟨y0,y1,y2,y3,y4,y5,y6,y7⟩:=aa_ (BX.out wr hB).1;obtain ⟨z0,z1,z2,z3,z4,z5,z6,z7⟩:=aa_ (BX.out wr hB).2;by_cases hlt:k < m3
      ·have HLT:=hidI hlt;have hkl:k < s.takers.length:=by rw [HM3.out];exact hlt
       obtain ⟨g,o,ha,hg,c0,c1⟩:=(HA.out.q3.keep hB).get hkl;obtain ⟨g',o',ha',hg',c0',c1'⟩:=(HB.out.q3.keep hB).get hkl;subst ha ha';have j1:(0:Int)≤(k:Int):=by omega
       have j2:(k:Int) < m3:=by omega
       go_wp2_with fail
       go_quiet (fail)
       go_wp2_with fail
       go_roundw
       case rel=>exact ⟨k+1,HLT.out,by have:=HLT.out;go_num,cW_ HBl.out⟩
       case measure=>have:=HLT.out;simp [intOf];omega
      ·have hke:m3 = k:=by omega
       subst hke;clear hlt hk;go_wp2_with fail
       go_ret
       exact ⟨rfl,HBW.out.trans (HBl.out.mono s0)⟩
structure Done (p:ad_) (s t:ab_):Prop where
 was:aj_ p s 0
 right:aj_ p t 0
 came:s.came≤t.came
 acked:s.acked≤t.acked
 dropped:s.dropped≤t.dropped
 tag:s.nextTag≤t.nextTag
 len:t.ready.length = s.ready.length
theorem oP_ {p:ad_} {s:ab_} {q most:Int} (h:ds_ p s q most = 0):aj_ p s 0∧as_ q p.queues.length = true∧inR most 1 4 = true∧¬ (goneIdx s.takers = s.takers.length∧4≤s.takers.length):=by
 unfold ds_ at h;by_cases h1:stE p s = 0
 ·rw [if_neg (by simp [h1])] at h;unfold hy_ at h;by_cases h2:as_ q p.queues.length = false
  ·rw [if_pos h2] at h;cases h
  ·rw [if_neg h2] at h;by_cases h3:inR most 1 4 = false
   ·rw [if_pos h3] at h;cases h
   ·rw [if_neg h3] at h;by_cases h4:goneIdx s.takers = s.takers.length∧4≤s.takers.length
    ·rw [if_pos h4] at h;cases h
    ·exact ⟨aM_ h1,by simpa using h2,by simpa using h3,h4⟩
 ·rw [if_pos h1] at h;exact absurd h h1
theorem j9_ {p:ad_} {s:ab_} {post:Int} {key body:ByteArray} (h:pubE p s post key body = 0):aj_ p s 0∧rtE p post key = 0∧body.size≤12∧(pubL p post key body).length≤4∧(∀ a ∈ pubL p post key body,de_ p a)∧s.nextSeq≤524288:=by
 unfold pubE at h;by_cases h1:stE p s = 0
 ·rw [if_neg (by simp [h1])] at h;unfold pubX at h;by_cases h2:rtE p post key = 0
  ·rw [if_neg (by simp [h2])] at h;by_cases h3:12 < body.size
   ·rw [if_pos h3] at h;cases h
   ·rw [if_neg h3] at h;unfold letE at h;rw [if_neg (by simp [h1])] at h;obtain ⟨g1,g2,g3⟩:=hg_ h;exact ⟨aM_ h1,h2,by omega,g1,g2,g3⟩
  ·rw [if_pos h2] at h;exact absurd h h2
 ·rw [if_pos h1] at h;exact absurd h h1
theorem np_ {p:ad_} {s:ab_} {post:Int} {key body:ByteArray} (h:pubE p s post key body = 0):∃ n,Arrived p s (arrS p 600 s (pubL p post key body)) n:=by
 obtain ⟨h1,h2,h3,h4,h5,h6⟩:=j9_ h;exact ⟨_,(hi_ 600 h1 h5 (Nat.le_trans (md_ h1 h4) (by omega)) (by omega)).1⟩
theorem Arrived.fin {p:ad_} {s t:ab_} {n:Nat} (hs:aj_ p s 0) (h:Arrived p s t n):Done p s t:=
 ⟨hs,h.right,by have:=h.came;omega,by rw [h.acked];exact Int.le_refl _,h.dropped,by rw [h.tag];exact Int.le_refl _,h.len⟩
theorem n6_ {p:ad_} {s:ab_} {x:ActD} (h:doE p s x = 0):Done p s (doS p s x):=by
 unfold doE at h;unfold doS;by_cases h1:x.kind = 1
 ·rw [if_pos h1] at h ⊢;obtain ⟨n,hn⟩:=np_ h;exact hn.fin (j9_ h).1
 rw [if_neg h1] at h ⊢;by_cases h2:x.kind = 2
 ·rw [if_pos h2] at h ⊢;obtain ⟨g1,g2,g3,g4⟩:=oP_ h;exact ⟨g1,g1.join g2 g3 g4,Int.le_refl _,Int.le_refl _,Int.le_refl _,Int.le_refl _,rfl⟩
 rw [if_neg h2] at h ⊢;by_cases h3:x.kind = 3
 ·rw [if_pos h3] at h ⊢;have g:=leaves h;exact ⟨g.was,g.right,g.came,by rw [g.acked];exact Int.le_refl _,g.dropped,by rw [g.tag];exact Int.le_refl _,g.len⟩
 rw [if_neg h3] at h ⊢;by_cases h4:x.kind = 4
 ·rw [if_pos h4] at h ⊢;obtain ⟨k,y,r,g⟩:=m3_ h;exact ⟨g.right,g.done,Int.le_refl _,Int.le_refl _,Int.le_refl _,by show s.nextTag≤s.nextTag+1;omega,List.length_set⟩
 rw [if_neg h4] at h ⊢;by_cases h5:x.kind = 5
 ·rw [if_pos h5] at h ⊢;obtain ⟨g,i,o,ho⟩:=hf_ h;exact ⟨g,g.ack ho,Int.le_refl _,by show s.acked≤s.acked+1;omega,Int.le_refl _,Int.le_refl _,rfl⟩
 rw [if_neg h5] at h ⊢;by_cases h6:x.kind = 6
 ·rw [if_pos h6] at h;obtain ⟨i,o,n,ho,hn,g⟩:=rejected h (x.b != 0);exact ⟨(kc_ h).1,g.right,by have:=g.came;omega,by rw [g.acked];exact Int.le_refl _,g.dropped,by rw [g.tag];exact Int.le_refl _,g.len⟩
 ·rw [if_neg h6] at h;cases h
end Go.Proofs.YtlbnkpicnokgoaaGreat
