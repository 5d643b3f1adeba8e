import Derived.Deep.RegionHeld3
import Derived.Deep.DeepCutAuto
import Derived.Test.YtlbnkpicnokgoaaGreatUmx
import Derived.Test.YtlbnkpicnokgoaaGreatUax
namespace Go.Proofs.YtlbnkpicnokgoaaGreat
open Go.RowKit Go.Maps
set_option linter.unusedVariables false
set_option maxRecDepth 100000
set_option maxHeartbeats 8000000
def pubL (p:ad_) (post:Int) (key body:ByteArray):List ArrD:=bb_ (qsC p key post.toNat) key body 0
def pubX (p:ad_) (s:ab_) (post:Int) (key body:ByteArray):Int:=if rtE p post key≠0 then rtE p post key else if 12 < body.size then 1 else letE p s (pubL p post key body)
theorem hB_ (p:ad_) (a1 a2 a3:Option Addr) (n1 c1 n2 c2 n3 c3:Nat) (s:ab_) (post:Int) (key body:ByteArray) (Bp Bo Bk Bb:Nat) (w:World) (hp:ap_ w a1 a2 a3 n1 n2 n3 p) (x0:w.heap[Bp]? = some (.cells #[.slice a1 n1 c1,.slice a2 n2 c2,.slice a3 n3 c3] 26 (0,0))) (x1:w.heap[Bo]? = some (.cells #[.int .i64 post] 3 (0,0))) (x2:w.heap[Bk]? = some (.cells #[.string key] 9 (0,0))) (x3:w.heap[Bb]? = some (.cells #[.string body] 9 (0,0))) (hR:ak_ p s 0) :
 Does 97 #[.pointer (some ⟨Bp,0,none⟩),.pointer (some ⟨Bo,0,none⟩),.pointer (some ⟨Bk,0,none⟩),.pointer (some ⟨Bb,0,none⟩)] w s (pubX p s post key body) ((qsC p key post.toNat).length:Nat) (arrS p 600 s (pubL p post key body)):=by
 intro W n t hBW hwt htn hnW hbx;obtain ⟨E,hE⟩:∃ E,E = pubX p s post key body:=⟨_,rfl⟩
 obtain ⟨NN,hNN⟩:∃ NN:Int,NN = ((qsC p key post.toNat).length:Nat):=⟨_,rfl⟩
 rw [← hE,← hNN];have HE:=hidI hE;have HNN:=hidI hNN;have HP:=hidI (hp.keep hBW);have HR:=hidI hR;have HBX:=hidI hbx;have X0:=hidI (pkp_ x0 hBW);have X1:=hidI (pkp_ x1 hBW);have X2:=hidI (pkp_ x2 hBW);have X3:=hidI (pkp_ x3 hBW);have hap:(#[Value.pointer (some ⟨t,0,none⟩)] ++ #[Value.pointer (some ⟨Bp,0,none⟩),Value.pointer (some ⟨Bo,0,none⟩),Value.pointer (some ⟨Bk,0,none⟩),Value.pointer (some ⟨Bb,0,none⟩)]:Array Value) = #[.pointer (some ⟨t,0,none⟩),.pointer (some ⟨Bp,0,none⟩),.pointer (some ⟨Bo,0,none⟩),.pointer (some ⟨Bk,0,none⟩),.pointer (some ⟨Bb,0,none⟩)]:=rfl;rw [hap];obtain ⟨p0,p1,p2⟩:=ag_ X0.out;have o0:=coc_ X1.out 0;have k0:=coc_ X2.out 0;have g0:=coc_ X3.out 0;simp at o0 k0 g0;clear hE hNN hp x0 x1 x2 x3 hR hbx hap hBW;go_enter Tryz.func97,Tryz.ntmps97;go_wp2_with fail
 refine (gZ_ p _ _ _ _ _ _ _ _ _ post key W HP.out).mono ?_;rintro e w1 ⟨zs,az,cz,rfl,hz1,-,hzl,hzi,k1⟩;obtain ⟨E1,hE1⟩:∃ E1,E1 = rtE p post key:=⟨_,rfl⟩
 rw [← hE1] at hz1 ⊢;have HE1:=hidI hE1;obtain ⟨nz,hnz⟩:∃ nz,nz = zs.length:=⟨_,rfl⟩
 have HNZ:=hidI hnz;rw [← hnz] at hzl ⊢;have HZ1:=hidI hz1;have HZI:=hidI hzi;have K1:=hidI k1;have s1:=k1.size;clear hE1 hnz hz1 hzi p0 p1 p2 o0 k0 g0 k1;have ka:=K1.out.alloc s1 (.cells #[.int .i64 E1] 33);by_cases hz:E1 = 0
 rotate_left
 ·have HZN:=hidI hz;have HEE:Hid (E = E1):=by show E = E1;rw [HE.out];unfold pubX;rw [if_pos (by rw [← HE1.out];exact hz),HE1.out]
  have KAA:=hidI ka;clear ka;go_wp2_with fail
  refine (dw_ E1 _ _ (aP_ _ _ _) (by simp) HZN.out).mono ?_;rintro e w2 ⟨rfl,k2⟩;exact ⟨rfl,ac_.of_below (KAA.out.trans (k2.mono KAA.out.size)) hnW,.inl ⟨by rw [HEE.out];exact HZN.out,by rw [HEE.out];rfl⟩⟩
 subst hz;have HE2:Hid (E = if 12 < body.size then 1 else letE p s (pubL p post key body)):=by show E = _;rw [HE.out];unfold pubX;rw [if_neg (by rw [← HE1.out];simp)]
 go_wp2_with (go_at_call 47;refine (dY_ _ _ (aP_ _ _ _) (by simp)).mono ?_;rintro e w2 ⟨rfl,k2⟩;have k2':=ka.trans (k2.mono ka.size);have K2:=hidI k2';have g0:=coc_ (pkp_ X3.out k2') 0;simp at g0;have HZ2:=hidI ((HZI.out.keep ((Below.refl _ _).alloc (Nat.le_refl _) (.cells #[.int .i64 0] 33))).keep k2);clear k2 k2' ka)
 have s2:=K2.out.size;obtain ⟨V3,hV3⟩:∃ V3,V3 = w2.alloc (.cells #[.bool (decide ((12:Int) < (body.size:Int)))] 4):=⟨_,rfl⟩
 have l3:Below w2.heap.size w2 V3:=by rw [hV3];exact (Below.refl _ _).alloc (Nat.le_refl _) _
 have hbn:be_ V3 w2.heap.size 0 [decide ((12:Int) < (body.size:Int))]:=by rw [hV3];exact bk_ w2 [decide ((12:Int) < (body.size:Int))]
 have HV3:=hidI hV3;have HBN:=hidI hbn;have K3:=hidI (K2.out.trans (l3.mono s2));have HZ3:=hidI (HZ2.out.keep l3);clear hV3 l3 hbn;go_wp2_with fail
 rw [← HV3.out];by_cases hb:(12:Int) < (body.size:Int)
 ·have HE1':Hid (E = 1):=by show E = 1;rw [HE2.out,if_pos (by omega)]
  refine (ax_ 1 [decide ((12:Int) < (body.size:Int))] _ _ (by simp) HBN.out (by simp;omega)).mono ?_;rintro e w4 ⟨rfl,rfl⟩;exact ⟨rfl,ac_.of_below K3.out hnW,.inl ⟨by rw [HE1'.out];decide,by rw [HE1'.out];rfl⟩⟩
 refine (aF_ 1 [decide ((12:Int) < (body.size:Int))] _ _ (by simp) HBN.out (by simp;omega)).mono ?_;rintro e w4 ⟨rfl,hw4⟩;rw [hw4];clear hw4;have HE3:Hid (E = letE p s (pubL p post key body)):=by show E = _;rw [HE2.out,if_neg (by omega)]
 clear hb;have HQZ:Hid (zs = qsC p key post.toNat):=by
  show zs = _;refine (HZ1.out trivial).uniq (j0_ HR.out.rp ?_);have h1:=HE1.out;unfold rtE at h1;rw [if_pos HR.out.pl] at h1;by_cases h:ar_ post p.posts.length = true
  ·have:=aB_.1 h;omega
  ·rw [if_neg h] at h1;cases h1
 obtain ⟨b1,b2,b3,m1,d1,m2,d2,m3,d3,hbv,hov⟩:=HBX.out.keep K3.out;have HBV:=hidI hbv;have HOV:=hidI hov;have HPV:=hidI (HP.out.keep K3.out);have SA:Hid (∀ W',Below V3.heap.size V3 W'→((W'.cell? ⟨Bp,0,none⟩ = some (.slice a1 n1 c1)∧W'.cell? ⟨Bp,1,none⟩ = some (.slice a2 n2 c2)∧W'.cell? ⟨Bp,2,none⟩ = some (.slice a3 n3 c3))∧(W'.cell? ⟨t,0,none⟩ = some (.slice b1 m1 d1)∧W'.cell? ⟨t,1,none⟩ = some (.slice b2 m2 d2)∧W'.cell? ⟨t,2,none⟩ = some (.slice b3 m3 d3)∧W'.cell? ⟨t,3,none⟩ = some (.int .i64 s.nextSeq)∧W'.cell? ⟨t,4,none⟩ = some (.int .i64 s.nextTag)∧W'.cell? ⟨t,5,none⟩ = some (.int .i64 s.came)∧W'.cell? ⟨t,6,none⟩ = some (.int .i64 s.acked)∧W'.cell? ⟨t,7,none⟩ = some (.int .i64 s.dropped))∧W'.cell? ⟨Bk,0,none⟩ = some (.string key)∧W'.cell? ⟨Bb,0,none⟩ = some (.string body))):=fun W' h=>by
  have y:=K3.out.trans (h.mono K3.out.size);exact ⟨ag_ (pkp_ X0.out y),aa_ (pkp_ HBV.out h),coc_ (pkp_ X2.out y) 0,coc_ (pkp_ X3.out y) 0⟩
 clear hbv hov g0;go_upto_region 4 with fail
 go_cut [9,10,8] (fun s9 s10 s8 wx=>∃ BB u num,s9 = .pointer (some ⟨BB,0,none⟩)∧s10 = .int .i64 num∧s8 = .int .i64 E∧wx.heap[BB]? = some (.cells u 31 (0,0))∧bn_ wx n (.agg u) E (arrS p 600 s (pubL p post key body))∧Below V3.heap.size V3 wx)
 case first=>
  refine wp_region_held_drew (S:=fun W'=>((W'.cell? ⟨Bp,0,none⟩ = some (.slice a1 n1 c1)∧W'.cell? ⟨Bp,1,none⟩ = some (.slice a2 n2 c2)∧W'.cell? ⟨Bp,2,none⟩ = some (.slice a3 n3 c3))∧(W'.cell? ⟨t,0,none⟩ = some (.slice b1 m1 d1)∧W'.cell? ⟨t,1,none⟩ = some (.slice b2 m2 d2)∧W'.cell? ⟨t,2,none⟩ = some (.slice b3 m3 d3)∧W'.cell? ⟨t,3,none⟩ = some (.int .i64 s.nextSeq)∧W'.cell? ⟨t,4,none⟩ = some (.int .i64 s.nextTag)∧W'.cell? ⟨t,5,none⟩ = some (.int .i64 s.came)∧W'.cell? ⟨t,6,none⟩ = some (.int .i64 s.acked)∧W'.cell? ⟨t,7,none⟩ = some (.int .i64 s.dropped))∧W'.cell? ⟨Bk,0,none⟩ = some (.string key)∧W'.cell? ⟨Bb,0,none⟩ = some (.string body))) (by kernel_rfl) (SA.out _ (Below.refl _ _).drew) (fun hHeld=>?_);obtain ⟨wq,hwq⟩:∃ wq,wq = V3.drew:=⟨_,rfl⟩
  have Lwq:Hid (Below V3.heap.size V3 wq):=by show Below V3.heap.size V3 wq;rw [hwq];exact (Below.refl _ _).drew
  rw [← hwq] at hHeld ⊢;clear hwq;refine tk 0 ?_;refine tk 1 ?_;refine tk 2 ?_;refine tk 3 ?_;refine tk 4 ?_;refine tk 5 ?_;refine tk 6 ?_;refine wpAnyH_ready (rs:=[7,13]) (by kernel_rfl) (by simp) ?_;refine AllReadyH.cons rfl (fun K hK=>?_) (AllReadyH.cons rfl (fun K hK=>?_) AllReadyH.nil)
  ·go_simp;refine (dM_ zs az nz cz key body 0 _ HNZ.out.symm (by omega) (HZ3.out.keep Lwq.out)).mono ?_;rintro e wo ⟨vo,rfl,hoo,ko⟩;obtain ⟨ao,co,hvo,hco,hcm,hno,-⟩:=aH_ hoo;subst hvo;have Lwo:Hid (Below V3.heap.size V3 wo):=Lwq.out.trans (ko.mono Lwq.out.size);have HRo:Hid (bh_ wo ao (pubL p post key body)):=by show bh_ wo ao _;have h:=dx_ hoo;rw [HQZ.out] at h;exact h
   have HNO:=hidI hno;have HRL:Hid ((pubL p post key body).length = nz):=by show _ = nz;unfold pubL bb_;rw [List.length_map,← HQZ.out,HNZ.out]
   refine hK.out _ _ (SA.out _ Lwo.out) (fun hHo=>?_);clear hK K hoo hno ko;try refine nrm ?_
   refine wpAnyH_ready (rs:=[8,13]) (by kernel_rfl) (by simp) ?_;refine AllReadyH.cons rfl (fun K hK=>?_) (AllReadyH.cons rfl (fun K hK=>?_) AllReadyH.nil)
   ·go_simp;refine (b0_ p a1 a2 a3 n1 c1 n2 c2 n3 c3 s b1 b2 b3 m1 d1 m2 d2 m3 d3 (pubL p post key body) ao nz co _ (HPV.out.keep Lwo.out) (HOV.out.keep Lwo.out).state (HOV.out.keep Lwo.out).nils.1 (HOV.out.keep Lwo.out).nils.2 HRo.out HRL.out (by unfold maxLen;omega) HNO.out).mono ?_;rintro e wd ⟨vd,rfl,hresd,kd⟩;rw [← HE3.out] at hresd ⊢;obtain ⟨x1,x2,x3,q1,e1,q2,e2,q3,e3,i1,i2,i3,i4,i5,rfl⟩:=hresd.shape;have Lwd:Hid (Below V3.heap.size V3 wd):=Lwo.out.trans (kd.mono Lwo.out.size);have HSd:=hidI (hresd.lower (n':=n) (by have:=Lwo.out.size;have:=K3.out.size;omega));obtain ⟨num,hnum⟩:∃ num,num = a9_ E ((arrN p 600 s (pubL p post key body):Nat)):=⟨_,rfl⟩
    rw [← hnum];refine hK.out _ _ (SA.out _ Lwd.out) (fun hHd=>?_);clear hK K hresd kd hnum;try refine nrm ?_
    refine tk 9 ?_;refine tk 10 ?_;refine tk 11 ?_;refine tk 12 ?_;refine rdy 13 (fun K hK=>?_);go_simp;obtain ⟨wa,hwa⟩:∃ wa,wa = wd.alloc (.cells #[.slice none 0 0,.slice none 0 0,.slice none 0 0,.int .i64 0,.int .i64 0,.int .i64 0,.int .i64 0,.int .i64 0] 31):=⟨_,rfl⟩
    have la:Below wd.heap.size wd wa:=by rw [hwa];exact (Below.refl _ _).alloc (Nat.le_refl _) _
    have Lwa:Hid (Below V3.heap.size V3 wa):=Lwd.out.trans (la.mono Lwd.out.size);have ba:wa.heap[wd.heap.size]? = some (.cells #[.slice none 0 0,.slice none 0 0,.slice none 0 0,.int .i64 0,.int .i64 0,.int .i64 0,.int .i64 0,.int .i64 0] 31 (0,0)):=by rw [hwa];exact World.alloc_heap_new wd _
    obtain ⟨BB,hBB⟩:∃ BB,BB = wd.heap.size:=⟨_,rfl⟩
    have hBg:V3.heap.size≤BB:=by rw [hBB];exact Lwd.out.size
    rw [← hwa,← hBB];rw [← hBB] at ba;have HSa:=hidI (HSd.out.keep la);refine hK.out _ _ (SA.out _ Lwa.out) (fun hHa=>?_);clear hK K hwa hBB;try refine nrm ?_
    refine rdy 14 (fun K hK=>?_);obtain ⟨c0,c1',c2',c3',c4,c5,c6,c7⟩:=aa_ ba;have g0:=foc_ ba 0;have g1:=foc_ ba 1;have g2:=foc_ ba 2;have g3:=foc_ ba 3;have g4:=foc_ ba 4;have g5:=foc_ ba 5;have g6:=foc_ ba 6;have g7:=foc_ ba 7;go_simp;generalize hWz:World.setCell (World.setCell (World.setCell (World.setCell (World.setCell (World.setCell (World.setCell (World.setCell wa _ _) _ _) _ _) _ _) _ _) _ _) _ _) _ _ = Wz;obtain ⟨bz,tz⟩:=store8 ba hWz;have lz:Below V3.heap.size V3 Wz:=Lwa.out.trans (tz.below Lwa.out.size hBg);have rz:=HSa.out.turn ba tz;have RL:=hidI (And.intro bz (And.intro rz lz));refine hK.out _ _ (SA.out _ lz) (fun hHz=>?_);clear hK K;try refine nrm ?_
    refine tk 15 ?_;refine tk 16 ?_;refine wpAnyH_done (by kernel_rfl) ?_ _;clear c0 c1' c2' c3' c4 c5 c6 c7 g0 g1 g2 g3 g4 g5 g6 g7 bz rz lz hHz tz hWz;go_wp2_with fail
    go_meet
    case rel=>exact ⟨BB,_,num,rfl,rfl,rfl,RL.out⟩
   ·go_simp;obtain ⟨wa,hwa⟩:∃ wa,wa = wo.alloc (.cells #[.slice none 0 0,.slice none 0 0,.slice none 0 0,.int .i64 0,.int .i64 0,.int .i64 0,.int .i64 0,.int .i64 0] 31):=⟨_,rfl⟩
    have la:Below wo.heap.size wo wa:=by rw [hwa];exact (Below.refl _ _).alloc (Nat.le_refl _) _
    have Lwa:Hid (Below V3.heap.size V3 wa):=Lwo.out.trans (la.mono Lwo.out.size);have ba:wa.heap[wo.heap.size]? = some (.cells #[.slice none 0 0,.slice none 0 0,.slice none 0 0,.int .i64 0,.int .i64 0,.int .i64 0,.int .i64 0,.int .i64 0] 31 (0,0)):=by rw [hwa];exact World.alloc_heap_new wo _
    obtain ⟨BB,hBB⟩:∃ BB,BB = wo.heap.size:=⟨_,rfl⟩
    have hBg:V3.heap.size≤BB:=by rw [hBB];exact Lwo.out.size
    rw [← hwa,← hBB];rw [← hBB] at ba;have HRa:=hidI (HRo.out.keep la);refine hK.out _ _ (SA.out _ Lwa.out) (fun hHa=>?_);clear hK K hwa hBB;try refine nrm ?_
    refine rdy 8 (fun K hK=>?_);go_simp;refine (b0_ p a1 a2 a3 n1 c1 n2 c2 n3 c3 s b1 b2 b3 m1 d1 m2 d2 m3 d3 (pubL p post key body) ao nz co _ (HPV.out.keep Lwa.out) (HOV.out.keep Lwa.out).state (HOV.out.keep Lwa.out).nils.1 (HOV.out.keep Lwa.out).nils.2 HRa.out HRL.out (by unfold maxLen;omega) HNO.out).mono ?_;rintro e wd ⟨vd,rfl,hresd,kd⟩;rw [← HE3.out] at hresd ⊢;obtain ⟨x1,x2,x3,q1,e1,q2,e2,q3,e3,i1,i2,i3,i4,i5,rfl⟩:=hresd.shape;have Lwd:Hid (Below V3.heap.size V3 wd):=Lwa.out.trans (kd.mono Lwa.out.size);have HSd:=hidI (hresd.lower (n':=n) (by have:=Lwa.out.size;have:=K3.out.size;omega));obtain ⟨num,hnum⟩:∃ num,num = a9_ E ((arrN p 600 s (pubL p post key body):Nat)):=⟨_,rfl⟩
    rw [← hnum];have bd:=pkp_ ba kd;refine hK.out _ _ (SA.out _ Lwd.out) (fun hHd=>?_);clear hK K hresd kd hnum;try refine nrm ?_
    refine tk 9 ?_;refine tk 10 ?_;refine tk 11 ?_;refine tk 12 ?_;refine rdy 14 (fun K hK=>?_);obtain ⟨c0,c1',c2',c3',c4,c5,c6,c7⟩:=aa_ bd;have g0:=foc_ bd 0;have g1:=foc_ bd 1;have g2:=foc_ bd 2;have g3:=foc_ bd 3;have g4:=foc_ bd 4;have g5:=foc_ bd 5;have g6:=foc_ bd 6;have g7:=foc_ bd 7;go_simp;generalize hWz:World.setCell (World.setCell (World.setCell (World.setCell (World.setCell (World.setCell (World.setCell (World.setCell wd _ _) _ _) _ _) _ _) _ _) _ _) _ _) _ _ = Wz;obtain ⟨bz,tz⟩:=store8 bd hWz;have lz:Below V3.heap.size V3 Wz:=Lwd.out.trans (tz.below Lwd.out.size hBg);have rz:=HSd.out.turn bd tz;have RL:=hidI (And.intro bz (And.intro rz lz));refine hK.out _ _ (SA.out _ lz) (fun hHz=>?_);clear hK K;try refine nrm ?_
    refine tk 15 ?_;refine tk 16 ?_;refine wpAnyH_done (by kernel_rfl) ?_ _;clear c0 c1' c2' c3' c4 c5 c6 c7 g0 g1 g2 g3 g4 g5 g6 g7 bz rz lz hHz tz hWz;go_wp2_with fail
    go_meet
    case rel=>exact ⟨BB,_,num,rfl,rfl,rfl,RL.out⟩
  ·go_simp;obtain ⟨wa,hwa⟩:∃ wa,wa = wq.alloc (.cells #[.slice none 0 0,.slice none 0 0,.slice none 0 0,.int .i64 0,.int .i64 0,.int .i64 0,.int .i64 0,.int .i64 0] 31):=⟨_,rfl⟩
   have la:Below wq.heap.size wq wa:=by rw [hwa];exact (Below.refl _ _).alloc (Nat.le_refl _) _
   have Lwa:Hid (Below V3.heap.size V3 wa):=Lwq.out.trans (la.mono Lwq.out.size);have ba:wa.heap[wq.heap.size]? = some (.cells #[.slice none 0 0,.slice none 0 0,.slice none 0 0,.int .i64 0,.int .i64 0,.int .i64 0,.int .i64 0,.int .i64 0] 31 (0,0)):=by rw [hwa];exact World.alloc_heap_new wq _
   obtain ⟨BB,hBB⟩:∃ BB,BB = wq.heap.size:=⟨_,rfl⟩
   have hBg:V3.heap.size≤BB:=by rw [hBB];exact Lwq.out.size
   rw [← hwa,← hBB];rw [← hBB] at ba;refine hK.out _ _ (SA.out _ Lwa.out) (fun hHa=>?_);clear hK K hwa hBB;try refine nrm ?_
   refine rdy 7 (fun K hK=>?_);go_simp;refine (dM_ zs az nz cz key body 0 _ HNZ.out.symm (by omega) (HZ3.out.keep Lwa.out)).mono ?_;rintro e wo ⟨vo,rfl,hoo,ko⟩;obtain ⟨ao,co,hvo,hco,hcm,hno,-⟩:=aH_ hoo;subst hvo;have Lwo:Hid (Below V3.heap.size V3 wo):=Lwa.out.trans (ko.mono Lwa.out.size);have HRo:Hid (bh_ wo ao (pubL p post key body)):=by show bh_ wo ao _;have h:=dx_ hoo;rw [HQZ.out] at h;exact h
   have HNO:=hidI hno;have HRL:Hid ((pubL p post key body).length = nz):=by show _ = nz;unfold pubL bb_;rw [List.length_map,← HQZ.out,HNZ.out]
   have bo:=pkp_ ba ko;refine hK.out _ _ (SA.out _ Lwo.out) (fun hHo=>?_);clear hK K hoo hno ko;try refine nrm ?_
   refine rdy 8 (fun K hK=>?_);go_simp;refine (b0_ p a1 a2 a3 n1 c1 n2 c2 n3 c3 s b1 b2 b3 m1 d1 m2 d2 m3 d3 (pubL p post key body) ao nz co _ (HPV.out.keep Lwo.out) (HOV.out.keep Lwo.out).state (HOV.out.keep Lwo.out).nils.1 (HOV.out.keep Lwo.out).nils.2 HRo.out HRL.out (by unfold maxLen;omega) HNO.out).mono ?_;rintro e wd ⟨vd,rfl,hresd,kd⟩;rw [← HE3.out] at hresd ⊢;obtain ⟨x1,x2,x3,q1,e1,q2,e2,q3,e3,i1,i2,i3,i4,i5,rfl⟩:=hresd.shape;have Lwd:Hid (Below V3.heap.size V3 wd):=Lwo.out.trans (kd.mono Lwo.out.size);have HSd:=hidI (hresd.lower (n':=n) (by have:=Lwo.out.size;have:=K3.out.size;omega));obtain ⟨num,hnum⟩:∃ num,num = a9_ E ((arrN p 600 s (pubL p post key body):Nat)):=⟨_,rfl⟩
   rw [← hnum];have bd:=pkp_ bo kd;refine hK.out _ _ (SA.out _ Lwd.out) (fun hHd=>?_);clear hK K hresd kd hnum;try refine nrm ?_
   refine tk 9 ?_;refine tk 10 ?_;refine tk 11 ?_;refine tk 12 ?_;refine rdy 14 (fun K hK=>?_);obtain ⟨c0,c1',c2',c3',c4,c5,c6,c7⟩:=aa_ bd;have g0:=foc_ bd 0;have g1:=foc_ bd 1;have g2:=foc_ bd 2;have g3:=foc_ bd 3;have g4:=foc_ bd 4;have g5:=foc_ bd 5;have g6:=foc_ bd 6;have g7:=foc_ bd 7;go_simp;generalize hWz:World.setCell (World.setCell (World.setCell (World.setCell (World.setCell (World.setCell (World.setCell (World.setCell wd _ _) _ _) _ _) _ _) _ _) _ _) _ _) _ _ = Wz;obtain ⟨bz,tz⟩:=store8 bd hWz;have lz:Below V3.heap.size V3 Wz:=Lwd.out.trans (tz.below Lwd.out.size hBg);have rz:=HSd.out.turn bd tz;have RL:=hidI (And.intro bz (And.intro rz lz));refine hK.out _ _ (SA.out _ lz) (fun hHz=>?_);clear hK K;try refine nrm ?_
   refine tk 15 ?_;refine tk 16 ?_;refine wpAnyH_done (by kernel_rfl) ?_ _;clear c0 c1' c2' c3' c4 c5 c6 c7 g0 g1 g2 g3 g4 g5 g6 g7 bz rz lz hHz tz hWz;go_wp2_with fail
   go_meet
   case rel=>exact ⟨BB,_,num,rfl,rfl,rfl,RL.out⟩
 case rest=>
  obtain ⟨BB,u,num,rfl,rfl,rfl,hbb,hrs,hBx⟩:=hcut;have HBB:=hidI hbb;have HRS:=hidI hrs;have KV:=hidI hBx;have KX:=hidI (K3.out.trans (hBx.mono K3.out.size));have hsx:=KX.out.size;clear hbb hrs hBx;by_cases hz:E = 0
  rotate_left
  ·have HZN:=hidI hz;clear hz;go_wp2_with fail
   refine (dw_ E _ _ (aP_ _ _ _) (by simp) HZN.out).mono ?_;rintro e w6 ⟨rfl,k6⟩;have ka:=KX.out.alloc hsx (.cells #[.int .i64 E] 33);exact ⟨rfl,ac_.of_below (ka.trans (k6.mono ka.size)) hnW,.inl ⟨HZN.out,rfl⟩⟩
  have HEZ:=hidI hz;have hE0:=HRS.out.1 hz;obtain ⟨y1,y2,y3,r1,f1,r2,f2,r3,f3,hv,ho⟩:=hE0;cases hv;have HOX:=hidI ho;have ka:=KV.out.alloc KV.out.size (.cells #[.int .i64 0] 33);clear ho;subst hz;go_wp2_with fail
  refine (dY_ _ _ (aP_ _ _ _) (by simp)).mono ?_;rintro e w6 ⟨rfl,k6⟩;have K6:=hidI (ka.trans (k6.mono ka.size));have HO6:=hidI ((HOX.out.keep ((Below.refl _ _).alloc (Nat.le_refl _) (.cells #[.int .i64 0] 33))).keep k6);have B6:=hidI (pkp_ (pkp_ HBB.out ((Below.refl _ _).alloc (Nat.le_refl _) (.cells #[.int .i64 0] 33))) k6);have T6:=hidI (pkp_ HBV.out K6.out);obtain ⟨c0,c1',c2',c3',c4,c5,c6,c7⟩:=aa_ B6.out;obtain ⟨z0,z1,z2,z3,z4,z5,z6,z7⟩:=aa_ T6.out;have g0:=foc_ T6.out 0;have g1:=foc_ T6.out 1;have g2:=foc_ T6.out 2;have g3:=foc_ T6.out 3;have g4:=foc_ T6.out 4;have g5:=foc_ T6.out 5;have g6:=foc_ T6.out 6;have g7:=foc_ T6.out 7;clear ka k6;go_wp2_with fail
  generalize hWz:World.setCell (World.setCell (World.setCell (World.setCell (World.setCell (World.setCell (World.setCell (World.setCell w6 _ _) _ _) _ _) _ _) _ _) _ _) _ _) _ _ = Wz;obtain ⟨bz,tz⟩:=store8 T6.out hWz;have oz:=HO6.out.turn T6.out (by decide) tz;have HNZN:Hid ((nz:Int) = NN):=by show (nz:Int) = NN;rw [HNN.out,← HQZ.out,HNZ.out]
  go_ret
  exact ⟨(ac_.of_below (K3.out.trans (K6.out.mono K3.out.size)) hnW).turnB tz (by have:=K6.out.size;have:=K3.out.size;omega),by rw [← HNZN.out];rfl,⟨_,_,_,_,_,_,_,_,_,bz,oz⟩⟩
def pubE (p:ad_) (s:ab_) (post:Int) (key body:ByteArray):Int:=if stE p s≠0 then stE p s else pubX p s post key body
theorem jj_ (p:ad_) (a1 a2 a3:Option Addr) (n1 c1 n2 c2 n3 c3:Nat) (s:ab_) (b1 b2 b3:Option Addr) (m1 d1 m2 d2 m3 d3:Nat) (post:Int) (key body:ByteArray) (w:World) (hp:ap_ w a1 a2 a3 n1 n2 n3 p) (hs:an_ w b1 b2 b3 m1 m2 m3 s) (hn2:b2 = none→d2 = 0) (hn3:b3 = none→d3 = 0)  :
 Calls Tryz.prog 56 #[.agg #[.slice a1 n1 c1,.slice a2 n2 c2,.slice a3 n3 c3],.agg #[.slice b1 m1 d1,.slice b2 m2 d2,.slice b3 m3 d3,.int .i64 s.nextSeq,.int .i64 s.nextTag,.int .i64 s.came,.int .i64 s.acked,.int .i64 s.dropped],.int .i64 post,.string key,.string body] w fun e w'=>∃ v,e = .returned (.tuple #[v,.int .i64 (a9_ (pubE p s post key body) (((qsC p key post.toNat).length:Nat))),.int .i64 (pubE p s post key body)])∧bn_ w' w.heap.size v (pubE p s post key body) (arrS p 600 s (pubL p post key body))∧Below w.heap.size w w':=by
 obtain ⟨hz5,hg5,hB5⟩:=aD_ [.cells #[.slice a1 n1 c1,.slice a2 n2 c2,.slice a3 n3 c3] 26,.cells #[.slice b1 m1 d1,.slice b2 m2 d2,.slice b3 m3 d3,.int .i64 s.nextSeq,.int .i64 s.nextTag,.int .i64 s.came,.int .i64 s.acked,.int .i64 s.dropped] 31,.cells #[.int .i64 post] 3,.cells #[.string key] 9,.cells #[.string body] 9,.cells #[.slice none 0 0,.slice none 0 0,.slice none 0 0,.int .i64 0,.int .i64 0,.int .i64 0,.int .i64 0,.int .i64 0] 31] w;obtain ⟨W5,hW5⟩:∃ W5,W5 = List.foldl World.alloc w [.cells #[.slice a1 n1 c1,.slice a2 n2 c2,.slice a3 n3 c3] 26,.cells #[.slice b1 m1 d1,.slice b2 m2 d2,.slice b3 m3 d3,.int .i64 s.nextSeq,.int .i64 s.nextTag,.int .i64 s.came,.int .i64 s.acked,.int .i64 s.dropped] 31,.cells #[.int .i64 post] 3,.cells #[.string key] 9,.cells #[.string body] 9,.cells #[.slice none 0 0,.slice none 0 0,.slice none 0 0,.int .i64 0,.int .i64 0,.int .i64 0,.int .i64 0,.int .i64 0] 31]:=⟨_,rfl⟩
 rw [← hW5] at hz5 hg5 hB5;have HW5:Hid (W5 = ((((((w.alloc (.cells #[.slice a1 n1 c1,.slice a2 n2 c2,.slice a3 n3 c3] 26)).alloc (.cells #[.slice b1 m1 d1,.slice b2 m2 d2,.slice b3 m3 d3,.int .i64 s.nextSeq,.int .i64 s.nextTag,.int .i64 s.came,.int .i64 s.acked,.int .i64 s.dropped] 31)).alloc (.cells #[.int .i64 post] 3)).alloc (.cells #[.string key] 9)).alloc (.cells #[.string body] 9)).alloc (.cells #[.slice none 0 0,.slice none 0 0,.slice none 0 0,.int .i64 0,.int .i64 0,.int .i64 0,.int .i64 0,.int .i64 0] 31))):=hW5;have hz5':W5.heap.size = w.heap.size+6:=by rw [hz5];rfl
 have x0:=hg5 0 _ rfl;have x1:=hg5 1 _ rfl;have x2:=hg5 2 _ rfl;have x3:=hg5 3 _ rfl;have x4:=hg5 4 _ rfl;have x5:=hg5 5 _ rfl;obtain ⟨E,hE⟩:∃ E,E = pubE p s post key body:=⟨_,rfl⟩
 rw [← hE];obtain ⟨N,hN⟩:∃ N,N = a9_ E (((qsC p key post.toNat).length:Nat)):=⟨_,rfl⟩
 rw [← hN];have T:=eU_ p a1 a2 a3 n1 c1 n2 c2 n3 c3 s b1 b2 b3 m1 d1 m2 d2 m3 d3 97 (fun _ _=>rfl) #[.pointer (some ⟨w.heap.size,0,none⟩),.pointer (some ⟨w.heap.size+2,0,none⟩),.pointer (some ⟨w.heap.size+3,0,none⟩),.pointer (some ⟨w.heap.size+4,0,none⟩)] E (((qsC p key post.toNat).length:Nat)) (arrS p 600 s (pubL p post key body)) W5 (hp.keep hB5) (hs.keep hB5) hn2 hn3
  (fun h=>by rw [hE];unfold pubE;rw [if_pos h])
  (fun h=>by
   have e:E = pubX p s post key body:=by rw [hE];unfold pubE;rw [if_neg (by simp [h])]
   rw [e];exact hB_ p a1 a2 a3 n1 c1 n2 c2 n3 c3 s post key body _ _ _ _ W5 (hp.keep hB5) x0 x2 x3 x4 (aK_ h))
 rw [show (if E = 0 then ((((qsC p key post.toNat).length:Nat):Int)) else 0) = N from hN.symm] at T;have HT:=hidI T;have X4:=hidI x5;have HZ5:=hidI hz5';have HB5:=hidI hB5;have hmf:∀ (fn:Fn) (first cap:Array Value) (w:World),(Instr.makeFunc fn first cap).run Tryz.prog w = .ok (.func fn first cap) w:=fun _ _ _ _=>rfl
 clear T hW5 hz5 hz5' hg5 hB5 x0 x1 x2 x3 x4 x5 hE hN hp hs hn2 hn3;go_enter Tryz.func56,Tryz.ntmps56;go_wp2_with fail
 rw [← HW5.out];refine HT.out.mono ?_;rintro e w6 ⟨v,rfl,hres,hB6⟩;have x6:=pkp_ X4.out hB6;obtain ⟨y0,y1,y2,y3,y4,y5,y6,y7⟩:=aa_ x6;have f0:=foc_ x6 0;have f1:=foc_ x6 1;have f2:=foc_ x6 2;have f3:=foc_ x6 3;have f4:=foc_ x6 4;have f5:=foc_ x6 5;have f6:=foc_ x6 6;have f7:=foc_ x6 7;obtain ⟨x1,x2,x3,k1,e1,k2,e2,k3,e3,i1,i2,i3,i4,i5,rfl⟩:=hres.shape;have X6:=hidI x6;have HRES:=hidI hres;have HB6:=hidI hB6;clear x6 hres hB6;go_wp2_with fail
 generalize hW4:World.setCell (World.setCell (World.setCell (World.setCell (World.setCell (World.setCell (World.setCell (World.setCell w6 _ _) _ _) _ _) _ _) _ _) _ _) _ _) _ _ = W4;obtain ⟨b4,t4⟩:=store8 X6.out hW4;obtain ⟨z0,z1,z2,z3,z4,z5,z6,z7⟩:=aa_ b4;exact bodyPost_ret (v:=.tuple #[.agg #[.slice x1 k1 e1,.slice x2 k2 e2,.slice x3 k3 e3,.int .i64 i1,.int .i64 i2,.int .i64 i3,.int .i64 i4,.int .i64 i5],.int .i64 N,.int .i64 E]) (by simp [results,Tryz.results56,go_sem,z0,z1,z2,z3,z4,z5,z6,z7]) rfl ⟨_,rfl,(HRES.out.turn X6.out t4).lower (by have:=HZ5.out;omega),HB5.out.trans ((HB6.out.mono HB5.out.size).trans (t4.below (by have:=HB6.out.size;have:=HZ5.out;omega) (by omega)))⟩
theorem lE_ (s:ab_) (q:Int) (n:Nat):0≤(lbTo s q n).2∧(lbTo s q n).2≤4∧-1≤(lbTo s q n).1∧(lbTo s q n).1≤n:=by
 rcases oa_ s q n with ⟨h,_⟩ | ⟨k,h,hk⟩
 ·rw [h];simp only;omega
 ·rw [h];have:=hk.few;have:=hk.lt;simp only;omega
theorem ht_ (p:ad_) (a1 a2 a3:Option Addr) (n1 c1 n2 c2 n3 c3:Nat) (s:ab_) (b1 b2 b3:Option Addr) (m1 d1 m2 d2 m3 d3:Nat) (q:Int) (w:World) (hp:ap_ w a1 a2 a3 n1 n2 n3 p) (hs:an_ w b1 b2 b3 m1 m2 m3 s) (h0:stE p s = 0) :
 Calls Tryz.prog 144 #[.agg #[.slice a1 n1 c1,.slice a2 n2 c2,.slice a3 n3 c3],.agg #[.slice b1 m1 d1,.slice b2 m2 d2,.slice b3 m3 d3,.int .i64 s.nextSeq,.int .i64 s.nextTag,.int .i64 s.came,.int .i64 s.acked,.int .i64 s.dropped],.int .i64 q] w fun e w'=>e = .returned (.int .i64 (ce_ s q))∧Below w.heap.size w w':=by
 obtain ⟨W2,hW2,hBw,hs2,hbx⟩:=bZ_ w #[.slice a1 n1 c1,.slice a2 n2 c2,.slice a3 n3 c3] #[.slice b1 m1 d1,.slice b2 m2 d2,.slice b3 m3 d3,.int .i64 s.nextSeq,.int .i64 s.nextTag,.int .i64 s.came,.int .i64 s.acked,.int .i64 s.dropped];have HW2:=hidI hW2;have BX:=hidI hbx;have HS:=hidI (hs.keep hBw);have HP:=hidI (hp.keep hBw);have HBW:=hidI hBw;have HM3:Hid (s.takers.length = m3):=hs.l3;have H0:=hidI h0;have hm3:m3≤4:=by rw [← hs.l3];exact (aK_ h0).tk
 have s0:=hBw.size;obtain ⟨y0,y1,y2,y3,y4,y5,y6,y7⟩:=aa_ (hbx W2 (Below.refl _ _)).2;clear hW2 hbx hs2 hp hs h0 hBw;go_enter Tryz.func144,Tryz.ntmps144;go_wp2_with fail
 rw [← HW2.out];clear y0 y1 y2 y3 y4 y5 y6 y7;go_loopw [7,8,9,10,11,12,16] (fun a b _ _ _ _ i wr=>∃ (k:Nat),k≤m3∧i = .int .i64 k∧a = .int .i64 (lbTo s q k).1∧b = .int .i64 (lbTo s q k).2∧Below W2.heap.size W2 wr) (fun _ _ _ _ _ _ i _=>m3 - (intOf i).toNat)
 case atStart=>exact ⟨0,Nat.zero_le _,rfl,rfl,rfl,Below.refl _ _⟩
 case round=>
  obtain ⟨k,hk,rfl,rfl,rfl,hB⟩:=hrel;have hBs:=hB.size;have HB:=hidI hB;obtain ⟨l1,l2,l3,l4⟩:=lE_ s q k;have HLB:Hid (lbTo s q (k+1) = if cH_ s q k = true∧(heldN s k:Int) < (lbTo s q k).2 then ((k:Int),(heldN s k:Int)) else lbTo s q k):=rfl;obtain ⟨A,hA⟩:∃ A,A = (lbTo s q k).1:=⟨_,rfl⟩
  obtain ⟨F,hF⟩:∃ F,F = (lbTo s q k).2:=⟨_,rfl⟩
  rw [← hA] at l3 l4 ⊢;rw [← hF] at l1 l2 HLB ⊢;have HAF:Hid (lbTo s q k = (A,F)):=by show lbTo s q k = (A,F);rw [hA,hF]
  clear hA hF;by_cases hlt:k < m3
  ·have HLT:=hidI hlt;have hkl:k < s.takers.length:=by rw [HM3.out];exact hlt
   obtain ⟨g,o,ha,hg,e1,e2⟩:=(HS.out.q3.keep hB).get hkl;subst ha;have HFR:Hid (cH_ s q k = (decide (s.takers[k].queue = q) && decide ((heldN s k:Int) < s.takers[k].most))):=by
    show cH_ s q k = _;unfold cH_ tAt;rw [List.getD_eq_getElem?_getD,List.getElem?_eq_getElem hkl];rfl
   have hmo:=(ct_.1 ((aK_ H0.out).tok _ (List.getElem_mem hkl))).2;have HHE:Hid (hdE p s (k:Int) = 0):=by show hdE p s (k:Int) = 0;unfold hdE;rw [if_pos H0.out,if_pos (aB_.2 ⟨by omega,by omega⟩)]
   have HHN:Hid (hdN p s (k:Int) = (heldN s (k:Int):Int)):=by show hdN p s (k:Int) = _;unfold hdN;rw [if_pos HHE.out]
   obtain ⟨x,hx⟩:∃ x,x = s.takers[k].queue:=⟨_,rfl⟩
   obtain ⟨mo,hmo'⟩:∃ mo,mo = s.takers[k].most:=⟨_,rfl⟩
   rw [← hx] at e1 HFR;rw [← hmo'] at e2 HFR hmo;have j1:(0:Int)≤(k:Int):=by omega
   have j2:(k:Int) < m3:=by omega
   clear hx hmo' hkl;have l5:Below W2.heap.size W2 (wr.alloc (.cells #[.int .i64 x,.int .i64 mo] 69)):=hB.alloc hBs _;have L5:=hidI l5;obtain ⟨x0,x1,x2⟩:=ag_ (BX.out _ l5).1;obtain ⟨y0,y1,y2,y3,y4,y5,y6,y7⟩:=aa_ (BX.out _ l5).2;by_cases hq:x = q
   ·subst hq;go_wp2_with fail
    refine (mC_ p _ _ _ _ _ _ _ _ _ s _ _ _ _ _ _ _ _ _ (k:Int) _ (HP.out.keep L5.out) (HS.out.keep L5.out)).mono ?_;rintro e w5 ⟨rfl,hB5⟩;rw [HHE.out,HHN.out];have k5:=L5.out.trans (hB5.mono L5.out.size);have xb:=pkp_ (World.alloc_heap_new wr (.cells #[.int .i64 x,.int .i64 mo] 69)) hB5;have s5:=k5.size;have k5':=k5.alloc s5 (.cells #[.int .i64 0] 33);have XB:=hidI xb;have K5:=hidI k5;have hwr:wr.heap.size < w5.heap.size:=lth_ xb;obtain ⟨H,hH⟩:∃ H:Nat,H = heldN s (k:Int):=⟨_,rfl⟩
    rw [← hH] at HFR HLB ⊢;clear x0 x1 x2 y0 y1 y2 y3 y4 y5 y6 y7 hB5 xb hH e1 e2;have hor:((H:Int) < mo∧(H:Int) < F)∨((¬ (H:Int) < mo)∨((H:Int) < mo∧¬ (H:Int) < F)):=by omega
    rcases hor with ⟨i1,i2⟩ | hno
    ·have HF1:Hid (lbTo s x (k+1) = ((k:Int),(H:Int))):=by
      show lbTo s x (k+1) = _;rw [HLB.out,HFR.out,if_pos ⟨by simp [i1],i2⟩]
     go_wp2_with (go_at_call 47;refine (dY_ _ _ (aP_ _ _ _) (by simp)).mono ?_;rintro e w6 ⟨rfl,hB6⟩;have k6:=k5'.trans (hB6.mono k5'.size);have K6:=hidI k6;have xb6:=(hB6.block wr.heap.size (by simp;omega)).trans ((Below.heap_alloc w5 (.cells #[.int .i64 0] 33) wr.heap.size hwr).trans XB.out);have c0:=coc_ xb6 0;have c1:=coc_ xb6 1;simp at c0 c1;clear hB6 k6 xb6)
     go_roundw
     case rel=>exact ⟨k+1,HLT.out,by have:=HLT.out;go_num,by rw [HF1.out],by rw [HF1.out],K6.out⟩
     case measure=>have:=HLT.out;simp [intOf];omega
    ·have HF0:Hid (lbTo s x (k+1) = (A,F)):=by
      show lbTo s x (k+1) = (A,F);rw [HLB.out,HFR.out,if_neg (by simp;omega),HAF.out]
     rcases hno with i1 | ⟨i1,i2⟩
     all_goals
      go_wp2_with (go_at_call 47;refine (dY_ _ _ (aP_ _ _ _) (by simp)).mono ?_;rintro e w6 ⟨rfl,hB6⟩;have k6:=k5'.trans (hB6.mono k5'.size);have K6:=hidI k6;have xb6:=(hB6.block wr.heap.size (by simp;omega)).trans ((Below.heap_alloc w5 (.cells #[.int .i64 0] 33) wr.heap.size hwr).trans XB.out);have c0:=coc_ xb6 0;have c1:=coc_ xb6 1;simp at c0 c1;clear hB6 k6 xb6)
      go_roundw
      case rel=>exact ⟨k+1,HLT.out,by have:=HLT.out;go_num,by rw [HF0.out],by rw [HF0.out],K6.out⟩
      case measure=>have:=HLT.out;simp [intOf];omega
   ·have hq':(x != q) = true:=bne_iff_ne.2 hq;have HF0:Hid (lbTo s q (k+1) = (A,F)):=by
     show lbTo s q (k+1) = (A,F);rw [HLB.out,HFR.out,if_neg (by simp [hq]),HAF.out]
    clear hq;go_wp2_with fail
    go_roundw
    case rel=>exact ⟨k+1,HLT.out,by have:=HLT.out;go_num,by rw [HF0.out],by rw [HF0.out],L5.out⟩
    case measure=>have:=HLT.out;simp [intOf];omega
  ·have hke:m3 = k:=by omega
   subst hke;have HNK:Hid (ce_ s q = A):=by show ce_ s q = A;unfold ce_;rw [HM3.out,HAF.out]
   clear hlt hk;go_wp2_with fail
   go_ret
   exact ⟨au_ HNK.out.symm,HBW.out.trans (hB.mono s0)⟩
structure Turn1 (t:Nat) (W W':World):Prop where
 os:W'.os = W.os
 tape:W'.tape = W.tape
 output:W'.output = W.output
 size:W.heap.size≤W'.heap.size
 block:∀ k,k < W.heap.size→k≠t→W'.heap[k]? = W.heap[k]?
theorem Turn1.of_below {t:Nat} {W W':World} (h:Below W.heap.size W W'):Turn1 t W W':=⟨h.os,h.tape,h.output,h.size,fun k h1 _=>h.block k h1⟩
theorem Turn1.setCell {t:Nat} {W W':World} (h:Turn1 t W W') (i:Nat) (u:Value):Turn1 t W (W'.setCell ⟨t,i,none⟩ u):=⟨h.os,h.tape,h.output,by simpa [World.setCell] using h.size,fun k h1 h2=>(Below.heap_setCell W' ⟨t,i,none⟩ u k h2).trans (h.block k h1 h2)⟩
theorem Turn1.trans_below {t:Nat} {A B C:World} (h:Turn1 t A B) (k:Below B.heap.size B C):Turn1 t A C:=⟨k.os.trans h.os,k.tape.trans h.tape,k.output.trans h.output,Nat.le_trans h.size k.size,fun i h1 h2=>(k.block i (by have:=h.size;omega)).trans (h.block i h1 h2)⟩
theorem nZ_ {d:Int} (h:d≠0):(Ending.panicked [{ v:=.iface 33 (.int .i64 d),recovered:=false }]) = askE d:=by rw [cO_ h];rfl
theorem lQ_ (p:ad_) (a1 a2 a3:Option Addr) (n1 c1 n2 c2 n3 c3:Nat) (s:ab_) (b1 b2 b3:Option Addr) (m1 d1 m2 d2 m3 d3:Nat) (q:Int) (B:Nat) (w:World) (hp:ap_ w a1 a2 a3 n1 n2 n3 p) (hs:an_ w b1 b2 b3 m1 m2 m3 s) (x0:w.heap[B]? = some (.cells #[.slice a1 n1 c1,.slice a2 n2 c2,.slice a3 n3 c3] 26 (0,0))) (x1:w.heap[B+1]? = some (.cells #[.slice b1 m1 d1,.slice b2 m2 d2,.slice b3 m3 d3,.int .i64 s.nextSeq,.int .i64 s.nextTag,.int .i64 s.came,.int .i64 s.acked,.int .i64 s.dropped] 31 (0,0))) (x2:w.heap[B+2]? = some (.cells #[.int .i64 q] 3 (0,0))) (x3:w.heap[B+3]? = some (.cells #[.int .i64 (-1)] 3 (0,0))) :
 Calls Tryz.prog 143 #[.pointer (some ⟨B,0,none⟩),.pointer (some ⟨B+1,0,none⟩),.pointer (some ⟨B+2,0,none⟩),.pointer (some ⟨B+3,0,none⟩)] w fun e w'=>e = askE (dc_ p s q)∧Turn1 (B+3) w w'∧(dc_ p s q = 0→w'.heap[B+3]? = some (.cells #[.int .i64 (ce_ s q)] 3 (0,0))):=by
 obtain ⟨E,hE⟩:∃ E,E = dc_ p s q:=⟨_,rfl⟩
 rw [← hE];obtain ⟨E0,hE0⟩:∃ E0,E0 = stE p s:=⟨_,rfl⟩
 have HE:=hidI hE;have HE0:=hidI hE0;have HP:=hidI hp;have HS:=hidI hs;have X0:=hidI x0;have X1:=hidI x1;have X2:=hidI x2;have X3:=hidI x3;have HN2:Hid (p.queues.length = n2):=hp.l2;have HM1:Hid (s.ready.length = m1):=hs.l1;have hl3:=lth_ x3;obtain ⟨p0,p1,p2⟩:=ag_ x0;obtain ⟨y0,y1,y2,y3,y4,y5,y6,y7⟩:=aa_ x1;clear hE hE0 hp hs x0 x1 x2 x3;go_enter Tryz.func143,Tryz.ntmps143;go_wp2_with fail
 refine (fh_ p _ _ _ _ _ _ _ _ _ s _ _ _ _ _ _ _ _ _ _ HP.out HS.out).mono ?_;rintro e w1 ⟨rfl,k1⟩;rw [← HE0.out];have s1:=k1.size;have k1':=k1.alloc s1 (.cells #[.int .i64 E0] 33);have s1':=k1'.size;clear p0 p1 p2 y0 y1 y2 y3 y4 y5 y6 y7;by_cases hz:E0 = 0
 ·subst hz;have HE1:Hid (E = if ar_ q n2 = false then 5 else if af_ s q.toNat = [] then 8 else if ce_ s q = -1 then 9 else 0):=by show E = _;rw [HE.out];unfold dc_;rw [if_neg (by simp [← HE0.out]),HN2.out]
  have HR:=hidI (aK_ HE0.out.symm);go_wp2_with (go_at_call 47;refine (dY_ _ _ (aP_ _ _ _) (by simp)).mono ?_;rintro e w2 ⟨rfl,hB2⟩;have k2:=k1'.trans (hB2.mono s1');have K2:=hidI k2;obtain ⟨p0,p1,p2⟩:=ag_ (pkp_ X0.out k2);have cq:=coc_ (pkp_ X2.out k2) 0;simp at cq;clear hB2)
  refine (fo_ p _ _ _ _ _ _ _ _ _ q _ (HP.out.keep K2.out)).mono ?_;rintro e w3 ⟨rfl,k3'⟩;have k3:=K2.out.trans (k3'.mono K2.out.size);have s3:=k3.size;have K3:=hidI k3;clear k3' p0 p1 p2 cq k2;by_cases hq:ar_ q n2 = false
  ·rw [if_pos hq,cO_ (by decide)];unfold panE;have e5:E = 5:=by rw [HE1.out,if_pos hq]
   exact ⟨rfl,by rw [e5];rfl,Turn1.of_below k3,fun h=>by rw [e5] at h;cases h⟩
  ·rw [if_neg hq,b8_];unfold okE;have hq':0≤q∧q < n2:=aB_.1 (by simpa using hq);obtain ⟨j,rfl⟩:=Int.eq_ofNat_of_zero_le hq'.1;have HE2:Hid (E = if af_ s j = [] then 8 else if ce_ s j = -1 then 9 else 0):=by show E = _;rw [HE1.out,if_neg hq];rfl
   have hjr:j < s.ready.length:=by rw [HR.out.len,HN2.out];omega
   obtain ⟨g,o,b,c,ha,hg,hl⟩:=(HS.out.q1.keep k3).get hjr;subst ha;have c1:=hl.cell;have HLA:Hid (af_ s j = s.ready[j]):=a3_ hjr;obtain ⟨n,hn⟩:∃ n,n = (s.ready[j]'hjr).length:=⟨_,rfl⟩
   have HN:Hid (n = 0↔af_ s j = []):=by show n = 0↔_;rw [HLA.out,hn];exact List.length_eq_zero_iff
   rw [← hn] at c1;have j1:(0:Int)≤(j:Int):=by omega
   have j2:(j:Int) < m1:=by rw [← HM1.out];omega
   obtain ⟨y0,y1,y2,y3,y4,y5,y6,y7⟩:=aa_ (pkp_ X1.out k3);have cq:=coc_ (pkp_ X2.out k3) 0;simp at cq;clear hl hn hq hq' HE1;go_wp2_with fail
   by_cases hn0:n = 0
   ·refine (ax_ 8 [((n:Int) == 0)] _ _ (by simp) (bng_ w3 _ rfl) (by simp;omega)).mono ?_;rintro e w4 ⟨rfl,rfl⟩;have e8:E = 8:=by rw [HE2.out,if_pos (HN.out.1 hn0)]
    exact ⟨rfl,by rw [e8];rfl,Turn1.of_below (K3.out.alloc s3 _),fun h=>by rw [e8] at h;cases h⟩
   ·refine (aF_ 8 [((n:Int) == 0)] _ _ (by simp) (bng_ w3 _ rfl) (by simp;omega)).mono ?_;rintro e w4 ⟨rfl,hw4⟩;have k4:Below w.heap.size w w4:=by rw [hw4];exact K3.out.alloc s3 _
    have HE3:Hid (E = if ce_ s j = -1 then 9 else 0):=by show E = _;rw [HE2.out,if_neg (fun h=>hn0 (HN.out.2 h))]
    have K4:=hidI k4;have s4:=k4.size;clear hw4 hn0 y0 y1 y2 y3 y4 y5 y6 y7 cq c1 k3;obtain ⟨p0,p1,p2⟩:=ag_ (pkp_ X0.out k4);obtain ⟨y0,y1,y2,y3,y4,y5,y6,y7⟩:=aa_ (pkp_ X1.out k4);have cq:=coc_ (pkp_ X2.out k4) 0;simp at cq;go_wp2_with fail
    refine (ht_ p _ _ _ _ _ _ _ _ _ s _ _ _ _ _ _ _ _ _ (j:Int) _ (HP.out.keep K4.out) (HS.out.keep K4.out) HE0.out.symm).mono ?_;rintro e w5 ⟨rfl,k5'⟩;have k5:=K4.out.trans (k5'.mono s4);have K5:=hidI k5;have x35:=pkp_ X3.out k5;have X35:=hidI x35;have c3:=coc_ x35 0;have f3:=foc_ x35 0;simp at c3;obtain ⟨N,hN⟩:∃ N,N = ce_ s (j:Int):=⟨_,rfl⟩
    have HNN:=hidI hN;rw [← hN] at HE3 ⊢;clear k5' k4 x35 p0 p1 p2 y0 y1 y2 y3 y4 y5 y6 y7 cq hN;have tb:=scb_ X35.out (j:=0) (.int .i64 N);have t5:Turn1 (B+3) w (w5.setCell ⟨B+3,0,none⟩ (.int .i64 N)):=(Turn1.of_below K5.out).setCell 0 _;have ly:Below (w5.setCell ⟨B+3,0,none⟩ (.int .i64 N)).heap.size (w5.setCell ⟨B+3,0,none⟩ (.int .i64 N)) ((w5.setCell ⟨B+3,0,none⟩ (.int .i64 N)).alloc (.cells #[.bool (N == -1)] 4)):=(Below.refl _ _).alloc (Nat.le_refl _) _;have T6:=hidI (t5.trans_below ly);have TB6:=hidI (pkp_ tb ly);clear tb t5 ly;go_wp2_with fail
    have hsz:w5.heap.size = (w5.setCell ⟨B+3,0,none⟩ (.int .i64 N)).heap.size:=by simp [World.setCell]
    by_cases hn1:N = -1
    ·refine (ax_ 9 [(N == -1)] _ _ (by simp) (bng_ (w5.setCell ⟨B+3,0,none⟩ (.int .i64 N)) _ hsz) (by simp [hn1])).mono ?_;rintro e w6 ⟨rfl,rfl⟩;have e9:E = 9:=by rw [HE3.out,if_pos hn1]
     exact ⟨rfl,by rw [e9];rfl,T6.out,fun h=>by rw [e9] at h;cases h⟩
    ·refine (aF_ 9 [(N == -1)] _ _ (by simp) (bng_ (w5.setCell ⟨B+3,0,none⟩ (.int .i64 N)) _ hsz) (by simp [hn1])).mono ?_;rintro e w6 ⟨rfl,hw6⟩;have e0:E = 0:=by rw [HE3.out,if_neg hn1]
     have T6':Hid (Turn1 (B+3) w w6):=by show Turn1 (B+3) w w6;rw [hw6];exact T6.out
     have TB6':Hid (w6.heap[B+3]? = some (.cells #[.int .i64 N] 3 (0,0))):=by show w6.heap[B+3]? = _;rw [hw6];exact TB6.out
     clear hw6 hsz;go_wp2_with fail
     go_end0
     exact ⟨by rw [e0];rfl,T6'.out,fun _=>by rw [← HNN.out];exact TB6'.out⟩
 ·have HZ:=hidI hz;have e0:E = E0:=by rw [HE.out];unfold dc_;rw [if_pos (by rw [← HE0.out];exact hz),HE0.out]
  go_wp2_with (go_at_call 47;refine (dw_ E0 _ _ (aP_ _ _ _) (by simp) HZ.out).mono ?_;rintro e w2 ⟨rfl,hB2⟩)
  subst e0;exact ⟨rfl,nZ_ HZ.out,Turn1.of_below (k1'.trans (hB2.mono s1')),fun h=>absurd h HZ.out⟩
theorem nj_ (p:ad_) (a1 a2 a3:Option Addr) (n1 c1 n2 c2 n3 c3:Nat) (s:ab_) (b1 b2 b3:Option Addr) (m1 d1 m2 d2 m3 d3:Nat) (q:Int) (w:World) (hp:ap_ w a1 a2 a3 n1 n2 n3 p) (hs:an_ w b1 b2 b3 m1 m2 m3 s) :
 Calls Tryz.prog 105 #[.agg #[.slice a1 n1 c1,.slice a2 n2 c2,.slice a3 n3 c3],.agg #[.slice b1 m1 d1,.slice b2 m2 d2,.slice b3 m3 d3,.int .i64 s.nextSeq,.int .i64 s.nextTag,.int .i64 s.came,.int .i64 s.acked,.int .i64 s.dropped],.int .i64 q] w fun e w'=>e = .returned (.tuple #[.int .i64 (a9_ (dc_ p s q) (ce_ s q)),.int .i64 (dc_ p s q)])∧Below w.heap.size w w':=by
 obtain ⟨hz4,hg4,hB4⟩:=aD_ [.cells #[.slice a1 n1 c1,.slice a2 n2 c2,.slice a3 n3 c3] 26,.cells #[.slice b1 m1 d1,.slice b2 m2 d2,.slice b3 m3 d3,.int .i64 s.nextSeq,.int .i64 s.nextTag,.int .i64 s.came,.int .i64 s.acked,.int .i64 s.dropped] 31,.cells #[.int .i64 q] 3,.cells #[.int .i64 (-1)] 3] w;obtain ⟨W4,hW4⟩:∃ W4,W4 = List.foldl World.alloc w [.cells #[.slice a1 n1 c1,.slice a2 n2 c2,.slice a3 n3 c3] 26,.cells #[.slice b1 m1 d1,.slice b2 m2 d2,.slice b3 m3 d3,.int .i64 s.nextSeq,.int .i64 s.nextTag,.int .i64 s.came,.int .i64 s.acked,.int .i64 s.dropped] 31,.cells #[.int .i64 q] 3,.cells #[.int .i64 (-1)] 3]:=⟨_,rfl⟩
 rw [← hW4] at hz4 hg4 hB4;have HW4:Hid (W4 = ((((w.alloc (.cells #[.slice a1 n1 c1,.slice a2 n2 c2,.slice a3 n3 c3] 26)).alloc (.cells #[.slice b1 m1 d1,.slice b2 m2 d2,.slice b3 m3 d3,.int .i64 s.nextSeq,.int .i64 s.nextTag,.int .i64 s.came,.int .i64 s.acked,.int .i64 s.dropped] 31)).alloc (.cells #[.int .i64 q] 3)).alloc (.cells #[.int .i64 (-1)] 3))):=hW4;have hz4':W4.heap.size = w.heap.size+4:=by rw [hz4];rfl
 have x0:=hg4 0 _ rfl;have x1:=hg4 1 _ rfl;have x2:=hg4 2 _ rfl;have x3:=hg4 3 _ rfl;have l5:Below W4.heap.size W4 (W4.alloc (.cells #[.int .i64 0] 33)):=(Below.refl _ _).alloc (Nat.le_refl _) _;have x6:=World.alloc_heap_new W4 (.cells #[.int .i64 0] 33);obtain ⟨E,hE⟩:∃ E,E = dc_ p s q:=⟨_,rfl⟩
 obtain ⟨K,hK⟩:∃ K,K = ce_ s q:=⟨_,rfl⟩
 have N1:=lQ_ p a1 a2 a3 n1 c1 n2 c2 n3 c3 s b1 b2 b3 m1 d1 m2 d2 m3 d3 q w.heap.size (W4.alloc (.cells #[.int .i64 0] 33)) ((hp.keep hB4).keep l5) ((hs.keep hB4).keep l5) (pkp_ x0 l5) (pkp_ x1 l5) (pkp_ x2 l5) (pkp_ x3 l5);rw [← hE,← hK] at N1;rw [← hE,← hK];have TR:=eV_ 143 (fun _ _=>rfl) #[.pointer (some ⟨w.heap.size,0,none⟩),.pointer (some ⟨w.heap.size+1,0,none⟩),.pointer (some ⟨w.heap.size+2,0,none⟩),.pointer (some ⟨w.heap.size+3,0,none⟩)]
  (fun D w1=>D = E∧Turn1 (w.heap.size+3) (W4.alloc (.cells #[.int .i64 0] 33)) w1∧(E = 0→w1.heap[w.heap.size+3]? = some (.cells #[.int .i64 K] 3 (0,0)))) W4
  (N1.mono (by
   rintro e w' ⟨rfl,g1,g2⟩;exact ⟨E,rfl,⟨rfl,g1,g2⟩,(g1.block _ (by simp) (by omega)).trans x6⟩))
 have HTR:=hidI TR;have HB4:=hidI hB4;have HZ4:=hidI hz4';have hmf:∀ (fn:Fn) (first cap:Array Value) (w:World),(Instr.makeFunc fn first cap).run Tryz.prog w = .ok (.func fn first cap) w:=fun _ _ _ _=>rfl
 clear N1 TR hW4 hz4 hz4' hg4 hB4 x0 x1 x2 x3 x6 l5 hp hs hE hK;go_enter Tryz.func105,Tryz.ntmps105;go_wp2_with fail
 rw [← HW4.out];refine HTR.out.mono ?_;rintro e w7 ⟨D,w1,rfl,⟨rfl,g1,g2⟩,hb,rfl⟩;have hB7:Below w.heap.size w (w1.setCell ⟨W4.heap.size,0,none⟩ (.int .i64 D)):=by
  refine (HB4.out.trans ?_).setCell (p:=⟨W4.heap.size,0,none⟩) (by have:=HZ4.out;show w.heap.size≤W4.heap.size;omega) _;refine ⟨g1.os,g1.tape,g1.output,by have:=g1.size;simp at this;omega,fun k hk=>?_⟩;rw [g1.block k (by simp;have:=HZ4.out;omega) (by omega),Below.heap_alloc _ _ _ (by have:=HZ4.out;omega)]
 have HB7:=hidI hB7;by_cases hD:D = 0
 ·subst hD;have r3:=g2 rfl;have r7:(w1.setCell ⟨W4.heap.size,0,none⟩ (.int .i64 0)).heap[w.heap.size+3]? = some (.cells #[.int .i64 K] 3 (0,0)):=by rw [Below.heap_setCell _ _ _ _ (by have:=HZ4.out;show w.heap.size+3≠W4.heap.size;omega)];exact r3
  have c7:=coc_ r7 0;simp at c7;generalize hw7:w1.setCell ⟨W4.heap.size,0,none⟩ (.int .i64 0) = w7 at c7 HB7;clear r3 r7 g1 g2 hb hB7 hw7;go_wp2_with fail
  go_ret2
  exact ⟨by first | rfl | (unfold a9_;rw [if_pos rfl]),HB7.out⟩
 ·have hD':(D != 0) = true:=bne_iff_ne.2 hD;have HDN:=hidI hD;generalize hw7:w1.setCell ⟨W4.heap.size,0,none⟩ (.int .i64 D) = w7 at HB7;clear g1 g2 hb hB7 hw7 hD;go_wp2_with fail
  go_ret2
  exact ⟨fv_ (by unfold a9_;rw [if_neg HDN.out]) rfl,HB7.out⟩
end Go.Proofs.YtlbnkpicnokgoaaGreat
