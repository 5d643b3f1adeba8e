import Derived.Test.YtedmnjimkhamaaaGreatDoorDJe
namespace Go.Proofs.YtedmnjimkhamaaaGreatDoor
set_option linter.unusedVariables false
set_option maxRecDepth 100000
set_option maxHeartbeats 8000000
open Go.RowKit Go.Maps
theorem pN:type_of%@tk:=@tk
def eV(p:lD)(s:yC)(t:Int):Int:=if tG t s.nA.length=false then 5 else if(bU s t.toNat).queue=-1 then 5 else iR p t s.xB s
theorem VR{xs:List kH}{k:Nat}(hk:k<xs.length)(q:Int):(rH xs).set (k*2) (.int .i64 q)=rH (xs.set k ⟨q,xs[k].nD⟩):=by
 rw[<-MZ hk ⟨q,xs[k].nD⟩];have e1:=dU (f:=kH.cells) (k:=2) (λ_=>rfl) xs k hk 1 (by omega);have e2:(rH xs)[k*2+1]?=some (.int .i64 xs[k].nD):=e1;apply List.ext_getElem?;intro j;rw[rE (i:=k*2+1)];by_cases h:k*2+1=j;·subst h;rw[qA rfl,qA (by rw[kF,BF];omega),rE,kA (by omega),e2]
 ·rw[kA h]
theorem fI.takerQ{W W':World}{n g:Nat}{b1 b2:Option Addr}{m1 d1 m2 d2 m3 d3:Nat}{s:yC}(h:fI W n b1 b2 (some ⟨g,0,none⟩) m1 d1 m2 d2 m3 d3 s){k:Nat}(hk:k<s.nA.length)(q:Int)(hW:W'=W.setCell ⟨g,k*2,none⟩ (.int .i64 q)):fI W' n b1 b2 (some ⟨g,0,none⟩) m1 d1 m2 d2 m3 d3 {s with nA:=s.nA.set k ⟨q,s.nA[k].nD⟩}/\jH 121 W W'/\n<=g:=by
 obtain⟨hn,cur,hg⟩:=mT h.r3;have s1:=h.r3.stored (k*2) (.int .i64 q);have kt:jH 121 W W':=by rw[hW];exact jH.setCell hg _
 refine⟨h.nA kt ?_,kt,hn⟩;rw[hW,<-VR hk];exact s1.1
structure VK(p:lD)(s:yC)(kk:Int)(n t:Nat)(W wr:World)(k:Nat)(cur:yC):Prop where
 box:mE wr n t cur
 fr:qE n t W wr
 tk:cur.nA=s.nA
 le:iR p kk s.xB s=iR p kk (s.xB.drop k) cur
 ll:bT p kk s.xB s=bT p kk (s.xB.drop k) cur
theorem OL{p:lD}{s:yC}{t:Int}(h:t<0\/(s.nA.length:Int)<=t):eV p s t=5:=by
 unfold eV;rw[qA (BV.2 (by omega))]
theorem ZS(p:lD)(a1 a2 a3:Option Addr)(n1 c1 n2 c2 n3 c3:Nat)(s:yC)(b1 b2 b3:Option Addr)(m1 d1 m2 d2 m3 d3:Nat)(tk:Int)(Bp Bs Bt:Nat)(w:World)(hp:sG w a1 a2 a3 n1 n2 n3 p)(hs:gK w b1 b2 b3 m1 m2 m3 s)(x0:w.heap[Bp]?=some (.cells #[.slice a1 n1 c1,.slice a2 n2 c2,.slice a3 n3 c3] 26 (0,0)))(x1:w.heap[Bs]?=some (.cells #[.slice b1 m1 d1,.slice b2 m2 d2,.slice b3 m3 d3,.int .i64 s.gA,.int .i64 s.fA,.int .i64 s.nB,.int .i64 s.uA,.int .i64 s.iA] 39 (0,0)))(x2:w.heap[Bt]?=some (.cells #[.int .i64 tk] 3 (0,0)))(hR:mH p s 0):
 sZ 101 #[.pointer (some ⟨Bt,0,none⟩),.pointer (some ⟨Bs,0,none⟩),.pointer (some ⟨Bp,0,none⟩)] w s (eV p s tk) (qW p s tk):=by
 intro W n t hBW hwt htn hnW hbx;have hap:(#[Value.pointer (some ⟨t,0,none⟩)]++#[Value.pointer (some ⟨Bt,0,none⟩),Value.pointer (some ⟨Bs,0,none⟩),Value.pointer (some ⟨Bp,0,none⟩)]:Array Value)=#[.pointer (some ⟨t,0,none⟩),.pointer (some ⟨Bt,0,none⟩),.pointer (some ⟨Bs,0,none⟩),.pointer (some ⟨Bp,0,none⟩)]:=rfl;rw[hap];have HBX:=aA hbx;obtain⟨o1,o2,o3,k1,j1,k2,j2,k3,j3,hb,ho⟩:=hbx;have hk3:k3=s.nA.length:=ho.l3.symm;have HR:=aA hR;have X0:=aA x0;have X1:=aA x1;have X2:=aA x2;have HP:=aA hp;have HS:=aA hs;have HBW:=aA hBW;have hz:=hBW.size;have lp:=bE x0;have ls:=bE x1;have lt:=bE x2;have HB:=aA hb;have HO:=aA ho;have HM2:Hid (s.xB.length=m2):=hs.l2;have hm2:m2<=1000:=by rw[<-hs.l2];exact(yV hR).2.2.1
 have hm3:k3<=4:=by rw[hk3];exact hR.tk
 have HK3:=aA hk3;have SA:Hid (∀W',Below W.heap.size W W'->(W'.cell? ⟨Bt,0,none⟩=some (.int .i64 tk)/\W'.cell? ⟨t,2,none⟩=some (.slice o3 k3 j3))):=λW' h=>⟨by have:=yB (pB (pB X2.out HBW.out) h) 0;simpa using this,(gD (pB HB.out h)).2.2.1⟩;clear hap x0 x1 x2 hR hp hs hb ho hk3 hBW;go_enter Tryz.func101,Tryz.ntmps101;go_upto_region 0 with fail;refine zB (S:=λW'=>W'.cell? ⟨Bt,0,none⟩=some (.int .i64 tk)/\W'.cell? ⟨t,2,none⟩=some (.slice o3 k3 j3)) (by kernel_rfl) (SA.out _ (dA _ _).drew) (λhHeld=>?_);obtain⟨wq,hwq⟩:∃wq,wq=W.drew:=⟨_,rfl⟩;have Lwq:Hid (Below W.heap.size W wq):=by show Below W.heap.size W wq;rw[hwq];exact(dA _ _).drew
 rw[<-hwq]at hHeld⊢;clear hwq;refine pN 0 ?_;refine pN 1 ?_;refine pN 2 ?_;refine pN 3 ?_;refine pN 4 ?_;refine pN 5 ?_;refine pN 6 ?_;refine pN 7 ?_;refine pN 8 ?_;refine pG 9 (λK hK=>?_);go_simp;obtain⟨wa,hwa⟩:∃wa,wa=wq.alloc (.cells #[.bool (decide (tk<0)),.bool (decide ((k3:Int)<=tk))] 4):=⟨_,rfl⟩;have HBN:Hid (lO wa wq.heap.size 0 [decide (tk<0),decide ((k3:Int)<=tk)]):=by show lO wa wq.heap.size 0 _;rw[hwa];exact fQ wq [decide (tk<0),decide ((k3:Int)<=tk)]
 have Lwa:Hid (Below W.heap.size W wa):=by show Below W.heap.size W wa;rw[hwa];exact Lwq.out.alloc Lwq.out.size _
 rw[<-hwa];refine hK.out _ _ (SA.out _ Lwa.out) (λhHa=>?_);clear hK K hwa;try refine hG ?_
 refine pG 10 (λK hK=>?_);go_simp;by_cases hbad:tk<0\/(k3:Int)<=tk;·refine(aN 5 [decide (tk<0),decide ((k3:Int)<=tk)] _ _ (by simp) HBN.out (by simp;omega)).mono ?_;rintro e wb⟨rfl,rfl⟩;exact⟨rfl,qE.kB Lwa.out hnW,.inl ⟨by rw[OL (by rw[<-HK3.out];exact hbad)];decide,by rw[OL (by rw[<-HK3.out];exact hbad)];rfl⟩⟩
 refine(zM 5 [decide (tk<0),decide ((k3:Int)<=tk)] _ _ (by simp) HBN.out (by simp;omega)).mono ?_;rintro e wb⟨rfl,hwb⟩;rw[hwb];refine hK.out _ _ (SA.out _ Lwa.out) (λhHb=>?_);clear hK K hwb;try refine hG ?_
 refine gC (by kernel_rfl) ?_ _;obtain⟨kk,hkk⟩:∃kk:Nat,tk=kk:=⟨tk.toNat,by omega⟩;subst hkk;have hkm:kk<k3:=by omega
 have hkl:kk<s.nA.length:=by rw[<-HK3.out];exact hkm
 have ra:=(HO.out.sA Lwa.out).r3;obtain⟨gT,rfl⟩:∃gT,o3=some ⟨gT,0,none⟩:=by
  rcases ra.2 with⟨e,e0⟩|⟨g,cap,cur,e,_⟩;·exfalso;omega
  ·cases e;exact⟨g,rfl⟩
 have cc:wa.cell? ⟨gT,kk*2,none⟩=some (.int .i64 (s.nA[kk]'hkl).queue):=by
  rw[ra.cellAt (kk*2) (by omega)];exact dU (f:=kH.cells) (k:=2) (λ_=>rfl) s.nA kk hkl 0 (by omega)
 have hgl:gT<wa.heap.size:=(ra.lt gT rfl).2;obtain⟨qu,hqu⟩:∃qu,qu=(s.nA[kk]'hkl).queue:=⟨_,rfl⟩;rw[<-hqu]at cc;have HQU:Hid ((bU s kk).queue=qu):=by show _=qu;unfold bU;rw[tB,tA hkl,hqu];rfl
 have HKL:=aA hkl;have CC:=aA cc;have SB:Hid (∀W',Below wa.heap.size wa W'->(W'.cell? ⟨Bt,0,none⟩=some (.int .i64 (kk:Int))/\W'.cell? ⟨t,2,none⟩=some (.slice (some ⟨gT,0,none⟩) k3 j3)/\W'.cell? ⟨gT,kk*2,none⟩=some (.int .i64 qu))):=λW' h=>by
  have:=SA.out W' (Lwa.out.trans (h.mono Lwa.out.size));exact⟨this.1,this.2,(h.cell (p:=⟨gT,kk*2,none⟩) hgl).trans CC.out⟩
 have i1:(0:Int)<=(kk:Int):=by omega
 have i2:(kk:Int)<k3:=by omega
 have HLX0:Hid (eV p s kk=if qu=-1 then 5 else iR p kk s.xB s):=by
  show _=_;unfold eV;rw[kA (by rw[cP.2 ⟨i1,by rw[<-HK3.out];omega⟩];decide),Int.toNat_natCast,HQU.out]
 clear hbad ra cc hqu hHeld hHa hHb;go_upto_region 1 with fail;refine zB (S:=λW'=>W'.cell? ⟨Bt,0,none⟩=some (.int .i64 (kk:Int))/\W'.cell? ⟨t,2,none⟩=some (.slice (some ⟨gT,0,none⟩) k3 j3)/\W'.cell? ⟨gT,kk*2,none⟩=some (.int .i64 qu)) (by kernel_rfl) (SB.out _ (dA _ _).drew) (λhHeld=>?_);obtain⟨wp,hwq⟩:∃wp,wp=wa.drew:=⟨_,rfl⟩;have Lwp:Hid (Below wa.heap.size wa wp):=by show Below wa.heap.size wa wp;rw[hwq];exact(dA _ _).drew
 rw[<-hwq]at hHeld⊢;clear hwq;refine pN 0 ?_;refine pN 1 ?_;refine pN 2 ?_;refine pN 3 ?_;refine pN 4 ?_;refine pN 5 ?_;refine pN 6 ?_;refine pN 7 ?_;refine pN 8 ?_;refine pG 9 (λK hK=>?_);go_simp;obtain⟨wc,hwa⟩:∃wc,wc=wp.alloc (.cells #[.bool (qu==-1)] 4):=⟨_,rfl⟩;have HBN:Hid (lO wc wp.heap.size 0 [qu==-1]):=by show lO wc wp.heap.size 0 _;rw[hwa];exact fQ wp [qu==-1]
 have Lwc:Hid (Below wa.heap.size wa wc):=by show Below wa.heap.size wa wc;rw[hwa];exact Lwp.out.alloc Lwp.out.size _
 rw[<-hwa];refine hK.out _ _ (SB.out _ Lwc.out) (λhHa=>?_);clear hK K hwa;try refine hG ?_
 refine pG 10 (λK hK=>?_);go_simp;by_cases hbad:qu=-1;·refine(aN 5 [qu==-1] _ _ (by simp) HBN.out (by simp[hbad])).mono ?_;rintro e wb⟨rfl,rfl⟩;exact⟨rfl,qE.kB (Lwa.out.trans (Lwc.out.mono Lwa.out.size)) hnW,.inl ⟨by rw[HLX0.out,qA hbad];decide,by rw[HLX0.out,qA hbad];rfl⟩⟩
 refine(zM 5 [qu==-1] _ _ (by simp) HBN.out (by simp[hbad])).mono ?_;rintro e wb⟨rfl,hwb⟩;rw[hwb];refine hK.out _ _ (SB.out _ Lwc.out) (λhHb=>?_);clear hK K hwb;try refine hG ?_
 refine gC (by kernel_rfl) ?_ _;have HLX:Hid (eV p s kk=iR p kk s.xB s):=by show _=_;rw[HLX0.out,kA hbad]
 have KC:Hid (Below W.heap.size W wc):=Lwa.out.trans (Lwc.out.mono Lwa.out.size);have hSc:=gD (pB (pB X1.out HBW.out) KC.out);have y1:=hSc.2.1;clear hbad hSc hHeld hHa hHb i1 i2;go_wp2_with fail;go_loopw[34](λi wr=>∃(k:Nat),k<=m2/\i=.int .i64 k/\∃cur,VK p s kk n t W wr k cur)(λi _=>m2-(intOf i).toNat);case atStart=>exact⟨0,zA _,rfl,s,HBX.out.sA KC.out,qE.kB KC.out hnW,rfl,by simp,by simp⟩
 case round=>
  obtain⟨k,hk,rfl,cur,hinv⟩:=hrel;have hFr:=hinv.fr;have hszr:=hFr.size;have KWr:Hid (Below w.heap.size w wr):=HBW.out.trans (hFr.below (by omega) hwt);obtain⟨g1,g2,g3,l1,r1,l2,r2,l3,r3,hbr,hor⟩:=hinv.box;have HLE:=aA hinv.le;have HLL:=aA hinv.ll;have HTS:=aA hinv.tk;have HFR:=aA hFr;have HBR:=aA hbr;have HOR:=aA hor;have ctk:=yB (pB X2.out KWr.out) 0;simp at ctk;have hBtr:Bt<wr.heap.size:=by omega
  clear hinv hFr hbr hor;by_cases hlt:k<m2
  ·have HLT:=aA hlt;have hkl2:k<s.xB.length:=by rw[HM2.out];exact hlt
   obtain⟨gq,oq,ha,hgq,oc0,oc1,oc2,oci⟩:=(HS.out.sA KWr.out).q2.get hkl2;obtain⟨od0,od1,od2,od3,od4⟩:=oci;have hdr:s.xB.drop k=s.xB[k]::s.xB.drop (k+1):=vC hkl2;obtain⟨x,hx⟩:∃x,x=s.xB[k]:=⟨_,rfl⟩;rw[<-hx]at oc0 oc1 oc2 od0 od1 od2 od3 od4 hdr;have HDR:=aA hdr;have HDT:Hid (x=x):=rfl;obtain⟨tg,tkr,qq,it⟩:=x;dsimp only at oc0 oc1 oc2 od0 od1 od2 od3 od4;have i1:(0:Int)<=(k:Int):=by omega
   have i2:(k:Int)<m2:=by omega
   clear hdr hx HDT;subst ha;obtain⟨w5,hw5⟩:∃w5,w5=wr.alloc (.cells #[.int .i64 tg,.int .i64 tkr,.int .i64 qq,.int .i64 it.seq,.string it.key,.string it.body,.bool it.again,.int .i64 it.fC] 88):=⟨_,rfl⟩;have l5:Below wr.heap.size wr w5:=by rw[hw5];exact(dA _ _).alloc (eA _) _
   have b5:w5.heap[wr.heap.size]?=some (.cells #[.int .i64 tg,.int .i64 tkr,.int .i64 qq,.int .i64 it.seq,.string it.key,.string it.body,.bool it.again,.int .i64 it.fC] 88 (0,0)):=by rw[hw5];exact jA wr _
   have HW5:=aA hw5;have L5:=aA l5;obtain⟨BO,hBO⟩:∃BO,BO=wr.heap.size:=⟨_,rfl⟩;have HBO:=aA hBO;rw[<-hBO]at b5;have B5:=aA b5;have HF5:Hid (qE n t W w5):=HFR.out.trans (qE.kB l5 (by omega));have HN5:Hid (n<=w5.heap.size):=by show n<=_;have:=l5.size;omega
   clear hw5 l5 b5 hBO;by_cases htk:tkr=kk;rotate_left
   ·have hb:(tkr !=(kk:Int))=true:=kD.2 htk;have HNT:=aA htk;clear htk;go_wp2_with fail;rw[<-HW5.out];go_roundw;case rel=>
     refine⟨k+1,HLT.out,by have:=HLT.out;go_num,cur,⟨_,_,_,_,_,_,_,_,_,pB HBR.out L5.out,HOR.out.sA L5.out⟩,HF5.out,HTS.out,?_,?_⟩
     ·rw[HLE.out,HDR.out];conv=>lhs;unfold iR
      rw[kA HNT.out]
     ·rw[HLL.out,HDR.out];conv=>lhs;unfold bT
      rw[kA HNT.out]
    case measure=>have:=HLT.out;simp[intOf];omega
   have hb:(tkr !=(kk:Int))=false:=by simp[htk]
   have HTK:Hid ((⟨tg,tkr,qq,it⟩:eF).fE=(kk:Int)):=htk;have HBV:=aA (pB HBR.out L5.out);have HOV:=aA (HOR.out.sA L5.out);have HPV:=aA (HP.out.sA (KWr.out.trans (L5.out.mono KWr.out.size)));obtain⟨E,hE⟩:∃E,E=cL p cur tg:=⟨_,rfl⟩;have HE:=aA hE;have SC:Hid (∀W',Below w5.heap.size w5 W'->((W'.cell? ⟨Bp,0,none⟩=some (.slice a1 n1 c1)/\W'.cell? ⟨Bp,1,none⟩=some (.slice a2 n2 c2)/\W'.cell? ⟨Bp,2,none⟩=some (.slice a3 n3 c3))/\(W'.cell? ⟨t,0,none⟩=some (.slice g1 l1 r1)/\W'.cell? ⟨t,1,none⟩=some (.slice g2 l2 r2)/\W'.cell? ⟨t,2,none⟩=some (.slice g3 l3 r3)/\W'.cell? ⟨t,3,none⟩=some (.int .i64 cur.gA)/\W'.cell? ⟨t,4,none⟩=some (.int .i64 cur.fA)/\W'.cell? ⟨t,5,none⟩=some (.int .i64 cur.nB)/\W'.cell? ⟨t,6,none⟩=some (.int .i64 cur.uA)/\W'.cell? ⟨t,7,none⟩=some (.int .i64 cur.iA))/\W'.cell? ⟨BO,0,none⟩=some (.int .i64 tg))):=λW' h=>by
    exact⟨xH (pB (pB X0.out (KWr.out.trans (L5.out.mono KWr.out.size))) h),gD (pB HBV.out h),by have:=yB (pB B5.out h) 0;simpa using this⟩
   clear htk hE;go_upto_region 6 with fail;rw[<-HW5.out,<-HBO.out];go_cut[7,8]from 35 to 58(λs7 s8 wx=>∃BB u,s7=.pointer (some ⟨BB,0,none⟩)/\s8=.int .i64 E/\wx.heap[BB]?=some (.cells u 39 (0,0))/\kK wx n (.agg u) E (vK p cur tg true)/\Below w5.heap.size w5 wx);case first=>
    refine zB (S:=λW'=>(W'.cell? ⟨Bp,0,none⟩=some (.slice a1 n1 c1)/\W'.cell? ⟨Bp,1,none⟩=some (.slice a2 n2 c2)/\W'.cell? ⟨Bp,2,none⟩=some (.slice a3 n3 c3))/\(W'.cell? ⟨t,0,none⟩=some (.slice g1 l1 r1)/\W'.cell? ⟨t,1,none⟩=some (.slice g2 l2 r2)/\W'.cell? ⟨t,2,none⟩=some (.slice g3 l3 r3)/\W'.cell? ⟨t,3,none⟩=some (.int .i64 cur.gA)/\W'.cell? ⟨t,4,none⟩=some (.int .i64 cur.fA)/\W'.cell? ⟨t,5,none⟩=some (.int .i64 cur.nB)/\W'.cell? ⟨t,6,none⟩=some (.int .i64 cur.uA)/\W'.cell? ⟨t,7,none⟩=some (.int .i64 cur.iA))/\W'.cell? ⟨BO,0,none⟩=some (.int .i64 tg)) (by kernel_rfl) (SC.out _ (dA _ _).drew) (λhHeld=>?_);obtain⟨wq,hwq⟩:∃wq,wq=w5.drew:=⟨_,rfl⟩;have Lwq:Hid (Below w5.heap.size w5 wq):=by show Below w5.heap.size w5 wq;rw[hwq];exact(dA _ _).drew
    rw[<-hwq]at hHeld⊢;clear hwq;refine pN 0 ?_;refine pN 1 ?_;refine pN 2 ?_;refine pN 3 ?_;refine pN 4 ?_;refine pN 5 ?_;refine vF (rs:=[6,10]) (by kernel_rfl) (by simp) ?_;refine fD rfl (λK hK=>?_) (fD rfl (λK hK=>?_) lF)
    ·go_simp;refine(JK p a1 a2 a3 n1 c1 n2 c2 n3 c3 cur g1 g2 g3 l1 r1 l2 r2 l3 r3 tg true _ (HPV.out.sA Lwq.out) (HOV.out.sA Lwq.out).state (HOV.out.sA Lwq.out).iH.1 (HOV.out.sA Lwq.out).iH.2).mono ?_;rintro e wd⟨vd,rfl,hresd,kd⟩;rw[<-HE.out]at hresd⊢;obtain⟨x1,x2,x3,q1,e1,q2,e2,q3,e3,i1,i2,i3,i4,i5,rfl⟩:=hresd.shape;have Lwd:Hid (Below w5.heap.size w5 wd):=Lwq.out.trans (kd.mono Lwq.out.size);have HSd:=aA (hresd.lower (n':=n) (by have:=Lwq.out.size;have:=HN5.out;omega));refine hK.out _ _ (SC.out _ Lwd.out) (λhHd=>?_);clear hK K hresd kd;try refine hG ?_
     refine pN 7 ?_;refine pN 8 ?_;refine pN 9 ?_;refine pG 10 (λK hK=>?_);go_simp;obtain⟨wa,hwa⟩:∃wa,wa=wd.alloc (.cells #[.slice none 0 0,.slice none 0 0,.slice none 0 0,.int .i64 0,.int .i64 0,.int .i64 0,.int .i64 0,.int .i64 0] 39):=⟨_,rfl⟩;have la:Below wd.heap.size wd wa:=by rw[hwa];exact(dA _ _).alloc (eA _) _
     have Lwa:Hid (Below w5.heap.size w5 wa):=Lwd.out.trans (la.mono Lwd.out.size);have ba:wa.heap[wd.heap.size]?=some (.cells #[.slice none 0 0,.slice none 0 0,.slice none 0 0,.int .i64 0,.int .i64 0,.int .i64 0,.int .i64 0,.int .i64 0] 39 (0,0)):=by rw[hwa];exact jA wd _
     obtain⟨BB,hBB⟩:∃BB,BB=wd.heap.size:=⟨_,rfl⟩;have hBg:w5.heap.size<=BB:=by rw[hBB];exact Lwd.out.size
     rw[<-hwa,<-hBB];rw[<-hBB]at ba;have HSa:=aA (HSd.out.sA la);refine hK.out _ _ (SC.out _ Lwa.out) (λhHa=>?_);clear hK K hwa hBB;try refine hG ?_
     refine pG 11 (λK hK=>?_);obtain⟨c0,c1',c2',c3',c4,c5,c6,c7⟩:=gD ba;have g0:=pA ba 0;have g1:=pA ba 1;have g2:=pA ba 2;have g3:=pA ba 3;have g4:=pA ba 4;have g5:=pA ba 5;have g6:=pA ba 6;have g7:=pA ba 7;go_simp;generalize hWz:World.setCell (World.setCell (World.setCell (World.setCell (World.setCell (World.setCell (World.setCell (World.setCell wa _ _) _ _) _ _) _ _) _ _) _ _) _ _) _ _=Wz;obtain⟨bz,tz⟩:=eD ba hWz;have lz:Below w5.heap.size w5 Wz:=Lwa.out.trans (tz.below Lwa.out.size hBg);have rz:=HSa.out.bF ba tz;have RL:=aA (And.intro bz (And.intro rz lz));refine hK.out _ _ (SC.out _ lz) (λhHz=>?_);clear hK K;try refine hG ?_
     refine pN 12 ?_;refine gC (by kernel_rfl) ?_ _;clear c0 c1' c2' c3' c4 c5 c6 c7 g0 g1 g2 g3 g4 g5 g6 g7 bz rz lz hHz tz hWz;go_wp2_with fail;go_meet;case rel=>exact⟨BB,_,rfl,rfl,RL.out⟩
    ·go_simp;obtain⟨wa,hwa⟩:∃wa,wa=wq.alloc (.cells #[.slice none 0 0,.slice none 0 0,.slice none 0 0,.int .i64 0,.int .i64 0,.int .i64 0,.int .i64 0,.int .i64 0] 39):=⟨_,rfl⟩;have la:Below wq.heap.size wq wa:=by rw[hwa];exact(dA _ _).alloc (eA _) _
     have Lwa:Hid (Below w5.heap.size w5 wa):=Lwq.out.trans (la.mono Lwq.out.size);have ba:wa.heap[wq.heap.size]?=some (.cells #[.slice none 0 0,.slice none 0 0,.slice none 0 0,.int .i64 0,.int .i64 0,.int .i64 0,.int .i64 0,.int .i64 0] 39 (0,0)):=by rw[hwa];exact jA wq _
     obtain⟨BB,hBB⟩:∃BB,BB=wq.heap.size:=⟨_,rfl⟩;have hBg:w5.heap.size<=BB:=by rw[hBB];exact Lwq.out.size
     rw[<-hwa,<-hBB];rw[<-hBB]at ba;refine hK.out _ _ (SC.out _ Lwa.out) (λhHa=>?_);clear hK K hwa hBB;try refine hG ?_
     refine pG 6 (λK hK=>?_);go_simp;refine(JK p a1 a2 a3 n1 c1 n2 c2 n3 c3 cur g1 g2 g3 l1 r1 l2 r2 l3 r3 tg true _ (HPV.out.sA Lwa.out) (HOV.out.sA Lwa.out).state (HOV.out.sA Lwa.out).iH.1 (HOV.out.sA Lwa.out).iH.2).mono ?_;rintro e wd⟨vd,rfl,hresd,kd⟩;rw[<-HE.out]at hresd⊢;obtain⟨x1,x2,x3,q1,e1,q2,e2,q3,e3,i1,i2,i3,i4,i5,rfl⟩:=hresd.shape;have Lwd:Hid (Below w5.heap.size w5 wd):=Lwa.out.trans (kd.mono Lwa.out.size);have HSd:=aA (hresd.lower (n':=n) (by have:=Lwa.out.size;have:=HN5.out;omega));have bd:=pB ba kd;refine hK.out _ _ (SC.out _ Lwd.out) (λhHd=>?_);clear hK K hresd kd;try refine hG ?_
     refine pN 7 ?_;refine pN 8 ?_;refine pN 9 ?_;refine pG 11 (λK hK=>?_);obtain⟨c0,c1',c2',c3',c4,c5,c6,c7⟩:=gD bd;have g0:=pA bd 0;have g1:=pA bd 1;have g2:=pA bd 2;have g3:=pA bd 3;have g4:=pA bd 4;have g5:=pA bd 5;have g6:=pA bd 6;have g7:=pA bd 7;go_simp;generalize hWz:World.setCell (World.setCell (World.setCell (World.setCell (World.setCell (World.setCell (World.setCell (World.setCell wd _ _) _ _) _ _) _ _) _ _) _ _) _ _) _ _=Wz;obtain⟨bz,tz⟩:=eD bd hWz;have lz:Below w5.heap.size w5 Wz:=Lwd.out.trans (tz.below Lwd.out.size hBg);have rz:=HSd.out.bF bd tz;have RL:=aA (And.intro bz (And.intro rz lz));refine hK.out _ _ (SC.out _ lz) (λhHz=>?_);clear hK K;try refine hG ?_
     refine pN 12 ?_;refine gC (by kernel_rfl) ?_ _;clear c0 c1' c2' c3' c4 c5 c6 c7 g0 g1 g2 g3 g4 g5 g6 g7 bz rz lz hHz tz hWz;go_wp2_with fail;go_meet;case rel=>exact⟨BB,_,rfl,rfl,RL.out⟩
   case rest=>
    obtain⟨BB,u,rfl,rfl,hbb,hrs,hBx⟩:=hcut;have HBB:=aA hbb;have HRS:=aA hrs;have KX:=aA hBx;have hsx:=hBx.size;clear hbb hrs hBx;by_cases hz:E=0;rotate_left
    ·have HZN:=aA hz;clear hz;go_wp2_with fail;refine(qV E _ _ (rM _ _ _) (by simp) HZN.out).mono ?_;rintro e w6⟨rfl,k6⟩;have ka:=KX.out.alloc hsx (.cells #[.int .i64 E] 27);have HX:eV p s kk=E:=by
      rw[HLX.out,HLE.out,HDR.out];unfold iR;rw[qA HTK.out,qA (by rw[<-HE.out];exact HZN.out),HE.out]
     exact⟨rfl,HF5.out.trans (qE.kB (ka.trans (k6.mono ka.size)) HN5.out),.inl ⟨by rw[HX];exact HZN.out,by rw[HX];rfl⟩⟩
    have HEZ:=aA hz;have hE0:=HRS.out.1 hz;obtain⟨y1,y2,y3,i1,f1,i2,f2,i3,f3,hv,ho⟩:=hE0;cases hv;have HOX:=aA ho;have ka:=KX.out.alloc KX.out.size (.cells #[.int .i64 0] 27);clear ho;subst hz;go_wp2_with fail;refine(rS _ _ (rM _ _ _) (by simp)).mono ?_;rintro e w6⟨rfl,k6⟩;have K6:=aA (ka.trans (k6.mono ka.size));have HO6:=aA ((HOX.out.sA ((dA _ _).alloc (eA _) (.cells #[.int .i64 0] 27))).sA k6);have B6:=aA (pB (pB HBB.out ((dA _ _).alloc (eA _) (.cells #[.int .i64 0] 27))) k6);have T6:=aA (pB HBV.out K6.out);obtain⟨c0,c1',c2',c3',c4,c5,c6,c7⟩:=gD B6.out;obtain⟨z0,z1,z2,z3,z4,z5,z6,z7⟩:=gD T6.out;have g0:=pA T6.out 0;have g1':=pA T6.out 1;have g2':=pA T6.out 2;have g3':=pA T6.out 3;have g4:=pA T6.out 4;have g5:=pA T6.out 5;have g6:=pA T6.out 6;have g7:=pA T6.out 7;have hlt:=HLT.out;clear ka k6;go_wp2_with fail;generalize hWz:World.setCell (World.setCell (World.setCell (World.setCell (World.setCell (World.setCell (World.setCell (World.setCell w6 _ _) _ _) _ _) _ _) _ _) _ _) _ _) _ _=Wz;obtain⟨bz,tz⟩:=eD T6.out hWz;have oz:=HO6.out.bF T6.out (by decide) tz;go_roundw;case rel=>
     refine⟨k+1,HLT.out,by have:=HLT.out;go_num,vK p cur tg true,⟨_,_,_,_,_,_,_,_,_,bz,oz⟩,(HF5.out.trans (qE.kB K6.out HN5.out)).turnB tz (by have:=K6.out.size;have:=HN5.out;omega),(OE p cur tg true).trans HTS.out,?_,?_⟩
     ·rw[HLE.out,HDR.out];conv=>lhs;unfold iR
      rw[qA HTK.out,kA (by rw[<-HE.out];simp)]
     ·rw[HLL.out,HDR.out];conv=>lhs;unfold bT
      rw[qA HTK.out]
    case measure=>have:=HLT.out;simp[intOf];omega
  ·have hke:k=m2:=by omega
   subst hke;clear hlt hk;rw[<-HM2.out,List.drop_length]at HLE HLL;have HE0:Hid (eV p s kk=0):=by show _=(0:Int);rw[HLX.out,HLE.out];rfl
   have HCU:Hid (bT p kk s.xB s=cur):=by show _=cur;rw[HLL.out];rfl
   have hr3:=HOR.out.r3;have hl3:l3=s.nA.length:=by rw[<-HTS.out];exact HOR.out.l3.symm
   have hkk3:kk<l3:=by rw[hl3];exact HKL.out
   obtain⟨gU,rfl⟩:∃gU,g3=some ⟨gU,0,none⟩:=by
    rcases hr3.2 with⟨e,e0⟩|⟨g,cap,cc,e,_⟩;·exfalso;omega
    ·cases e;exact⟨g,rfl⟩
   have hkc:kk<cur.nA.length:=by rw[HTS.out];exact HKL.out
   have cc:wr.cell? ⟨gU,kk*2,none⟩=some (.int .i64 (cur.nA[kk]'hkc).queue):=by
    rw[hr3.cellAt (kk*2) (by omega)];exact dU (f:=kH.cells) (k:=2) (λ_=>rfl) cur.nA kk hkc 0 (by omega)
   have ff:=hr3.frozenAt (kk*2);obtain⟨y0,y1',y2,y3,y4,y5,y6,y7⟩:=gD HBR.out;have i1:(0:Int)<=(kk:Int):=by omega
   have i2:(kk:Int)<l3:=by omega
   obtain⟨qz,hqz⟩:∃qz,qz=(cur.nA[kk]'hkc).queue:=⟨_,rfl⟩;rw[<-hqz]at cc;have HKC:=aA hkc;clear hr3 hl3 hqz hkc;go_wp2_with fail;go_region;go_wp2_with fail;go_end0;obtain⟨h1,h2,h3⟩:=HOR.out.takerQ HKC.out (-1) rfl;have hbt:=(h2.block t _ _ HBR.out (by decide)).trans HBR.out;have he:qW p s kk={cur with nA:=cur.nA.set kk ⟨-1,(cur.nA[kk]'HKC.out).nD⟩}:=by
    unfold qW sT;rw[HCU.out,Int.toNat_natCast,tB,tA HKC.out];rfl
   refine⟨(HFR.out.typeSet h3 _).drew,.inr ⟨HE0.out,rfl,?_⟩⟩;rw[he];exact mE.drew ⟨_,_,_,_,_,_,_,_,_,hbt,h1⟩
theorem I0(p:lD)(a1 a2 a3:Option Addr)(n1 c1 n2 c2 n3 c3:Nat)(s:yC)(b1 b2 b3:Option Addr)(m1 d1 m2 d2 m3 d3:Nat)(tk:Int)(w:World)(hp:sG w a1 a2 a3 n1 n2 n3 p)(hs:gK w b1 b2 b3 m1 m2 m3 s)(hn2:b2=none->d2=0)(hn3:b3=none->d3=0):
 Calls Tryz.prog 63 #[.agg #[.slice a1 n1 c1,.slice a2 n2 c2,.slice a3 n3 c3],.agg #[.slice b1 m1 d1,.slice b2 m2 d2,.slice b3 m3 d3,.int .i64 s.gA,.int .i64 s.fA,.int .i64 s.nB,.int .i64 s.uA,.int .i64 s.iA],.int .i64 tk] w λe w'=>∃v,e=.returned (.tuple #[v,.int .i64 (gV p s tk)])/\kK w' w.heap.size v (gV p s tk) (qW p s tk)/\Below w.heap.size w w':=by
 obtain⟨hz5,hg5,hB5⟩:=tR [.cells #[.slice a1 n1 c1,.slice a2 n2 c2,.slice a3 n3 c3] 26,.cells #[.slice b1 m1 d1,.slice b2 m2 d2,.slice b3 m3 d3,.int .i64 s.gA,.int .i64 s.fA,.int .i64 s.nB,.int .i64 s.uA,.int .i64 s.iA] 39,.cells #[.int .i64 tk] 3,.cells #[.slice none 0 0,.slice none 0 0,.slice none 0 0,.int .i64 0,.int .i64 0,.int .i64 0,.int .i64 0,.int .i64 0] 39] w;obtain⟨W5,hW5⟩:∃W5,W5=List.foldl World.alloc w [.cells #[.slice a1 n1 c1,.slice a2 n2 c2,.slice a3 n3 c3] 26,.cells #[.slice b1 m1 d1,.slice b2 m2 d2,.slice b3 m3 d3,.int .i64 s.gA,.int .i64 s.fA,.int .i64 s.nB,.int .i64 s.uA,.int .i64 s.iA] 39,.cells #[.int .i64 tk] 3,.cells #[.slice none 0 0,.slice none 0 0,.slice none 0 0,.int .i64 0,.int .i64 0,.int .i64 0,.int .i64 0,.int .i64 0] 39]:=⟨_,rfl⟩;rw[<-hW5]at hz5 hg5 hB5;have HW5:Hid (W5=((((w.alloc (.cells #[.slice a1 n1 c1,.slice a2 n2 c2,.slice a3 n3 c3] 26)).alloc (.cells #[.slice b1 m1 d1,.slice b2 m2 d2,.slice b3 m3 d3,.int .i64 s.gA,.int .i64 s.fA,.int .i64 s.nB,.int .i64 s.uA,.int .i64 s.iA] 39)).alloc (.cells #[.int .i64 tk] 3)).alloc (.cells #[.slice none 0 0,.slice none 0 0,.slice none 0 0,.int .i64 0,.int .i64 0,.int .i64 0,.int .i64 0,.int .i64 0] 39))):=hW5;have hz5':W5.heap.size=w.heap.size+4:=by rw[hz5];rfl
 have x0:=hg5 0 _ rfl;have x1:=hg5 1 _ rfl;have x2:=hg5 2 _ rfl;have x3:=hg5 3 _ rfl;obtain⟨E,hE⟩:∃E,E=gV p s tk:=⟨_,rfl⟩;rw[<-hE];have T:=LB p a1 a2 a3 n1 c1 n2 c2 n3 c3 s b1 b2 b3 m1 d1 m2 d2 m3 d3 101 (λ_ _=>rfl) #[.pointer (some ⟨w.heap.size+2,0,none⟩),.pointer (some ⟨w.heap.size+1,0,none⟩),.pointer (some ⟨w.heap.size,0,none⟩)] E (qW p s tk) W5 (hp.sA hB5) (hs.sA hB5) hn2 hn3
  (λh=>by rw[hE];unfold gV;rw[qA h])
  (λh=>by
   have e:E=eV p s tk:=by rw[hE];unfold gV eV;rw[kA (by simp[h])]
   rw[e];exact ZS p a1 a2 a3 n1 c1 n2 c2 n3 c3 s b1 b2 b3 m1 d1 m2 d2 m3 d3 tk _ _ _ W5 (hp.sA hB5) (hs.sA hB5) x0 x1 x2 (nN h));have HT:=aA T;have X4:=aA x3;have HZ5:=aA hz5';have HB5:=aA hB5;have hmf:∀(fn:Fn)(first cap:Array Value)(w:World),(Instr.makeFunc fn first cap).run Tryz.prog w=.ok (.func fn first cap) w:=λ_ _ _ _=>rfl;clear T hW5 hz5 hz5' hg5 hB5 x0 x1 x2 x3 hE hp hs hn2 hn3;go_enter Tryz.func63,Tryz.ntmps63;go_wp2_with fail;rw[<-HW5.out];refine HT.out.mono ?_;rintro e w6⟨v,rfl,hres,hB6⟩;have x6:=pB X4.out hB6;obtain⟨y0,y1,y2,y3,y4,y5,y6,y7⟩:=gD x6;have f0:=pA x6 0;have f1:=pA x6 1;have f2:=pA x6 2;have f3:=pA x6 3;have f4:=pA x6 4;have f5:=pA x6 5;have f6:=pA x6 6;have f7:=pA x6 7;obtain⟨x1,x2,x3,k1,e1,k2,e2,k3,e3,i1,i2,i3,i4,i5,rfl⟩:=hres.shape;have X6:=aA x6;have HRES:=aA hres;have HB6:=aA hB6;clear x6 hres hB6;go_wp2_with fail;generalize hW4:World.setCell (World.setCell (World.setCell (World.setCell (World.setCell (World.setCell (World.setCell (World.setCell w6 _ _) _ _) _ _) _ _) _ _) _ _) _ _) _ _=W4;obtain⟨b4,t4⟩:=eD X6.out hW4;obtain⟨z0,z1,z2,z3,z4,z5,z6,z7⟩:=gD b4;exact dB (v:=.tuple #[.agg #[.slice x1 k1 e1,.slice x2 k2 e2,.slice x3 k3 e3,.int .i64 i1,.int .i64 i2,.int .i64 i3,.int .i64 i4,.int .i64 i5],.int .i64 E]) (by simp[results,Tryz.results63,go_sem,z0,z1,z2,z3,z4,z5,z6,z7]) rfl ⟨_,rfl,(HRES.out.bF X6.out t4).lower (by have:=HZ5.out;omega),HB5.out.trans ((HB6.out.mono HB5.out.size).trans (t4.below (by have:=HB6.out.size;have:=HZ5.out;omega) (by omega)))⟩
end Go.Proofs.YtedmnjimkhamaaaGreatDoor
