import Derived.Test.YtedmnjimkhamaaaGreatDoorMpx
import Derived.Test.YtedmnjimkhamaaaGreatDoorDUn
namespace Go.Proofs.YtedmnjimkhamaaaGreatDoor
set_option linter.unusedVariables false
set_option maxRecDepth 100000
set_option maxHeartbeats 4000000
open Go.RowKit Go.Maps
theorem C6(w:World)(base:Nat)(T:TypeId)(size:Nat)(h:base<=w.heap.size):(w.alloc (.cells #[] T)).ownsRow base T size (.slice (some ⟨w.heap.size,0,none⟩) 0 0) 0 []:=
 ⟨by simp,.inr ⟨w.heap.size,0,#[],rfl,h,jA w _,eA _,zA _,by simp,by simp⟩⟩
theorem NS(s:yC)(b1 b2 b3:Option Addr)(m1 d1 m2 d2 m3 d3:Nat)(k:Nat)(w:World)(hs:gK w b1 b2 b3 m1 m2 m3 s)(hn2:b2=none->d2=0)(hn3:b3=none->d3=0)(hc2:m2<=d2)(hm2:d2<=maxLen)(h1:m1<=100)(hl:∀l∈s.yA,l.length<=100)(h2:m2<=1000)(h3:m3<=100)(hk:k<s.xB.length):
 Calls Tryz.prog 84 #[.agg #[.slice b1 m1 d1,.slice b2 m2 d2,.slice b3 m3 d3,.int .i64 s.gA,.int .i64 s.fA,.int .i64 s.nB,.int .i64 s.uA,.int .i64 s.iA],.int .i64 k] w λe w'=>∃v,e=.returned v/\pU w' w.heap.size v {s with xB:=s.xB.eraseIdx k}/\Below w.heap.size w w':=by
 obtain⟨hz2,hg2,hB2⟩:=tR [.cells #[.slice b1 m1 d1,.slice b2 m2 d2,.slice b3 m3 d3,.int .i64 s.gA,.int .i64 s.fA,.int .i64 s.nB,.int .i64 s.uA,.int .i64 s.iA] 39,.cells #[.slice none 0 0,.slice none 0 0,.slice none 0 0,.int .i64 0,.int .i64 0,.int .i64 0,.int .i64 0,.int .i64 0] 39] w;obtain⟨W2,hW2⟩:∃W2,W2=List.foldl World.alloc w [.cells #[.slice b1 m1 d1,.slice b2 m2 d2,.slice b3 m3 d3,.int .i64 s.gA,.int .i64 s.fA,.int .i64 s.nB,.int .i64 s.uA,.int .i64 s.iA] 39,.cells #[.slice none 0 0,.slice none 0 0,.slice none 0 0,.int .i64 0,.int .i64 0,.int .i64 0,.int .i64 0,.int .i64 0] 39]:=⟨_,rfl⟩;rw[<-hW2]at hz2 hg2 hB2;have HW2:Hid (W2=((w.alloc (.cells #[.slice b1 m1 d1,.slice b2 m2 d2,.slice b3 m3 d3,.int .i64 s.gA,.int .i64 s.fA,.int .i64 s.nB,.int .i64 s.uA,.int .i64 s.iA] 39)).alloc (.cells #[.slice none 0 0,.slice none 0 0,.slice none 0 0,.int .i64 0,.int .i64 0,.int .i64 0,.int .i64 0,.int .i64 0] 39))):=hW2;have X0:Hid (W2.heap[w.heap.size]?=some (.cells #[.slice b1 m1 d1,.slice b2 m2 d2,.slice b3 m3 d3,.int .i64 s.gA,.int .i64 s.fA,.int .i64 s.nB,.int .i64 s.uA,.int .i64 s.iA] 39 (0,0))):=hg2 0 _ rfl;have X1:=aA (hg2 1 _ rfl);have HZ2:Hid (W2.heap.size=w.heap.size+2):=by show _=_;rw[hz2];rfl
 have K2:=aA hB2;have HL2:Hid (s.xB.length=m2):=hs.l2;have hkm:k<m2:=by rw[<-hs.l2];exact hk
 have HK:=aA hk;have HS:=aA (hs.sA hB2);have HOR:=aA (eZ.1 (hs.sA hB2).q2);have HOW:=aA (CF s b1 b2 b3 m1 d1 m2 d2 m3 d3 W2 (hs.sA hB2) hn2 hn3 h1 hl h2 h3);obtain⟨g,o,ha,hgl,-⟩:=(hs.sA hB2).q2.get hk;subst ha;have HGL:=aA hgl;clear hz2 hg2 hB2 hW2 hs hn2 hn3 h1 hl h3 hgl;go_enter Tryz.func84,Tryz.ntmps84;go_wp2_with fail;rw[<-HW2.out];refine HOW.out.mono ?_;rintro e w6⟨v6,rfl,hv6,k6'⟩;obtain⟨g1,g2,g3,l1,r1,l2,r2,l3,r3,rfl,ho⟩:=hv6;obtain⟨w7,hw7⟩:∃w7,w7=w6.alloc (.cells #[.slice g1 l1 r1,.slice g2 l2 r2,.slice g3 l3 r3,.int .i64 s.gA,.int .i64 s.fA,.int .i64 s.nB,.int .i64 s.uA,.int .i64 s.iA] 39):=⟨_,rfl⟩;have l7:Below w6.heap.size w6 w7:=by rw[hw7];exact(dA _ _).alloc (eA _) _
 have b7:w7.heap[w6.heap.size]?=some (.cells #[.slice g1 l1 r1,.slice g2 l2 r2,.slice g3 l3 r3,.int .i64 s.gA,.int .i64 s.fA,.int .i64 s.nB,.int .i64 s.uA,.int .i64 s.iA] 39 (0,0)):=by rw[hw7];exact jA w6 _
 have K7:Hid (Below W2.heap.size W2 w7):=k6'.trans (l7.mono k6'.size);have HW7:=aA hw7;obtain⟨BX,hBX⟩:∃BX,BX=w6.heap.size:=⟨_,rfl⟩;have HBX:=aA hBX;rw[<-hBX]at b7;have B7:=aA b7;have HBB:Hid (W2.heap.size<=BX):=by show _<=BX;rw[hBX];exact k6'.size
 have HO7:=aA (ho.sA l7);have hlt:BX<w7.heap.size:=bE b7;have SA:Hid (∀W',Below w7.heap.size w7 W'->W'.cell? ⟨w.heap.size,1,none⟩=some (.slice (some ⟨g,o,none⟩) m2 d2)):=λW' h=>(gD (pB (pB X0.out K7.out) h)).2.1;clear k6' hw7 l7 hBX b7 ho;go_upto_region 2 with fail;rw[<-HW7.out,<-HBX.out];have HT1:Hid (jK W2 (some ⟨g,o,none⟩) (dJ (s.xB.take k))):=by
  refine .inr ⟨g,o,rfl,HGL.out,λj u hj=>?_⟩;rcases HOR.out with h|⟨g',o',e,_,h⟩;·exfalso;have:=congrArg List.length h;rw[zU]at this;simp at this;omega
  ·cases e;apply h;have hx:dJ s.xB=dJ (s.xB.take k)++dJ (s.xB.drop k):=by rw[<-rX,gF]
   rw[hx,wE (cH.1 hj).1];exact hj
 obtain⟨A,hA,hsrc⟩:∃A:Option Addr,(if d2=k+1 then some (⟨g,o,none⟩:Addr)else some ⟨g,o+(k+1)*8,none⟩)=A/\Hid (jK W2 A (dJ (s.xB.drop (k+1)))/\A≠none):=by
  refine⟨_,rfl,?_⟩;by_cases h:d2=k+1;·rw[qA h];refine⟨.inl ?_,by simp⟩;rw[mD (by rw[HL2.out];omega)];rfl
  ·rw[kA h];refine⟨.inr ⟨g,o+(k+1)*8,rfl,HGL.out,λj u hj=>?_⟩,by simp⟩;rcases HOR.out with h|⟨g',o',e,_,h⟩;·exfalso;have:=congrArg List.length h;rw[zU]at this;simp at this;omega
   ·cases e;rw[gH];apply h;have htl:(dJ (s.xB.take (k+1))).length=(k+1)*8:=by rw[zU,iD,HL2.out,nK (by omega)]
    have hx:dJ s.xB=dJ (s.xB.take (k+1))++dJ (s.xB.drop (k+1)):=by rw[<-rX,gF]
    rw[hx,uE (by omega),htl,uP];exact hj
 have j3:IntKind.i64.wrap ((k:Int)+1)=(k:Int)+1:=by rw[uB];omega
 have i1:k<=d2:=by omega
 have i2:k+1<=m2:=by omega
 have i3:k+1<=d2:=by omega
 have i4:(0:Int)<=(k:Int)+1:=by omega
 have i5:(k:Int)+1<=(m2:Int):=by omega
 refine zB (S:=λW'=>W'.cell? ⟨w.heap.size,1,none⟩=some (.slice (some ⟨g,o,none⟩) m2 d2)) (by kernel_rfl) (SA.out _ (dA _ _).drew) (λhHeld=>?_);obtain⟨wq,hwq⟩:∃wq,wq=w7.drew:=⟨_,rfl⟩;have Lwq:Hid (Below w7.heap.size w7 wq):=by show Below w7.heap.size w7 wq;rw[hwq];exact(dA _ _).drew
 rw[<-hwq]at hHeld⊢;clear hwq;refine tk 1 ?_;refine tk 2 ?_;refine tk 3 ?_;refine tk 4 ?_;refine tk 6 ?_;refine tk 7 ?_;refine tk 8 ?_;refine tk 9 ?_;refine tk 10 ?_;refine pG 0 (λK hK=>?_);go_simp;obtain⟨wa,hwa⟩:∃wa,wa=wq.alloc (.cells #[] 88):=⟨_,rfl⟩;have HRA:wa.ownsRow (w.heap.size+2) 88 8 (.slice (some ⟨wq.heap.size,0,none⟩) 0 0) 0 []:=by rw[hwa];exact C6 wq _ _ _ (by have:=Lwq.out.size;have:=K7.out.size;have:=HZ2.out;omega)
 have Lwa:Hid (Below w7.heap.size w7 wa):=by show Below w7.heap.size w7 wa;rw[hwa];exact Lwq.out.alloc Lwq.out.size _
 rw[<-hwa];refine hK.out _ _ (SA.out _ Lwa.out) (λhHa=>?_);clear hK K hwa;try refine hG ?_
 refine pG 5 (λK hK=>?_);refine JN AM (by kernel_rfl) _ _ rfl (w.heap.size+2) _ 0 [] rfl HRA (some ⟨g,o,none⟩) k d2 (dJ (s.xB.take k)) rfl (by rw[zU,iD,HL2.out,nK (by omega)]) (λh=>by cases h) (HT1.out.sA (K7.out.trans (Lwa.out.mono K7.out.size))) (tY _) (by unfold maxLen;omega) (by omega) (by have:=Lwa.out.size;have:=K7.out.size;have:=HZ2.out;omega) ?_;intro vb wb hob hgb hblk;rw[uD,List.nil_append]at hob;have Lwb:Hid (Below w7.heap.size w7 wb):=Lwa.out.grown hgb Lwa.out.size (λj hj=>by
  have hj':(Value.slice (some ⟨wq.heap.size,0,none⟩) 0 0).ownBlock=some j:=hj;have e:wq.heap.size=j:=by simpa[Value.ownBlock]using hj'
  have:=Lwq.out.size;omega);have HBK:Hid (∀j,vb.ownBlock=some j->w7.heap.size<=j):=λj hj=>by
  rcases hblk with h|h
  ·rw[h]at hj;have hj':(Value.slice (some ⟨wq.heap.size,0,none⟩) 0 0).ownBlock=some j:=hj;have e:wq.heap.size=j:=by simpa[Value.ownBlock]using hj'
   have:=Lwq.out.size;omega
  ·rw[h]at hj;cases hj;exact Lwa.out.size
 refine hK.out _ _ (SA.out _ Lwb.out) (λhHb=>?_);clear hK K hgb hblk HRA;try refine hG ?_
 refine pG 11 (λK hK=>?_);refine JN AM (by kernel_rfl) _ _ rfl (w.heap.size+2) _ k (dJ (s.xB.take k)) rfl hob A (m2-(k+1)) (d2-(k+1)) (dJ (s.xB.drop (k+1))) rfl (by rw[zU,rF,HL2.out]) (λh=>absurd h hsrc.out.2) (hsrc.out.1.sA (K7.out.trans (Lwb.out.mono K7.out.size))) (tY _) (by unfold maxLen;omega) (by omega) (by have:=Lwb.out.size;have:=K7.out.size;have:=HZ2.out;omega) ?_;intro vc wc hoc hgc hblk;have he:dJ (s.xB.take k)++dJ (s.xB.drop (k+1))=dJ (s.xB.eraseIdx k):=by rw[jL,rX]
 rw[he,show k+(m2-(k+1))=m2-1 by omega]at hoc;have Lwc:Hid (Below w7.heap.size w7 wc):=Lwb.out.grown hgc Lwb.out.size HBK.out;obtain⟨ac,cc,hvc,-⟩:=jM hoc;subst hvc;have HOC:=aA hoc;refine hK.out _ _ (SA.out _ Lwc.out) (λhHc=>?_);clear hK K hgc hblk hob he hoc;try refine hG ?_
 refine tk 12 ?_;refine pG 13 (λK hK=>?_);have b8:=pB B7.out Lwc.out;have y1:=(gD b8).2.1;have f1:=pA b8 1;go_simp;generalize hw9:wc.setCell ⟨BX,1,none⟩ (.slice ac (m2-1) cc)=w9;have b9:w9.heap[BX]?=some (.cells #[.slice g1 l1 r1,.slice ac (m2-1) cc,.slice g3 l3 r3,.int .i64 s.gA,.int .i64 s.fA,.int .i64 s.nB,.int .i64 s.uA,.int .i64 s.iA] 39 (0,0)):=by rw[<-hw9];exact bG b8 (j:=1) _
 have t9:vJ BX wc w9:=by rw[<-hw9];exact uF wc BX 1 _
 have r9:=(t9.block (w.heap.size+1) (by have:=Lwc.out.size;have:=K7.out.size;have:=HZ2.out;omega) (by have:=HBB.out;have:=HZ2.out;omega)).trans (pB (pB X1.out K7.out) Lwc.out);have hoc1:fI wc (w.heap.size+2) g1 ac g3 l1 r1 (m2-1) cc l3 r3 {s with xB:=s.xB.eraseIdx k}:=((HO7.out.lower (n':=w.heap.size+2) (by have:=HZ2.out;omega)).sA Lwc.out).xB (jH.kB (dA _ _)) (by omega) HOC.out;have ho9:=hoc1.bF b8 (by decide) t9;have hh:w9.cell? ⟨w.heap.size,1,none⟩=some (.slice (some ⟨g,o,none⟩) m2 d2):=by
  have:=(t9.block w.heap.size (by have:=Lwc.out.size;have:=K7.out.size;have:=HZ2.out;omega) (by have:=HBB.out;have:=HZ2.out;omega)).trans (pB (pB X0.out K7.out) Lwc.out);exact(gD this).2.1
 refine hK.out _ _ hh (λhHz=>?_);clear hK K hh b8 y1 f1 hoc1;try refine hG ?_
 refine gC (by kernel_rfl) ?_ _;have KC9:Hid (Below w.heap.size w w9):=(K2.out.trans ((K7.out.trans (Lwc.out.mono K7.out.size)).mono K2.out.size)).trans (t9.below (by have:=Lwc.out.size;have:=K7.out.size;have:=HZ2.out;omega) (by have:=HBB.out;have:=HZ2.out;omega));have R9:=aA r9;have HO9:=aA ho9;obtain⟨y0,y1,y2,y3,y4,y5,y6,y7⟩:=gD b9;obtain⟨z0,z1,z2,z3,z4,z5,z6,z7⟩:=gD r9;have e0:=pA r9 0;have e1:=pA r9 1;have e2:=pA r9 2;have e3:=pA r9 3;have e4:=pA r9 4;have e5:=pA r9 5;have e6:=pA r9 6;have e7:=pA r9 7;clear b9 t9 r9 ho9 hHeld hHa hHb hHc hHz hw9;go_wp2_with fail;generalize hW4:World.setCell (World.setCell (World.setCell (World.setCell (World.setCell (World.setCell (World.setCell (World.setCell w9 _ _) _ _) _ _) _ _) _ _) _ _) _ _) _ _=W4;obtain⟨b4,t4⟩:=eD R9.out hW4;obtain⟨z0,z1,z2,z3,z4,z5,z6,z7⟩:=gD b4;exact dB (v:=.agg #[.slice g1 l1 r1,.slice ac (m2-1) cc,.slice g3 l3 r3,.int .i64 s.gA,.int .i64 s.fA,.int .i64 s.nB,.int .i64 s.uA,.int .i64 s.iA]) (by simp[results,Tryz.results84,go_sem,z0,z1,z2,z3,z4,z5,z6,z7]) rfl ⟨_,rfl,⟨_,_,_,_,_,_,_,_,_,rfl,(HO9.out.bF R9.out (by decide) t4).lower (by omega)⟩,KC9.out.trans (t4.below KC9.out.size (by omega))⟩
end Go.Proofs.YtedmnjimkhamaaaGreatDoor
