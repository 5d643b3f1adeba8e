import Derived.Test.YtedmnjimkhamaaaGreatDoorDTq
import Derived.Test.YtedmnjimkhamaaaGreatDoorDJn
namespace Go.Proofs.YtedmnjimkhamaaaGreatDoor
set_option linter.unusedVariables false
set_option maxRecDepth 100000
set_option maxHeartbeats 8000000
open Go.RowKit Go.Maps
theorem BE(p:lD)(a1 a2 a3:Option Addr)(n1 c1 n2 c2 n3 c3:Nat)(s:yC)(b1 b2 b3:Option Addr)(m1 d1 m2 d2 m3 d3:Nat)(w:World)(hp:sG w a1 a2 a3 n1 n2 n3 p)(hs:gK w b1 b2 b3 m1 m2 m3 s):
 Calls Tryz.prog 76 #[.agg #[.slice a1 n1 c1,.slice a2 n2 c2,.slice a3 n3 c3],.agg #[.slice b1 m1 d1,.slice b2 m2 d2,.slice b3 m3 d3,.int .i64 s.gA,.int .i64 s.fA,.int .i64 s.nB,.int .i64 s.uA,.int .i64 s.iA]] w λe w'=>e=.returned (.int .i64 (zG p s))/\Below w.heap.size w w':=
 WR p _ _ _ _ _ _ _ _ _ s _ _ _ _ _ _ _ _ _ w hp hs λW hW h0 h3=>x_ p _ _ _ _ _ _ _ _ _ s _ _ _ _ _ _ _ _ _ W (hp.sA hW) (hs.sA hW) (gS h0) h3
def kV(p:lD)(s:yC)(q:Int):Int:=if zG p s≠0 then zG p s else if tG q p.jB.length=false then 5 else 0
theorem MX(p:lD)(a1 a2 a3:Option Addr)(n1 c1 n2 c2 n3 c3:Nat)(s:yC)(b1 b2 b3:Option Addr)(m1 d1 m2 d2 m3 d3:Nat)(q:Int)(w:World)(hp:sG w a1 a2 a3 n1 n2 n3 p)(hs:gK w b1 b2 b3 m1 m2 m3 s):
 Calls Tryz.prog 80 #[.agg #[.slice a1 n1 c1,.slice a2 n2 c2,.slice a3 n3 c3],.agg #[.slice b1 m1 d1,.slice b2 m2 d2,.slice b3 m3 d3,.int .i64 s.gA,.int .i64 s.fA,.int .i64 s.nB,.int .i64 s.uA,.int .i64 s.iA],.int .i64 q] w λe w'=>e=.returned (.int .i64 (kV p s q))/\Below w.heap.size w w':=by
 obtain⟨E,hE⟩:∃E,E=kV p s q:=⟨_,rfl⟩;rw[<-hE];obtain⟨E0,hE0⟩:∃E0,E0=zG p s:=⟨_,rfl⟩;obtain⟨W2,hW2,hBw,hs2,hbx⟩:=mV w #[.slice a1 n1 c1,.slice a2 n2 c2,.slice a3 n3 c3] #[.slice b1 m1 d1,.slice b2 m2 d2,.slice b3 m3 d3,.int .i64 s.gA,.int .i64 s.fA,.int .i64 s.nB,.int .i64 s.uA,.int .i64 s.iA];have HW2:=aA hW2;have BX:=aA hbx;have HE:=aA hE;have HE0:=aA hE0;have HS:=aA (hs.sA hBw);have HP:=aA (hp.sA hBw);have HBW:=aA hBw;have HN2:Hid (p.jB.length=n2):=hp.l2;have s0:=hBw.size;obtain⟨x0,x1,x2⟩:=xH (hbx W2 (dA _ _)).1;obtain⟨y0,y1,y2,y3,y4,y5,y6,y7⟩:=gD (hbx W2 (dA _ _)).2;clear hW2 hbx hs2 hp hs hBw hE hE0;go_enter Tryz.func80,Tryz.ntmps80;go_wp2_with fail;rw[<-HW2.out];refine(BE p _ _ _ _ _ _ _ _ _ s _ _ _ _ _ _ _ _ _ _ HP.out HS.out).mono ?_;rintro e w3⟨rfl,k3⟩;rw[<-HE0.out];have s3:=k3.size;clear x0 x1 x2 y0 y1 y2 y3 y4 y5 y6 y7;obtain⟨x0,x1,x2⟩:=xH (BX.out w3 k3).1;by_cases hz:E0=0
 ·subst hz;have hn2:n2<=4:=by rw[<-HN2.out];exact(nN HE0.out.symm).rp.few.2.1
  have HE1:Hid (E=if tG q n2=false then 5 else 0):=by show E=_;rw[HE.out];unfold kV;rw[kA (by simp[<-HE0.out]),HN2.out]
  have hw:IntKind.i64.wrap ((n2:Int)-1)=(n2:Int)-1:=by rw[uB];omega
  go_wp2_with fail;refine(wP q 0 ((n2:Int)-1) _).mono ?_;rintro e w4⟨rfl,hw4⟩;by_cases hq:tG q n2=false
  ·have hi:pJ q 0 ((n2:Int)-1)=false:=by rw[BV]at hq;exact DK (by omega)
   have e5:E=5:=by rw[HE1.out,qA hq]
   rw[hi];subst hw4;clear hq;go_wp2_with fail;go_ret;exact⟨tJ e5.symm,HBW.out.trans (k3.mono s0)⟩
  ·have hi:pJ q 0 ((n2:Int)-1)=true:=by have:=cP.1 (by simpa using hq);exact DE this.1 (by omega)
   have e0:E=0:=by rw[HE1.out,kA hq]
   rw[hi];subst hw4;clear hq;go_wp2_with fail;go_ret;exact⟨tJ e0.symm,HBW.out.trans (k3.mono s0)⟩
 ·have hz':(E0 !=0)=true:=kD.2 hz;have e0:E=E0:=by rw[HE.out];unfold kV;rw[qA (by rw[<-HE0.out];exact hz),HE0.out]
  clear hz;go_wp2_with fail;go_ret;exact⟨tJ e0.symm,HBW.out.trans (k3.mono s0)⟩
theorem zZ(w:World)(pv sv:Array Value):∃W3,W3=((w.alloc (.cells pv 26)).alloc (.cells sv 39)).alloc (.cells #[.slice none 0 0,.slice none 0 0,.slice none 0 0,.int .i64 0,.int .i64 0,.int .i64 0,.int .i64 0,.int .i64 0] 39)/\Below w.heap.size w W3/\W3.heap.size=w.heap.size+3/\
 ∀W,Below W3.heap.size W3 W->W.heap[w.heap.size]?=some (.cells pv 26 (0,0))/\W.heap[w.heap.size+1]?=some (.cells sv 39 (0,0))/\W.heap[w.heap.size+2]?=some (.cells #[.slice none 0 0,.slice none 0 0,.slice none 0 0,.int .i64 0,.int .i64 0,.int .i64 0,.int .i64 0,.int .i64 0] 39 (0,0)):=by
 obtain⟨h1,h2,h3⟩:=tR [.cells pv 26,.cells sv 39,.cells #[.slice none 0 0,.slice none 0 0,.slice none 0 0,.int .i64 0,.int .i64 0,.int .i64 0,.int .i64 0,.int .i64 0] 39] w;exact⟨_,rfl,h3,h1,λW hW=>⟨pB (h2 0 _ rfl) hW,pB (h2 1 _ rfl) hW,pB (h2 2 _ rfl) hW⟩⟩
theorem d_(p:lD)(a1 a2 a3:Option Addr)(n1 c1 n2 c2 n3 c3:Nat)(s:yC)(b1 b2 b3:Option Addr)(m1 d1 m2 d2 m3 d3:Nat)(q nD:Int)(w:World)(hp:sG w a1 a2 a3 n1 n2 n3 p)(hs:gK w b1 b2 b3 m1 m2 m3 s)(hn2:b2=none->d2=0)(hn3:b3=none->d3=0):
 Calls Tryz.prog 49 #[.agg #[.slice a1 n1 c1,.slice a2 n2 c2,.slice a3 n3 c3],.agg #[.slice b1 m1 d1,.slice b2 m2 d2,.slice b3 m3 d3,.int .i64 s.gA,.int .i64 s.fA,.int .i64 s.nB,.int .i64 s.uA,.int .i64 s.iA],.int .i64 q,.int .i64 nD] w λe w'=>∃v,e=.returned (.tuple #[v,.int .i64 (wJ (oR p s q nD) (iE s.nA)),.int .i64 (oR p s q nD)])/\kK w' w.heap.size v (oR p s q nD) (bR s q nD)/\Below w.heap.size w w':=by
 obtain⟨E,hE⟩:∃E,E=oR p s q nD:=⟨_,rfl⟩;rw[<-hE];obtain⟨N,hN⟩:∃N,N=wJ E (iE s.nA):=⟨_,rfl⟩;rw[<-hN];obtain⟨E0,hE0⟩:∃E0,E0=kV p s q:=⟨_,rfl⟩;obtain⟨W3,hW3,hBw,hs3,hbx⟩:=zZ w #[.slice a1 n1 c1,.slice a2 n2 c2,.slice a3 n3 c3] #[.slice b1 m1 d1,.slice b2 m2 d2,.slice b3 m3 d3,.int .i64 s.gA,.int .i64 s.fA,.int .i64 s.nB,.int .i64 s.uA,.int .i64 s.iA];have HW3:=aA hW3;have BX:=aA hbx;have HE:=aA hE;have HN:=aA hN;have HE0:=aA hE0;have HS:=aA (hs.sA hBw);have HP:=aA (hp.sA hBw);have HBW:=aA hBw;have HS3:=aA hs3;have HL2:Hid (p.jB.length=n2):=hp.l2;have HM3:Hid (s.nA.length=m3):=hs.l3;have HN2:=aA hn2;have HN3:=aA hn3;have s0:=hBw.size;obtain⟨x0,x1,x2⟩:=xH (hbx W3 (dA _ _)).1;obtain⟨y0,y1,y2,y3,y4,y5,y6,y7⟩:=gD (hbx W3 (dA _ _)).2.1;have HER:Hid (∀(D:Int)(W W4:World),D≠0->E=D->Below W3.heap.size W3 W->vJ (w.heap.size+2) W W4->∃v,Ending.returned (.tuple #[iG,.int .i64 0,.int .i64 D])=.returned (.tuple #[v,.int .i64 N,.int .i64 E])/\kK W4 w.heap.size v E (bR s q nD)/\Below w.heap.size w W4):=λD W W4 hD hED hB hT=>by
  have hN0:N=0:=by rw[HN.out];unfold wJ;rw[kA (by rw[hED];exact hD)]
  refine⟨iG,by rw[hN0,hED],⟨λh=>absurd (hED▸h) hD,λ_=>rfl⟩,HBW.out.trans ((hB.mono s0).trans (hT.below (by have:=hB.size;have:=HS3.out;omega) (by omega)))⟩
 clear hW3 hbx hs3 hp hs hBw hE hE0 hN hn2 hn3;go_enter Tryz.func49,Tryz.ntmps49;go_wp2_with fail;rw[<-HW3.out];refine(MX p _ _ _ _ _ _ _ _ _ s _ _ _ _ _ _ _ _ _ q _ HP.out HS.out).mono ?_;rintro e w4⟨rfl,k4⟩;rw[<-HE0.out];have s4:=k4.size;have K4:=aA k4;clear x0 x1 x2 y0 y1 y2 y3 y4 y5 y6 y7;have r4:=(BX.out w4 k4).2.2;obtain⟨z0,z1,z2,z3,z4,z5,z6,z7⟩:=gD r4;have e0:=pA r4 0;have e1:=pA r4 1;have e2:=pA r4 2;have e3:=pA r4 3;have e4:=pA r4 4;have e5:=pA r4 5;have e6:=pA r4 6;have e7:=pA r4 7;have R4:=aA r4;clear r4 k4;by_cases hz:E0=0
 ·subst hz;have h00:zG p s=0:=by
   have:=HE0.out;unfold kV at this;by_cases h:zG p s=0;·exact h
   ·rw[qA h]at this;exact absurd this.symm h
  have hq0:¬tG q p.jB.length=false:=λh=>by
   have:=HE0.out;unfold kV at this;rw[kA (by simp[h00]),qA h]at this;cases this
  have HR:=aA (nN h00);have HE1:Hid (E=if pJ nD 1 4=false then 3 else if iE s.nA=s.nA.length/\4<=s.nA.length then 2 else 0):=by show E=_;rw[HE.out];unfold oR iY;rw[kA (by simp[h00]),kA hq0]
  go_wp2_with fail;refine(wP nD 1 4 _).mono ?_;rintro e w5⟨rfl,rfl⟩;by_cases hm:pJ nD 1 4=false
  ·rw[hm];have e3':E=3:=by rw[HE1.out,qA hm]
   clear h00 hq0 hm;go_wp2_with fail;generalize hW4:World.setCell (World.setCell (World.setCell (World.setCell (World.setCell (World.setCell (World.setCell (World.setCell w5 _ _) _ _) _ _) _ _) _ _) _ _) _ _) _ _=W4;obtain⟨b4,t4⟩:=eD R4.out hW4;obtain⟨z0,z1,z2,z3,z4,z5,z6,z7⟩:=gD b4;exact dB (v:=.tuple #[iG,.int .i64 0,.int .i64 3]) (by simp[results,Tryz.results49,go_sem,z0,z1,z2,z3,z4,z5,z6,z7,iG]) rfl (HER.out 3 _ _ (by decide) e3' K4.out t4)
  ·rw[show pJ nD 1 4=true by simpa using hm];have HE2:Hid (E=if iE s.nA=s.nA.length/\4<=s.nA.length then 2 else 0):=by show E=_;rw[HE1.out,kA hm]
   obtain⟨y0,y1,y2,y3,y4,y5,y6,y7⟩:=gD (BX.out w5 K4.out).2.1;clear h00 hq0 hm;go_wp2_with fail;obtain⟨q1,q2,q3,q4⟩:=HS.out.small HR.out;refine(CF s _ _ _ _ _ _ _ _ _ w5 (HS.out.sA K4.out) HN2.out HN3.out q1 q2 q3 q4).mono ?_;rintro e w6⟨v6,rfl,hv6,k6'⟩;obtain⟨g1,g2,g3,l1,r1,l2,r2,l3,r3,rfl,ho⟩:=hv6;have k6:=K4.out.trans (k6'.mono s4);have s6:=k6.size;have hl3:l3=m3:=ho.l3.symm.trans HM3.out;subst hl3;have hm4:l3<=4:=by rw[<-ho.l3];exact HR.out.tk
   obtain⟨w7,hw7⟩:∃w7,w7=w6.alloc (.cells #[.slice g1 l1 r1,.slice g2 l2 r2,.slice g3 l3 r3,.int .i64 s.gA,.int .i64 s.fA,.int .i64 s.nB,.int .i64 s.uA,.int .i64 s.iA] 39):=⟨_,rfl⟩;have l7:Below w6.heap.size w6 w7:=by rw[hw7];exact(dA _ _).alloc (eA _) _
   have b7:w7.heap[w6.heap.size]?=some (.cells #[.slice g1 l1 r1,.slice g2 l2 r2,.slice g3 l3 r3,.int .i64 s.gA,.int .i64 s.fA,.int .i64 s.nB,.int .i64 s.uA,.int .i64 s.iA] 39 (0,0)):=by rw[hw7];exact jA w6 _
   have k7:=k6.trans (l7.mono s6);have ho7:=(ho.lower (n':=w.heap.size+3) (by have:=K4.out.size;have:=HS3.out;omega)).sA l7;have HW7:=aA hw7;have B7:=aA b7;have K7:=aA k7;have HO7:=aA ho7;have HL6:Hid (w.heap.size+3<=w6.heap.size):=by show _<=_;have:=HS3.out;omega
   clear y0 y1 y2 y3 y4 y5 y6 y7 z0 z1 z2 z3 z4 z5 z6 z7 e0 e1 e2 e3 e4 e5 e6 e7 ho k6' q1 q2 q3 q4 l7 hw7 k6;go_wp2_with fail;rw[<-HW7.out];clear b7 k7 ho7;go_loopw[13](λi wr=>∃(k:Nat),k<=l3/\i=.int .i64 k/\(∀x∈s.nA.take k,decide (x.queue=-1)=false)/\wr=w7)(λi _=>l3-(intOf i).toNat);case atStart=>exact⟨0,zA _,rfl,by simp,rfl⟩
   case round=>
    obtain⟨k,hk,rfl,ha,rfl⟩:=hrel;have HA:=aA ha;clear ha;obtain⟨y0,y1,y2,y3,y4,y5,y6,y7⟩:=gD B7.out;by_cases hlt:k<l3
    ·have HLT:=aA hlt;have hkl:k<s.nA.length:=by rw[HM3.out];exact hlt
     have HKL:=aA hkl;obtain⟨gt,rfl⟩:∃gt,g3=some ⟨gt,0,none⟩:=by
      rcases HO7.out.r3.2 with⟨e,e0⟩|⟨g,cap,cur,e,_⟩;·omega
      ·cases e;exact⟨g,rfl⟩
     have cc0:=HO7.out.r3.cellAt (k*2) (by omega);have cc1:=HO7.out.r3.cellAt (k*2+1) (by omega);rw[show(rH s.nA)[k*2]?=some (.int .i64 (s.nA[k]'hkl).queue)from dU (f:=kH.cells) (k:=2) (λ_=>rfl) s.nA k hkl 0 (by omega)]at cc0;rw[show(rH s.nA)[k*2+1]?=some (.int .i64 (s.nA[k]'hkl).nD)from dU (f:=kH.cells) (k:=2) (λ_=>rfl) s.nA k hkl 1 (by omega)]at cc1;have ff0:=HO7.out.r3.frozenAt (k*2);have ff1:=HO7.out.r3.frozenAt (k*2+1);have HTS:Hid ((s.nA[k]'hkl).queue≠-1->∀x∈s.nA.take (k+1),decide (x.queue=-1)=false):=λh x hx=>by
      rw[rA hkl,oC,tC]at hx;rcases hx with hx|rfl;·exact HA.out x hx
      ·exact vD h
     have HGI:Hid ((s.nA[k]'hkl).queue=-1->iE s.nA=k):=λh=>by
      have:=yX (P:=λt:kH=>decide (t.queue=-1)) hkl HA.out (eC h);rw[TH]at this;by_cases hg:iE s.nA<s.nA.length;·rw[qA hg]at this;omega
      ·rw[kA hg]at this;omega
     obtain⟨x,hx⟩:∃x,x=(s.nA[k]'hkl).queue:=⟨_,rfl⟩;obtain⟨mo,hmo⟩:∃mo,mo=(s.nA[k]'hkl).nD:=⟨_,rfl⟩;rw[<-hx]at cc0 HTS HGI;rw[<-hmo]at cc1;have j1:(0:Int)<=(k:Int):=by omega
     have j2:(k:Int)<l3:=by omega
     clear hx hmo;by_cases hx1:x=-1
     ·subst hx1;have hgi:=HGI.out rfl;have eE:E=0:=by rw[HE2.out,kA (by omega)]
      have eN:N=(k:Int):=by rw[HN.out,eE];unfold wJ;rw[qA rfl,hgi]
      have HEN:=aA (And.intro eE eN);have HGK:=aA hgi;obtain⟨t1,t2,t3⟩:=HO7.out.fE HKL.out ⟨q,nD⟩ rfl;have r7:=(t2.block (w.heap.size+2) _ _ (BX.out _ K7.out).2.2 (by decide)).trans (BX.out _ K7.out).2.2;have b8:=(t2.block w6.heap.size _ _ B7.out (by decide)).trans B7.out;have T1:=aA t1;have R7:=aA r7;have B8:=aA b8;have F8:Hid (Below w.heap.size w ((wr.setCell ⟨gt,k*2,none⟩ (.int .i64 q)).setCell ⟨gt,k*2+1,none⟩ (.int .i64 nD))):=by
       refine((HBW.out.trans (K7.out.mono s0)).setCell (p:=⟨gt,k*2,none⟩) ?_ _).setCell (p:=⟨gt,k*2+1,none⟩) ?_ _;all_goals(show w.heap.size<=gt;omega)
      obtain⟨w8,hw8⟩:∃w8,w8=(wr.setCell ⟨gt,k*2,none⟩ (.int .i64 q)).setCell ⟨gt,k*2+1,none⟩ (.int .i64 nD):=⟨_,rfl⟩;have HW8:=aA hw8;rw[<-hw8]at T1 R7 B8 F8 r7 b8;obtain⟨y0',y1',y2',y3',y4',y5',y6',y7'⟩:=gD b8;obtain⟨z0,z1,z2,z3,z4,z5,z6,z7⟩:=gD r7;have e0:=pA r7 0;have e1:=pA r7 1;have e2:=pA r7 2;have e3:=pA r7 3;have e4:=pA r7 4;have e5:=pA r7 5;have e6:=pA r7 6;have e7:=pA r7 7;clear hw8 hgi eE eN t1 t2 t3 r7 b8;go_upto_region 12 with fail;rw[<-HW8.out];clear cc0 cc1 ff0 ff1 y0 y1 y2 y3 y4 y5 y6 y7;go_wp2_with fail;generalize hW9:World.setCell (World.setCell (World.setCell (World.setCell (World.setCell (World.setCell (World.setCell (World.setCell w8 _ _) _ _) _ _) _ _) _ _) _ _) _ _) _ _=W9;obtain⟨b9,t9⟩:=eD R7.out hW9;obtain⟨z0,z1,z2,z3,z4,z5,z6,z7⟩:=gD b9;have eS:bR s q nD={s with nA:=s.nA.set k ⟨q,nD⟩}:=by unfold bR tT;rw[qA (by rw[HGK.out];exact HKL.out),HGK.out]
      exact dB (v:=.tuple #[.agg #[.slice g1 l1 r1,.slice g2 l2 r2,.slice (some ⟨gt,0,none⟩) l3 r3,.int .i64 s.gA,.int .i64 s.fA,.int .i64 s.nB,.int .i64 s.uA,.int .i64 s.iA],.int .i64 k,.int .i64 0]) (by simp[results,Tryz.results49,go_sem,z0,z1,z2,z3,z4,z5,z6,z7]) rfl ⟨.agg #[.slice g1 l1 r1,.slice g2 l2 r2,.slice (some ⟨gt,0,none⟩) l3 r3,.int .i64 s.gA,.int .i64 s.fA,.int .i64 s.nB,.int .i64 s.uA,.int .i64 s.iA],by rw[HEN.out.1,HEN.out.2],⟨λ_=>⟨_,_,_,_,_,_,_,_,_,rfl,by rw[eS];exact((T1.out.bF R7.out (by decide) t9).lower (by omega))⟩,λh=>absurd HEN.out.1 h⟩,F8.out.trans (t9.below (by have:=F8.out.size;omega) (by omega))⟩
     ·have hx1':(x==-1)=false:=by simpa using hx1
      have HX1:=aA hx1;clear hx1;go_wp2_with fail;go_roundw;case rel=>exact⟨k+1,HLT.out,by have:=HLT.out;go_num,HTS.out HX1.out,by first|trivial|rfl⟩
      case measure=>have:=HLT.out;simp[intOf];omega
    ·have hke:l3=k:=by omega
     subst hke;have hno:∀x∈s.nA,decide (x.queue=-1)=false:=λx hx=>HA.out x (by rw[iB (by rw[HM3.out];exact eA _)];exact hx);have hge:iE s.nA=s.nA.length:=List.findIdx_eq_length.2 hno;have HGE:=aA hge;have r7:=(BX.out _ K7.out).2.2;have R7:=aA r7;obtain⟨z0,z1,z2,z3,z4,z5,z6,z7⟩:=gD r7;have e0:=pA r7 0;have e1:=pA r7 1;have e2:=pA r7 2;have e3:=pA r7 3;have e4:=pA r7 4;have e5:=pA r7 5;have e6:=pA r7 6;have e7:=pA r7 7;by_cases h4:l3=4
     ·subst h4;have eE:E=2:=by rw[HE2.out,qA ⟨hge,by rw[HM3.out];exact eA _⟩]
      clear hlt hk hno hge r7;go_wp2_with fail;generalize hW9:World.setCell (World.setCell (World.setCell (World.setCell (World.setCell (World.setCell (World.setCell (World.setCell wr _ _) _ _) _ _) _ _) _ _) _ _) _ _) _ _=W9;obtain⟨b9,t9⟩:=eD R7.out hW9;obtain⟨z0,z1,z2,z3,z4,z5,z6,z7⟩:=gD b9;exact dB (v:=.tuple #[iG,.int .i64 0,.int .i64 2]) (by simp[results,Tryz.results49,go_sem,z0,z1,z2,z3,z4,z5,z6,z7,iG]) rfl (HER.out 2 _ _ (by decide) eE K7.out t9)
     ·have eE:E=0:=by rw[HE2.out,kA (by rw[HM3.out];omega)]
      have eN:N=(l3:Int):=by rw[HN.out,eE];unfold wJ;rw[qA rfl,hge,HM3.out]
      have HEN:=aA (And.intro eE eN);have h4':((l3:Int)==4)=false:=by simp;omega
      obtain⟨wA,hwA⟩:∃wA,wA=wr.alloc (.cells #[.int .i64 q,.int .i64 nD] 121):=⟨_,rfl⟩;have lA:Below wr.heap.size wr wA:=by rw[hwA];exact(dA _ _).alloc (eA _) _
      have xA:wA.heap[wr.heap.size]?=some (.cells #[.int .i64 q,.int .i64 nD] 121 (0,0)):=by rw[hwA];exact jA wr _
      have HRW:Hid (jK wA (some ⟨wr.heap.size,0,none⟩) (rH [⟨q,nD⟩])):=.inr ⟨_,0,rfl,bE xA,λj u hj=>by
       rw[uD];refine aS (yB xA j) ?_;have:(rH [⟨q,nD⟩])[j]?=(#[Value.int .i64 q,Value.int .i64 nD]:Array Value)[j]?:=by simp[rH,kH.cells]
       rw[<-this];exact hj⟩;have HWA:=aA hwA;have LA:=aA lA;have HOA:=aA (HO7.out.sA lA);have hszr:w.heap.size+3<=wr.heap.size:=by have:=K7.out.size;have:=HS3.out;omega
      clear hlt hk hno hge r7 eE eN hwA lA xA h4;go_upto_region 16 with(at_builtin;rw[<-HWA.out];refine jT EJ (by kernel_rfl) _ _ rfl (w.heap.size+3) _ l3 (rH s.nA) rfl HOA.out.r3 (some ⟨wr.heap.size,0,none⟩) 1 1 (rH [⟨q,nD⟩]) rfl rfl (λh=>by cases h) HRW.out (DU _) (by unfold maxLen;omega) (by omega) (vA hszr LA.out.size) ?_;intro v8 w8 o8 g8 _;obtain⟨a8,c8,rfl,-⟩:=jM o8;have kt8:=jH.grown HOA.out.r3 g8;have b8:=(kt8.block w6.heap.size _ _ (pB B7.out LA.out) (by decide)).trans (pB B7.out LA.out);have x8:=yB b8 2;have f8:=pA b8 2;simp at x8;have B8:=aA b8;have KT8:=aA kt8;have O8:=aA o8;have G8:=aA g8;clear b8 kt8 o8 g8);have ho8:fI w8 (w.heap.size+3) g1 g2 a8 l1 r1 l2 r2 (l3+1) c8 {s with nA:=s.nA++[⟨q,nD⟩]}:=HOA.out.nA KT8.out (by rw[MR];exact O8.out);obtain⟨w9,hw9⟩:∃w9,w9=w8.setCell ⟨w6.heap.size,2,none⟩ (.slice a8 (l3+1) c8):=⟨_,rfl⟩;rw[<-hw9];have b9:w9.heap[w6.heap.size]?=some (.cells #[.slice g1 l1 r1,.slice g2 l2 r2,.slice a8 (l3+1) c8,.int .i64 s.gA,.int .i64 s.fA,.int .i64 s.nB,.int .i64 s.uA,.int .i64 s.iA] 39 (0,0)):=by rw[hw9];exact bG B8.out (j:=2) _
      have kt9:jH 39 w8 w9:=by rw[hw9];exact jH.setCell B8.out _
      have ho9:=ho8.typeT kt9 (by decide);have F9:Hid (Below w.heap.size w w9):=by
       have l8:Below w.heap.size w w8:=(HBW.out.trans ((K7.out.trans (LA.out.mono K7.out.size)).mono s0)).grown G8.out (by have:=LA.out.size;omega) (λi hi=>by have:=(HOA.out.r3.lt i hi).1;omega);show Below w.heap.size w w9;rw[hw9];exact l8.setCell (p:=⟨w6.heap.size,2,none⟩) (by show w.heap.size<=w6.heap.size;have:=HL6.out;omega) _
      have r8:w8.heap[w.heap.size+2]?=_:=(KT8.out.block (w.heap.size+2) _ _ (pB R7.out LA.out) (by decide)).trans (pB R7.out LA.out);have r9:w9.heap[w.heap.size+2]?=some (.cells #[.slice none 0 0,.slice none 0 0,.slice none 0 0,.int .i64 0,.int .i64 0,.int .i64 0,.int .i64 0,.int .i64 0] 39 (0,0)):=by rw[hw9];exact(jG w8 ⟨w6.heap.size,2,none⟩ (w.heap.size+2) _ (by show w.heap.size+2≠w6.heap.size;have:=HL6.out;omega)).trans r8
      clear y0 y1 y2 y3 y4 y5 y6 y7 z0 z1 z2 z3 z4 z5 z6 z7 e0 e1 e2 e3 e4 e5 e6 e7 x8 f8;obtain⟨y0,y1,y2,y3,y4,y5,y6,y7⟩:=gD b9;obtain⟨z0,z1,z2,z3,z4,z5,z6,z7⟩:=gD r9;have e0:=pA r9 0;have e1:=pA r9 1;have e2:=pA r9 2;have e3:=pA r9 3;have e4:=pA r9 4;have e5:=pA r9 5;have e6:=pA r9 6;have e7:=pA r9 7;have R9:=aA r9;have HO9:=aA ho9;have hwr:IntKind.i64.wrap (((l3+1:Nat):Int)-1)=(l3:Int):=by rw[uB];omega
      clear r9 ho9 ho8 b9 kt9 hw9 r8;have hne1:w6.heap.size≠w.heap.size+1+1:=by have:=HL6.out;omega
      have hne2:w.heap.size+1+1≠w6.heap.size:=by have:=HL6.out;omega
      go_wp2_with fail;go_region;generalize hWX:World.setCell (World.setCell (World.setCell (World.setCell (World.setCell (World.setCell (World.setCell (World.setCell w9 _ _) _ _) _ _) _ _) _ _) _ _) _ _) _ _=WX;obtain⟨bX,tX⟩:=eD R9.out hWX;obtain⟨z0,z1,z2,z3,z4,z5,z6,z7⟩:=gD bX;go_wp2_with fail;have eS:bR s q nD={s with nA:=s.nA++[⟨q,nD⟩]}:=by unfold bR tT;rw[kA (by rw[HGE.out];omega)]
      exact dB (v:=.tuple #[.agg #[.slice g1 l1 r1,.slice g2 l2 r2,.slice a8 (l3+1) c8,.int .i64 s.gA,.int .i64 s.fA,.int .i64 s.nB,.int .i64 s.uA,.int .i64 s.iA],.int .i64 (l3:Int),.int .i64 0]) (by simp[results,Tryz.results49,go_sem,z0,z1,z2,z3,z4,z5,z6,z7]) rfl ⟨.agg #[.slice g1 l1 r1,.slice g2 l2 r2,.slice a8 (l3+1) c8,.int .i64 s.gA,.int .i64 s.fA,.int .i64 s.nB,.int .i64 s.uA,.int .i64 s.iA],by rw[HEN.out.1,HEN.out.2],⟨λ_=>⟨_,_,_,_,_,_,_,_,_,rfl,by rw[eS];exact((HO9.out.bF R9.out (by decide) tX).lower (by omega)).sA (dA _ _).drew⟩,λh=>absurd HEN.out.1 h⟩,(F9.out.trans (tX.below (by have:=F9.out.size;omega) (by omega))).drew⟩
 ·have hz':(E0 !=0)=true:=kD.2 hz;have HZ:=aA hz;have eE:E=E0:=by
   rw[HE.out,HE0.out];unfold oR iY kV;by_cases h:zG p s=0
   ·have hc:¬zG p s≠0:=by simp[h]
    rw[kA hc,kA hc];by_cases h2:tG q p.jB.length=false;·rw[qA h2,qA h2]
    ·exfalso;apply hz;rw[HE0.out];unfold kV;rw[kA (by simp[h]),kA h2]
   ·rw[qA h,qA h]
  clear hz;go_wp2_with fail;generalize hW4:World.setCell (World.setCell (World.setCell (World.setCell (World.setCell (World.setCell (World.setCell (World.setCell w4 _ _) _ _) _ _) _ _) _ _) _ _) _ _) _ _=W4;obtain⟨b4,t4⟩:=eD R4.out hW4;obtain⟨z0,z1,z2,z3,z4,z5,z6,z7⟩:=gD b4;exact dB (v:=.tuple #[iG,.int .i64 0,.int .i64 E0]) (by simp[results,Tryz.results49,go_sem,z0,z1,z2,z3,z4,z5,z6,z7,iG]) rfl (HER.out E0 _ _ HZ.out eE K4.out t4)
theorem R_(p:lD)(a1 a2 a3:Option Addr)(n1 c1 n2 c2 n3 c3:Nat)(s:yC)(b1 b2 b3:Option Addr)(m1 d1 m2 d2 m3 d3:Nat)(tag:Int)(w:World)(hp:sG w a1 a2 a3 n1 n2 n3 p)(hs:gK w b1 b2 b3 m1 m2 m3 s)(hn2:b2=none->d2=0)(hn3:b3=none->d3=0)(hc2:m2<=d2)(hm2:d2<=maxLen):
 Calls Tryz.prog 52 #[.agg #[.slice a1 n1 c1,.slice a2 n2 c2,.slice a3 n3 c3],.agg #[.slice b1 m1 d1,.slice b2 m2 d2,.slice b3 m3 d3,.int .i64 s.gA,.int .i64 s.fA,.int .i64 s.nB,.int .i64 s.uA,.int .i64 s.iA],.int .i64 tag] w λe w'=>∃v,e=.returned (.tuple #[v,.int .i64 (sK p s tag)])/\kK w' w.heap.size v (sK p s tag) (kT s tag)/\Below w.heap.size w w':=by
 obtain⟨E,hE⟩:∃E,E=sK p s tag:=⟨_,rfl⟩;rw[<-hE];obtain⟨E0,hE0⟩:∃E0,E0=zG p s:=⟨_,rfl⟩;obtain⟨W3,hW3,hBw,hs3,hbx⟩:=zZ w #[.slice a1 n1 c1,.slice a2 n2 c2,.slice a3 n3 c3] #[.slice b1 m1 d1,.slice b2 m2 d2,.slice b3 m3 d3,.int .i64 s.gA,.int .i64 s.fA,.int .i64 s.nB,.int .i64 s.uA,.int .i64 s.iA];have HW3:=aA hW3;have BX:=aA hbx;have HE:=aA hE;have HE0:=aA hE0;have HS:=aA (hs.sA hBw);have HP:=aA (hp.sA hBw);have HBW:=aA hBw;have HS3:=aA hs3;have HN2:=aA hn2;have HN3:=aA hn3;have HC2:=aA hc2;have HCM:=aA hm2;have HM2:Hid (s.xB.length=m2):=hs.l2;have HPN:Hid (p.jB.length=n2):=hp.l2;have s0:=hBw.size;obtain⟨x0,x1,x2⟩:=xH (hbx W3 (dA _ _)).1;obtain⟨y0,y1,y2,y3,y4,y5,y6,y7⟩:=gD (hbx W3 (dA _ _)).2.1;have HER:Hid (∀(D:Int)(W W4:World),D≠0->E=D->Below W3.heap.size W3 W->vJ (w.heap.size+2) W W4->∃v,Ending.returned (.tuple #[iG,.int .i64 D])=.returned (.tuple #[v,.int .i64 E])/\kK W4 w.heap.size v E (kT s tag)/\Below w.heap.size w W4):=λD W W4 hD hED hB hT=>by
  refine⟨iG,by rw[hED],⟨λh=>absurd (hED▸h) hD,λ_=>rfl⟩,HBW.out.trans ((hB.mono s0).trans (hT.below (by have:=hB.size;have:=HS3.out;omega) (by omega)))⟩
 clear hW3 hbx hs3 hp hs hBw hE hE0 hn2 hn3 hc2 hm2;go_enter Tryz.func52,Tryz.ntmps52;go_wp2_with fail;rw[<-HW3.out];refine(BE p _ _ _ _ _ _ _ _ _ s _ _ _ _ _ _ _ _ _ _ HP.out HS.out).mono ?_;rintro e w4⟨rfl,k4⟩;rw[<-HE0.out];have s4:=k4.size;have K4:=aA k4;clear x0 x1 x2 y0 y1 y2 y3 y4 y5 y6 y7 k4;by_cases hz:E0=0;rotate_left;·have hz':(E0 !=0)=true:=kD.2 hz;have HZ:=aA hz;have r4:=(BX.out w4 K4.out).2.2;obtain⟨z0,z1,z2,z3,z4,z5,z6,z7⟩:=gD r4;have e0:=pA r4 0;have e1:=pA r4 1;have e2:=pA r4 2;have e3:=pA r4 3;have e4:=pA r4 4;have e5:=pA r4 5;have e6:=pA r4 6;have e7:=pA r4 7;have R4:=aA r4;clear r4;clear hz;go_wp2_with fail;generalize hW4:World.setCell (World.setCell (World.setCell (World.setCell (World.setCell (World.setCell (World.setCell (World.setCell w4 _ _) _ _) _ _) _ _) _ _) _ _) _ _) _ _=W4;obtain⟨b4,t4⟩:=eD R4.out hW4;obtain⟨z0,z1,z2,z3,z4,z5,z6,z7⟩:=gD b4;exact dB (v:=.tuple #[iG,.int .i64 E0]) (by simp[results,Tryz.results52,go_sem,z0,z1,z2,z3,z4,z5,z6,z7,iG]) rfl (HER.out E0 _ _ HZ.out (by rw[HE.out];unfold sK;rw[qA (by rw[<-HE0.out];exact HZ.out)];rw[HE0.out]) K4.out t4)
 subst hz;have HR:=aA (nN HE0.out.symm);obtain⟨q1,q2,q3,q4⟩:=HS.out.small HR.out;have HQ:Hid (m1<=100/\(∀l∈s.yA,l.length<=100)/\m2<=1000/\m3<=100):=⟨q1,q2,q3,q4⟩;clear q1 q2 q3 q4;obtain⟨y0,y1,y2,y3,y4,y5,y6,y7⟩:=gD (BX.out w4 K4.out).2.1;go_wp2_with fail;refine(RU s _ _ _ _ _ _ _ _ _ tag _ (HS.out.sA K4.out)).mono ?_;rintro e w5⟨rfl,k5'⟩;rw[LZ];have K5:Hid (Below W3.heap.size W3 w5):=K4.out.trans (k5'.mono s4);have s5:=K5.out.size;clear y0 y1 y2 y3 y4 y5 y6 y7 k5';by_cases hi:lG s tag<s.xB.length;rotate_left
 ·rw[kA hi];have hie:lG s tag=s.xB.length:=by have:=FG s tag;omega
  have HIE:=aA hie;have r4:=(BX.out w5 K5.out).2.2;obtain⟨z0,z1,z2,z3,z4,z5,z6,z7⟩:=gD r4;have e0:=pA r4 0;have e1:=pA r4 1;have e2:=pA r4 2;have e3:=pA r4 3;have e4:=pA r4 4;have e5:=pA r4 5;have e6:=pA r4 6;have e7:=pA r4 7;have R4:=aA r4;clear r4;clear hi hie;go_wp2_with fail;generalize hW4:World.setCell (World.setCell (World.setCell (World.setCell (World.setCell (World.setCell (World.setCell (World.setCell w5 _ _) _ _) _ _) _ _) _ _) _ _) _ _) _ _=W4;obtain⟨b4,t4⟩:=eD R4.out hW4;obtain⟨z0,z1,z2,z3,z4,z5,z6,z7⟩:=gD b4;exact dB (v:=.tuple #[iG,.int .i64 5]) (by simp[results,Tryz.results52,go_sem,z0,z1,z2,z3,z4,z5,z6,z7,iG]) rfl (HER.out 5 _ _ (by decide) (by rw[HE.out];unfold sK;rw[kA (by rw[<-HE0.out];simp),qA HIE.out]) K5.out t4)
 rw[qA hi];have HNE:Hid (lG s tag≠s.xB.length):=jQ hi;obtain⟨i,o,hO⟩:=GP (jQ hi);have HOUT:=aA hO;rw[hO.idx]at hi⊢;have HIL:=aA hi;have j0:¬(i:Int)<0:=by omega
 have j0':decide ((i:Int)<0)=false:=by rw[pH];omega
 clear hi hO;have HEZ:Hid (E=0):=by show E=0;rw[HE.out];unfold sK;rw[kA (by rw[<-HE0.out];simp),kA HNE.out]
 obtain⟨y0,y1,y2,y3,y4,y5,y6,y7⟩:=gD (BX.out w5 K5.out).2.1;go_wp2_with fail;refine(NS s _ _ _ _ _ _ _ _ _ i w5 (HS.out.sA K5.out) HN2.out HN3.out HC2.out HCM.out HQ.out.1 HQ.out.2.1 HQ.out.2.2.1 HQ.out.2.2.2 HIL.out).mono ?_;rintro e w6⟨v6,rfl,hv6,k6'⟩;have hls:({s with xB:=s.xB.eraseIdx i}:yC)=lK s tag:=by unfold lK;rw[HOUT.out.idx]
 rw[hls]at hv6;obtain⟨L,hL⟩:∃L,L=lK s tag:=⟨_,rfl⟩;rw[<-hL]at hv6;have HL:=aA hL;obtain⟨g1,g2,g3,l1,r1,l2,r2,l3,r3,rfl,ho⟩:=hv6;have k6:=K5.out.trans (k6'.mono K5.out.size);have s6:=k6.size;obtain⟨w7,hw7⟩:∃w7,w7=w6.alloc (.cells #[.slice g1 l1 r1,.slice g2 l2 r2,.slice g3 l3 r3,.int .i64 L.gA,.int .i64 L.fA,.int .i64 L.nB,.int .i64 L.uA,.int .i64 L.iA] 39):=⟨_,rfl⟩;have l7:Below w6.heap.size w6 w7:=by rw[hw7];exact(dA _ _).alloc (eA _) _
 have b7:w7.heap[w6.heap.size]?=some (.cells #[.slice g1 l1 r1,.slice g2 l2 r2,.slice g3 l3 r3,.int .i64 L.gA,.int .i64 L.fA,.int .i64 L.nB,.int .i64 L.uA,.int .i64 L.iA] 39 (0,0)):=by rw[hw7];exact jA w6 _
 have K7:Hid (Below W3.heap.size W3 w7):=k6.trans (l7.mono s6);have HW7:=aA hw7;obtain⟨B7,hB7⟩:∃B7,B7=w6.heap.size:=⟨_,rfl⟩;have HB7:=aA hB7;rw[<-hB7]at b7;have BB7:=aA b7;have HG7:Hid (W3.heap.size<=B7):=by show _<=B7;rw[hB7];exact s6
 have HO7:=aA ((ho.lower (n':=W3.heap.size) K5.out.size).sA l7);clear y0 y1 y2 y3 y4 y5 y6 y7 k6' k6 hw7 l7 hB7 b7 ho hls hL j0 j0';go_upto_region 8 with fail;rw[<-HW7.out,<-HB7.out];have y6:=(gD BB7.out).2.2.2.2.2.2.1;have f6:=pA BB7.out 6;have j6:IntKind.i64.wrap (L.uA+1)=L.uA+1:=by rw[HL.out];exact LG HR.out.acked_le.1 (by have:=HR.out.acked_le.2;show s.uA<=_;omega)
 go_upto_region 9 with fail;generalize hw8:w7.setCell ⟨B7,6,none⟩ (.int .i64 (L.uA+1))=w8;have b8:w8.heap[B7]?=some (.cells #[.slice g1 l1 r1,.slice g2 l2 r2,.slice g3 l3 r3,.int .i64 L.gA,.int .i64 L.fA,.int .i64 L.nB,.int .i64 (L.uA+1),.int .i64 L.iA] 39 (0,0)):=by rw[<-hw8];exact bG BB7.out (j:=6) _
 have t8:vJ B7 w7 w8:=by rw[<-hw8];exact uF w7 B7 6 _
 have HF8:Hid (Below W3.heap.size W3 w8):=K7.out.trans (t8.below K7.out.size HG7.out);obtain⟨SR,hSR⟩:∃SR,SR=kT s tag:=⟨_,rfl⟩;have HO8:Hid (fI w8 W3.heap.size g1 g2 g3 l1 r1 l2 r2 l3 r3 SR):=by
  show fI _ _ _ _ _ _ _ _ _ _ _ SR;rw[hSR];have hh:=HO7.out.bF BB7.out (by decide) t8;rw[HL.out]at hh;exact hh.same rfl rfl rfl
 have b8':w8.heap[B7]?=some (.cells #[.slice g1 l1 r1,.slice g2 l2 r2,.slice g3 l3 r3,.int .i64 SR.gA,.int .i64 SR.fA,.int .i64 SR.nB,.int .i64 SR.uA,.int .i64 SR.iA] 39 (0,0)):=by rw[hSR];have hh:=b8;rw[HL.out]at hh;exact hh
 have HSR:=aA hSR;have r8:=(BX.out w8 HF8.out).2.2;clear y6 f6;obtain⟨y0,y1,y2,y3,y4,y5,y6,y7⟩:=gD b8';obtain⟨z0,z1,z2,z3,z4,z5,z6,z7⟩:=gD r8;have e0:=pA r8 0;have e1:=pA r8 1;have e2:=pA r8 2;have e3:=pA r8 3;have e4:=pA r8 4;have e5:=pA r8 5;have e6:=pA r8 6;have e7:=pA r8 7;have R8:=aA r8;clear r8 b8 b8' t8 hw8 hSR j6;go_wp2_with fail;generalize hW9:World.setCell (World.setCell (World.setCell (World.setCell (World.setCell (World.setCell (World.setCell (World.setCell w8 _ _) _ _) _ _) _ _) _ _) _ _) _ _) _ _=W9;obtain⟨b9,t9⟩:=eD R8.out hW9;obtain⟨z0,z1,z2,z3,z4,z5,z6,z7⟩:=gD b9;exact dB (v:=.tuple #[.agg #[.slice g1 l1 r1,.slice g2 l2 r2,.slice g3 l3 r3,.int .i64 SR.gA,.int .i64 SR.fA,.int .i64 SR.nB,.int .i64 SR.uA,.int .i64 SR.iA],.int .i64 0]) (by simp[results,Tryz.results52,go_sem,z0,z1,z2,z3,z4,z5,z6,z7]) rfl ⟨_,by rw[HEZ.out],⟨λ_=>by rw[<-HSR.out];exact⟨_,_,_,_,_,_,_,_,_,rfl,(HO8.out.bF R8.out (by decide) t9).lower (by have:=HS3.out;omega)⟩,λh=>absurd HEZ.out h⟩,HBW.out.trans ((HF8.out.mono s0).trans (t9.below (by have:=HF8.out.size;have:=HS3.out;omega) (by omega)))⟩
theorem n4{p:lD}{s:yC}(h:mH p s 0){q:Int}{n k:Nat}(hk:k<s.nA.length)(hf:zP s q k=true)(hn:xE s k=n)(hall:∀j,j<s.nA.length->zP s q j=true->n<=xE s j)(hfst:∀j,j<k->zP s q j=true->xE s j≠n):nO s q=(k:Int):=by
 have hL:jP s q s.nA.length k:=⟨hk,hf,h.few hk hf,λj hj hfj=>by rw[hn];exact hall j hj hfj,λj hj hfj=>by have:=hall j (by omega) hfj;have:=hfst j hj hfj;omega⟩;rcases LX h q with⟨_,h2⟩|⟨k',e,h2⟩;·rw[h2 k hk]at hf;cases hf
 ·rw[e,h2.uniq hL]
theorem J7{p:lD}{s:yC}(h:mH p s 0){q:Int}(hall:∀j,j<s.nA.length->zP s q j=true->4<=xE s j):nO s q=-1:=by
 rcases LX h q with⟨e,_⟩|⟨k',e,h2⟩;·exact e
 ·have:=hall k' h2.lt h2.free;have:=h2.few;omega
theorem l0(p:lD)(a1 a2 a3:Option Addr)(n1 c1 n2 c2 n3 c3:Nat)(s:yC)(b1 b2 b3:Option Addr)(m1 d1 m2 d2 m3 d3:Nat)(q:Int)(w:World)(hp:sG w a1 a2 a3 n1 n2 n3 p)(hs:gK w b1 b2 b3 m1 m2 m3 s):
 Calls Tryz.prog 82 #[.agg #[.slice a1 n1 c1,.slice a2 n2 c2,.slice a3 n3 c3],.agg #[.slice b1 m1 d1,.slice b2 m2 d2,.slice b3 m3 d3,.int .i64 s.gA,.int .i64 s.fA,.int .i64 s.nB,.int .i64 s.uA,.int .i64 s.iA],.int .i64 q] w λe w'=>e=.returned (.tuple #[.int .i64 (wJ (fR p s q) (nO s q)),.int .i64 (fR p s q)])/\Below w.heap.size w w':=by
 obtain⟨E,hE⟩:∃E,E=fR p s q:=⟨_,rfl⟩;rw[<-hE];obtain⟨N,hN⟩:∃N,N=wJ E (nO s q):=⟨_,rfl⟩;rw[<-hN];obtain⟨E0,hE0⟩:∃E0,E0=kV p s q:=⟨_,rfl⟩;obtain⟨W2,hW2,hBw,hs2,hbx⟩:=mV w #[.slice a1 n1 c1,.slice a2 n2 c2,.slice a3 n3 c3] #[.slice b1 m1 d1,.slice b2 m2 d2,.slice b3 m3 d3,.int .i64 s.gA,.int .i64 s.fA,.int .i64 s.nB,.int .i64 s.uA,.int .i64 s.iA];have HW2:=aA hW2;have BX:=aA hbx;have HE:=aA hE;have HN:=aA hN;have HE0:=aA hE0;have HS:=aA (hs.sA hBw);have HP:=aA (hp.sA hBw);have HBW:=aA hBw;have HM1:Hid (s.yA.length=m1):=hs.l1;have HM3:Hid (s.nA.length=m3):=hs.l3;have s0:=hBw.size;obtain⟨x0,x1,x2⟩:=xH (hbx W2 (dA _ _)).1;obtain⟨y0,y1,y2,y3,y4,y5,y6,y7⟩:=gD (hbx W2 (dA _ _)).2;clear hW2 hbx hs2 hp hs hBw hE hE0 hN;go_enter Tryz.func82,Tryz.ntmps82;go_wp2_with fail;rw[<-HW2.out];refine(MX p _ _ _ _ _ _ _ _ _ s _ _ _ _ _ _ _ _ _ q _ HP.out HS.out).mono ?_;rintro e w3⟨rfl,k3⟩;rw[<-HE0.out];have s3:=k3.size;have K3:=aA k3;clear x0 x1 x2 y0 y1 y2 y3 y4 y5 y6 y7;by_cases hz:E0=0
 ·subst hz;have h00:zG p s=0:=by
   have:=HE0.out;unfold kV at this;by_cases h:zG p s=0;·exact h
   ·rw[qA h]at this;exact absurd this.symm h
  have hq0:¬tG q p.jB.length=false:=λh=>by
   have:=HE0.out;unfold kV at this;rw[kA (by simp[h00]),qA h]at this;cases this
  have HR:=aA (nN h00);obtain⟨q0,q1⟩:=cP.1 (show tG q p.jB.length=true by simpa using hq0);have HE1:Hid (E=if oF s q.toNat=[]then 8 else if nO s q=-1 then 9 else 0):=by show E=_;rw[HE.out];unfold fR;rw[kA (by simp[h00]),kA hq0]
  obtain⟨j,rfl⟩:=oE q0;have HE1:Hid (E=if oF s j=[]then 8 else if nO s (j:Int)=-1 then 9 else 0):=by show E=_;rw[HE1.out,Int.toNat_natCast]
  have hjr:j<s.yA.length:=by rw[HR.out.len];omega
  have hm3:m3<=4:=by rw[<-HM3.out];exact HR.out.tk
  obtain⟨g,o,b,c,ha,hg,hl⟩:=(HS.out.q1.sA k3).get hjr;subst ha;have c1:=hl.cell;obtain⟨n,hn⟩:∃n,n=(s.yA[j]'hjr).length:=⟨_,rfl⟩;have HNL:Hid (n=0↔oF s j=[]):=by show n=0↔_;rw[rU hjr,hn];exact kC
  rw[<-hn]at c1;have j1:(0:Int)<=(j:Int):=by omega
  have j2:(j:Int)<m1:=by rw[<-HM1.out];omega
  obtain⟨y0,y1,y2,y3,y4,y5,y6,y7⟩:=gD (BX.out w3 k3).2;clear hl hn hq0 h00 q0 q1;by_cases hn0:n=0
  ·have e8:E=8:=by rw[HE1.out,qA (HNL.out.1 hn0)]
   have eN:N=0:=by rw[HN.out];unfold wJ;rw[kA (by rw[e8];decide)]
   subst hn0;go_wp2_with fail;go_ret2;exact⟨lZ eN.symm e8.symm,HBW.out.trans (k3.mono s0)⟩
  ·have HE2:Hid (E=if nO s j=-1 then 9 else 0):=by show E=_;rw[HE1.out,kA (λh=>hn0 (HNL.out.2 h))]
   have hn0':((n:Int)==0)=false:=by simp;omega
   clear hn0 k3;go_wp2_with fail;clear y0 y1 y2 y3 y4 y5 y6 y7 c1;go_loopw[9,10](λa _ wr=>∃(h:Nat),h<=4/\a=.int .i64 h/\(∀i,i<s.nA.length->zP s j i=true->h<=xE s i)/\Below W2.heap.size W2 wr)(λa _ _=>4-(intOf a).toNat);case atStart=>exact⟨0,zA _,rfl,λ_ _ _=>zA _,K3.out⟩
   case round=>
    obtain⟨h,hh,rfl,hall,hB⟩:=hrel;have HALL:=aA hall;have HB:=aA hB;have hBs:=hB.size;clear hall;by_cases hlt:h<4
    ·have HLT:=aA hlt;have hdt:decide ((h:Int)<4)=true:=eC (by omega);go_wp2_with fail;clear hlt hdt;go_loopw[10](λa wr=>∃(k:Nat),k<=m3/\a=.int .i64 k/\(∀i,i<k->zP s j i=true->xE s i≠h)/\Below W2.heap.size W2 wr)(λa _=>m3-(intOf a).toNat);case atStart=>exact⟨0,zA _,rfl,λi hi=>absurd hi (jI _),HB.out⟩
     case round=>
      clear hB HB hBs;obtain⟨k,hk,rfl,hfst,hB⟩:=hrel;have HFS:=aA hfst;have HB:=aA hB;have hBs:=hB.size;clear hfst;obtain⟨y0,y1,y2,y3,y4,y5,y6,y7⟩:=gD (BX.out wr hB).2;by_cases hkl':k<m3
      ·have HKM:=aA hkl';have hkl:k<s.nA.length:=by rw[HM3.out];exact hkl'
       obtain⟨g,o,ha,hg,e1,e2⟩:=(HS.out.q3.sA hB).get hkl;subst ha;have HFR:Hid (zP s j k=(decide ((s.nA[k]'hkl).queue=(j:Int))&&decide ((xE s k:Int)<(s.nA[k]'hkl).nD))):=by
        show zP s j k=_;unfold zP bU;rw[tB,tA hkl];rfl
       have HKL:=aA hkl;obtain⟨x,hx⟩:∃x,x=(s.nA[k]'hkl).queue:=⟨_,rfl⟩;obtain⟨mo,hmo⟩:∃mo,mo=(s.nA[k]'hkl).nD:=⟨_,rfl⟩;obtain⟨H,hH⟩:∃H,H=xE s (k:Int):=⟨_,rfl⟩;rw[<-hx]at e1 HFR;rw[<-hmo]at e2 HFR;rw[<-hH]at HFR;have HHH:=aA hH;have i1:(0:Int)<=(k:Int):=by omega
       have i2:(k:Int)<m3:=by omega
       clear hx hmo hkl hH;have hHb:H<=100000000:=by rw[HHH.out];exact vA (V9 s _) (by have:=(yV HR.out).2.2.1;omega)
       have NXT:Hid (¬(zP s j k=true/\H=h)->∀i,i<k+1->zP s j i=true->xE s i≠h):=λhno i hi hf e=>by
        by_cases c:i=k;·subst c;exact hno ⟨hf,by rw[HHH.out];exact e⟩
        ·exact HFS.out i (by omega) hf e
       by_cases hq:x=(j:Int)
       ·subst hq;by_cases hc:H=h/\(h:Int)<mo
        ·obtain⟨c1,c2⟩:=hc;subst c1;have hfr:zP s j k=true:=by rw[HFR.out];simp[c2]
         have hnk:=n4 HR.out HKL.out hfr HHH.out.symm HALL.out HFS.out;have eE:E=0:=by rw[HE2.out,kA (by rw[hnk];omega)]
         have eN:N=(k:Int):=by rw[HN.out,eE];unfold wJ;rw[qA rfl,hnk]
         have hbb:((H:Int)==(H:Int))=true:=by simp
         clear hfr hnk;go_wp2_with(go_at_call 119;refine(FI s _ _ _ _ _ _ _ _ _ (k:Int) _ (HS.out.sA HB.out)).mono ?_;rintro e w5⟨rfl,k5⟩;rw[<-HHH.out];have K5:=aA k5;have kk:=HB.out.trans (k5.mono hBs);clear y0 y1 y2 y3 y4 y5 y6 y7;obtain⟨y0,y1,y2,y3,y4,y5,y6,y7⟩:=gD (BX.out w5 kk).2;have e1':=(k5.cell (p:=⟨g,o+k*2+1,none⟩) hg).trans e2;clear kk);go_ret2;exact⟨lZ eN.symm eE.symm,HBW.out.trans ((HB.out.trans (K5.out.mono hBs)).mono s0)⟩
        ·have hor:¬H=h\/(H=h/\¬(h:Int)<mo):=by omega
         rcases hor with c1|⟨c1,c2⟩
         ·have hbb:((H:Int)==(h:Int))=false:=by simp;omega
          have NX:=aA (NXT.out (λh=>c1 h.2));clear hc c1;go_wp2_with(go_at_call 119;refine(FI s _ _ _ _ _ _ _ _ _ (k:Int) _ (HS.out.sA HB.out)).mono ?_;rintro e w5⟨rfl,k5⟩;rw[<-HHH.out];have K5:=aA k5;have kk:=HB.out.trans (k5.mono hBs);clear y0 y1 y2 y3 y4 y5 y6 y7;obtain⟨y0,y1,y2,y3,y4,y5,y6,y7⟩:=gD (BX.out w5 kk).2;have e1':=(k5.cell (p:=⟨g,o+k*2+1,none⟩) hg).trans e2;clear kk);go_roundw;case rel=>exact⟨k+1,HKM.out,by have:=HKM.out;go_num,NX.out,HB.out.trans (K5.out.mono hBs)⟩
          case measure=>have:=HKM.out;simp[intOf];omega
         ·subst c1;have hbb:((H:Int)==(H:Int))=true:=by simp
          have NX:=aA (NXT.out (λh=>by have:=h.1;rw[HFR.out]at this;simp at this;exact c2 this));clear hc;go_wp2_with(go_at_call 119;refine(FI s _ _ _ _ _ _ _ _ _ (k:Int) _ (HS.out.sA HB.out)).mono ?_;rintro e w5⟨rfl,k5⟩;rw[<-HHH.out];have K5:=aA k5;have kk:=HB.out.trans (k5.mono hBs);clear y0 y1 y2 y3 y4 y5 y6 y7;obtain⟨y0,y1,y2,y3,y4,y5,y6,y7⟩:=gD (BX.out w5 kk).2;have e1':=(k5.cell (p:=⟨g,o+k*2+1,none⟩) hg).trans e2;clear kk);go_roundw;case rel=>exact⟨k+1,HKM.out,by have:=HKM.out;go_num,NX.out,HB.out.trans (K5.out.mono hBs)⟩
          case measure=>have:=HKM.out;simp[intOf];omega
       ·have hq':(x==(j:Int))=false:=by simpa using hq
        have NX:=aA (NXT.out (λh=>by have:=h.1;rw[HFR.out]at this;simp at this;exact hq this.1));clear hq;go_wp2_with fail;go_roundw;case rel=>exact⟨k+1,HKM.out,by have:=HKM.out;go_num,NX.out,HB.out⟩
        case measure=>have:=HKM.out;simp[intOf];omega
      ·have hke:m3=k:=by omega
       subst hke;clear hkl' hk;go_wp2_with fail;go_roundw;case rel=>exact⟨h+1,HLT.out,by have:=HLT.out;go_num,λi hi hf=>by have a:=HALL.out i hi hf;have b:=HFS.out i (by rw[HM3.out]at hi;exact hi) hf;omega,HB.out⟩
       case measure=>have:=HLT.out;simp[intOf];omega
    ·have hh4:h=4:=by omega
     subst hh4;have hnk:=J7 HR.out HALL.out;have eE:E=9:=by rw[HE2.out,qA hnk]
     have eN:N=0:=by rw[HN.out];unfold wJ;rw[kA (by rw[eE];decide)]
     clear hlt hh hnk;go_wp2_with fail;go_ret2;exact⟨lZ eN.symm eE.symm,HBW.out.trans (HB.out.mono s0)⟩
 ·have hz':(E0 !=0)=true:=kD.2 hz;have eE:E=E0:=by
   rw[HE.out,HE0.out];unfold fR kV;by_cases h:zG p s=0
   ·have hc:¬zG p s≠0:=by simp[h]
    rw[kA hc,kA hc];by_cases h2:tG q p.jB.length=false;·rw[qA h2,qA h2]
    ·exfalso;apply hz;rw[HE0.out];unfold kV;rw[kA (by simp[h]),kA h2]
   ·rw[qA h,qA h]
  have eN:N=0:=by rw[HN.out];unfold wJ;rw[kA (by rw[eE];exact hz)]
  clear hz;go_wp2_with fail;go_ret2;exact⟨lZ eN.symm eE.symm,HBW.out.trans (K3.out.mono s0)⟩
structure MA(W:World)(n g j gi oi L cl:Nat)(x:zD)(r:List zD):Prop where
 cell:W.cell? ⟨g,j,none⟩=some (.slice (some ⟨gi,oi,none⟩) (L+1) cl)
 frz:W.frozen? ⟨g,j,none⟩=false
 len:L=r.length
 le:L+1<=cl
 cm:cl<=maxLen
 it:jS W gi oi x
 own:n<=gi/\∃cur,W.heap[gi]?=some (.cells cur 86 (0,0))
 all:qI W (some ⟨gi,oi,none⟩) (x::r)
 base:n<=g/\∃cur,W.heap[g]?=some (.cells cur 110 (0,0))
theorem fI.head{W:World}{n:Nat}{b1 b2 b3:Option Addr}{m1 d1 m2 d2 m3 d3:Nat}{s:yC}(h:fI W n b1 b2 b3 m1 d1 m2 d2 m3 d3 s){j:Nat}(hj:j<s.yA.length){x:zD}{r:List zD}(hl:oF s j=x::r):∃g gi oi L cl,b1=some ⟨g,0,none⟩/\MA W n g j gi oi L cl x r:=by
 obtain⟨vs,hr1,hlv⟩:=h.r1;have hm1:=h.l1;obtain⟨g,rfl⟩:∃g,b1=some ⟨g,0,none⟩:=by
  rcases hr1.2 with⟨e,e0⟩|⟨g,cap,cur,e,_⟩;·omega
  ·cases e;exact⟨g,rfl⟩
 obtain⟨v,bl,cl,hv1,hlj⟩:=hlv.get j hj;have hcell:=hr1.cellAt j (by omega);rw[hv1,hlj.v]at hcell;have hsj:s.yA[j]'hj=x::r:=by rw[<-rU hj];exact hl
 rw[hsj]at hcell hlj;have hle:=hlj.le;simp only[List.length_cons]at hle hcell;rcases hlj.own with e|⟨gi,oi,cur,rfl,hgi,hgh⟩;·exfalso;have:=hlj.nil e;omega
 ·refine⟨g,gi,oi,r.length,cl,rfl,hcell,hr1.frozenAt j,rfl,hle,hlj.cm,?_,⟨hgi,cur,hgh⟩,hlj.it,mT hr1⟩;rcases hlj.it with e|⟨g',o',e,_,hc⟩;·cases e
  ·cases e;have:=hc 0 (by simp);simpa only[List.getElem_cons_zero,kQ,Nat.add_zero]using this
theorem MA.rest{W:World}{n g j gi oi L cl:Nat}{x:zD}{r:List zD}(h:MA W n g j gi oi L cl x r):yP W n r (.slice (if cl=1 then some (⟨gi,oi,none⟩:Addr)else some ⟨gi,oi+5,none⟩) L (cl-1)) (if cl=1 then some (⟨gi,oi,none⟩:Addr)else some ⟨gi,oi+5,none⟩) (cl-1):=by
 obtain⟨hn,cur,hg⟩:=h.own;have hA2:(if cl=1 then some (⟨gi,oi,none⟩:Addr)else some ⟨gi,oi+5,none⟩)=if cl=1 then some (⟨gi,oi,none⟩:Addr)else Option.map (λy:Addr=>y.add (1*5)) (some (⟨gi,oi,none⟩:Addr)):=by rw[Option.map_some,bZ]
 obtain⟨oA,hoA⟩:∃oA,(if cl=1 then some (⟨gi,oi,none⟩:Addr)else some ⟨gi,oi+5,none⟩)=some ⟨gi,oA,none⟩:=by split<;>exact⟨_,rfl⟩
 have hle:=h.le;have hcm:=h.cm;refine⟨by rw[h.len],by have:=h.len;omega,by omega,(λe=>by rw[hoA]at e;cases e),?_,.inr ⟨gi,oA,cur,hoA,hn,hg⟩⟩;have:=h.all.drop 1 cl (by have:=h.len;simp;omega);rw[List.drop_one,List.tail_cons,<-hA2]at this;exact this
theorem WE(p:lD)(a1 a2 a3:Option Addr)(n1 c1 n2 c2 n3 c3:Nat)(s:yC)(b1 b2 b3:Option Addr)(m1 d1 m2 d2 m3 d3:Nat)(q:Int)(w:World)(hp:sG w a1 a2 a3 n1 n2 n3 p)(hs:gK w b1 b2 b3 m1 m2 m3 s)(hn2:b2=none->d2=0)(hn3:b3=none->d3=0):
 Calls Tryz.prog 50 #[.agg #[.slice a1 n1 c1,.slice a2 n2 c2,.slice a3 n3 c3],.agg #[.slice b1 m1 d1,.slice b2 m2 d2,.slice b3 m3 d3,.int .i64 s.gA,.int .i64 s.fA,.int .i64 s.nB,.int .i64 s.uA,.int .i64 s.iA],.int .i64 q] w λe w'=>∃v,e=.returned (.tuple #[v,.int .i64 (wJ (mK p s q) s.fA),.int .i64 (mK p s q)])/\kK w' w.heap.size v (mK p s q) (lJ s q)/\Below w.heap.size w w':=by
 obtain⟨E,hE⟩:∃E,E=mK p s q:=⟨_,rfl⟩;rw[<-hE];obtain⟨N,hN⟩:∃N,N=wJ E s.fA:=⟨_,rfl⟩;rw[<-hN];obtain⟨E0,hE0⟩:∃E0,E0=fR p s q:=⟨_,rfl⟩;obtain⟨N0,hN0⟩:∃N0,N0=wJ E0 (nO s q):=⟨_,rfl⟩;obtain⟨W3,hW3,hBw,hs3,hbx⟩:=zZ w #[.slice a1 n1 c1,.slice a2 n2 c2,.slice a3 n3 c3] #[.slice b1 m1 d1,.slice b2 m2 d2,.slice b3 m3 d3,.int .i64 s.gA,.int .i64 s.fA,.int .i64 s.nB,.int .i64 s.uA,.int .i64 s.iA];have HW3:=aA hW3;have BX:=aA hbx;have HE:=aA hE;have HN:=aA hN;have HE0:=aA hE0;have HN0:=aA hN0;have HS:=aA (hs.sA hBw);have HP:=aA (hp.sA hBw);have HBW:=aA hBw;have HS3:=aA hs3;have HN2:=aA hn2;have HN3:=aA hn3;have s0:=hBw.size;obtain⟨x0,x1,x2⟩:=xH (hbx W3 (dA _ _)).1;obtain⟨y0,y1,y2,y3,y4,y5,y6,y7⟩:=gD (hbx W3 (dA _ _)).2.1;have HER:Hid (∀(D:Int)(W W4:World),D≠0->E=D->Below W3.heap.size W3 W->vJ (w.heap.size+2) W W4->∃v,Ending.returned (.tuple #[iG,.int .i64 0,.int .i64 D])=.returned (.tuple #[v,.int .i64 N,.int .i64 E])/\kK W4 w.heap.size v E (lJ s q)/\Below w.heap.size w W4):=λD W W4 hD hED hB hT=>by
  have hN0:N=0:=by rw[HN.out];unfold wJ;rw[kA (by rw[hED];exact hD)]
  refine⟨iG,by rw[hN0,hED],⟨λh=>absurd (hED▸h) hD,λ_=>rfl⟩,HBW.out.trans ((hB.mono s0).trans (hT.below (by have:=hB.size;have:=HS3.out;omega) (by omega)))⟩
 clear hW3 hbx hs3 hp hs hBw hE hE0 hN hN0 hn2 hn3;go_enter Tryz.func50,Tryz.ntmps50;go_wp2_with fail;rw[<-HW3.out];refine(l0 p _ _ _ _ _ _ _ _ _ s _ _ _ _ _ _ _ _ _ q _ HP.out HS.out).mono ?_;rintro e w4⟨rfl,k4⟩;rw[<-HE0.out,<-HN0.out];have s4:=k4.size;have K4:=aA k4;clear x0 x1 x2 y0 y1 y2 y3 y4 y5 y6 y7;have r4:=(BX.out w4 k4).2.2;obtain⟨z0,z1,z2,z3,z4,z5,z6,z7⟩:=gD r4;have e0:=pA r4 0;have e1:=pA r4 1;have e2:=pA r4 2;have e3:=pA r4 3;have e4:=pA r4 4;have e5:=pA r4 5;have e6:=pA r4 6;have e7:=pA r4 7;have R4:=aA r4;obtain⟨y0,y1,y2,y3,y4,y5,y6,y7⟩:=gD (BX.out w4 k4).2.1;clear r4 k4;by_cases hz:E0=0
 ·subst hz;obtain⟨hR,q0,q1,⟨x,r,hln⟩,kk,hkk,hLL⟩:=JU HE0.out.symm;have HR:=aA hR;obtain⟨j,rfl⟩:=oE q0;rw[Int.toNat_natCast]at hln;have hN1:N0=(kk:Int):=by rw[HN0.out];unfold wJ;rw[qA rfl,hkk]
  subst hN1;have HE2:Hid (E=if s.fA=1048576 then 2 else 0):=by show E=_;rw[HE.out];unfold mK;rw[kA (by simp[<-HE0.out])]
  by_cases hm:s.fA=1048576
  ·have hm':(s.fA==1048576)=true:=by simp[hm]
   have eE:E=2:=by rw[HE2.out,qA hm]
   clear hR hln hkk hLL hm;go_wp2_with fail;generalize hW9:World.setCell (World.setCell (World.setCell (World.setCell (World.setCell (World.setCell (World.setCell (World.setCell w4 _ _) _ _) _ _) _ _) _ _) _ _) _ _) _ _=W9;obtain⟨b9,t9⟩:=eD R4.out hW9;obtain⟨z0,z1,z2,z3,z4,z5,z6,z7⟩:=gD b9;exact dB (v:=.tuple #[iG,.int .i64 0,.int .i64 2]) (by simp[results,Tryz.results50,go_sem,z0,z1,z2,z3,z4,z5,z6,z7,iG]) rfl (HER.out 2 _ _ (by decide) eE K4.out t9)
  ·have hm':(s.fA==1048576)=false:=by simpa using hm
   have eE:E=0:=by rw[HE2.out,kA hm]
   have eN:N=s.fA:=by rw[HN.out,eE];unfold wJ;rw[qA rfl]
   have HEN:=aA (And.intro eE eN);have hnt:=hR.nt;have hql:j<s.yA.length:=by rw[hR.len];omega
   have HQL:=aA hql;have HLN:=aA hln;have HKK:=aA hkk;clear hR hln hkk hLL hm eE eN q0 q1 hql;go_wp2_with fail;obtain⟨q1,q2,q3,q4⟩:=HS.out.small HR.out;refine(CF s _ _ _ _ _ _ _ _ _ w4 (HS.out.sA K4.out) HN2.out HN3.out q1 q2 q3 q4).mono ?_;rintro e w6⟨v6,rfl,hv6,k6'⟩;obtain⟨g1,g2,g3,l1,r1,l2,r2,l3,r3,rfl,ho⟩:=hv6;have k6:=K4.out.trans (k6'.mono s4);have s6:=k6.size;obtain⟨w7,hw7⟩:∃w7,w7=w6.alloc (.cells #[.slice g1 l1 r1,.slice g2 l2 r2,.slice g3 l3 r3,.int .i64 s.gA,.int .i64 s.fA,.int .i64 s.nB,.int .i64 s.uA,.int .i64 s.iA] 39):=⟨_,rfl⟩;have l7:Below w6.heap.size w6 w7:=by rw[hw7];exact(dA _ _).alloc (eA _) _
   have b7:w7.heap[w6.heap.size]?=some (.cells #[.slice g1 l1 r1,.slice g2 l2 r2,.slice g3 l3 r3,.int .i64 s.gA,.int .i64 s.fA,.int .i64 s.nB,.int .i64 s.uA,.int .i64 s.iA] 39 (0,0)):=by rw[hw7];exact jA w6 _
   have k7:=k6.trans (l7.mono s6);have ho7:=(ho.lower (n':=w.heap.size+3) (by have:=K4.out.size;have:=HS3.out;omega)).sA l7;obtain⟨g,gi,oi,L,cl,rfl,hh7⟩:=ho7.head HQL.out HLN.out;have HH7:=aA hh7;have HW7:=aA hw7;have B7:=aA b7;have K7:=aA k7;have HO7:=aA ho7;have HL6:Hid (w.heap.size+3<=w6.heap.size):=by show _<=_;have:=HS3.out;omega
   have hjl:j<l1:=by rw[<-ho.l1];exact HQL.out
   have hl2:l2<=1000:=by rw[<-ho.l2];exact(yV HR.out).2.2.1
   have hcl:=hh7.le;clear y0 y1 y2 y3 y4 y5 y6 y7 z0 z1 z2 z3 z4 z5 z6 z7 e0 e1 e2 e3 e4 e5 e6 e7 ho k6' q1 q2 q3 q4 l7 hw7 k6;go_upto_region 7 with fail;rw[<-HW7.out];obtain⟨y0,y1,y2,y3,y4,y5,y6,y7⟩:=gD b7;have c0:=hh7.cell;obtain⟨i0,i1,i2,i3,i4⟩:=hh7.it;have j1:(0:Int)<=(j:Int):=by omega
   have j2:(j:Int)<l1:=by omega
   have j3:(0:Int)<((L+1:Nat):Int):=by omega
   clear b7 k7 ho7 hh7;go_upto_region 8 with fail;obtain⟨w8,hw8⟩:∃w8,w8=w7.alloc (.cells #[.int .i64 x.seq,.string x.key,.string x.body,.bool x.again,.int .i64 x.fC] 86):=⟨_,rfl⟩;rw[<-hw8];have l8:Below w7.heap.size w7 w8:=by rw[hw8];exact(dA _ _).alloc (eA _) _
   have x8:w8.heap[w7.heap.size]?=some (.cells #[.int .i64 x.seq,.string x.key,.string x.body,.bool x.again,.int .i64 x.fC] 86 (0,0)):=by rw[hw8];exact jA w7 _
   have k8:=K7.out.trans (l8.mono K7.out.size);have ho8:=HO7.out.sA l8;have hlv:=HH7.out.rest.sA l8;have hgl:g<w7.heap.size:=by obtain⟨_,cu,hc⟩:=HH7.out.base;exact bE hc
   have c8:=(l8.cell (p:=⟨g,j,none⟩) hgl).trans HH7.out.cell;have f8:=(l8.frozen (p:=⟨g,j,none⟩) hgl).trans HH7.out.frz;have b8:=pB B7.out l8;have X8:=aA x8;have K8:=aA k8;have HO8:=aA ho8;have HLV:=aA hlv;have B8:=aA b8;clear y0 y1 y2 y3 y4 y5 y6 y7 c0 i0 i1 i2 i3 i4 hw8 x8 k8 ho8 hlv l8;obtain⟨y0,y1,y2,y3,y4,y5,y6,y7⟩:=gD b8;have hcm:=HH7.out.cm;unfold maxLen at hcm;have u1:(1:Int)<=((L+1:Nat):Int):=by omega
   have u2:((L+1:Nat):Int)<=(cl:Int):=by omega
   have u3:(1:Int)<=(cl:Int):=by omega
   have u4:(1:Int)<=(L:Int)+1:=by omega
   have u5:(L:Int)+1<=(cl:Int):=by omega
   clear b8;go_region;obtain⟨A,hA⟩:∃A,A=if cl=1 then some (⟨gi,oi,none⟩:Addr)else some ⟨gi,oi+5,none⟩:=⟨_,rfl⟩;rw[<-hA]at HLV⊢;obtain⟨w9,hw9⟩:∃w9,w9=(w8.setCell ⟨g,j,none⟩ (.slice A L (cl-1))).drew:=⟨_,rfl⟩;rw[<-hw9];have kt9:jH 110 w8 (w8.setCell ⟨g,j,none⟩ (.slice A L (cl-1))):=by
    obtain⟨_,cu,hc⟩:=mT HO8.out.r1.choose_spec.1;exact jH.setCell hc _
   have ho9:fI w9 (w.heap.size+3) (some ⟨g,0,none⟩) g2 g3 l1 r1 l2 r2 l3 r3 {s with yA:=s.yA.set j r}:=by rw[hw9];exact(HO8.out.line HQL.out HLV.out rfl).sA (dA _ _).drew
   have b9:w9.heap[w6.heap.size]?=some (.cells #[.slice (some ⟨g,0,none⟩) l1 r1,.slice g2 l2 r2,.slice g3 l3 r3,.int .i64 s.gA,.int .i64 s.fA,.int .i64 s.nB,.int .i64 s.uA,.int .i64 s.iA] 39 (0,0)):=by rw[hw9];exact(kt9.block w6.heap.size _ _ B8.out (by decide)).trans B8.out
   have x9:w9.heap[w7.heap.size]?=some (.cells #[.int .i64 x.seq,.string x.key,.string x.body,.bool x.again,.int .i64 x.fC] 86 (0,0)):=by rw[hw9];exact(kt9.block w7.heap.size _ _ X8.out (by decide)).trans X8.out
   have r9:w9.heap[w.heap.size+2]?=some (.cells #[.slice none 0 0,.slice none 0 0,.slice none 0 0,.int .i64 0,.int .i64 0,.int .i64 0,.int .i64 0,.int .i64 0] 39 (0,0)):=by rw[hw9];exact(kt9.block (w.heap.size+2) _ _ (BX.out _ K8.out).2.2 (by decide)).trans (BX.out _ K8.out).2.2
   have s9':w9.heap[w.heap.size+1]?=some (.cells #[.slice b1 m1 d1,.slice b2 m2 d2,.slice b3 m3 d3,.int .i64 s.gA,.int .i64 s.fA,.int .i64 s.nB,.int .i64 s.uA,.int .i64 s.iA] 39 (0,0)):=by rw[hw9];exact(kt9.block (w.heap.size+1) _ _ (BX.out _ K8.out).2.1 (by decide)).trans (BX.out _ K8.out).2.1
   have F9:Hid (Below w.heap.size w w9):=by
    show Below w.heap.size w w9;rw[hw9];exact((HBW.out.trans (K8.out.mono s0)).setCell (p:=⟨g,j,none⟩) (by have:=HH7.out.base.1;show w.heap.size<=g;omega) _).drew
   have HO9:=aA ho9;have B9:=aA b9;have X9:=aA x9;have R9:=aA r9;have S9:=aA s9';clear y0 y1 y2 y3 y4 y5 y6 y7 u1 u2 u3 u4 u5 c8 f8 hA hw9 kt9 ho9 r9;obtain⟨wA,hwA⟩:∃wA,wA=w9.alloc (.cells #[.int .i64 s.fA,.int .i64 (kk:Int),.int .i64 (j:Int),.int .i64 x.seq,.string x.key,.string x.body,.bool x.again,.int .i64 x.fC] 88):=⟨_,rfl⟩;have lA:Below w9.heap.size w9 wA:=by rw[hwA];exact(dA _ _).alloc (eA _) _
   have xA:wA.heap[w9.heap.size]?=some (.cells #[.int .i64 s.fA,.int .i64 (kk:Int),.int .i64 (j:Int),.int .i64 x.seq,.string x.key,.string x.body,.bool x.again,.int .i64 x.fC] 88 (0,0)):=by rw[hwA];exact jA w9 _
   have HRW:Hid (jK wA (some ⟨w9.heap.size,0,none⟩) (dJ [⟨s.fA,kk,j,x⟩])):=.inr ⟨_,0,rfl,bE xA,λi u hi=>by
    rw[uD];refine aS (yB xA i) ?_;have:(dJ [⟨s.fA,kk,j,x⟩])[i]?=(#[Value.int .i64 s.fA,.int .i64 (kk:Int),.int .i64 (j:Int),.int .i64 x.seq,.string x.key,.string x.body,.bool x.again,.int .i64 x.fC]:Array Value)[i]?:=by simp[dJ,eF.cells]
    rw[<-this];exact hi⟩;have HWA:=aA hwA;have LA:=aA lA;have HOA:=aA (HO9.out.sA lA);have hszr:w.heap.size+3<=w9.heap.size:=by have:=bE b9;have:=HL6.out;omega
   obtain⟨y0,y1,y2,y3,y4,y5,y6,y7⟩:=gD b9;obtain⟨z0,z1,z2,z3,z4⟩:w9.cell? ⟨w7.heap.size,0,none⟩=some (.int .i64 x.seq)/\w9.cell? ⟨w7.heap.size,1,none⟩=some (.string x.key)/\w9.cell? ⟨w7.heap.size,2,none⟩=some (.string x.body)/\w9.cell? ⟨w7.heap.size,3,none⟩=some (.bool x.again)/\w9.cell? ⟨w7.heap.size,4,none⟩=some (.int .i64 x.fC):=⟨yB x9 0,yB x9 1,yB x9 2,yB x9 3,yB x9 4⟩;have t4:=yB s9' 4;simp at t4;clear b9 x9 s9' hwA lA xA;go_upto_region 10 with(at_builtin;rw[<-HWA.out];refine jT AM (by kernel_rfl) _ _ rfl (w.heap.size+3) _ l2 (dJ s.xB) rfl HOA.out.r2 (some ⟨w9.heap.size,0,none⟩) 1 1 (dJ [⟨s.fA,kk,j,x⟩]) rfl rfl (λh=>by cases h) HRW.out (tY _) (by unfold maxLen;omega) (by omega) (vA hszr LA.out.size) ?_;intro vB wB oB gB _;obtain⟨aB,cB,rfl,-⟩:=jM oB;have ktB:=jH.grown HOA.out.r2 gB;have bB:=(ktB.block w6.heap.size _ _ (pB B9.out LA.out) (by decide)).trans (pB B9.out LA.out);have eB:=yB bB 1;have fB:=pA bB 1;simp at eB;have BB:=aA bB;have KTB:=aA ktB;have OB:=aA oB;have GB:=aA gB;clear bB ktB oB gB);have hoB:fI wB (w.heap.size+3) (some ⟨g,0,none⟩) aB g3 l1 r1 (l2+1) cB l3 r3 {s with yA:=s.yA.set j r,xB:=s.xB++[⟨s.fA,kk,j,x⟩]}:=HOA.out.xB KTB.out (by omega) (by rw[rX];exact OB.out);obtain⟨wC,hwC⟩:∃wC,wC=wB.setCell ⟨w6.heap.size,1,none⟩ (.slice aB (l2+1) cB):=⟨_,rfl⟩;rw[<-hwC];have bC:wC.heap[w6.heap.size]?=some (.cells #[.slice (some ⟨g,0,none⟩) l1 r1,.slice aB (l2+1) cB,.slice g3 l3 r3,.int .i64 s.gA,.int .i64 s.fA,.int .i64 s.nB,.int .i64 s.uA,.int .i64 s.iA] 39 (0,0)):=by rw[hwC];exact bG BB.out (j:=1) _
   have ktC:jH 39 wB wC:=by rw[hwC];exact jH.setCell BB.out _
   have hoC:=hoB.typeT ktC (by decide);have FC:Hid (Below w.heap.size w wC):=by
    have lB:Below w.heap.size w wB:=(F9.out.trans (LA.out.mono F9.out.size)).grown GB.out (by have:=LA.out.size;omega) (λi hi=>by have:=(HOA.out.r2.lt i hi).1;omega);show Below w.heap.size w wC;rw[hwC];exact lB.setCell (p:=⟨w6.heap.size,1,none⟩) (by show w.heap.size<=w6.heap.size;have:=HL6.out;omega) _
   have rB:wB.heap[w.heap.size+2]?=_:=(KTB.out.block (w.heap.size+2) _ _ (pB R9.out LA.out) (by decide)).trans (pB R9.out LA.out);have sB:wB.heap[w.heap.size+1]?=_:=(KTB.out.block (w.heap.size+1) _ _ (pB S9.out LA.out) (by decide)).trans (pB S9.out LA.out);have rC:wC.heap[w.heap.size+2]?=some (.cells #[.slice none 0 0,.slice none 0 0,.slice none 0 0,.int .i64 0,.int .i64 0,.int .i64 0,.int .i64 0,.int .i64 0] 39 (0,0)):=by rw[hwC];exact(jG wB ⟨w6.heap.size,1,none⟩ (w.heap.size+2) _ (by show w.heap.size+2≠w6.heap.size;have:=HL6.out;omega)).trans rB
   have sC:wC.heap[w.heap.size+1]?=some (.cells #[.slice b1 m1 d1,.slice b2 m2 d2,.slice b3 m3 d3,.int .i64 s.gA,.int .i64 s.fA,.int .i64 s.nB,.int .i64 s.uA,.int .i64 s.iA] 39 (0,0)):=by rw[hwC];exact(jG wB ⟨w6.heap.size,1,none⟩ (w.heap.size+1) _ (by show w.heap.size+1≠w6.heap.size;have:=HL6.out;omega)).trans sB
   clear y0 y1 y2 y3 y4 y5 y6 y7 z0 z1 z2 z3 z4 t4 eB fB hwC;obtain⟨y0,y1,y2,y3,y4,y5,y6,y7⟩:=gD bC;have f4:=pA bC 4;have hwr:IntKind.i64.wrap (s.fA+1)=s.fA+1:=by rw[uB];have:=HR.out.nt;omega
   have BC:=aA bC;have HOC:=aA hoC;have RC:=aA rC;have SC:=aA sC;clear bC hoC rC sC ktC hoB rB sB;go_upto_region 11 with fail;obtain⟨wD,hwD⟩:∃wD,wD=wC.setCell ⟨w6.heap.size,4,none⟩ (.int .i64 (s.fA+1)):=⟨_,rfl⟩;rw[<-hwD];have bD:wD.heap[w6.heap.size]?=some (.cells #[.slice (some ⟨g,0,none⟩) l1 r1,.slice aB (l2+1) cB,.slice g3 l3 r3,.int .i64 s.gA,.int .i64 (s.fA+1),.int .i64 s.nB,.int .i64 s.uA,.int .i64 s.iA] 39 (0,0)):=by rw[hwD];exact bG BC.out (j:=4) _
   have ktD:jH 39 wC wD:=by rw[hwD];exact jH.setCell BC.out _
   have hoD:=HOC.out.typeT ktD (by decide);have FD:Hid (Below w.heap.size w wD):=by
    show Below w.heap.size w wD;rw[hwD];exact FC.out.setCell (p:=⟨w6.heap.size,4,none⟩) (by show w.heap.size<=w6.heap.size;have:=HL6.out;omega) _
   have rD:wD.heap[w.heap.size+2]?=some (.cells #[.slice none 0 0,.slice none 0 0,.slice none 0 0,.int .i64 0,.int .i64 0,.int .i64 0,.int .i64 0,.int .i64 0] 39 (0,0)):=by rw[hwD];exact(jG wC ⟨w6.heap.size,4,none⟩ (w.heap.size+2) _ (by show w.heap.size+2≠w6.heap.size;have:=HL6.out;omega)).trans RC.out
   have sD:wD.heap[w.heap.size+1]?=some (.cells #[.slice b1 m1 d1,.slice b2 m2 d2,.slice b3 m3 d3,.int .i64 s.gA,.int .i64 s.fA,.int .i64 s.nB,.int .i64 s.uA,.int .i64 s.iA] 39 (0,0)):=by rw[hwD];exact(jG wC ⟨w6.heap.size,4,none⟩ (w.heap.size+1) _ (by show w.heap.size+1≠w6.heap.size;have:=HL6.out;omega)).trans SC.out
   clear y0 y1 y2 y3 y4 y5 y6 y7 f4 hwr hwD;obtain⟨y0,y1,y2,y3,y4,y5,y6,y7⟩:=gD bD;have t4:=yB sD 4;simp at t4;obtain⟨z0,z1,z2,z3,z4,z5,z6,z7⟩:=gD rD;have e0:=pA rD 0;have e1:=pA rD 1;have e2:=pA rD 2;have e3:=pA rD 3;have e4:=pA rD 4;have e5:=pA rD 5;have e6:=pA rD 6;have e7:=pA rD 7;have RD:=aA rD;have HOD:=aA hoD;have hne1:w6.heap.size≠w.heap.size+1+1:=by have:=HL6.out;omega
   have hne2:w.heap.size+1+1≠w6.heap.size:=by have:=HL6.out;omega
   clear rD hoD bD ktD sD;go_region;generalize hWX:World.setCell (World.setCell (World.setCell (World.setCell (World.setCell (World.setCell (World.setCell (World.setCell wD _ _) _ _) _ _) _ _) _ _) _ _) _ _) _ _=WX;obtain⟨bX,tX⟩:=eD RD.out hWX;obtain⟨z0,z1,z2,z3,z4,z5,z6,z7⟩:=gD bX;go_wp2_with fail;have eS:lJ s (j:Int)={s with yA:=s.yA.set j r,xB:=s.xB++[⟨s.fA,kk,j,x⟩],fA:=s.fA+1}:=by
    unfold lJ oL;rw[HKK.out,Int.toNat_natCast,HLN.out];rfl
   exact dB (v:=.tuple #[.agg #[.slice (some ⟨g,0,none⟩) l1 r1,.slice aB (l2+1) cB,.slice g3 l3 r3,.int .i64 s.gA,.int .i64 (s.fA+1),.int .i64 s.nB,.int .i64 s.uA,.int .i64 s.iA],.int .i64 s.fA,.int .i64 0]) (by simp[results,Tryz.results50,go_sem,z0,z1,z2,z3,z4,z5,z6,z7]) rfl ⟨.agg #[.slice (some ⟨g,0,none⟩) l1 r1,.slice aB (l2+1) cB,.slice g3 l3 r3,.int .i64 s.gA,.int .i64 (s.fA+1),.int .i64 s.nB,.int .i64 s.uA,.int .i64 s.iA],by rw[HEN.out.1,HEN.out.2],⟨λ_=>⟨_,_,_,_,_,_,_,_,_,rfl,by rw[eS];exact(((HOD.out.bF RD.out (by decide) tX).lower (by omega)).sA (dA _ _).drew).same rfl rfl rfl⟩,λh=>absurd HEN.out.1 h⟩,(FD.out.trans (tX.below (by have:=FD.out.size;omega) (by omega))).drew⟩
 ·have hz':(E0 !=0)=true:=kD.2 hz;have HZ:=aA hz;have eE:E=E0:=by rw[HE.out];unfold mK;rw[<-HE0.out,qA hz]
  clear hz y0 y1 y2 y3 y4 y5 y6 y7;go_wp2_with fail;generalize hW9:World.setCell (World.setCell (World.setCell (World.setCell (World.setCell (World.setCell (World.setCell (World.setCell w4 _ _) _ _) _ _) _ _) _ _) _ _) _ _) _ _=W9;obtain⟨b9,t9⟩:=eD R4.out hW9;obtain⟨z0,z1,z2,z3,z4,z5,z6,z7⟩:=gD b9;exact dB (v:=.tuple #[iG,.int .i64 0,.int .i64 E0]) (by simp[results,Tryz.results50,go_sem,z0,z1,z2,z3,z4,z5,z6,z7,iG]) rfl (HER.out E0 _ _ HZ.out eE K4.out t9)
def sW(p:lD)(s:yC)(q:Nat):yC:={s with yA:=s.yA.set q (bK p q (oF s q)),iA:=s.iA+cO p q (oF s q)}
theorem qG.kB{W W':World}(h:Below W.heap.size W W'):qG W W':=λk cur T hk _ _=>h.block k (bE hk)
theorem qG.trans{A B C:World}(h:qG A B)(k:qG B C):qG A C:=λi cur T hk h1 h2=>(k i cur T ((h i cur T hk h1 h2).trans hk) h1 h2).trans (h i cur T hk h1 h2)
theorem qG.of_typeI{A B:World}(h:jH 110 A B):qG A B:=λi cur T hk h1 h2=>h.block i cur T hk h2
theorem qG.of_typeS{A B:World}(h:jH 39 A B):qG A B:=λi cur T hk h1 h2=>h.block i cur T hk h1
theorem qG.row{W W':World}{base n:Nat}{v:Value}{cs:List Value}(k:qG W W')(h:W.ownsRow base 116 4 v n cs):W'.ownsRow base 116 4 v n cs:=fZ h (λi hi=>by
 rcases h.2 with⟨rfl,_⟩|⟨g,cap,cur,rfl,hb,hg,_⟩;·cases hi
 ·cases hi;exact k g cur _ hg (by decide) (by decide))
theorem OW(p:lD)(a1 a2 a3:Option Addr)(n1 c1 n2 c2 n3 c3:Nat)(s:yC)(q:Nat)(n t:Nat)(w0 w:World)(hp:sG w0 a1 a2 a3 n1 n2 n3 p)(h0:Below w0.heap.size w0 w)(ht:w0.heap.size<=t)(hn0:w0.heap.size<=n)(hnw:n<=w.heap.size)(hc:iF p=0)(hq:q<n2)(hsr:s.yA.length=n2)(hl:tI (oF s q)=true)(hd:0<=s.iA/\s.iA<=10000000)(hbx:mE w n t s):
 Calls Tryz.prog 86 #[.agg #[.slice a1 n1 c1,.slice a2 n2 c2,.slice a3 n3 c3],.pointer (some ⟨t,0,none⟩),.int .i64 q] w λe w'=>∃v,e=.returned v/\GM w' w.heap.size v (vL p q (oF s q))/\mE w' n t (sW p s q)/\qE n t w w'/\qG w w':=by
 obtain⟨W1,hW1⟩:∃W1,W1=w.alloc (.cells #[.slice a1 n1 c1,.slice a2 n2 c2,.slice a3 n3 c3] 26):=⟨_,rfl⟩;have k1:Below w.heap.size w W1:=by rw[hW1];exact(dA _ _).alloc (eA _) _
 have b1':W1.heap[w.heap.size]?=some (.cells #[.slice a1 n1 c1,.slice a2 n2 c2,.slice a3 n3 c3] 26 (0,0)):=by rw[hW1];exact jA w _
 have hz1:W1.heap.size=w.heap.size+1:=by rw[hW1];simp
 have hs0:=h0.size;have hlt:t<w.heap.size:=by obtain⟨_,_,_,_,_,_,_,_,_,h,_⟩:=hbx;exact bE h
 have HBX0:=aA hbx;obtain⟨b1,b2,b3,m1,d1,m2,d2,m3,d3,hb,ho⟩:=hbx.sA k1;have hql:q<s.yA.length:=by rw[hsr];exact hq
 have hm1:m1=n2:=by rw[<-ho.l1,hsr]
 have hp1:=hp.sA (h0.trans (k1.mono hs0));obtain⟨gq,oq,hga,hgl,e0,e1,e2⟩:=hp1.p2.get (k:=q) (by rw[hp.l2];exact hq);have hqd:(p.jB[q]'(by rw[hp.l2];exact hq))=fL p q:=(iZ (by rw[hp.l2];exact hq)).symm;rw[hqd]at e0 e1 e2;have hlim:=(gS hc).jB _ (qB (show q<p.jB.length by rw[hp.l2];exact hq));rw[hqd]at hlim;have hlim1:1<=(fL p q).yD/\(fL p q).yD<=6:=⟨hlim.1,hlim.2.1⟩;obtain⟨lim,hlimd⟩:∃lim,lim=(fL p q).yD:=⟨_,rfl⟩;rw[<-hlimd]at e1 hlim1;subst hga;obtain⟨vs,hr1,hlv⟩:=ho.r1;obtain⟨g,hgv⟩:∃g,b1=some ⟨g,0,none⟩:=by
  rcases hr1.2 with⟨e,e0⟩|⟨g,cap,cur,e,_⟩;·exfalso;omega
  ·cases e;exact⟨g,rfl⟩
 subst hgv;obtain⟨v,bl,cl,hv1,hlj⟩:=hlv.get q hql;have hcell:=hr1.cellAt q (by omega);rw[hv1,hlj.v]at hcell;have hsj:s.yA[q]'hql=oF s q:=(rU hql).symm;rw[hsj]at hcell hlj;obtain⟨L,hL⟩:∃L,L=(oF s q).length:=⟨_,rfl⟩;rw[<-hL]at hcell;have hgl2:g<W1.heap.size:=(hr1.lt g rfl).2;have hgn:n<=g:=(hr1.lt g rfl).1;have HSS:Hid (∀W',Below W1.heap.size W1 W'->(W'.cell? ⟨t,0,none⟩=some (.slice (some ⟨g,0,none⟩) m1 d1)/\W'.cell? ⟨g,q,none⟩=some (.slice bl L cl)/\W'.cell? ⟨w.heap.size,1,none⟩=some (.slice (some ⟨gq,oq,none⟩) n2 c2)/\W'.cell? ⟨gq,oq+q*3+1,none⟩=some (.int .i64 lim))):=λW' h=>⟨yB (pB hb h) 0,(h.cell (p:=⟨g,q,none⟩) hgl2).trans hcell,yB (pB b1' h) 1,(h.cell (p:=⟨gq,oq+q*3+1,none⟩) hgl).trans e1⟩;have HL:=aA hL;have HLIM:=aA hlimd;have HHL:=aA hl;have HHB:=aA hb;have HHO:=aA ho;have HQL:=aA hql;have HW1:=aA hW1;have K1:=aA k1;have HC:=aA hc;have HP1:=aA hp1;have HP:=aA hp;have H0:=aA h0;have HX1:=aA b1';have HZ1:=aA hz1;have HG:Hid (g<W1.heap.size/\n<=g):=⟨hgl2,hgn⟩;have j1:(0:Int)<=(q:Int):=by omega
 have j2:(q:Int)<m1:=by omega
 have j3:(q:Int)<n2:=by omega
 clear hW1 k1 b1' hz1 hb ho hp hp1 h0 hc hbx hqd hlim hlimd hr1 hlv hv1 hlj hsj hcell e0 e1 e2 hL hl;go_enter Tryz.func86,Tryz.ntmps86;go_upto_region 1 with fail;rw[<-HW1.out];refine zB (S:=λW'=>(W'.cell? ⟨t,0,none⟩=some (.slice (some ⟨g,0,none⟩) m1 d1)/\W'.cell? ⟨g,q,none⟩=some (.slice bl L cl)/\W'.cell? ⟨w.heap.size,1,none⟩=some (.slice (some ⟨gq,oq,none⟩) n2 c2)/\W'.cell? ⟨gq,oq+q*3+1,none⟩=some (.int .i64 lim))) (by kernel_rfl) (HSS.out _ (dA _ _).drew) (λhHeld=>?_);refine tk 0 ?_;refine tk 1 ?_;refine tk 2 ?_;refine tk 3 ?_;refine tk 4 ?_;refine tk 5 ?_;refine tk 6 ?_;refine tk 7 ?_;refine tk 8 ?_;refine tk 9 ?_;refine tk 10 ?_;refine tk 11 ?_;refine tk 12 ?_;refine tk 13 ?_;refine tk 14 ?_;refine gC (by kernel_rfl) ?_ _;clear hHeld;have kd:Below w.heap.size w W1.drew:=K1.out.drew;by_cases hc1:(L:Int)<=lim
 ·have HA:Hid (vL p q (oF s q)=[]):=by show vL p q (oF s q)=[];unfold vL;rw[qA (by rw[<-HL.out,<-HLIM.out];exact hc1)]
  have HS:Hid (sW p s q=s):=by
   show sW p s q=s;unfold sW bK cO;rw[qA (by rw[<-HL.out,<-HLIM.out];exact hc1),qA (by rw[<-HL.out,<-HLIM.out];exact hc1),rU HQL.out,List.set_getElem_self];simp
  have HKD:=aA kd;clear kd;go_wp2_with fail;go_ret;exact⟨_,rfl,⟨0,by rw[HA.out];exact jC _ _ _ _⟩,by rw[HS.out];exact HBX0.out.sA HKD.out,qE.kB HKD.out hnw,qG.kB HKD.out⟩
 ·obtain⟨x,r,hxr⟩:∃x r,oF s q=x::r:=by
   cases h:oF s q with
   |nil=>exfalso;have:=HL.out;rw[h]at this;simp at this;omega
   |cons x r=>exact⟨x,r,rfl⟩
  have HXR:=aA hxr;obtain⟨V1,hV1⟩:∃V1,V1=W1.drew:=⟨_,rfl⟩;rw[<-hV1]at kd⊢;have kd1:Below W1.heap.size W1 V1:=by rw[hV1];exact(dA _ _).drew
  have hov:=HHO.out.sA kd1;obtain⟨g',gi,oi,L',cl',hgg,hh⟩:=hov.head HQL.out hxr;cases hgg;have hxo:nH x=true:=(iW.1 (by have:=HHL.out;rw[hxr]at this;exact this)).1 x jE;have HA:Hid (vL p q (oF s q)=pI p q x):=by show vL p q (oF s q)=_;unfold vL;rw[kA (by rw[<-HL.out,<-HLIM.out];exact hc1),hxr]
  have HS:Hid (sW p s q={s with yA:=s.yA.set q r,iA:=s.iA+1}):=by
   show sW p s q=_;unfold sW bK cO;rw[kA (by rw[<-HL.out,<-HLIM.out];exact hc1),kA (by rw[<-HL.out,<-HLIM.out];exact hc1),hxr];rfl
  have hbv:=pB HHB.out kd1;obtain⟨y0,y1,y2,y3,y4,y5,y6,y7⟩:=gD hbv;have c0:=hh.cell;obtain⟨i0,i1,i2,i3,i4⟩:=hh.it;have hcl:=hh.le;have u0:(0:Int)<((L'+1:Nat):Int):=by omega
  have HHH:=aA hh;have HXO:=aA hxo;have HBV:=aA hbv;have HOV:=aA hov;have KD:=aA kd;have KD1:=aA kd1;have HC1:=aA hc1;have jlim:¬(L:Int)<=lim:=hc1;clear hV1 hov hh hxr hxo hbv kd kd1;go_upto_region 4 with fail;obtain⟨V2,hV2⟩:∃V2,V2=V1.alloc (.cells #[.int .i64 x.seq,.string x.key,.string x.body,.bool x.again,.int .i64 x.fC] 86):=⟨_,rfl⟩;rw[<-hV2];have l2:Below V1.heap.size V1 V2:=by rw[hV2];exact(dA _ _).alloc (eA _) _
  have x2:V2.heap[V1.heap.size]?=some (.cells #[.int .i64 x.seq,.string x.key,.string x.body,.bool x.again,.int .i64 x.fC] 86 (0,0)):=by rw[hV2];exact jA V1 _
  have hgl':g<V1.heap.size:=by obtain⟨_,cu,hc⟩:=HHH.out.base;exact bE hc
  have c8:=(l2.cell (p:=⟨g,q,none⟩) hgl').trans HHH.out.cell;have f8:=(l2.frozen (p:=⟨g,q,none⟩) hgl').trans HHH.out.frz;have hb2:=pB HBV.out l2;have HO2:=aA (HOV.out.sA l2);have HLV:=aA (HHH.out.rest.sA l2);have X2:=aA x2;have B2:=aA hb2;have L2:=aA l2;clear y0 y1 y2 y3 y4 y5 y6 y7 c0 i0 i1 i2 i3 i4 hV2 x2 l2;obtain⟨y0,y1,y2,y3,y4,y5,y6,y7⟩:=gD hb2;have hcm:=HHH.out.cm;unfold maxLen at hcm;have u1:(1:Int)<=((L'+1:Nat):Int):=by omega
  have u2:((L'+1:Nat):Int)<=(cl':Int):=by omega
  have u3:(1:Int)<=(cl':Int):=by omega
  have u4:(1:Int)<=(L':Int)+1:=by omega
  have u5:(L':Int)+1<=(cl':Int):=by omega
  clear hb2;go_region;obtain⟨A,hA⟩:∃A,A=if cl'=1 then some (⟨gi,oi,none⟩:Addr)else some ⟨gi,oi+5,none⟩:=⟨_,rfl⟩;rw[<-hA]at HLV⊢;obtain⟨V3,hV3⟩:∃V3,V3=(V2.setCell ⟨g,q,none⟩ (.slice A L' (cl'-1))).drew:=⟨_,rfl⟩;rw[<-hV3];have kt3:jH 110 V2 (V2.setCell ⟨g,q,none⟩ (.slice A L' (cl'-1))):=by
   obtain⟨_,cu,hc⟩:=mT HO2.out.r1.choose_spec.1;exact jH.setCell hc _
  have ho3:fI V3 n (some ⟨g,0,none⟩) b2 b3 m1 d1 m2 d2 m3 d3 {s with yA:=s.yA.set q r}:=by rw[hV3];exact(HO2.out.line HQL.out HLV.out rfl).sA (dA _ _).drew
  have b3':V3.heap[t]?=some (.cells #[.slice (some ⟨g,0,none⟩) m1 d1,.slice b2 m2 d2,.slice b3 m3 d3,.int .i64 s.gA,.int .i64 s.fA,.int .i64 s.nB,.int .i64 s.uA,.int .i64 s.iA] 39 (0,0)):=by rw[hV3];exact(kt3.block t _ _ B2.out (by decide)).trans B2.out
  have x3:V3.heap[V1.heap.size]?=some (.cells #[.int .i64 x.seq,.string x.key,.string x.body,.bool x.again,.int .i64 x.fC] 86 (0,0)):=by rw[hV3];exact(kt3.block V1.heap.size _ _ X2.out (by decide)).trans X2.out
  have p3:V3.heap[w.heap.size]?=some (.cells #[.slice a1 n1 c1,.slice (some ⟨gq,oq,none⟩) n2 c2,.slice a3 n3 c3] 26 (0,0)):=by
   have h:=pB (pB HX1.out KD1.out) L2.out;rw[hV3];exact(kt3.block w.heap.size _ _ h (by decide)).trans h
  have F3:qE n t w V3:=by
   have h1:qE n t w V2:=(qE.kB KD.out hnw).trans (qE.kB L2.out (by have:=KD.out.size;omega));rw[hV3];exact(h1.typeSet HG.out.2 _).trans (qE.kB (dA _ _).drew (by have:=h1.size;simp;omega))
  have hbx3:mE V3 n t {s with yA:=s.yA.set q r}:=⟨_,_,_,_,_,_,_,_,_,b3',ho3⟩;obtain⟨V4,hV4⟩:∃V4,V4=V3.setCell ⟨t,7,none⟩ (.int .i64 (s.iA+1)):=⟨_,rfl⟩;have hbx4:mE V4 n t {s with yA:=s.yA.set q r,iA:=s.iA+1}:=by rw[hV4];exact hbx3.field7 _
  have t4:vJ t V3 V4:=by rw[hV4];exact uF _ _ _ _
  have F4:qE n t w V4:=F3.turnB t4 (by have:=F3.size;omega);have xlt:=bE x3;have x4:=(t4.block _ xlt (by have:=KD.out.size;omega)).trans x3;have p4:=(t4.block _ (by have:=F3.size;have:=bE p3;omega) (by omega)).trans p3;have B4:Below w.heap.size V4 V4:=dA _ _;have HKP:Hid (qG w V4):=((qG.kB (KD.out.trans (L2.out.mono KD.out.size))).trans (qG.of_typeI kt3)).trans (((qG.kB (by rw[hV3];exact(dA _ _).drew):qG _ V3)).trans (by rw[hV4];exact qG.of_typeS (jH.setCell b3' _)));have HD:=aA (QP p a1 (some ⟨gq,oq,none⟩) a3 n1 c1 n2 c2 n3 c3 q x V4 (HP.out.sA (H0.out.trans (F4.below (by omega) ht))) HC.out hq HXO.out);have HBX4:=aA hbx4;have HF4:=aA F4;have HV4:=aA hV4;obtain⟨e0,e1,e2,e3,e4,e5,e6,e7⟩:=gD b3';have f7:=pA b3' 7;have jw:IntKind.i64.wrap (s.iA+1)=s.iA+1:=by rw[uB];omega
  have s4:=F4.size;have X4:=aA x4;have P4:=aA p4;clear y0 y1 y2 y3 y4 y5 y6 y7 u0 u1 u2 u3 u4 u5 c8 f8 hA hV3 hV4 kt3 ho3 b3' x3 p3 F3 hbx3 hbx4 t4 F4 x4 p4 B4;unfold zD.val at HD;go_upto_region 6 with fail;rw[<-HV4.out];clear e0 e1 e2 e3 e4 e5 e6 e7 f7 jw;obtain⟨z0,z1,z2⟩:=xH P4.out;have i0:=yB X4.out 0;have i1:=yB X4.out 1;have i2:=yB X4.out 2;have i3:=yB X4.out 3;have i4:=yB X4.out 4;simp at i0 i1 i2 i3 i4;go_wp2_with fail;refine HD.out.mono ?_;rintro e w6⟨v6,rfl,⟨m6,ho6⟩,k6⟩;have K6:=aA k6;have HO6:=aA ho6;clear k6 ho6 z0 z1 z2 i0 i1 i2 i3 i4;go_wp2_with fail;go_ret;exact⟨v6,rfl,⟨m6,by rw[HA.out];exact xS HO6.out s4⟩,by rw[HS.out];exact HBX4.out.sA K6.out,HF4.out.trans (qE.kB K6.out (by omega)),HKP.out.trans (qG.kB K6.out)⟩
end Go.Proofs.YtedmnjimkhamaaaGreatDoor
