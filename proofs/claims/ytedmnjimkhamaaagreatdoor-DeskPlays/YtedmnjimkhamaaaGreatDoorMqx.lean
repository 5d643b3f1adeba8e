import Derived.Test.YtedmnjimkhamaaaGreatDoorMex
namespace Go.Proofs.YtedmnjimkhamaaaGreatDoor
set_option linter.unusedVariables false
set_option maxRecDepth 100000
set_option maxHeartbeats 1000000
open Go.RowKit Go.Maps
theorem FI(s:yC)(b1 b2 b3:Option Addr)(m1 d1 m2 d2 m3 d3:Nat)(t:Int)(w:World)(hs:gK w b1 b2 b3 m1 m2 m3 s):
 Calls Tryz.prog 119 #[.agg #[.slice b1 m1 d1,.slice b2 m2 d2,.slice b3 m3 d3,.int .i64 s.gA,.int .i64 s.fA,.int .i64 s.nB,.int .i64 s.uA,.int .i64 s.iA],.int .i64 t] w λe w'=>e=.returned (.int .i64 (xE s t))/\Below w.heap.size w w':=by
 obtain⟨W1,hW1,hBw,hs1,hbx⟩:=jZ w #[.slice b1 m1 d1,.slice b2 m2 d2,.slice b3 m3 d3,.int .i64 s.gA,.int .i64 s.fA,.int .i64 s.nB,.int .i64 s.uA,.int .i64 s.iA];have HW1:=aA hW1;have HS:=aA (hs.sA hBw);have HM2:Hid (s.xB.length=m2):=hs.l2;have hx2:=hs.x2;have s0:=hBw.size;obtain⟨y0,y1,y2,y3,y4,y5,y6,y7⟩:=gD (hbx W1 (dA _ _));clear hW1 hbx hs1 hs;go_enter Tryz.func119,Tryz.ntmps119;go_wp2_with fail;rw[<-HW1.out];go_loopw[5,6](λu i wr=>∃(k n:Nat),k<=m2/\i=.int .i64 k/\u=.int .i64 n/\n<=k/\n=((s.xB.take k).filter (λo=>decide (o.fE=t))).length/\wr=W1)(λ_ i _=>m2-(intOf i).toNat);case atStart=>exact⟨0,0,zA _,rfl,rfl,eA _,rfl,rfl⟩
 case round=>
  obtain⟨k,n,hk,rfl,rfl,hnk,hn,rfl⟩:=hrel;have HN:=aA hn;clear hn;by_cases hlt:k<m2
  ·have HLT:=aA hlt;have hkl:k<s.xB.length:=by rw[HM2.out];exact hlt
   obtain⟨g,o,ha,hg,e1,e2,e3,e4⟩:=HS.out.q2.get hkl;subst ha;have HST:=aA (PV s.xB t hkl);obtain⟨x,hx⟩:∃x,x=s.xB[k]:=⟨_,rfl⟩;rw[<-hx]at e2 HST;obtain⟨tk,htk⟩:∃tk,tk=x.fE:=⟨_,rfl⟩;rw[<-htk]at e2 HST;rw[<-HN.out]at HST;have j1:(0:Int)<=(k:Int):=by omega
   have j2:(k:Int)<m2:=by omega
   clear hx htk e1 e3 e4;by_cases htk:tk=t
   ·have hb:(tk==t)=true:=by simpa using htk
    rw[qA htk]at HST;clear htk;go_wp2_with fail;go_roundw;case rel=>exact⟨k+1,n+1,HLT.out,by have:=HLT.out;go_num,by have:=HLT.out;go_num,by omega,HST.out.symm,by first|trivial|rfl⟩
    case measure=>have:=HLT.out;simp[intOf];omega
   ·have hb:(tk==t)=false:=by simpa using htk
    rw[kA htk]at HST;clear htk;go_wp2_with fail;go_roundw;case rel=>exact⟨k+1,n,HLT.out,by have:=HLT.out;go_num,rfl,by omega,HST.out.symm,by first|trivial|rfl⟩
    case measure=>have:=HLT.out;simp[intOf];omega
  ·have hke:k=m2:=by omega
   subst hke;clear hlt hk;go_wp2_with fail;go_ret;refine⟨?_,hBw⟩;have:n=xE s t:=by
    have:=HN.out;rw[iB (by rw[HM2.out];exact eA _)]at this;exact this
   show Ending.returned (Value.int .i64 (n:Nat))=_;rw[this]
theorem CQ{b n:Nat}{W w':World}(h:Below b W w'):Below b W (w'.drewN n):=⟨h.os,h.tape,h.output,h.size,h.block⟩
theorem WR(p:lD)(a1 a2 a3:Option Addr)(n1 c1 n2 c2 n3 c3:Nat)(s:yC)(b1 b2 b3:Option Addr)(m1 d1 m2 d2 m3 d3:Nat)(w:World)(hp:sG w a1 a2 a3 n1 n2 n3 p)(hs:gK w b1 b2 b3 m1 m2 m3 s)
 (hform:∀W,Below w.heap.size w W->iF p=0->m3<=4->Calls Tryz.prog 118 #[.agg #[.slice a1 n1 c1,.slice a2 n2 c2,.slice a3 n3 c3],.agg #[.slice b1 m1 d1,.slice b2 m2 d2,.slice b3 m3 d3,.int .i64 s.gA,.int .i64 s.fA,.int .i64 s.nB,.int .i64 s.uA,.int .i64 s.iA]] W λe w'=>e=.returned (.bool (uR p s))/\Below W.heap.size W w'):
 Calls Tryz.prog 76 #[.agg #[.slice a1 n1 c1,.slice a2 n2 c2,.slice a3 n3 c3],.agg #[.slice b1 m1 d1,.slice b2 m2 d2,.slice b3 m3 d3,.int .i64 s.gA,.int .i64 s.fA,.int .i64 s.nB,.int .i64 s.uA,.int .i64 s.iA]] w λe w'=>e=.returned (.int .i64 (zG p s))/\Below w.heap.size w w':=by
 obtain⟨D,hD⟩:∃D:Int,D=zG p s:=⟨_,rfl⟩;rw[<-hD];have HD:=aA hD;obtain⟨W2,hW2,hBw,hs2,hbx⟩:=mV w #[.slice a1 n1 c1,.slice a2 n2 c2,.slice a3 n3 c3] #[.slice b1 m1 d1,.slice b2 m2 d2,.slice b3 m3 d3,.int .i64 s.gA,.int .i64 s.fA,.int .i64 s.nB,.int .i64 s.uA,.int .i64 s.iA];have HW2:=aA hW2;have BX:=aA hbx;have HS:=aA (hs.sA hBw);have HP:=aA (hp.sA hBw);have HM1:Hid (s.yA.length=m1):=hs.l1;have HM2:Hid (s.xB.length=m2):=hs.l2;have HM3:Hid (s.nA.length=m3):=hs.l3;have HN2:Hid (p.jB.length=n2):=hp.l2;have s0:=hBw.size;have hs2':w.heap.size+1<W2.heap.size:=by omega
 have HF:Hid (∀W,Below W2.heap.size W2 W->iF p=0->m3<=4->Calls Tryz.prog 118 #[.agg #[.slice a1 n1 c1,.slice a2 n2 c2,.slice a3 n3 c3],.agg #[.slice b1 m1 d1,.slice b2 m2 d2,.slice b3 m3 d3,.int .i64 s.gA,.int .i64 s.fA,.int .i64 s.nB,.int .i64 s.uA,.int .i64 s.iA]] W λe w'=>e=.returned (.bool (uR p s))/\Below W.heap.size W w'):=λW hW=>hform W (hBw.trans (hW.mono s0));obtain⟨x0,x1,x2⟩:=xH (hbx W2 (dA _ _)).1;obtain⟨y0,y1,y2,y3,y4,y5,y6,y7⟩:=gD (hbx W2 (dA _ _)).2;clear hW2 hbx hs2 hp hs hD hform;go_enter Tryz.func76,Tryz.ntmps76;go_wp2_with fail;rw[<-HW2.out];refine(CJ p _ _ _ _ _ _ _ _ _ _ HP.out.l1 HP.out.l2 HP.out.l3 HP.out.sz HP.out.p1 HP.out.p2 HP.out.p3).mono ?_;rintro e w3⟨rfl,k3⟩;obtain⟨E,hE⟩:∃E:Int,E=iF p:=⟨_,rfl⟩;rw[<-hE];have HE:=aA hE;have s3:=k3.size;clear hE x0 x1 x2 y0 y1 y2 y3 y4 y5 y6 y7;obtain⟨x0,x1,x2⟩:=xH (BX.out w3 k3).1;obtain⟨y0,y1,y2,y3,y4,y5,y6,y7⟩:=gD (BX.out w3 k3).2;by_cases h0:E=0
 ·subst h0;by_cases h4:4<m3
  ·have HD2:Hid (D=2):=by show D=2;rw[HD.out];unfold zG;rw[kA (by rw[<-HE.out];simp),qA (by rw[HM3.out];exact h4)]
   have i1:(4:Int)<m3:=by omega
   go_wp2_with fail;go_ret;exact⟨by rw[HD2.out];rfl,hBw.trans (k3.mono s0)⟩
  ·have i1:¬((4:Int)<m3):=by omega
   have HST:Hid (D=if uR p s=false then 1 else if(dT p s&&eT s)=false then 3 else if pS s=false then 10 else 0):=by
    show D=_;rw[HD.out];unfold zG;rw[kA (by rw[<-HE.out];simp),kA (by rw[HM3.out];exact h4)]
   have hm34:m3<=4:=by omega
   clear h4;go_wp2_with fail;refine(HF.out _ k3 HE.out.symm hm34).mono ?_;rintro e w4⟨rfl,k4'⟩;have k4:=k3.trans (k4'.mono s3);have s4:=k4.size;obtain⟨fb,hfb⟩:∃fb,fb=uR p s:=⟨_,rfl⟩;rw[<-hfb]at HST⊢;have HFB:=aA hfb;clear x0 x1 x2 y0 y1 y2 y3 y4 y5 y6 y7 hfb k4';obtain⟨x0,x1,x2⟩:=xH (BX.out w4 k4).1;obtain⟨y0,y1,y2,y3,y4,y5,y6,y7⟩:=gD (BX.out w4 k4).2;cases fb with
   |false=>
     have HD1:Hid (D=1):=by show D=1;rw[HST.out];rfl
     go_wp2_with fail;go_ret;exact⟨by rw[HD1.out];rfl,hBw.trans (k4.mono s0)⟩
   |true=>
     have hf:=HFB.out.symm;unfold uR at hf;simp only[aC]at hf;obtain⟨⟨⟨⟨g1,g2⟩,g3⟩,g4⟩,g5⟩:=hf;have HR:Hid (nP p):=gS HE.out.symm;have HBD:=aA (OV HR.out g1 g3 g4);have HMN:Hid (m1=n2):=by
      have:=g1;unfold yO at this;simp only[aC,mC]at this;show m1=n2;rw[<-HM1.out,<-HN2.out];exact this.1
     have hx1:m1<=4:=by have:=HR.out.few.2.1;rw[HN2.out]at this;have:=HMN.out;omega
     have HS2:Hid (D=if(dT p s&&eT s)=false then 3 else if pS s=false then 10 else 0):=HST.out;obtain⟨T,hT⟩:∃T,T=(s.yA.flatMap (λl=>l.map zD.seq)).length:=⟨_,rfl⟩;have HTT:=aA hT;have HQ:Hid ((kI s).length=T+m2):=by show(kI s).length=_;unfold kI;rw[dC,dE,HM2.out,hT]
     have hTb:T+m2<=100000000:=by have:=HBD.out.1;rw[HQ.out]at this;exact this
     unfold lS eP at g4;simp only[aC,mC]at g4;have HC:=aA g4;clear g1 g2 g3 g4 g5 hT HST HFB;go_wp2_with fail;go_loopw[6,7](λu i wr=>∃(k a:Nat),k<=m1/\i=.int .i64 k/\u=.int .i64 a/\a+((s.yA.drop k).flatMap (λl=>l.map zD.seq)).length=m2+T/\(∀q,q<k->iU p s q=true)/\∃n,wr=w4.drewN n)(λ_ i _=>m1-(intOf i).toNat);case atStart=>exact⟨0,m2,zA _,rfl,rfl,by rw[HTT.out];rfl,λq hq=>absurd hq (jI _),0,rfl⟩
     case round=>
      obtain⟨k,a,hk,rfl,rfl,ha,hrl,nd,rfl⟩:=hrel;have HA:=aA ha;have HRL:=aA hrl;have haT:a<=100000000:=by omega
      have kd:Below W2.heap.size W2 (w4.drewN nd):=⟨k4.os,k4.tape,k4.output,k4.size,k4.block⟩;clear ha hrl x0 x1 x2 y0 y1 y2 y3 y4 y5 y6 y7;obtain⟨wd,hwd⟩:∃wd,wd=w4.drewN nd:=⟨_,rfl⟩;have HWD:=aA hwd;rw[<-hwd]at kd⊢;clear hwd;obtain⟨x0,x1,x2⟩:=xH (BX.out wd kd).1;obtain⟨y0,y1,y2,y3,y4,y5,y6,y7⟩:=gD (BX.out wd kd).2;by_cases hlt:k<m1
      ·have HLT:=aA hlt;have hkl:k<s.yA.length:=by rw[HM1.out];exact hlt
       have hkq:k<p.jB.length:=by rw[HN2.out,<-HMN.out];exact hlt
       obtain⟨g,o,b,c,ha,hg,hl⟩:=(HS.out.q1.sA kd).get hkl;obtain⟨g',o',ha',hg',e1,e2,e3⟩:=(HP.out.p2.sA kd).get hkq;have hdr:s.yA.drop k=s.yA[k]::s.yA.drop (k+1):=vC hkl;subst ha ha';have c1:=hl.cell;have HRK:Hid (iU p s k=decide ((s.yA[k].length:Int)<=p.jB[k].yD)):=by
        show iU p s k=_;unfold iU;rw[tB,tB,tA hkl,tA hkq];rfl
       have HSTEP:Hid (a+s.yA[k].length+((s.yA.drop (k+1)).flatMap (λl=>l.map zD.seq)).length=m2+T):=by
        show a+s.yA[k].length+_=m2+T;have:=HA.out;rw[hdr,mF,dC,dE]at this;omega
       obtain⟨n,hn⟩:∃n,n=s.yA[k].length:=⟨_,rfl⟩;obtain⟨lim,hlim⟩:∃lim,lim=p.jB[k].yD:=⟨_,rfl⟩;rw[<-hn]at c1 HRK HSTEP;rw[<-hlim]at e2 HRK;have hnb:n<=100000000:=by have:=HSTEP.out;omega
       have hw:IntKind.i64.wrap ((a:Int)+n)=((a+n:Nat):Int):=by rw[uB];omega
       have j1:(0:Int)<=(k:Int):=by omega
       have j2:(k:Int)<m1:=by omega
       have j3:(k:Int)<n2:=by have:=HMN.out;omega
       clear hl hdr hn hlim e1 e3 hkl hkq;by_cases hbad:lim<(n:Int)
       ·have HD3:Hid (D=3):=by
         show D=3;rw[HS2.out,show dT p s=false from EG (f:=iU p s) (by rw[HM1.out];exact HLT.out) (by rw[HRK.out];exact vD (by omega))];rfl
        go_wp2_with fail;go_quiet(fail);go_wp2_with fail;go_ret;exact⟨by rw[HD3.out];rfl,hBw.trans ((CQ kd).mono s0)⟩
       ·have HYK:Hid (iU p s k=true):=by show iU p s k=true;rw[HRK.out];exact eC (by omega)
        go_wp2_with fail;go_quiet(fail);go_wp2_with fail;go_roundw;case rel=>exact⟨k+1,a+n,HLT.out,by have:=HLT.out;go_num,by go_num,HSTEP.out,λq hq=>by
         by_cases e:q=k;·rw[e];exact HYK.out
         ·exact HRL.out q (by omega),_,by rw[HWD.out,wK]⟩
        case measure=>have:=HLT.out;simp[intOf];omega
      ·have hke:k=m1:=by omega
       subst hke;have haT2:a=m2+T:=by
        have:=HA.out;rw[mD (by rw[HM1.out];exact eA _)]at this;simpa using this
       have HRY:Hid (dT p s=true):=by
        show(List.range s.yA.length).all (iU p s)=true;exact DS (λi hi=>HRL.out i (by rw[HM1.out]at hi;exact hi))
       have HAT:=aA haT2;clear hlt hk HA haT2;go_wp2_with fail;go_loopw[8](λi wr=>∃(j:Nat),j<=m3/\i=.int .i64 j/\(∀q,q<j->jU s q=true)/\Below W2.heap.size W2 wr)(λi _=>m3-(intOf i).toNat);case atStart=>exact⟨0,zA _,rfl,λq hq=>absurd hq (jI _),kd⟩
       case round=>
        clear x0 x1 x2 y0 y1 y2 y3 y4 y5 y6 y7;obtain⟨j,hj,rfl,hrt,hB⟩:=hrel;have HRT:=aA hrt;have hBs:=hB.size;clear hrt;obtain⟨y0,y1,y2,y3,y4,y5,y6,y7⟩:=gD (BX.out wr hB).2;by_cases hjl:j<m3
        ·have HJL:=aA hjl;have hkl:j<s.nA.length:=by rw[HM3.out];exact hjl
         obtain⟨g,o,ha,hg,e1,e2⟩:=HS.out.q3.get hkl;subst ha;have HRK:Hid (jU s j=decide ((xE s j:Int)<=s.nA[j].nD)):=by
          show jU s j=_;unfold jU;rw[tB,tA hkl];rfl
         obtain⟨tm,htm⟩:∃tm,tm=s.nA[j].nD:=⟨_,rfl⟩;rw[<-htm]at e2 HRK;have j1:(0:Int)<=(j:Int):=by omega
         have j2:(j:Int)<m3:=by omega
         have HE2:=aA e2;have SS:Hid (∀W,Below W2.heap.size W2 W->W.cell? ⟨w.heap.size+1,0,none⟩=some (.slice b1 k d1)/\W.cell? ⟨w.heap.size+1,1,none⟩=some (.slice b2 m2 d2)/\W.cell? ⟨w.heap.size+1,2,none⟩=some (.slice (some ⟨g,o,none⟩) m3 d3)/\W.cell? ⟨w.heap.size+1,3,none⟩=some (.int .i64 s.gA)/\W.cell? ⟨w.heap.size+1,4,none⟩=some (.int .i64 s.fA)/\W.cell? ⟨w.heap.size+1,5,none⟩=some (.int .i64 s.nB)/\W.cell? ⟨w.heap.size+1,6,none⟩=some (.int .i64 s.uA)/\W.cell? ⟨w.heap.size+1,7,none⟩=some (.int .i64 s.iA)/\W.cell? ⟨g,o+j*2+1,none⟩=some (.int .i64 tm)):=λW hW=>by
          have x:=gD (BX.out W hW).2;exact⟨x.1,x.2.1,x.2.2.1,x.2.2.2.1,x.2.2.2.2.1,x.2.2.2.2.2.1,x.2.2.2.2.2.2.1,x.2.2.2.2.2.2.2,(hW.cell (p:=⟨g,_,none⟩) hg).trans HE2.out⟩
         clear htm e1 e2;go_wp2_with fail;refine zB (S:=λW=>W.cell? ⟨w.heap.size+1,0,none⟩=some (.slice b1 k d1)/\W.cell? ⟨w.heap.size+1,1,none⟩=some (.slice b2 m2 d2)/\W.cell? ⟨w.heap.size+1,2,none⟩=some (.slice (some ⟨g,o,none⟩) m3 d3)/\W.cell? ⟨w.heap.size+1,3,none⟩=some (.int .i64 s.gA)/\W.cell? ⟨w.heap.size+1,4,none⟩=some (.int .i64 s.fA)/\W.cell? ⟨w.heap.size+1,5,none⟩=some (.int .i64 s.nB)/\W.cell? ⟨w.heap.size+1,6,none⟩=some (.int .i64 s.uA)/\W.cell? ⟨w.heap.size+1,7,none⟩=some (.int .i64 s.iA)/\W.cell? ⟨g,o+j*2+1,none⟩=some (.int .i64 tm)) (by kernel_rfl) (SS.out _ hB.drew) (λhHeld=>?_);obtain⟨v0,hv0⟩:∃v0,v0=wr.drew:=⟨_,rfl⟩;have k0:Below W2.heap.size W2 v0:=by rw[hv0];exact hB.drew
         rw[<-hv0]at hHeld⊢;clear hv0 y0 y1 y2 y3 y4 y5 y6 y7;refine tk 0 ?_;refine tk 1 ?_;refine tk 3 ?_;refine tk 4 ?_;refine tk 5 ?_;refine tk 6 ?_;refine tk 7 ?_;refine tk 8 ?_;refine pG 2 (λK hK=>?_);go_simp;refine(FI s _ _ _ _ _ _ _ _ _ (j:Int) _ (HS.out.sA k0)).mono ?_;rintro e v1⟨rfl,r1⟩;have k1:=k0.trans (r1.mono k0.size);obtain⟨hn,hhn⟩:∃hn,hn=xE s j:=⟨_,rfl⟩;rw[<-hhn]at HRK⊢;refine hK.out _ _ (SS.out _ k1) (λhH1=>?_);clear hK K hhn;try refine hG ?_
         refine tk 9 ?_;refine gC (by kernel_rfl) ?_ _;by_cases hbad:tm<(hn:Int)
         ·have HD3:Hid (D=3):=by
           show D=3;rw[HS2.out,show eT s=false from EG (f:=jU s) (by rw[HM3.out];exact HJL.out) (by rw[HRK.out];exact vD (by omega))];simp
          go_wp2_with fail;go_ret;exact⟨by rw[HD3.out];rfl,hBw.trans (k1.mono s0)⟩
         ·have HYK:Hid (jU s j=true):=by show jU s j=true;rw[HRK.out];exact eC (by omega)
          go_wp2_with fail;go_roundw;case rel=>exact⟨j+1,HJL.out,by have:=HJL.out;go_num,λq hq=>by
           by_cases e:q=j;·rw[e];exact HYK.out
           ·exact HRT.out q (by omega),k1⟩
          case measure=>have:=HJL.out;simp[intOf];omega
        ·have hje:j=m3:=by omega
         subst hje;have HRTY:Hid (eT s=true):=by
          show(List.range s.nA.length).all (jU s)=true;exact DS (λi hi=>HRT.out i (by rw[HM3.out]at hi;exact hi))
         have HD4:Hid (D=if pS s=false then 10 else 0):=by show D=_;rw[HS2.out,HRY.out,HRTY.out];rfl
         have haE:=HAT.out;have hw1:IntKind.i64.wrap ((a:Int)+s.uA)=(a:Int)+s.uA:=by have:=HC.out;rw[uB];omega
         have hw2:IntKind.i64.wrap ((a:Int)+s.uA+s.iA)=(a:Int)+s.uA+s.iA:=by have:=HC.out;rw[uB];omega
         have HSM:Hid (pS s=(decide (s.nB=(a:Int)+s.uA+s.iA)&&decide (s.nB=s.gA))):=by
          show pS s=_;unfold pS;rw[HQ.out,show((T+m2:Nat):Int)=(a:Int)by omega]
         clear hjl hj haE;by_cases hc1:s.nB=(a:Int)+s.uA+s.iA
         ·have hb1:(s.nB !=(a:Int)+s.uA+s.iA)=false:=by simpa using hc1
          by_cases hc2:s.nB=s.gA
          ·have hb2:(s.nB !=s.gA)=false:=by simpa using hc2
           have HDZ:Hid (D=0):=by show D=0;rw[HD4.out,HSM.out,eC hc1,eC hc2];rfl
           clear hc1 hc2;go_wp2_with fail;go_ret;exact⟨by rw[HDZ.out];rfl,hBw.trans (hB.mono s0)⟩
          ·have hb2:(s.nB !=s.gA)=true:=by simpa using hc2
           have HDZ:Hid (D=10):=by show D=10;rw[HD4.out,HSM.out,eC hc1,vD hc2];rfl
           clear hc1 hc2;go_wp2_with fail;go_ret;exact⟨by rw[HDZ.out];rfl,hBw.trans (hB.mono s0)⟩
         ·have hb1:(s.nB !=(a:Int)+s.uA+s.iA)=true:=by simpa using hc1
          have HDZ:Hid (D=10):=by show D=10;rw[HD4.out,HSM.out,vD hc1];rfl
          clear hc1;go_wp2_with fail;go_ret;exact⟨by rw[HDZ.out];rfl,hBw.trans (hB.mono s0)⟩
 ·have h0':(E !=0)=true:=kD.2 h0;have HD1:Hid (D=E):=by show D=E;rw[HD.out,SU (by rw[<-HE.out];exact h0),<-HE.out]
  clear h0;go_wp2_with fail;go_ret;exact⟨by rw[HD1.out];rfl,hBw.trans (k3.mono s0)⟩
end Go.Proofs.YtedmnjimkhamaaaGreatDoor
