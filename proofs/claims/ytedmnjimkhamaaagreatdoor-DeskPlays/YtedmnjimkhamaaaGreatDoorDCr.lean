import Derived.Test.YtedmnjimkhamaaaGreatDoorMux
import Derived.Test.YtedmnjimkhamaaaGreatDoorMwx
namespace Go.Proofs.YtedmnjimkhamaaaGreatDoor
set_option linter.unusedVariables false
set_option maxRecDepth 100000
set_option maxHeartbeats 16000000
open Go.RowKit Go.Maps
theorem J9{W W':World}{n B:Nat}{v:Value}{s:yC}{cur:Array Value}(h:pU W n v s)(hB:W.heap[B]?=some (.cells cur 39 (0,0)))(k:vJ B W W'):pU W' n v s:=by
 obtain⟨b1,b2,b3,m1,d1,m2,d2,m3,d3,h1,h2⟩:=h;exact⟨b1,b2,b3,m1,d1,m2,d2,m3,d3,h1,h2.bF hB (by decide) k⟩
theorem KJ(t:ByteArray)(k:Nat)(h:k<t.size):t.data.toList[k]'(by rw[Array.length_toList];exact h)=t[k]:=by simp;rfl
theorem q_(t:ByteArray)(k:Nat)(h:k<t.size):(t.data.toList.take (k+1)).count 10=(t.data.toList.take k).count 10+if t[k]=10 then 1 else 0:=by
 have h':k<t.data.toList.length:=by rw[Array.length_toList];exact h
 rw[rA h',List.count_append,KJ t k h];congr 1;by_cases hc:t[k]=10;·rw[qA hc,hc];rfl
 ·rw[kA hc];simp[hc]
theorem XD(l:List UInt8)(k:Nat):(l.take k).count 10<=l.count 10:=by
 have:=List.count_append (a:=(10:UInt8)) (l₁:=l.take k) (l₂:=l.drop k);rw[gF]at this;omega
theorem QO(t:ByteArray)(k:Nat)(h:k<t.size):t.data.toList.drop k=t[k]::t.data.toList.drop (k+1):=by
 have h':k<t.data.toList.length:=by rw[Array.length_toList];exact h
 rw[vC h',KJ t k h]
theorem S3(t:ByteArray)(fr k:Nat)(hf:fr<=k)(h:k<t.size):(t.data.toList.drop fr).take (k+1-fr)=(t.data.toList.drop fr).take (k-fr)++[t[k]]:=by
 have h':k-fr<(t.data.toList.drop fr).length:=by rw[rF,Array.length_toList];have:t.data.size=t.size:=rfl;omega
 rw[show k+1-fr=k-fr+1 by omega,rA h',List.getElem_drop];congr 2;have e:fr+(k-fr)=k:=by omega
 simp only[e];exact KJ t k h
theorem qe_(t:ByteArray)(fr k:Nat)(hf:fr<=k):t.extract fr k=⟨((t.data.toList.drop fr).take (k-fr)).toArray⟩:=by
 apply uH;apply Array.toList_inj.1;simp[ByteArray.data_extract]
theorem p5(p:lD)(a1 a2 a3:Option Addr)(n1 c1 n2 c2 n3 c3:Nat)(t:ByteArray)(w:World)(hp:sG w a1 a2 a3 n1 n2 n3 p)(hts:t.size<=9223372036854775807):
 Calls Tryz.prog 5 #[.agg #[.slice a1 n1 c1,.slice a2 n2 c2,.slice a3 n3 c3],.string t] w λe w'=>e=.returned (.tuple #[.string (bQ p t),.int .i64 (qN p t)])/\Below w.heap.size w w':=by
 obtain⟨W1,hW1⟩:∃W1,W1=w.alloc (.cells #[.slice a1 n1 c1,.slice a2 n2 c2,.slice a3 n3 c3] 26):=⟨_,rfl⟩;have l1:Below w.heap.size w W1:=by rw[hW1];exact(dA _ _).alloc (eA _) _
 have x1:W1.heap[w.heap.size]?=some (.cells #[.slice a1 n1 c1,.slice a2 n2 c2,.slice a3 n3 c3] 26 (0,0)):=by rw[hW1];exact jA _ _
 obtain⟨p0,p1,p2⟩:=xH x1;have HW1:=aA hW1;have L1:=aA l1;have X1:=aA x1;have hp1:=hp.sA l1;have CK:=aA (CJ p a1 a2 a3 n1 c1 n2 c2 n3 c3 W1 hp1.l1 hp1.l2 hp1.l3 hp1.sz hp1.p1 hp1.p2 hp1.p3);have HP:=aA hp;obtain⟨D,hD⟩:∃D,D=iF p:=⟨_,rfl⟩;rw[<-hD]at CK;have HD:=aA hD;clear hW1 l1 x1 hp1 hp hD;by_cases hc:D=0;rotate_left
 ·have e0:Hid (qN p t=D/\bQ p t=⟨#[]⟩):=by
   have e:qN p t=D:=by unfold qN;rw[<-HD.out,qA hc]
   exact⟨e,by unfold bQ;rw[e,kA hc]⟩
  rw[e0.out.1,e0.out.2];have h0':(D !=0)=true:=kD.2 hc;have HC:=aA hc;clear hc;go_enter Tryz.func5,Tryz.ntmps5;go_wp2_with fail;rw[<-HW1.out];refine CK.out.mono ?_;rintro e w2⟨rfl,k2⟩;go_wp2_with fail;go_ret2;exact⟨rfl,L1.out.trans (k2.mono L1.out.size)⟩
 subst hc;have hcp:iF p=0:=HD.out.symm;have hfew:=(gS hcp).few;have HM:Hid (n1<=100/\n2<=4):=by have h1:=HP.out.l1;have h2:=HP.out.l2;exact⟨by omega,by omega⟩
 have ANS:Hid ((4096<t.size\/60<Lib.countByte t.data.toList 10)->bQ p t=⟨#[]⟩/\qN p t=2):=λh=>by
  have e:qN p t=2:=by unfold qN;rw[kA (by rw[hcp];decide),qA h]
  exact⟨by unfold bQ;rw[e];rfl,e⟩
 have ANS1:Hid (¬(4096<t.size\/60<Lib.countByte t.data.toList 10)->(t.data.toList≠[]/\t.data.toList.getLast?≠some 10)->bQ p t=⟨#[]⟩/\qN p t=1):=λh h2=>by
  have e:qN p t=1:=by unfold qN;rw[kA (by rw[hcp];decide),kA h,qA h2]
  exact⟨by unfold bQ;rw[e];rfl,e⟩
 have ANS0:Hid (¬(4096<t.size\/60<Lib.countByte t.data.toList 10)->¬(t.data.toList≠[]/\t.data.toList.getLast?≠some 10)->bQ p t=⟨(pR p (iN n2) [] t.data.toList).toArray⟩/\qN p t=0):=λh h2=>by
  have e:qN p t=0:=by unfold qN;rw[kA (by rw[hcp];decide),kA h,kA h2]
  exact⟨by unfold bQ;rw[e,qA rfl,HP.out.l2],e⟩
 have HR0:Hid (zG p (iN n2)=0):=by have:=OH hcp;rw[HP.out.l2]at this;exact this
 obtain⟨RR,hRR⟩:∃R,R=bQ p t:=⟨_,rfl⟩;obtain⟨EE,hEE⟩:∃E,E=qN p t:=⟨_,rfl⟩;rw[<-hRR,<-hEE]at ANS ANS1 ANS0;rw[<-hRR,<-hEE];clear hcp hfew hRR hEE;go_enter Tryz.func5,Tryz.ntmps5;go_wp2_with fail;rw[<-HW1.out];refine CK.out.mono ?_;rintro e w2⟨rfl,k2⟩;have K2:=aA (L1.out.trans (k2.mono L1.out.size));have X2:=aA (pB X1.out k2);clear k2 p0 p1 p2;go_wp2_with fail;go_loopw[7,8](λs7 s8 wr=>∃(k c:Nat),s7=.int .i64 (c:Nat)/\s8=.int .i64 (k:Nat)/\k<=t.size/\c=(t.data.toList.take k).count 10/\c<=61/\wr=w2)(λ_ s8 _=>t.size-(intOf s8).toNat);case atStart=>exact⟨0,0,rfl,rfl,zA _,by simp,by omega,rfl⟩
 case round=>
  obtain⟨k,c,rfl,rfl,hk,hcc,hc61,rfl⟩:=hrel;have HCC:=aA hcc;clear hcc;by_cases hlt:k<t.size
  ·have j1:(0:Int)<=(k:Int):=by omega
   have j2:(k:Int)<t.size:=by omega
   by_cases hc60:c<=60
   ·have j3:(c:Int)<=60:=by omega
    have HST:=aA (q_ t k hlt);by_cases hch:t[k]=10
    ·have n2':((t[k].toNat:Int)==10)=true:=by rw[hch];rfl
     rw[qA hch]at HST;have HLT:=aA hlt;clear hch;go_wp2_with fail;go_roundw;case rel=>exact⟨k+1,c+1,by go_num,by have:=HLT.out;go_num,HLT.out,by rw[HST.out,<-HCC.out],by omega,trivial⟩
     case measure=>have:=HLT.out;simp[intOf];omega
    ·have n2':((t[k].toNat:Int)==10)=false:=by
      rw[xD];intro h;exact hch (iJ.1 (by simpa using wL h))
     rw[kA hch]at HST;have HLT:=aA hlt;clear hch;go_wp2_with fail;go_roundw;case rel=>exact⟨k+1,c,rfl,by have:=HLT.out;go_num,HLT.out,by rw[HST.out,<-HCC.out];rfl,hc61,trivial⟩
     case measure=>have:=HLT.out;simp[intOf];omega
   ·have j3:¬(c:Int)<=60:=by omega
    have j4:(60:Int)<(c:Int):=by omega
    have hA:=ANS.out (.inr (by have:=XD t.data.toList k;have:=HCC.out;unfold Lib.countByte;omega));have HA:=aA hA;clear hA;by_cases hbig:4096<t.size
    ·have hb':(4096:Int)<(t.size:Int):=by omega
     go_wp2_with fail;go_ret2;exact⟨by rw[HA.out.1,HA.out.2];rfl,K2.out⟩
    ·have hb':¬(4096:Int)<(t.size:Int):=by omega
     go_wp2_with fail;go_ret2;exact⟨by rw[HA.out.1,HA.out.2];rfl,K2.out⟩
  ·have j2:¬(k:Int)<t.size:=by omega
   have hke:k=t.size:=by omega
   have HTT:Hid (c=Lib.countByte t.data.toList 10):=by
    show c=_;rw[HCC.out,iB (by rw[Array.length_toList,hke];exact eA _)];rfl
   by_cases hbig:4096<t.size
   ·have hb':(4096:Int)<(t.size:Int):=by omega
    have HA:=aA (ANS.out (.inl hbig));clear hke;go_wp2_with fail;go_ret2;exact⟨by rw[HA.out.1,HA.out.2];rfl,K2.out⟩
   have hb':¬(4096:Int)<(t.size:Int):=by omega
   by_cases hmany:60<c
   ·have hm':(60:Int)<(c:Int):=by omega
    have HA:=aA (ANS.out (.inr (by rw[<-HTT.out];exact hmany)));clear hke;go_wp2_with fail;go_ret2;exact⟨by rw[HA.out.1,HA.out.2];rfl,K2.out⟩
   have hm':¬(60:Int)<(c:Int):=by omega
   have hno:¬(4096<t.size\/60<Lib.countByte t.data.toList 10):=by rw[<-HTT.out];omega
   have HSZ:Hid (t.size<=4096):=by show _<=_;omega
   by_cases hend:t.data.toList≠[]/\t.data.toList.getLast?≠some 10
   ·have hs0:0<t.size:=by have:=mt gX.2 hend.1;omega
    obtain⟨m,hmm⟩:∃m:Nat,t.size=m+1:=⟨t.size-1,by omega⟩;have hlast:t[m]'(by omega)≠10:=λh=>hend.2 (by rw[FY hs0];simp only[hmm];simp[h]);have n2':((t[m]'(by omega):UInt8).toNat:Int)≠10:=λh=>hlast (iJ.1 (by simpa using wL h));have HA:=aA (ANS1.out hno hend);have j5:(0:Int)<(t.size:Int):=by omega
    have j6:IntKind.i64.wrap ((t.size:Int)-1)=(m:Int):=by rw[uB];omega
    have j7:(0:Int)<=(m:Int):=by omega
    have j8:(m:Int)<(t.size:Int):=by omega
    clear hke hend hno hbig hmany hlast;go_wp2_with fail;go_ret2;exact⟨by rw[HA.out.1,HA.out.2];rfl,K2.out⟩
   have HEN:Hid (pZ t.data.toList):=λh=>yF (λh'=>hend ⟨h,h'⟩);have HA:=aA (ANS0.out hno hend);clear ANS ANS1 ANS0 hno hend hmany hbig;have BG:=aA (WW p a1 a2 a3 n1 c1 n2 c2 n3 c3 wr (HP.out.sA K2.out) HM.out.2);have hcase:t.size=0\/∃m:Nat,t.size=m+1/\∀h:m<t.size,t[m]'h=10:=by
    rcases cJ t.size with h|h;·exact .inl h
    ·refine .inr ⟨t.size-1,by omega,λh'=>?_⟩;have:=HEN.out (mt gX.1 (by omega));rw[FY h]at this;exact yG this
   go_upto_region 12 with fail;go_cut[54](λs54 wx=>s54=.bool false/\wx=wr);case first=>
    rcases hcase with h|⟨m,hmm,hlast⟩
    ·have j5:¬(0:Int)<(t.size:Int):=by omega
     clear h hke;go_wp2_with fail;go_meet;case rel=>exact⟨rfl,rfl⟩
    ·have hml:m<t.size:=by omega
     have n2':(((t[m]'hml:UInt8).toNat:Int)==10)=true:=by rw[hlast hml];rfl
     have n3':(((t[m]'hml:UInt8).toNat:Int)!=10)=false:=by rw[hlast hml];rfl
     have j5:(0:Int)<(t.size:Int):=by omega
     have j6:IntKind.i64.wrap ((t.size:Int)-1)=(m:Int):=by rw[uB];omega
     have j7:(0:Int)<=(m:Int):=by omega
     have j8:(m:Int)<(t.size:Int):=by omega
     clear hmm hlast hke;go_wp2_with fail;go_meet;case rel=>exact⟨rfl,rfl⟩
   case rest=>
    obtain⟨rfl,rfl⟩:=hcut;clear hcase hke;obtain⟨p0,p1,p2⟩:=xH X2.out;go_wp2_with fail;refine BG.out.mono ?_;rintro e w5⟨g,rfl,ho5,k5⟩;have K5:=aA (K2.out.trans (k5.mono K2.out.size));have x5:=pB X2.out k5;have hz5:=K5.out.size;have l5t:=bE x5;obtain⟨W6,hW6⟩:∃W6,W6=w5.alloc (.cells #[.slice (some ⟨g,0,none⟩) n2 n2,.slice none 0 0,.slice none 0 0,.int .i64 0,.int .i64 0,.int .i64 0,.int .i64 0,.int .i64 0] 39):=⟨_,rfl⟩;have l6:Below w5.heap.size w5 W6:=by rw[hW6];exact(dA _ _).alloc (eA _) _
    have b6:W6.heap[w5.heap.size]?=some (.cells #[.slice (some ⟨g,0,none⟩) n2 n2,.slice none 0 0,.slice none 0 0,.int .i64 0,.int .i64 0,.int .i64 0,.int .i64 0,.int .i64 0] 39 (0,0)):=by rw[hW6];exact jA _ _
    have SB:Hid (mE W6 w.heap.size w5.heap.size (iN n2)):=⟨some ⟨g,0,none⟩,none,none,n2,n2,0,0,0,0,b6,(ho5.lower K2.out.size).sA l6⟩;have K6:=aA (K5.out.trans (l6.mono K5.out.size));have X6':=aA (pB x5 l6);have l56:=bE b6;have HW6:=aA hW6;obtain⟨TOT,hTOT⟩:∃TOT,TOT=pR p (iN n2) [] t.data.toList:=⟨_,rfl⟩;rw[<-hTOT]at HA;have HT0:=aA hTOT;clear hW6 l6 b6 x5 k5 ho5 p0 p1 p2 hTOT BG;clear hb' hm' j2 hk hc61 hlt;go_wp2_with fail;rw[<-HW6.out];go_loopw[10,11,12](λs10 s11 s12 wq=>∃(k fr:Nat)(out:ByteArray)(s:yC),s10=.string out/\s11=.int .i64 (fr:Nat)/\s12=.int .i64 (k:Nat)/\fr<=k/\k<=t.size/\zG p s=0/\mE wq w.heap.size w5.heap.size s/\qE W6.heap.size w5.heap.size W6 wq/\out.size+4000*(t.size-fr)<=16384000/\out.data.toList++pR p s ((t.data.toList.drop fr).take (k-fr)) (t.data.toList.drop k)=TOT)(λ_ _ s12 _=>t.size-(intOf s12).toNat);case atStart=>exact⟨0,0,⟨#[]⟩,iN n2,rfl,rfl,rfl,eA _,zA _,HR0.out,SB.out,qE.refl _ _ _,by have:=HSZ.out;show 0+4000*(t.size-0)<=_;omega,by rw[HT0.out];rfl⟩
    case round=>
     obtain⟨k,fr,out,s,rfl,rfl,rfl,hfk,hk,hR,hsb,hfr,hsz,htot⟩:=hrel;have HRr:=aA hR;have HSB:=aA hsb;have HFR:=aA hfr;have HTt:=aA htot;have HSz:=aA hsz;have KW:Hid (Below w.heap.size w wr):=K6.out.trans (hfr.below K6.out.size (by omega));have hzr:=KW.out.size;clear hR hsb hfr htot hsz;by_cases hlt:k<t.size;rotate_left
     ·have j2:¬(k:Int)<t.size:=by omega
      have HOUT:Hid (out=RR):=by
       show _=_;have h:=HTt.out;have hd:t.data.toList.drop k=[]:=List.drop_of_length_le (by rw[Array.length_toList];show t.size<=k;omega);rw[hd]at h;rw[HA.out.1,<-h];apply uH;simp[pR]
      go_wp2_with fail;go_ret2;exact⟨by rw[HOUT.out,HA.out.2];rfl,KW.out⟩
     have j1:(0:Int)<=(k:Int):=by omega
     have j2:(k:Int)<t.size:=by omega
     have HLT:=aA hlt;by_cases hch:t[k]'hlt=10;rotate_left
     ·have n2':(((t[k]'hlt).toNat:Int)==10)=false:=by
       rw[xD];intro h;exact hch (iJ.1 (by simpa using wL h))
      have HNX:Hid (out.data.toList++pR p s ((t.data.toList.drop fr).take (k+1-fr)) (t.data.toList.drop (k+1))=TOT):=by
       show _=_;rw[<-HTt.out,QO t k hlt,JH,kA hch,S3 t fr k hfk hlt]
      have HFK:=aA hfk;clear hch hfk;go_wp2_with fail;go_roundw;case rel=>exact⟨k+1,fr,out,s,rfl,rfl,by have:=HLT.out;go_num,Nat.le_succ_of_le HFK.out,HLT.out,HRr.out,HSB.out,HFR.out,HSz.out,HNX.out⟩
      case measure=>have:=HLT.out;simp[intOf];omega
     have n2':(((t[k]'hlt).toNat:Int)==10)=true:=by rw[hch];rfl
     obtain⟨ln,hln⟩:∃ln,ln=t.extract fr k:=⟨_,rfl⟩;have hlsz:ln.size<=1000000:=by have:=HSZ.out;rw[hln,pF];omega
     have HCUT:Hid (out.data.toList++((xW p s ln).data.toList++[10]++pR p (yR p s ln) [] (t.data.toList.drop (k+1)))=TOT):=by
      show _=_;rw[<-HTt.out,QO t k hlt,JH,qA hch,hln,qe_ t fr k hfk]
     obtain⟨E,hE⟩:∃E,E=zN p s (sJ ln):=⟨_,rfl⟩;obtain⟨Rl,hRl⟩:∃R,R=wU p s (sJ ln):=⟨_,rfl⟩;obtain⟨S',hS'⟩:∃S',S'=jV p s (sJ ln):=⟨_,rfl⟩;obtain⟨b1,b2,b3,m1,d1,m2,d2,m3,d3,hbx,hown⟩:=HSB.out;have BX:=aA hbx;have PX:Hid (wr.heap[w.heap.size]?=some (.cells #[.slice a1 n1 c1,.slice a2 n2 c2,.slice a3 n3 c3] 26 (0,0))):=(HFR.out.block w.heap.size (by omega) (by omega)).trans X6'.out;have PL:Hid (∀W,Below wr.heap.size wr W->Calls Tryz.prog 15 #[.agg #[.slice a1 n1 c1,.slice a2 n2 c2,.slice a3 n3 c3],.agg #[.slice b1 m1 d1,.slice b2 m2 d2,.slice b3 m3 d3,.int .i64 s.gA,.int .i64 s.fA,.int .i64 s.nB,.int .i64 s.uA,.int .i64 s.iA],.string ln] W λe w'=>∃(x1 x2 x3:Option Addr)(k1 e1 k2 e2 k3 e3:Nat)(i1 i2 i3 i4 i5:Int)(R':ByteArray),e=.returned (.tuple #[.agg #[.slice x1 k1 e1,.slice x2 k2 e2,.slice x3 k3 e3,.int .i64 i1,.int .i64 i2,.int .i64 i3,.int .i64 i4,.int .i64 i5],.string R',.int .i64 E])/\(E=0->R'=Rl/\pU w' w.heap.size (.agg #[.slice x1 k1 e1,.slice x2 k2 e2,.slice x3 k3 e3,.int .i64 i1,.int .i64 i2,.int .i64 i3,.int .i64 i4,.int .i64 i5]) S')/\Below W.heap.size W w'):=λW hW=>by
      rw[hE,hRl,hS'];exact p6 p a1 a2 a3 n1 c1 n2 c2 n3 c3 s b1 b2 b3 m1 d1 m2 d2 m3 d3 w.heap.size ln W hlsz (HP.out.sA (KW.out.trans (hW.mono KW.out.size))) (hown.sA hW) (vA KW.out.size hW.size) HM.out.1 (by have:=HM.out.2;omega) HRr.out
     have HSQ:Hid (∀W',Below wr.heap.size wr W'->(W'.cell? ⟨w.heap.size,0,none⟩=some (.slice a1 n1 c1)/\W'.cell? ⟨w.heap.size,1,none⟩=some (.slice a2 n2 c2)/\W'.cell? ⟨w.heap.size,2,none⟩=some (.slice a3 n3 c3))/\W'.cell? ⟨w5.heap.size,0,none⟩=some (.slice b1 m1 d1)/\W'.cell? ⟨w5.heap.size,1,none⟩=some (.slice b2 m2 d2)/\W'.cell? ⟨w5.heap.size,2,none⟩=some (.slice b3 m3 d3)/\W'.cell? ⟨w5.heap.size,3,none⟩=some (.int .i64 s.gA)/\W'.cell? ⟨w5.heap.size,4,none⟩=some (.int .i64 s.fA)/\W'.cell? ⟨w5.heap.size,5,none⟩=some (.int .i64 s.nB)/\W'.cell? ⟨w5.heap.size,6,none⟩=some (.int .i64 s.uA)/\W'.cell? ⟨w5.heap.size,7,none⟩=some (.int .i64 s.iA)):=λW' hW=>⟨xH (pB PX.out hW),gD (pB BX.out hW)⟩;have HSV:Hid (xW p s ln=(if E=0 then Rl else tV E)/\yR p s ln=if E=0 then S' else s):=by rw[hE,hRl,hS'];exact⟨rfl,rfl⟩
     obtain⟨dn,hdn,hdb⟩:∃dn:Nat,E=(dn:Int)/\dn<=1000000000000000:=⟨E.toNat,by have:=DJ p s (sJ ln);unfold bM at this;rw[<-hE]at this;omega,by have:=DJ p s (sJ ln);unfold bM at this;rw[<-hE]at this;omega⟩;have hsv:=SY ln HRr.out;have HSV2:=aA (SW ln HRr.out);have HLB:Hid (E=0->Rl.size<=3000):=λh=>by have:=hsv;rw[HSV.out.1,qA h]at this;exact this
     have lb5:=bE hbx;have q2:(fr:Int)<=(k:Int):=by omega
     have q3:(k:Int)<=t.size:=by omega
     have q4:(0:Int)<=(fr:Int):=by omega
     have HDN:=aA hdn;have HLN:=aA hln;have HSV0:=aA hsv;have HFK:=aA hfk;clear hE hRl hS' hbx hown hch hlsz hdn hsv hfk;go_upto_region 21 with fail;go_cut[13,14,15]from 63 to 77(λs13 s14 s15 wx=>∃(B:Nat)(x1 x2 x3:Option Addr)(k1 e1 k2 e2 k3 e3:Nat)(i1 i2 i3 i4 i5:Int)(R':ByteArray),s13=.pointer (some ⟨B,0,none⟩)/\s14=.string R'/\s15=.int .i64 E/\wx.heap[B]?=some (.cells #[.slice x1 k1 e1,.slice x2 k2 e2,.slice x3 k3 e3,.int .i64 i1,.int .i64 i2,.int .i64 i3,.int .i64 i4,.int .i64 i5] 39 (0,0))/\(E=0->R'=Rl/\pU wx w.heap.size (.agg #[.slice x1 k1 e1,.slice x2 k2 e2,.slice x3 k3 e3,.int .i64 i1,.int .i64 i2,.int .i64 i3,.int .i64 i4,.int .i64 i5]) S')/\Below wr.heap.size wr wx/\wr.heap.size<=B);case first=>
      go_region_held3(λW'=>(W'.cell? ⟨w.heap.size,0,none⟩=some (.slice a1 n1 c1)/\W'.cell? ⟨w.heap.size,1,none⟩=some (.slice a2 n2 c2)/\W'.cell? ⟨w.heap.size,2,none⟩=some (.slice a3 n3 c3))/\W'.cell? ⟨w5.heap.size,0,none⟩=some (.slice b1 m1 d1)/\W'.cell? ⟨w5.heap.size,1,none⟩=some (.slice b2 m2 d2)/\W'.cell? ⟨w5.heap.size,2,none⟩=some (.slice b3 m3 d3)/\W'.cell? ⟨w5.heap.size,3,none⟩=some (.int .i64 s.gA)/\W'.cell? ⟨w5.heap.size,4,none⟩=some (.int .i64 s.fA)/\W'.cell? ⟨w5.heap.size,5,none⟩=some (.int .i64 s.nB)/\W'.cell? ⟨w5.heap.size,6,none⟩=some (.int .i64 s.uA)/\W'.cell? ⟨w5.heap.size,7,none⟩=some (.int .i64 s.iA))(exact HSQ.out _ fP)
       (first
        |(go_at_call 15;rw[<-HLN.out];refine(PL.out _ fP).mono ?_;rintro e w3⟨x1,x2,x3,k1,e1,k2,e2,k3,e3,i1,i2,i3,i4,i5,R',rfl,hres,kk3⟩;have kb3:Below wr.heap.size wr w3:=Below.trans fP (kk3.mono (by first|exact eA _|(simp;done)|(simp;omega)));have z3:=kb3.size;(first|(have x6:=lX (w:=wr) kk3 rfl;obtain⟨y0,y1,y2,y3,y4,y5,y6,y7⟩:=gD x6;have f0:=pA x6 0;have f1:=pA x6 1;have f2:=pA x6 2;have f3:=pA x6 3;have f4:=pA x6 4;have f5:=pA x6 5;have f6:=pA x6 6;have f7:=pA x6 7;have X6:=aA x6;clear x6)|skip);clear kk3));all_goals
       have HRS:=aA hres;clear hres;go_wp2_with fail;go_meet;case rel=>
        first
         |with_reducible exact⟨_,x1,x2,x3,k1,e1,k2,e2,k3,e3,i1,i2,i3,i4,i5,R',rfl,rfl,rfl,jA _ _,λh=>⟨(HRS.out h).1,(HRS.out h).2.sA ((dA _ _).alloc (eA _) _)⟩,kb3.alloc z3 _,z3⟩
         | (generalize hW11:World.setCell (World.setCell (World.setCell (World.setCell (World.setCell (World.setCell (World.setCell (World.setCell w3 _ _) _ _) _ _) _ _) _ _) _ _) _ _) _ _=W11;obtain⟨b11,t11⟩:=eD X6.out hW11;exact⟨_,x1,x2,x3,k1,e1,k2,e2,k3,e3,i1,i2,i3,i4,i5,R',rfl,rfl,rfl,b11,λh=>⟨(HRS.out h).1,J9 (HRS.out h).2 X6.out t11⟩,kb3.trans (t11.below z3 (by omega)),by omega⟩)
     case rest=>
      obtain⟨B,x1,x2,x3,k1,e1,k2,e2,k3,e3,i1,i2,i3,i4,i5,R',rfl,rfl,rfl,hB,hres,kbx,lB⟩:=hcut;have HBc:=aA hB;have KX:=aA kbx;have x6:=pB BX.out kbx;have hzc:=kbx.size;by_cases hE:E=0
      ·obtain⟨rfl,hov⟩:=hres hE;subst hE;obtain⟨v0,v1,v2,v3,v4,v5,v6,v7⟩:=gD hB;obtain⟨y0,y1,y2,y3,y4,y5,y6,y7⟩:=gD x6;have f0:=pA x6 0;have f1:=pA x6 1;have f2:=pA x6 2;have f3:=pA x6 3;have f4:=pA x6 4;have f5:=pA x6 5;have f6:=pA x6 6;have f7:=pA x6 7;have X6:=aA x6;clear x6;have hbl:=HLB.out rfl;have hs9:=HSz.out;have hb1:out.size+R'.size<=9223372036854775807:=by omega
       have hb2:(out++R').size+(⟨#[10]⟩:ByteArray).size<=9223372036854775807:=by rw[aD];show out.size+R'.size+1<=_;omega
       have HNX:Hid ((out++R'++(⟨#[10]⟩:ByteArray)).data.toList++pR p S' [] (t.data.toList.drop (k+1))=TOT):=by
        show _=_;rw[<-HCUT.out,HSV.out.1,HSV.out.2,qA rfl,qA rfl];simp
       have HSZ2:Hid ((out++R'++(⟨#[10]⟩:ByteArray)).size+4000*(t.size-(k+1))<=16384000):=by
        show _<=_;rw[aD,aD];have:=HFK.out;show out.size+R'.size+1+_<=_;omega
       have HR2:Hid (zG p S'=0):=by have:=HSV2.out;rw[HSV.out.2,qA rfl]at this;exact this
       have HOV:=aA hov;clear hB hov kbx hbl hs9 hres;go_wp2_with fail;generalize hW7:World.setCell (World.setCell (World.setCell (World.setCell (World.setCell (World.setCell (World.setCell (World.setCell wc _ _) _ _) _ _) _ _) _ _) _ _) _ _) _ _=W7;obtain⟨b7,t7⟩:=eD X6.out hW7;have RES:Hid (mE W7 w.heap.size w5.heap.size S'/\qE W6.heap.size w5.heap.size W6 W7):=by
        refine⟨?_,HFR.out.trans ((qE.kB KX.out HFR.out.size).trans ⟨t7.os,t7.tape,t7.output,t7.size,λj h1 h2=>t7.block j (by have:=HFR.out.size;omega) h2⟩)⟩;obtain⟨b1',b2',b3',m1',d1',m2',d2',m3',d3',hv,hown'⟩:=HOV.out;cases hv;exact⟨_,_,_,_,_,_,_,_,_,b7,hown'.bF X6.out (by decide) t7⟩
       clear hW7 b7 t7 y0 y1 y2 y3 y4 y5 y6 y7 f0 f1 f2 f3 f4 f5 f6 f7 v0 v1 v2 v3 v4 v5 v6 v7;go_roundw;case rel=>exact⟨k+1,k+1,out++R'++(⟨#[10]⟩:ByteArray),S',rfl,by have:=HLT.out;go_num,by have:=HLT.out;go_num,eA _,HLT.out,HR2.out,RES.out.1,RES.out.2,HSZ2.out,by rw[Nat.sub_self,List.take_zero];exact HNX.out⟩
       case measure=>have:=HLT.out;simp[intOf];omega
      ·have hd:=HDN.out;subst hd;obtain⟨Dg,hDg⟩:∃Dg:ByteArray,Dg=⟨(Lib.decDigits dn).toArray⟩:=⟨_,rfl⟩;have DG:=aA (λW=>AA dn W hdb);rw[<-hDg]at DG;have hs1:Dg.size<=21:=by rw[hDg,sz];exact wZ dn hdb
       have hs9:=HSz.out;obtain⟨Eb,hEb⟩:∃Eb:ByteArray,Eb=(⟨#[101,114,114,111,114,32]⟩:ByteArray)++Dg:=⟨_,rfl⟩;have hEs:Eb.size=6+Dg.size:=by rw[hEb,aD];rfl
       have hb0:(⟨#[101,114,114,111,114,32]⟩:ByteArray).size+Dg.size<=9223372036854775807:=by show 6+Dg.size<=_;omega
       have hb1:out.size+Eb.size<=9223372036854775807:=by omega
       have hb2:(out++Eb).size+(⟨#[10]⟩:ByteArray).size<=9223372036854775807:=by rw[aD];show out.size+Eb.size+1<=_;omega
       have hsvr:xW p s ln=Eb:=by
        rw[HSV.out.1,kA hE,hEb,hDg];unfold tV;apply uH;simp
       have hsvs:yR p s ln=s:=by rw[HSV.out.2,kA hE]
       have HNX:Hid ((out++Eb++(⟨#[10]⟩:ByteArray)).data.toList++pR p s [] (t.data.toList.drop (k+1))=TOT):=by
        show _=_;rw[<-HCUT.out,hsvr,hsvs];simp
       have HSZ2:Hid ((out++Eb++(⟨#[10]⟩:ByteArray)).size+4000*(t.size-(k+1))<=16384000):=by
        show _<=_;rw[aD,aD];have:=HFK.out;show out.size+Eb.size+1+_<=_;omega
       have HEB:=aA hEb;have h0':¬dn=0:=λe=>hE (by rw[e];rfl);have HE:=aA hE;clear hB hres kbx x6 hs9 hEb hEs hDg hsvr hsvs HSV HSV2 HSV0 HCUT hs1 HDN hE;go_wp2_with fail;refine(DG.out _).mono ?_;rintro e w8⟨rfl,k8⟩;have k9:=KX.out.trans (k8.mono KX.out.size);have RES:Hid (mE w8 w.heap.size w5.heap.size s/\qE W6.heap.size w5.heap.size W6 w8):=⟨HSB.out.sA k9,HFR.out.trans (qE.kB k9 HFR.out.size)⟩;clear k8 k9;go_upto_region 25 with fail;rw[<-HEB.out];go_wp2_with fail;go_roundw;case rel=>exact⟨k+1,k+1,out++Eb++(⟨#[10]⟩:ByteArray),s,rfl,by have:=HLT.out;go_num,by have:=HLT.out;go_num,eA _,HLT.out,HRr.out,RES.out.1,RES.out.2,HSZ2.out,by rw[Nat.sub_self,List.take_zero];exact HNX.out⟩
       case measure=>have:=HLT.out;simp[intOf];omega
end Go.Proofs.YtedmnjimkhamaaaGreatDoor
