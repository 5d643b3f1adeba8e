import Derived.Test.YtedmnjimkhamaaaGreatDoorDAe
namespace Go.Proofs.YtedmnjimkhamaaaGreatDoor
set_option linter.unusedVariables false
set_option maxRecDepth 100000
set_option maxHeartbeats 8000000
open Go.RowKit Go.Maps
def yK(a:fF):zD:=⟨0,a.key,a.body,false,a.fC⟩
def lQ(nq:Nat)(a:fF):Bool:=tG a.queue nq
def vS(p:lD)(s:yC)(l:List fF):Int:=
 if 4<l.length then 2 else if l.all (lQ p.jB.length)=false then 5 else if l.all (λa=>nH (yK a))=false then 1 else if 524288<s.gA then 2 else 0
theorem KM{p:lD}{s:yC}{l:List fF}(h:vS p s l=0):l.length<=4/\(∀a∈l,mR p a)/\s.gA<=524288:=by
 unfold vS at h;by_cases h1:4<l.length;·rw[qA h1]at h;cases h
 rw[kA h1]at h;by_cases h2:l.all (lQ p.jB.length)=false;·rw[qA h2]at h;cases h
 rw[kA h2]at h;by_cases h3:l.all (λa=>nH (yK a))=false;·rw[qA h3]at h;cases h
 rw[kA h3]at h;by_cases h4:524288<s.gA;·rw[qA h4]at h;cases h
 simp only[Bool.not_eq_false,qD]at h2 h3;refine⟨by omega,λa ha=>?_,by omega⟩;obtain⟨_,_,q3,q4,q5,q6⟩:=sY (h3 a ha);exact⟨cP.1 (h2 a ha),q3,q4,q5,q6⟩
theorem NQ{α:Type}{P:α->Bool}{l:List α}{k:Nat}(hk:k<l.length)(h:(l.take k).all P=true)(hx:P l[k]=true):(l.take (k+1)).all P=true:=by
 rw[rA hk,fJ,h];simp[hx]
theorem UG{α:Type}{P:α->Bool}{l:List α}{k:Nat}(hk:k<l.length)(hx:P l[k]=false):l.all P=false:=by
 rw[vG];exact⟨l[k],qB hk,by simp[hx]⟩
theorem I3(x:zD):tL [x]=if nH x=true then 0 else 1:=by
 unfold tL;have:tI [x]=nH x:=by
  rw[jF,iW];simp
 rw[this]
theorem A_(p:lD)(s:yC)(l:List fF)(b:Option Addr)(mb cb N H n t n2 c2:Nat)(v1 v3:Value)(a2:Option Addr)(xs:List fF)(ab:Option Addr)(am ac:Nat)(w:World)(hn2:p.jB.length=n2)(hl:oN w b l)(hll:l.length=mb)(hmb:mb<=maxLen)(hh:nM w N H t v1 (.slice a2 n2 c2) v3 xs ab am ac)(hbx:mE w n t s):
 Calls Tryz.prog 146 #[.pointer (some ⟨H,0,none⟩),.slice b mb cb] w λe w'=>e=zK (vS p s l)/\Below w.heap.size w w':=by
 obtain⟨E,hE⟩:∃E,E=vS p s l:=⟨_,rfl⟩;rw[<-hE];have HE:=aA hE;have HN2:=aA hn2;have HL:=aA hl;have HLL:=aA hll;have HH:=aA hh;have HBX:=aA hbx;clear hE hn2 hl hll hh hbx;go_enter Tryz.func146,Tryz.ntmps146;go_wp2_with fail;by_cases h4:4<mb;·refine(aN 2 [decide ((4:Int)<(mb:Int))] _ _ (by simp) (fQ w [decide ((4:Int)<(mb:Int))]) (by simp;omega)).mono ?_;rintro e w2⟨rfl,rfl⟩;exact⟨rfl,by rw[HE.out];unfold vS;rw[qA (by rw[HLL.out];exact h4)];rfl,(dA _ _).alloc (eA _) _⟩
 refine(zM 2 [decide ((4:Int)<(mb:Int))] _ _ (by simp) (fQ w [decide ((4:Int)<(mb:Int))]) (by simp;omega)).mono ?_;rintro e w2⟨rfl,hw2⟩;have k2:Below w.heap.size w w2:=by rw[hw2];exact(dA _ _).alloc (eA _) _
 have K2:=aA k2;have HE2:Hid (E=if l.all (lQ p.jB.length)=false then 5 else if l.all (λa=>nH (yK a))=false then 1 else if 524288<s.gA then 2 else 0):=by show E=_;rw[HE.out];unfold vS;rw[kA (by rw[HLL.out];exact h4)]
 clear hw2 k2;go_wp2_with fail;go_loopw[15](λi wr=>∃k:Nat,k<=mb/\i=.int .i64 k/\(l.take k).all (lQ p.jB.length)=true/\Below w.heap.size w wr)(λi _=>mb-(intOf i).toNat);case atStart=>exact⟨0,zA _,rfl,by simp,K2.out⟩
 case round=>
  obtain⟨k,hk,rfl,hal,hB⟩:=hrel;have HAL:=aA hal;have HB:=aA hB;have hBs:=hB.size;clear hal;by_cases hlt:k<mb
  ·have HLT:=aA hlt;have hkl:k<l.length:=by rw[HLL.out];exact hlt
   have HKL:=aA hkl;obtain⟨g,o,hga,hgl,e0,e1,e2,e3⟩:=oN.get (HL.out.sA hB) hkl;obtain⟨x,hx⟩:∃x,x=l[k]'HKL.out:=⟨_,rfl⟩;rw[<-hx]at e0 e1 e2 e3;have HX:=aA hx;subst hga;obtain⟨W4,hW4⟩:∃W4,W4=wr.alloc (.cells #[.int .i64 x.queue,.string x.key,.string x.body,.int .i64 x.fC] 116):=⟨_,rfl⟩;have k4:Below wr.heap.size wr W4:=by rw[hW4];exact(dA _ _).alloc (eA _) _
   have b4:W4.heap[wr.heap.size]?=some (.cells #[.int .i64 x.queue,.string x.key,.string x.body,.int .i64 x.fC] 116 (0,0)):=by rw[hW4];exact jA wr _
   have HZ4:Hid (W4.heap.size=wr.heap.size+1):=by show W4.heap.size=_;rw[hW4];simp
   have K4:=aA (hB.trans (k4.mono hBs));have HSS:Hid (∀W',Below W4.heap.size W4 W'->W'.cell? ⟨wr.heap.size,0,none⟩=some (.int .i64 x.queue)/\W'.cell? ⟨H,2,none⟩=some (.slice a2 n2 c2)):=λW' h=>⟨yB (pB b4 h) 0,yB (pB HH.out.box (K4.out.trans (h.mono K4.out.size))) 2⟩;have HW4:=aA hW4;have j1:(0:Int)<=(k:Int):=by omega
   have j2:(k:Int)<mb:=by omega
   have s4:=K4.out.size;clear hx hW4 k4 b4 hkl;go_upto_region 4 with fail;rw[<-HW4.out];refine zB (S:=λW'=>W'.cell? ⟨wr.heap.size,0,none⟩=some (.int .i64 x.queue)/\W'.cell? ⟨H,2,none⟩=some (.slice a2 n2 c2)) (by kernel_rfl) (HSS.out _ (dA _ _).drew) (λhHeld=>?_);refine tk 0 ?_;refine tk 1 ?_;refine tk 2 ?_;refine tk 3 ?_;refine tk 4 ?_;refine tk 5 ?_;refine tk 6 ?_;refine tk 7 ?_;refine tk 8 ?_;refine tk 9 ?_;refine tk 10 ?_;refine tk 11 ?_;refine pG 12 (λK hK=>?_);go_simp;refine hK.out _ _ (HSS.out _ (by repeat(first|exact dA _ _|assumption|refine nE ?_|refine cE ?_ (by first|(simp;done)|(simp;omega)|omega) _|refine pD ?_ (by first|(simp;done)|(simp;omega)|omega) _))) (λ_=>?_);clear hK K hHeld;try refine hG ?_
   refine pG 13 (λK hK=>?_);go_simp;have hbn:lO (W4.alloc (Obj.cells #[Value.bool (decide (x.queue<0)),Value.bool (decide ((n2:Int)<=x.queue))] 4)).drew W4.heap.size 0 [decide (x.queue<0),decide ((n2:Int)<=x.queue)]:=fQ W4 [decide (x.queue<0),decide ((n2:Int)<=x.queue)];have k5:Below W4.heap.size W4 (W4.alloc (Obj.cells #[Value.bool (decide (x.queue<0)),Value.bool (decide ((n2:Int)<=x.queue))] 4)).drew:=(by repeat(first|exact dA _ _|assumption|refine nE ?_|refine cE ?_ (by first|(simp;done)|(simp;omega)|omega) _|refine pD ?_ (by first|(simp;done)|(simp;omega)|omega) _));by_cases hc:0<=x.queue/\x.queue<(n2:Int)
   ·have HOKX:Hid (lQ p.jB.length (l[k]'HKL.out)=true):=by show lQ p.jB.length (l[k]'HKL.out)=true;rw[<-HX.out,HN2.out];exact cP.2 hc
    refine(zM 5 [decide (x.queue<0),decide ((n2:Int)<=x.queue)] _ _ (by simp) hbn (by simp;omega)).mono ?_;rintro e w5⟨rfl,hw5⟩;have k5':Below W4.heap.size W4 w5:=by rw[hw5];exact k5
    refine hK.out _ _ (HSS.out _ k5') (λ_=>?_);have K5:=aA (K4.out.trans (k5'.mono s4));clear hK K hw5 hbn k5 k5' hc;try refine hG ?_
    refine gC (by kernel_rfl) ?_ _;go_wp2_with fail;go_roundw;case rel=>exact⟨k+1,HLT.out,by have:=HLT.out;go_num,NQ HKL.out HAL.out HOKX.out,K5.out⟩
    case measure=>have:=HLT.out;simp[intOf];omega
   ·have HBAD:Hid (E=5):=by
     show E=5;rw[HE2.out,qA];refine UG HKL.out ?_;rw[<-HX.out,HN2.out];exact BV.2 hc
    refine(aN 5 [decide (x.queue<0),decide ((n2:Int)<=x.queue)] _ _ (by simp) hbn (by simp;omega)).mono ?_;rintro e w5⟨rfl,rfl⟩;exact⟨rfl,by rw[HBAD.out];rfl,K4.out.trans (k5.mono s4)⟩
  ·have hke:k=mb:=by omega
   obtain rfl:=hke.symm;have HE3:Hid (E=if l.all (λa=>nH (yK a))=false then 1 else if 524288<s.gA then 2 else 0):=by
    show E=_;have:=HAL.out;rw[iB (by rw[HLL.out];exact eA _)]at this;rw[HE2.out,kA (by rw[this];decide)]
   clear hlt hk;go_wp2_with fail;go_loopw[36](λi wr=>∃k:Nat,k<=mb/\i=.int .i64 k/\(l.take k).all (λa=>nH (yK a))=true/\Below w.heap.size w wr)(λi _=>mb-(intOf i).toNat);case atStart=>exact⟨0,zA _,rfl,by simp,HB.out⟩
   case round=>
    clear hB hBs HAL HB;obtain⟨k,hk,rfl,hal,hB⟩:=hrel;have HAL:=aA hal;have HB:=aA hB;have hBs:=hB.size;clear hal;by_cases hlt:k<mb
    ·have HLT:=aA hlt;have hkl:k<l.length:=by rw[HLL.out];exact hlt
     have HKL:=aA hkl;obtain⟨g,o,hga,hgl,e0,e1,e2,e3⟩:=oN.get (HL.out.sA hB) hkl;obtain⟨x,hx⟩:∃x,x=l[k]'HKL.out:=⟨_,rfl⟩;rw[<-hx]at e0 e1 e2 e3;have HX:=aA hx;subst hga;obtain⟨W4,hW4⟩:∃W4,W4=wr.alloc (.cells #[.int .i64 x.queue,.string x.key,.string x.body,.int .i64 x.fC] 116):=⟨_,rfl⟩;have k4:Below wr.heap.size wr W4:=by rw[hW4];exact(dA _ _).alloc (eA _) _
     have b4:W4.heap[wr.heap.size]?=some (.cells #[.int .i64 x.queue,.string x.key,.string x.body,.int .i64 x.fC] 116 (0,0)):=by rw[hW4];exact jA wr _
     have K4:=aA (hB.trans (k4.mono hBs));have HW4:=aA hW4;have j1:(0:Int)<=(k:Int):=by omega
     have j2:(k:Int)<mb:=by omega
     have s4:=K4.out.size;have d0:=yB b4 0;have d1:=yB b4 1;have d2:=yB b4 2;have d3:=yB b4 3;simp at d0 d1 d2 d3;clear hx hW4 k4 b4 hkl;go_upto_region 9 with fail;rw[<-HW4.out];go_wp2_with fail;refine(JB x.queue x.fC 0 x.key x.body W4).mono ?_;rintro e w5⟨rfl,k5⟩;obtain⟨W6,hW6⟩:∃W6,W6=w5.alloc (.cells #[.int .i64 0,.string x.key,.string x.body,.bool false,.int .i64 x.fC] 86):=⟨_,rfl⟩;have k6:Below w5.heap.size w5 W6:=by rw[hW6];exact(dA _ _).alloc (eA _) _
     have HIT:Hid (qI W6 (some ⟨w5.heap.size,0,none⟩) [yK x]):=by
      show qI W6 _ _;rw[hW6];exact aY.2 (GJ (cs:=[.int .i64 0,.string x.key,.string x.body,.bool false,.int .i64 x.fC]))
     have K6:=aA (K4.out.trans ((k5.trans (k6.mono k5.size)).mono s4));have HW6:=aA hW6;have s6:=K6.out.size;clear hW6 k5 k6 d0 d1 d2 d3 e0 e1 e2 e3;go_wp2_with(rw[<-HW6.out]);refine(gW [yK x] _ _ _ W6 rfl (by unfold maxLen;simp) HIT.out).mono ?_;rintro e w7⟨rfl,k7⟩;rw[I3];have k7':=K6.out.trans (k7.mono s6);have k8:=k7'.alloc k7'.size (.cells #[.int .i64 0] 27);cases hio:nH (yK x)with
     |true=>
       rw[qA rfl];have HOKX:Hid (nH (yK (l[k]'HKL.out))=true):=by show nH (yK (l[k]'HKL.out))=true;rw[<-HX.out];exact hio
       clear hio k7;go_wp2_with(go_at_call 69;refine(rS _ _ (rM _ _ _) (by simp)).mono ?_;rintro e w9⟨rfl,hB9⟩;have k9:=k8.trans (hB9.mono k8.size);have K9:=aA k9;clear hB9 k9);go_roundw;case rel=>exact⟨k+1,HLT.out,by have:=HLT.out;go_num,NQ (P:=λa=>nH (yK a)) HKL.out HAL.out HOKX.out,K9.out⟩
       case measure=>have:=HLT.out;simp[intOf];omega
     |false=>
       rw[kA (by decide)];have HBAD:Hid (E=1):=by
        show E=1;rw[HE3.out,qA];exact UG (P:=λa=>nH (yK a)) HKL.out (by rw[<-HX.out];exact hio)
       clear hio k7;go_wp2_with(go_at_call 69;refine(qV 1 _ _ (rM _ _ _) (by simp) (by decide)).mono ?_;rintro e w9⟨rfl,hB9⟩);have k8':=k7'.alloc k7'.size (.cells #[.int .i64 1] 27);exact⟨rfl,by rw[HBAD.out];rfl,k8'.trans (hB9.mono k8'.size)⟩
    ·have hke:k=mb:=by omega
     obtain rfl:=hke.symm;have HE4:Hid (E=if 524288<s.gA then 2 else 0):=by
      show E=_;have:=HAL.out;rw[iB (by rw[HLL.out];exact eA _)]at this;rw[HE3.out,kA (by rw[this];decide)]
     obtain⟨_,_,_,_,_,_,_,_,_,hbt,_⟩:=HBX.out.sA hB;have t3:=yB hbt 3;have p0:=yB (pB HH.out.box hB) 0;simp at t3 p0;clear hlt hk hbt;go_wp2_with fail;by_cases hc:524288<s.gA;·refine(aN 2 [decide (524288<s.gA)] _ _ (by simp) (fQ wr [decide (524288<s.gA)]) (by simp[hc])).mono ?_;rintro e w5⟨rfl,rfl⟩;exact⟨rfl,by rw[HE4.out,qA hc];rfl,HB.out.alloc hBs _⟩
     ·refine(zM 2 [decide (524288<s.gA)] _ _ (by simp) (fQ wr [decide (524288<s.gA)]) (by simp;omega)).mono ?_;rintro e w5⟨rfl,hw5⟩;have K5:Hid (Below w.heap.size w w5):=by show Below w.heap.size w w5;rw[hw5];exact HB.out.alloc hBs _
      have HE5:Hid (E=0):=by show E=0;rw[HE4.out,kA hc]
      clear hw5 hc;go_wp2_with fail;go_end0;exact⟨by rw[HE5.out];rfl,K5.out⟩
structure lW(p:lD)(s:yC)(l:List fF)(i:Nat)(xs:List fF)(si:yC):Prop where
 right:mH p si 0
 ok:∀a∈xs.drop i,mR p a
 fuel:i+nY si (xs.drop i)<=564
 seq:si.gA=s.gA+i
 le:i<=xs.length
 few:xs.length<=4+4*i
 S:oI p (600-i) si (xs.drop i)=oI p 600 s l
 N:i+jJ p (600-i) si (xs.drop i)=jJ p 600 s l
theorem lW.start{p:lD}{s:yC}{l:List fF}(hR:mH p s 0)(h1:l.length<=4)(h2:∀a∈l,mR p a):lW p s l 0 l s:=
 ⟨hR,by simpa using h2,by have:=MG hR h1;simpa using this,by simp,zA _,by omega,by simp,by simp⟩
theorem lW.step{p:lD}{s:yC}{l:List fF}{i:Nat}{xs:List fF}{si:yC}(h:lW p s l i xs si)(hs:s.gA<=524288)(hi:i<xs.length):mR p xs[i]/\si.gA<1048576/\i<564/\lW p s l (i+1) (xs++qR p si xs[i]) (cT p si xs[i]):=by
 have hd:xs.drop i=xs[i]::xs.drop (i+1):=vC hi;have hf:=h.fuel;have hok:=h.ok;have hS:=h.S;have hN:=h.N;rw[hd]at hf hok hS hN;have ha:=hok _ jE;have hpos:=UQ (s:=si) (a:=xs[i]) (l:=xs.drop (i+1));have hsq:si.gA<1048576:=by rw[h.seq];omega
 have hph:=TX (l:=xs.drop (i+1)) h.right ha hsq;obtain⟨r1,r2⟩:=FH h.right ha hsq;have hd2:(xs++qR p si xs[i]).drop (i+1)=xs.drop (i+1)++qR p si xs[i]:=aJ (by omega);have hfu:600-i=(600-(i+1))+1:=by omega
 have hq:=h.right.rp.few.2.1;have hfew:=h.few;refine⟨ha,hsq,by omega,h.right.recv ha hsq,?_,?_,?_,?_,?_,?_,?_⟩
 ·intro b hb;rw[hd2]at hb;rcases oC.1 hb with hb|hb;·exact hok b (cF _ hb)
  ·exact r1 b hb
 ·rw[hd2];omega
 ·rw[UA,h.seq];omega
 ·rw[dC];omega
 ·rw[dC];omega
 ·rw[hd2,<-hS,hfu];rfl
 ·rw[hd2,<-hN,hfu];show i+1+_=i+(jJ p (600-(i+1)) _ _+1);omega
theorem lW.done{p:lD}{s:yC}{l:List fF}{i:Nat}{xs:List fF}{si:yC}(h:lW p s l i xs si)(hi:¬i<xs.length):si=oI p 600 s l/\(xs.length:Int)=jJ p 600 s l:=by
 have hd:xs.drop i=[]:=mD (by omega);have hS:=h.S;have hN:=h.N;have hle:=h.le;rw[hd]at hS hN;rw[RY]at hS;rw[SM]at hN;exact⟨hS,by omega⟩
theorem XI(p:lD)(a1 a2 a3:Option Addr)(n1 c1 n2 c2 n3 c3:Nat)(s:yC)(l:List fF)(b:Option Addr)(mb cb Bp Bl:Nat)(w:World)(hp:sG w a1 a2 a3 n1 n2 n3 p)(x0:w.heap[Bp]?=some (.cells #[.slice a1 n1 c1,.slice a2 n2 c2,.slice a3 n3 c3] 26 (0,0)))(x1:w.heap[Bl]?=some (.cells #[.slice b mb cb] 113 (0,0)))(hl:oN w b l)(hll:l.length=mb)(hmb:mb<=maxLen)(hbn:b=none->cb=0/\mb=0)(hR:mH p s 0):
 nU 145 #[.pointer (some ⟨Bp,0,none⟩),.pointer (some ⟨Bl,0,none⟩)] w s (vS p s l) (jJ p 600 s l) (oI p 600 s l):=by
 intro W n t hBW hwt htn hnW hbx;obtain⟨E,hE⟩:∃E,E=vS p s l:=⟨_,rfl⟩;obtain⟨NN,hNN⟩:∃NN:Int,NN=jJ p 600 s l:=⟨_,rfl⟩;rw[<-hE,<-hNN];have HE:=aA hE;have HNN:=aA hNN;have HP:=aA hp;have HR:=aA hR;have HBX:=aA hbx;have HL:=aA hl;have HLL:=aA hll;have HBN:=aA hbn;have HBW:=aA hBW;have hlp:=bE x0;have hlb:=bE x1;have hsz:=hBW.size;have X0:=aA (pB x0 hBW);have X1:=aA (pB x1 hBW);have hap:(#[Value.pointer (some ⟨t,0,none⟩)]++#[Value.pointer (some ⟨Bp,0,none⟩),Value.pointer (some ⟨Bl,0,none⟩)]:Array Value)=#[.pointer (some ⟨t,0,none⟩),.pointer (some ⟨Bp,0,none⟩),.pointer (some ⟨Bl,0,none⟩)]:=rfl;rw[hap];obtain⟨H,hH⟩:∃H,H=W.heap.size:=⟨_,rfl⟩;obtain⟨W1,hW1⟩:∃W1,W1=W.alloc (.cells #[.pointer (some ⟨t,0,none⟩),.slice a1 n1 c1,.slice a2 n2 c2,.slice a3 n3 c3,.slice none 0 0] 174):=⟨_,rfl⟩;have k1:Below W.heap.size W W1:=by rw[hW1];exact(dA _ _).alloc (eA _) _
 have hh1:nM W1 (H+1) H t (.slice a1 n1 c1) (.slice a2 n2 c2) (.slice a3 n3 c3) [] none 0 0:=⟨by rw[hW1,hH];exact jA W _,jC _ _ _ _⟩;have hz1:W1.heap.size=H+1:=by rw[hW1,hH];simp
 have HZ1:=aA hz1;have HW1:=aA hW1;have K1:=aA k1;have HH1:=aA hh1;have HHH:=aA hH;obtain⟨p0,p1,p2⟩:=xH X0.out;have y1:=yB (pB X1.out k1) 0;simp at y1;clear hE hNN hp x0 x1 hl hll hbn hR hbx hap hBW hW1 k1 hh1 hz1 hH;go_enter Tryz.func145,Tryz.ntmps145;go_upto_region 2 with fail;rw[<-HW1.out,<-HHH.out];have HA1:=aA ((HL.out.sA HBW.out).sA K1.out);have HCK:=aA (A_ p s l b mb cb (H+1) H n t n2 c2 (.slice a1 n1 c1) (.slice a3 n3 c3) a2 [] none 0 0 W1 HP.out.l2 HA1.out HLL.out hmb HH1.out (HBX.out.sA K1.out));clear p0 p1 p2;go_wp2_with fail;refine HCK.out.mono ?_;rintro e w2⟨rfl,k2⟩;rw[<-HE.out];have hHn:n<=H:=by have:=HHH.out;omega
 have K2:=aA (K1.out.trans (k2.mono (by have:=HZ1.out;have:=HHH.out;omega)));by_cases hz:E=0;rotate_left;·rw[eX hz];unfold aK;exact⟨rfl,qE.kB K2.out hnW,.inl ⟨hz,rfl⟩⟩
 subst hz;rw[dV];unfold xR;obtain⟨q1,q2,q3⟩:=KM HE.out.symm;have HQ2:=aA q2;have HQ3:=aA q3;have HINV:=aA (lW.start HR.out q1 q2);have HH2:=aA (HH1.out.sA k2);have s2:=k2.size;have hz2:H+1<=w2.heap.size:=by have:=HZ1.out;omega
 have HBX2:=aA (HBX.out.sA K2.out);have y2:=yB (pB X1.out K2.out) 0;simp at y2;have hmb4:mb<=4:=by have:=HLL.out;omega
 have HWT:=aA (LF (H+1) H t (.slice a1 n1 c1) (.slice a2 n2 c2) (.slice a3 n3 c3) [] l none b 0 0 mb cb w2 HH2.out (Nat.lt_succ_self _) hz2 (HA1.out.sA k2) HLL.out HBN.out (by omega));clear k2 y1 q1 q2 q3;go_wp2_with fail;refine HWT.out.mono ?_;rintro e w3⟨a3',c3',rfl,hh3,hHF3⟩;have HBX3:=aA (hHF3.stBox HBX2.out ⟨_,HH2.out.box⟩);have F3:Hid (qE n t W w3):=(qE.kB K2.out hnW).trans ⟨hHF3.os,hHF3.tape,hHF3.output,hHF3.size,λk h1 h2=>hHF3.low k (by omega) (by omega)⟩;have HS3:Hid (H+1<=w3.heap.size):=by have:=hHF3.size;show H+1<=w3.heap.size;omega
 have HH3:=aA hh3;unfold xR;clear hh3 hHF3 y2;go_wp2_with fail;go_loopw[6](λi wr=>∃(k:Nat)(xs:List fF)(si:yC)(ab:Option Addr)(am ac:Nat),i=.int .i64 k/\lW p s l k xs si/\nM wr (H+1) H t (.slice a1 n1 c1) (.slice a2 n2 c2) (.slice a3 n3 c3) xs ab am ac/\mE wr n t si/\qE n t W wr/\H+1<=wr.heap.size)(λi _=>600-(intOf i).toNat);case atStart=>exact⟨0,l,s,a3',0+mb,c3',rfl,HINV.out,HH3.out,HBX3.out,F3.out,HS3.out⟩
 case round=>
  obtain⟨k,xs,si,ab,am,ac,rfl,hinv,hh,hbx,hF,hsz2⟩:=hrel;have HI:=aA hinv;have HH:=aA hh;have HBX4:=aA hbx;have HF:=aA hF;have hc4:=yB hh.box 4;simp at hc4;have HAM:=aA hh.len;have hfew:=hinv.few;have hkl0:=hinv.le;clear hinv hh hbx hF;by_cases hlt:k<am
  ·have hkl:k<xs.length:=by rw[<-HAM.out];exact hlt
   obtain⟨r1,r2,r3,r4⟩:=HI.out.step HQ3.out hkl;obtain⟨g,o,hga,hgl,e0,e1,e2,e3⟩:=oN.get (zV HH.out.row) hkl;have HNXT:=aA r4;obtain⟨x,hx⟩:∃x,x=xs[k]'hkl:=⟨_,rfl⟩;rw[<-hx]at e0 e1 e2 e3 r1 HNXT;subst hga;have hdr:si.iA<=10000000:=by have h1:=HI.out.right.sum;have h2:=HI.out.right.cs;have h3:=HI.out.right.ns;have h4:=HI.out.right.ak;have h5:(0:Int)<=((kI si).length:Int):=Int.natCast_nonneg _;omega
   have HRC:=aA (ZD p a1 a2 a3 n1 c1 n2 c2 n3 c3 si x xs (some ⟨g,o,none⟩) am ac (H+1) H n t w wr HP.out (HBW.out.trans (HF.out.below (by omega) hwt)) hwt htn hHn (Nat.lt_succ_self _) hsz2 HI.out.right r1 r2 hdr HH.out (by omega) HBX4.out);have j1:(0:Int)<=(k:Int):=by omega
   have j2:(k:Int)<am:=by omega
   have hk600:k<564:=r3;have HLT:=aA hlt;clear hx r1 r2 r3 r4 hdr;go_wp2_with fail;refine HRC.out.mono ?_;rintro e w5⟨a5,m5,c5,rfl,hh5,hbx5,hF5⟩;have HH5:=aA hh5;have HBX5:=aA hbx5;have HF5:=aA (HF.out.trans ⟨hF5.os,hF5.tape,hF5.output,hF5.size,hF5.block⟩);have s5:=hF5.size;unfold xR;clear hh5 hbx5 hF5 hc4 e0 e1 e2 e3;go_wp2_with fail;go_roundw;case rel=>exact⟨k+1,_,_,a5,m5,c5,by go_num,HNXT.out,HH5.out,HBX5.out,HF5.out,by omega⟩
   case measure=>simp[intOf];omega
  ·have hkl:¬k<xs.length:=by rw[<-HAM.out];exact hlt
   obtain⟨d1,d2⟩:=HI.out.done hkl;have HD1:=aA d1;have HD2:Hid ((am:Int)=NN):=by show(am:Int)=NN;rw[HNN.out,HAM.out];exact d2
   clear d1 d2;go_wp2_with fail;go_ret;exact⟨HF.out,by rw[<-HD2.out];rfl,by rw[<-HD1.out];exact HBX4.out⟩
theorem b_(x:kH)(w:World):Calls Tryz.prog 137 (#[x.val]++#[]) w λe w'=>e=.returned (.bool (decide (x.queue=-1)))/\Below w.heap.size w w':=by
 have h:(#[x.val]++#[]:Array Value)=#[.agg #[.int .i64 x.queue,.int .i64 x.nD]]:=rfl;rw[h];clear h;obtain⟨q,m⟩:=x;dsimp only;go_enter Tryz.func137,Tryz.ntmps137;go_wp2_with fail;go_ret;exact⟨eL (by by_cases h:q=-1<;>simp[h]),(dA _ _).alloc (eA _) _⟩
theorem TH(ts:List kH):yE (λt:kH=>decide (t.queue=-1)) ts=if iE ts<ts.length then(iE ts:Int)else-1:=rfl
theorem c_(p:lD)(a1 a2 a3:Option Addr)(n1 c1 n2 c2 n3 c3:Nat)(s:yC)(q nD:Int)(Bp Bq Bm:Nat)(w:World)(hp:sG w a1 a2 a3 n1 n2 n3 p)(x0:w.heap[Bp]?=some (.cells #[.slice a1 n1 c1,.slice a2 n2 c2,.slice a3 n3 c3] 26 (0,0)))(x1:w.heap[Bq]?=some (.cells #[.int .i64 q] 3 (0,0)))(x2:w.heap[Bm]?=some (.cells #[.int .i64 nD] 3 (0,0)))(hR:mH p s 0):
 nU 134 #[.pointer (some ⟨Bp,0,none⟩),.pointer (some ⟨Bq,0,none⟩),.pointer (some ⟨Bm,0,none⟩)] w s (iY n2 s q nD) (iE s.nA) (bR s q nD):=by
 intro W n t hBW hwt htn hnW hbx;obtain⟨b1,b2,b3,m1,d1,m2,d2,m3,d3,hb,ho⟩:=hbx;obtain⟨E,hE⟩:∃E,E=iY n2 s q nD:=⟨_,rfl⟩;rw[<-hE];have HE:=aA hE;have HO:=aA ho;have HB:=aA hb;have HP:=aA (hp.sA hBW);have HR:=aA hR;have X0:=aA (pB x0 hBW);have X1:=aA (pB x1 hBW);have X2:=aA (pB x2 hBW);have hlp:=bE x0;have hlq:=bE x1;have hlm:=bE x2;have hm3:m3<=4:=by rw[<-ho.l3];exact hR.tk
 have HM3:Hid (s.nA.length=m3):=ho.l3;have HTK:=aA (zY.2 (zV ho.r3));have hsz:=hBW.size;have hap:(#[Value.pointer (some ⟨t,0,none⟩)]++#[Value.pointer (some ⟨Bp,0,none⟩),Value.pointer (some ⟨Bq,0,none⟩),Value.pointer (some ⟨Bm,0,none⟩)]:Array Value)=#[.pointer (some ⟨t,0,none⟩),.pointer (some ⟨Bp,0,none⟩),.pointer (some ⟨Bq,0,none⟩),.pointer (some ⟨Bm,0,none⟩)]:=rfl;rw[hap];obtain⟨p0,p1,p2⟩:=xH X0.out;have cq:=yB X1.out 0;have cm:=yB X2.out 0;simp at cq cm;clear hE ho hb hp hR x0 x1 x2 hap hBW;go_enter Tryz.func134,Tryz.ntmps134;go_wp2_with fail;refine(ND p _ _ _ _ _ _ _ _ _ q _ HP.out).mono ?_;rintro e w1⟨rfl,k1⟩;have s1:=k1.size;by_cases h1:tG q n2=false
 ·rw[qA h1,eX (by decide)];unfold aK;have HE5:E=5:=by rw[HE.out];unfold iY;rw[qA h1]
  exact⟨rfl,qE.kB k1 hnW,.inl ⟨by rw[HE5];decide,by rw[HE5];rfl⟩⟩
 ·rw[kA h1,dV];unfold xR;have HEX:Hid (E=if pJ nD 1 4=false then 3 else if iE s.nA=s.nA.length/\4<=s.nA.length then 2 else 0):=by show E=_;rw[HE.out];unfold iY;rw[kA h1]
  have cm1:=(k1.cell (p:=⟨Bm,0,none⟩) (by show Bm<W.heap.size;omega)).trans cm;clear h1 p0 p1 p2 cq cm HE;by_cases h2:pJ nD 1 4=false
  ·have h2':nD<1\/4<nD:=by unfold pJ at h2;simp at h2;omega
   go_wp2_with fail;refine(aN 3 [decide (nD<1),decide ((4:Int)<nD)] _ _ (by simp) (bI w1 _ rfl) (by simp;omega)).mono ?_;rintro e w2⟨rfl,rfl⟩;have HE3:E=3:=by rw[HEX.out,qA h2]
   exact⟨rfl,qE.kB (k1.alloc s1 _) hnW,.inl ⟨by rw[HE3];decide,by rw[HE3];rfl⟩⟩
  ·have h2':¬(nD<1\/4<nD):=by unfold pJ at h2;simp at h2;omega
   go_wp2_with fail;refine(zM 3 [decide (nD<1),decide ((4:Int)<nD)] _ _ (by simp) (bI w1 _ rfl) (by simp;omega)).mono ?_;rintro e w2⟨rfl,hw2⟩;have HEY:Hid (E=if iE s.nA=s.nA.length/\4<=s.nA.length then 2 else 0):=by show E=_;rw[HEX.out,kA h2]
   have k2:Below W.heap.size W w2:=by rw[hw2];exact k1.alloc s1 _
   have s2:=k2.size;have K2:=aA k2;obtain⟨y0,y1,y2,y3,y4,y5,y6,y7⟩:=gD (pB HB.out k2);have f2:=pA (pB HB.out k2) 2;clear h2 h2' hw2 HEX cm1 k1 s1;go_wp2_with fail;refine(WM 137 (λ_ _=>rfl) #[] (λx=>decide (x.queue=-1)) s.nA b3 m3 d3 w2 HM3.out (by omega) (HTK.out.sA K2.out) (λx W' _=>b_ x W')).mono ?_;rintro e w3⟨rfl,k3'⟩;have k3:=K2.out.trans (k3'.mono s2);have K3:=aA k3;have s3:=k3.size;rw[TH];clear k3' y0 y1 y2 y3 y4 y5 y6 y7 f2 k2;obtain⟨y0,y1,y2,y3,y4,y5,y6,y7⟩:=gD (pB HB.out k3);have f2:=pA (pB HB.out k3) 2;by_cases hg:iE s.nA<s.nA.length
   ·rw[qA hg];have HE0:Hid (E=0):=by show E=0;rw[HEY.out,kA (by omega)]
    have HG:=aA hg;have hr3:=uI HO.out.r3 k3;obtain⟨g,rfl⟩:∃g,b3=some ⟨g,0,none⟩:=by
     rcases hr3.2 with⟨e,e0⟩|⟨g,cap,cur,e,_⟩;·exfalso;rw[HM3.out]at hg;omega
     ·cases e;exact⟨g,rfl⟩
    obtain⟨k,hk⟩:∃k,k=iE s.nA:=⟨_,rfl⟩;rw[<-hk]at hg⊢;have HK:=aA hk;have hkm:k<m3:=by rw[<-HM3.out];exact hg
    have cc0:=hr3.cellAt (k*2) (by omega);have cc1:=hr3.cellAt (k*2+1) (by omega);have e0:=dU (f:=kH.cells) (k:=2) (λ_=>rfl) s.nA k hg 0 (by omega);have e1:=dU (f:=kH.cells) (k:=2) (λ_=>rfl) s.nA k hg 1 (by omega);rw[show(rH s.nA)[k*2]?=some (.int .i64 s.nA[k].queue)from e0]at cc0;rw[show(rH s.nA)[k*2+1]?=some (.int .i64 s.nA[k].nD)from e1]at cc1;have ff0:=hr3.frozenAt (k*2);have ff1:=hr3.frozenAt (k*2+1);have cq3:=yB (pB X1.out k3) 0;have cm3:=yB (pB X2.out k3) 0;simp at cq3 cm3;have j0:¬(k:Int)<0:=by omega
    have j1:(0:Int)<=(k:Int):=by omega
    have j2:(k:Int)<m3:=by omega
    have HR3:=aA hr3;have HKL:=aA hg;clear e0 e1 hr3 hk k3;go_wp2_with fail;go_region;go_wp2_with fail;go_ret;have ho3:=HO.out.sA K3.out;obtain⟨h1,h2,h3⟩:=ho3.fE HKL.out ⟨q,nD⟩ rfl;have hbt:=(h2.block t _ _ (pB HB.out K3.out) (by decide)).trans (pB HB.out K3.out);refine⟨(((qE.kB K3.out hnW).typeSet h3 _).typeSet h3 _).drew,.inr ⟨HE0.out,by first|rfl|exact tJ (by rw[HK.out]),?_⟩⟩;refine mE.drew ⟨_,_,_,_,_,_,_,_,_,hbt,?_⟩;have e:bR s q nD={s with nA:=s.nA.set k ⟨q,nD⟩}:=by unfold bR tT;rw[qA (by rw[<-HK.out];exact HKL.out),<-HK.out]
    rw[e];exact h1
   ·rw[kA hg];have hge:iE s.nA=s.nA.length:=by have:=BH s.nA;omega
    have HGE:=aA hge;have HNG:=aA hg;by_cases h4:4<=m3
    ·have HE2:E=2:=by rw[HEY.out,qA ⟨hge,by rw[HM3.out];exact h4⟩]
     clear hg hge;go_wp2_with fail;refine(aN 2 [decide ((4:Int)<=(m3:Int))] _ _ (by simp) (bI w3 _ rfl) (by simp;omega)).mono ?_;rintro e w4⟨rfl,rfl⟩;exact⟨rfl,qE.kB (K3.out.alloc s3 _) hnW,.inl ⟨by rw[HE2];decide,by rw[HE2];rfl⟩⟩
    ·have HE0:Hid (E=0):=by show E=0;rw[HEY.out,kA (by rw[HM3.out];omega)]
     clear hg hge;go_wp2_with fail;refine(zM 2 [decide ((4:Int)<=(m3:Int))] _ _ (by simp) (bI w3 _ rfl) (by simp;omega)).mono ?_;rintro e w4⟨rfl,hw4⟩;have k4:Below W.heap.size W w4:=by rw[hw4];exact K3.out.alloc s3 _
     have s4:=k4.size;have K4:=aA k4;clear hw4 y0 y1 y2 y3 y4 y5 y6 y7 f2 k3;obtain⟨y0,y1,y2,y3,y4,y5,y6,y7⟩:=gD (pB HB.out k4);have f2:=pA (pB HB.out k4) 2;have l5:Below w4.heap.size w4 (w4.alloc (.cells #[.int .i64 0,.int .i64 0] 121)):=(dA _ _).alloc (eA _) _;have HO5:=aA ((HO.out.sA k4).sA l5);have HL5:=aA l5;have HRW:Hid (jK (w4.alloc (.cells #[.int .i64 0,.int .i64 0] 121)) (some ⟨w4.heap.size,0,none⟩) (rH [⟨0,0⟩])):=.inr ⟨_,0,rfl,by simp,λj u hj=>by
      rw[yB (jA w4 _),uD];have:(rH [⟨0,0⟩])[j]?=(#[Value.int .i64 0,Value.int .i64 0]:Array Value)[j]?:=by simp[rH,kH.cells]
      rw[<-this];exact hj⟩;clear l5;go_wp2_with(at_builtin;refine jT EJ (by kernel_rfl) _ _ rfl n _ m3 (rH s.nA) rfl HO5.out.r3 (some ⟨w4.heap.size,0,none⟩) 1 1 (rH [⟨0,0⟩]) rfl rfl (λh=>by cases h) HRW.out (DU _) (by unfold maxLen;omega) (by omega) (by simp;omega) ?_;intro v6 w6 hown6 hgrow6 hblk6;obtain⟨a6,c6,rfl,l6,l6',l6n,r6⟩:=jM hown6;have kt6:=jH.grown HO5.out.r3 hgrow6;have hb6:=(kt6.block t _ _ (pB (pB HB.out K4.out) HL5.out) (by decide)).trans (pB (pB HB.out K4.out) HL5.out);clear y0 y1 y2 y3 y4 y5 y6 y7 f2;obtain⟨y0,y1,y2,y3,y4,y5,y6,y7⟩:=gD hb6;have f2:=pA hb6 2;have HB6:=aA hb6;have HO6:=aA hown6;have KT6:=aA kt6;have HG6:=aA hgrow6;clear hb6 l6 l6' l6n r6 kt6 hgrow6 hblk6);generalize hW7:w6.setCell ⟨t,2,none⟩ (.slice a6 (m3+1) c6)=W7;have b7:W7.heap[t]?=some (.cells #[.slice b1 m1 d1,.slice b2 m2 d2,.slice a6 (m3+1) c6,.int .i64 s.gA,.int .i64 s.fA,.int .i64 s.nB,.int .i64 s.uA,.int .i64 s.iA] 39 (0,0)):=by rw[<-hW7];exact bG HB6.out (j:=2) _
     have kt7:jH 39 w6 W7:=by rw[<-hW7];exact jH.setCell HB6.out _
     have hf6:qE n t W w6:=((qE.kB K4.out hnW).trans (qE.kB HL5.out (by have:=K4.out.size;omega))).grown HG6.out (by simp;have:=K4.out.size;omega) (λj hj=>(HO5.out.r3.lt j hj).1);have hf7:qE n t W W7:=by rw[<-hW7];exact hf6.setCell (.inr rfl) _
     have ho6:fI w6 n b1 b2 a6 m1 d1 m2 d2 (m3+1) c6 {s with nA:=s.nA++[⟨0,0⟩]}:=HO5.out.nA KT6.out (by rw[MR];exact HO6.out);have ho7:=ho6.typeT kt7 (by decide);have q7:W7.heap[Bq]?=_:=(hf7.block Bq (by omega) (by omega)).trans X1.out;have mm7:W7.heap[Bm]?=_:=(hf7.block Bm (by omega) (by omega)).trans X2.out;have hr7:=ho7.r3;obtain⟨g,rfl⟩:∃g,a6=some ⟨g,0,none⟩:=by
      rcases hr7.2 with⟨e,e0⟩|⟨g,cap,cur,e,_⟩;·omega
      ·cases e;exact⟨g,rfl⟩
     have hkl:m3<(s.nA++[(⟨0,0⟩:kH)]).length:=by rw[dC,HM3.out];simp
     have cc0:=hr7.cellAt (m3*2) (by omega);have cc1:=hr7.cellAt (m3*2+1) (by omega);have e0:=dU (f:=kH.cells) (k:=2) (λ_=>rfl) (s.nA++[(⟨0,0⟩:kH)]) m3 hkl 0 (by omega);have e1:=dU (f:=kH.cells) (k:=2) (λ_=>rfl) (s.nA++[(⟨0,0⟩:kH)]) m3 hkl 1 (by omega);rw[show(rH (s.nA++[(⟨0,0⟩:kH)]))[m3*2]?=some (.int .i64 (s.nA++[(⟨0,0⟩:kH)])[m3].queue)from e0]at cc0;rw[show(rH (s.nA++[(⟨0,0⟩:kH)]))[m3*2+1]?=some (.int .i64 (s.nA++[(⟨0,0⟩:kH)])[m3].nD)from e1]at cc1;have ff0:=hr7.frozenAt (m3*2);have ff1:=hr7.frozenAt (m3*2+1);have cq3:=yB q7 0;have cm3:=yB mm7 0;simp at cq3 cm3;clear y0 y1 y2 y3 y4 y5 y6 y7 f2;obtain⟨y0,y1,y2,y3,y4,y5,y6,y7⟩:=gD b7;have j1:(0:Int)<=(m3:Int):=by omega
     have j2:(m3:Int)<((m3+1:Nat):Int):=by omega
     have j3:(m3:Int)<(m3:Int)+1:=by omega
     obtain⟨u0,hu0⟩:∃u0,u0=(s.nA++[(⟨0,0⟩:kH)])[m3].queue:=⟨_,rfl⟩;obtain⟨u1,hu1⟩:∃u1,u1=(s.nA++[(⟨0,0⟩:kH)])[m3].nD:=⟨_,rfl⟩;rw[<-hu0]at cc0;rw[<-hu1]at cc1;have HF7:=aA hf7;have B7:=aA b7;have HO7:=aA ho7;have HKL:=aA hkl;clear hu0 hu1 e0 e1 hr7 hf6 hf7 b7 ho6 ho7 q7 mm7 kt7 hW7 k4;go_region;go_wp2_with fail;go_ret;obtain⟨h1,h2,h3⟩:=HO7.out.fE HKL.out ⟨q,nD⟩ rfl;have hbt:=(h2.block t _ _ B7.out (by decide)).trans B7.out;refine⟨((HF7.out.typeSet h3 _).typeSet h3 _).drew,.inr ⟨HE0.out,by first|rfl|exact tJ (by rw[HGE.out,HM3.out]),?_⟩⟩;refine mE.drew ⟨_,_,_,_,_,_,_,_,_,hbt,?_⟩;have e:bR s q nD={s with nA:=(s.nA++[(⟨0,0⟩:kH)]).set m3 ⟨q,nD⟩}:=by
      unfold bR tT;rw[kA HNG.out];have:(s.nA++[(⟨0,0⟩:kH)]).set m3 ⟨q,nD⟩=s.nA++[⟨q,nD⟩]:=by
       rw[List.set_append_right _ _ (by rw[HM3.out];exact eA _),HM3.out];simp
      rw[this]
     rw[e];exact h1
def wJ(E:Int)(N:Int):Int:=if E=0 then N else 0
theorem O5(p:lD)(a1 a2 a3:Option Addr)(n1 c1 n2 c2 n3 c3:Nat)(s:yC)(b1 b2 b3:Option Addr)(m1 d1 m2 d2 m3 d3:Nat)(q nD:Int)(w:World)(hp:sG w a1 a2 a3 n1 n2 n3 p)(hs:gK w b1 b2 b3 m1 m2 m3 s)(hn2:b2=none->d2=0)(hn3:b3=none->d3=0):
 Calls Tryz.prog 98 #[.agg #[.slice a1 n1 c1,.slice a2 n2 c2,.slice a3 n3 c3],.agg #[.slice b1 m1 d1,.slice b2 m2 d2,.slice b3 m3 d3,.int .i64 s.gA,.int .i64 s.fA,.int .i64 s.nB,.int .i64 s.uA,.int .i64 s.iA],.int .i64 q,.int .i64 nD] w λe w'=>∃v,e=.returned (.tuple #[v,.int .i64 (wJ (oR p s q nD) (iE s.nA)),.int .i64 (oR p s q nD)])/\kK w' w.heap.size v (oR p s q nD) (bR s q nD)/\Below w.heap.size w w':=by
 obtain⟨hz5,hg5,hB5⟩:=tR [.cells #[.slice a1 n1 c1,.slice a2 n2 c2,.slice a3 n3 c3] 26,.cells #[.slice b1 m1 d1,.slice b2 m2 d2,.slice b3 m3 d3,.int .i64 s.gA,.int .i64 s.fA,.int .i64 s.nB,.int .i64 s.uA,.int .i64 s.iA] 39,.cells #[.int .i64 q] 3,.cells #[.int .i64 nD] 3,.cells #[.slice none 0 0,.slice none 0 0,.slice none 0 0,.int .i64 0,.int .i64 0,.int .i64 0,.int .i64 0,.int .i64 0] 39] w;obtain⟨W5,hW5⟩:∃W5,W5=List.foldl World.alloc w [.cells #[.slice a1 n1 c1,.slice a2 n2 c2,.slice a3 n3 c3] 26,.cells #[.slice b1 m1 d1,.slice b2 m2 d2,.slice b3 m3 d3,.int .i64 s.gA,.int .i64 s.fA,.int .i64 s.nB,.int .i64 s.uA,.int .i64 s.iA] 39,.cells #[.int .i64 q] 3,.cells #[.int .i64 nD] 3,.cells #[.slice none 0 0,.slice none 0 0,.slice none 0 0,.int .i64 0,.int .i64 0,.int .i64 0,.int .i64 0,.int .i64 0] 39]:=⟨_,rfl⟩;rw[<-hW5]at hz5 hg5 hB5;have HW5:Hid (W5=(((((w.alloc (.cells #[.slice a1 n1 c1,.slice a2 n2 c2,.slice a3 n3 c3] 26)).alloc (.cells #[.slice b1 m1 d1,.slice b2 m2 d2,.slice b3 m3 d3,.int .i64 s.gA,.int .i64 s.fA,.int .i64 s.nB,.int .i64 s.uA,.int .i64 s.iA] 39)).alloc (.cells #[.int .i64 q] 3)).alloc (.cells #[.int .i64 nD] 3)).alloc (.cells #[.slice none 0 0,.slice none 0 0,.slice none 0 0,.int .i64 0,.int .i64 0,.int .i64 0,.int .i64 0,.int .i64 0] 39))):=hW5;have hz5':W5.heap.size=w.heap.size+5:=by rw[hz5];rfl
 have x0:=hg5 0 _ rfl;have x1:=hg5 1 _ rfl;have x2:=hg5 2 _ rfl;have x3:=hg5 3 _ rfl;have x4:=hg5 4 _ rfl;obtain⟨E,hE⟩:∃E,E=oR p s q nD:=⟨_,rfl⟩;rw[<-hE];obtain⟨N,hN⟩:∃N,N=wJ E (iE s.nA):=⟨_,rfl⟩;rw[<-hN];have hl2:=hp.l2;have T:=DC p a1 a2 a3 n1 c1 n2 c2 n3 c3 s b1 b2 b3 m1 d1 m2 d2 m3 d3 134 (λ_ _=>rfl) #[.pointer (some ⟨w.heap.size,0,none⟩),.pointer (some ⟨w.heap.size+2,0,none⟩),.pointer (some ⟨w.heap.size+3,0,none⟩)] E (iE s.nA) (bR s q nD) W5 (hp.sA hB5) (hs.sA hB5) hn2 hn3
  (λh=>by rw[hE];unfold oR;rw[qA h])
  (λh=>by
   have e:E=iY n2 s q nD:=by rw[hE,<-hl2];unfold oR;rw[kA (by simp[h])]
   rw[e];exact c_ p a1 a2 a3 n1 c1 n2 c2 n3 c3 s q nD _ _ _ W5 (hp.sA hB5) x0 x2 x3 (nN h));rw[show(if E=0 then((iE s.nA:Nat):Int)else 0)=N from hN.symm]at T;have HT:=aA T;have X4:=aA x4;have HZ5:=aA hz5';have HB5:=aA hB5;have hmf:∀(fn:Fn)(first cap:Array Value)(w:World),(Instr.makeFunc fn first cap).run Tryz.prog w=.ok (.func fn first cap) w:=λ_ _ _ _=>rfl;clear T hW5 hz5 hz5' hg5 hB5 x0 x1 x2 x3 x4 hE hN hp hs hn2 hn3 hl2;go_enter Tryz.func98,Tryz.ntmps98;go_wp2_with fail;rw[<-HW5.out];refine HT.out.mono ?_;rintro e w6⟨v,rfl,hres,hB6⟩;have x6:=pB X4.out hB6;obtain⟨y0,y1,y2,y3,y4,y5,y6,y7⟩:=gD x6;have f0:=pA x6 0;have f1:=pA x6 1;have f2:=pA x6 2;have f3:=pA x6 3;have f4:=pA x6 4;have f5:=pA x6 5;have f6:=pA x6 6;have f7:=pA x6 7;obtain⟨x1,x2,x3,k1,e1,k2,e2,k3,e3,i1,i2,i3,i4,i5,rfl⟩:=hres.shape;have X6:=aA x6;have HRES:=aA hres;have HB6:=aA hB6;clear x6 hres hB6;go_wp2_with fail;generalize hW4:World.setCell (World.setCell (World.setCell (World.setCell (World.setCell (World.setCell (World.setCell (World.setCell w6 _ _) _ _) _ _) _ _) _ _) _ _) _ _) _ _=W4;obtain⟨b4,t4⟩:=eD X6.out hW4;obtain⟨z0,z1,z2,z3,z4,z5,z6,z7⟩:=gD b4;exact dB (v:=.tuple #[.agg #[.slice x1 k1 e1,.slice x2 k2 e2,.slice x3 k3 e3,.int .i64 i1,.int .i64 i2,.int .i64 i3,.int .i64 i4,.int .i64 i5],.int .i64 N,.int .i64 E]) (by simp[results,Tryz.results98,go_sem,z0,z1,z2,z3,z4,z5,z6,z7]) rfl ⟨_,rfl,(HRES.out.bF X6.out t4).lower (by have:=HZ5.out;omega),HB5.out.trans ((HB6.out.mono HB5.out.size).trans (t4.below (by have:=HB6.out.size;have:=HZ5.out;omega) (by omega)))⟩
def kJ(p:lD)(s:yC)(l:List fF):Int:=if zG p s≠0 then zG p s else vS p s l
theorem AF(p:lD)(a1 a2 a3:Option Addr)(n1 c1 n2 c2 n3 c3:Nat)(s:yC)(b1 b2 b3:Option Addr)(m1 d1 m2 d2 m3 d3:Nat)(l:List fF)(b:Option Addr)(mb cb:Nat)(w:World)(hp:sG w a1 a2 a3 n1 n2 n3 p)(hs:gK w b1 b2 b3 m1 m2 m3 s)(hn2:b2=none->d2=0)(hn3:b3=none->d3=0)(hl:oN w b l)(hll:l.length=mb)(hmb:mb<=maxLen)(hbn:b=none->cb=0/\mb=0):
 Calls Tryz.prog 107 #[.agg #[.slice a1 n1 c1,.slice a2 n2 c2,.slice a3 n3 c3],.agg #[.slice b1 m1 d1,.slice b2 m2 d2,.slice b3 m3 d3,.int .i64 s.gA,.int .i64 s.fA,.int .i64 s.nB,.int .i64 s.uA,.int .i64 s.iA],.slice b mb cb] w λe w'=>∃v,e=.returned (.tuple #[v,.int .i64 (wJ (kJ p s l) ((jJ p 600 s l:Nat))),.int .i64 (kJ p s l)])/\kK w' w.heap.size v (kJ p s l) (oI p 600 s l)/\Below w.heap.size w w':=by
 obtain⟨hz5,hg5,hB5⟩:=tR [.cells #[.slice a1 n1 c1,.slice a2 n2 c2,.slice a3 n3 c3] 26,.cells #[.slice b1 m1 d1,.slice b2 m2 d2,.slice b3 m3 d3,.int .i64 s.gA,.int .i64 s.fA,.int .i64 s.nB,.int .i64 s.uA,.int .i64 s.iA] 39,.cells #[.slice b mb cb] 113,.cells #[.slice none 0 0,.slice none 0 0,.slice none 0 0,.int .i64 0,.int .i64 0,.int .i64 0,.int .i64 0,.int .i64 0] 39] w;obtain⟨W5,hW5⟩:∃W5,W5=List.foldl World.alloc w [.cells #[.slice a1 n1 c1,.slice a2 n2 c2,.slice a3 n3 c3] 26,.cells #[.slice b1 m1 d1,.slice b2 m2 d2,.slice b3 m3 d3,.int .i64 s.gA,.int .i64 s.fA,.int .i64 s.nB,.int .i64 s.uA,.int .i64 s.iA] 39,.cells #[.slice b mb cb] 113,.cells #[.slice none 0 0,.slice none 0 0,.slice none 0 0,.int .i64 0,.int .i64 0,.int .i64 0,.int .i64 0,.int .i64 0] 39]:=⟨_,rfl⟩;rw[<-hW5]at hz5 hg5 hB5;have HW5:Hid (W5=((((w.alloc (.cells #[.slice a1 n1 c1,.slice a2 n2 c2,.slice a3 n3 c3] 26)).alloc (.cells #[.slice b1 m1 d1,.slice b2 m2 d2,.slice b3 m3 d3,.int .i64 s.gA,.int .i64 s.fA,.int .i64 s.nB,.int .i64 s.uA,.int .i64 s.iA] 39)).alloc (.cells #[.slice b mb cb] 113)).alloc (.cells #[.slice none 0 0,.slice none 0 0,.slice none 0 0,.int .i64 0,.int .i64 0,.int .i64 0,.int .i64 0,.int .i64 0] 39))):=hW5;have hz5':W5.heap.size=w.heap.size+4:=by rw[hz5];rfl
 have x0:=hg5 0 _ rfl;have x1:=hg5 1 _ rfl;have x2:=hg5 2 _ rfl;have x3:=hg5 3 _ rfl;obtain⟨E,hE⟩:∃E,E=kJ p s l:=⟨_,rfl⟩;rw[<-hE];obtain⟨N,hN⟩:∃N,N=wJ E ((jJ p 600 s l:Nat)):=⟨_,rfl⟩;rw[<-hN];have T:=DC p a1 a2 a3 n1 c1 n2 c2 n3 c3 s b1 b2 b3 m1 d1 m2 d2 m3 d3 145 (λ_ _=>rfl) #[.pointer (some ⟨w.heap.size,0,none⟩),.pointer (some ⟨w.heap.size+2,0,none⟩)] E ((jJ p 600 s l:Nat)) (oI p 600 s l) W5 (hp.sA hB5) (hs.sA hB5) hn2 hn3
  (λh=>by rw[hE];unfold kJ;rw[qA h])
  (λh=>by
   have e:E=vS p s l:=by rw[hE];unfold kJ;rw[kA (by simp[h])]
   rw[e];exact XI p a1 a2 a3 n1 c1 n2 c2 n3 c3 s l b mb cb _ _ W5 (hp.sA hB5) x0 x2 (hl.sA hB5) hll hmb hbn (nN h));rw[show(if E=0 then(((jJ p 600 s l:Nat):Int))else 0)=N from hN.symm]at T;have HT:=aA T;have X4:=aA x3;have HZ5:=aA hz5';have HB5:=aA hB5;have hmf:∀(fn:Fn)(first cap:Array Value)(w:World),(Instr.makeFunc fn first cap).run Tryz.prog w=.ok (.func fn first cap) w:=λ_ _ _ _=>rfl;clear T hW5 hz5 hz5' hg5 hB5 x0 x1 x2 x3 hE hN hp hs hn2 hn3 hl hll hmb hbn;go_enter Tryz.func107,Tryz.ntmps107;go_wp2_with fail;rw[<-HW5.out];refine HT.out.mono ?_;rintro e w6⟨v,rfl,hres,hB6⟩;have x6:=pB X4.out hB6;obtain⟨y0,y1,y2,y3,y4,y5,y6,y7⟩:=gD x6;have f0:=pA x6 0;have f1:=pA x6 1;have f2:=pA x6 2;have f3:=pA x6 3;have f4:=pA x6 4;have f5:=pA x6 5;have f6:=pA x6 6;have f7:=pA x6 7;obtain⟨x1,x2,x3,k1,e1,k2,e2,k3,e3,i1,i2,i3,i4,i5,rfl⟩:=hres.shape;have X6:=aA x6;have HRES:=aA hres;have HB6:=aA hB6;clear x6 hres hB6;go_wp2_with fail;generalize hW4:World.setCell (World.setCell (World.setCell (World.setCell (World.setCell (World.setCell (World.setCell (World.setCell w6 _ _) _ _) _ _) _ _) _ _) _ _) _ _) _ _=W4;obtain⟨b4,t4⟩:=eD X6.out hW4;obtain⟨z0,z1,z2,z3,z4,z5,z6,z7⟩:=gD b4;exact dB (v:=.tuple #[.agg #[.slice x1 k1 e1,.slice x2 k2 e2,.slice x3 k3 e3,.int .i64 i1,.int .i64 i2,.int .i64 i3,.int .i64 i4,.int .i64 i5],.int .i64 N,.int .i64 E]) (by simp[results,Tryz.results107,go_sem,z0,z1,z2,z3,z4,z5,z6,z7]) rfl ⟨_,rfl,(HRES.out.bF X6.out t4).lower (by have:=HZ5.out;omega),HB5.out.trans ((HB6.out.mono HB5.out.size).trans (t4.below (by have:=HB6.out.size;have:=HZ5.out;omega) (by omega)))⟩
end Go.Proofs.YtedmnjimkhamaaaGreatDoor
