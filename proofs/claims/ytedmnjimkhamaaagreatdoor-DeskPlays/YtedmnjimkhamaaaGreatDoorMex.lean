import Derived.Test.YtedmnjimkhamaaaGreatDoorMdx
import Derived.Shelf.Strconv.Itoa3
import Derived.Shelf.Strings.OnBuilder
import Derived.Lib.AppendIntMem
import Derived.Lib.ItoaLen
import Derived.Lib.AppendZeros
namespace Go.Proofs.YtedmnjimkhamaaaGreatDoor
set_option linter.unusedVariables false
set_option maxRecDepth 100000
set_option maxHeartbeats 4000000
open Go.RowKit Go.Maps
theorem IY{x:zD}(h:nH x=true):0<=x.seq/\x.seq<1048576:=by
 unfold nH bV at h;simp at h;omega
theorem IP:∀{xs:List zD}{l:Int},lP l xs=true->l<1048576->(xs.length:Int)+l+1<=1048576/\∀x∈xs,nH x=true
 |[],l,_,hl=>⟨by simp;omega,by simp⟩
 |x::r,l,h,hl=>by
   unfold lP at h;simp only[aC,mC]at h;have hq:=IY h.1.1;obtain⟨i1,i2⟩:=IP h.2 hq.2;refine⟨by simp;omega,λy hy=>?_⟩;rcases vH.1 hy with rfl|hy;·exact h.1.1
   ·exact i2 y hy
theorem NG{ts:List kH}{nt:Int}:∀{xs:List eF}{l:Int},oK ts nt l xs=true->l<nt->(xs.length:Int)+l+1<=nt/\∀x∈xs,nH x.item=true
 |[],l,_,hl=>⟨by simp;omega,by simp⟩
 |x::r,l,h,hl=>by
   unfold oK aQ at h;simp only[aC,mC]at h;obtain⟨i1,i2⟩:=NG h.2 h.1.1.1.1.2;refine⟨by simp;have:=h.1.1.1.1.1;omega,λy hy=>?_⟩;rcases vH.1 hy with rfl|hy;·exact h.1.2
   ·exact i2 y hy
theorem KP:∀{xss:List (List zD)},(∀l∈xss,tI l=true)->(xss.flatMap (λl=>l.map zD.seq)).length<=xss.length*1048576/\∀z∈xss.flatMap (λl=>l.map zD.seq),0<=z/\z<1048576
 |[],_=>by simp
 |l::r,h=>by
   obtain⟨i1,i2⟩:=KP (xss:=r) (λx hx=>h x (cF _ hx));obtain⟨j1,j2⟩:=IP (l:=-1) (h l jE) (by omega);rw[mF];refine⟨by rw[dC,dE,List.length_cons];omega,λz hz=>?_⟩;rcases oC.1 hz with hz|hz;·obtain⟨x,hx,rfl⟩:=jD.1 hz;exact IY (j2 x hx)
   ·exact i2 z hz
theorem OV{p:lD}{s:yC}(hr:nP p)(h1:yO p.jB.length s.yA=true)(h2:oK s.nA s.fA (-1) s.xB=true)(h3:lS s=true):(kI s).length<=100000000/\(∀z∈kI s,0<=z/\z<1048576)/\(s.xB.length:Int)<=1048576:=by
 unfold yO at h1;simp only[aC,mC,qD]at h1;obtain⟨i1,i2⟩:=KP h1.2;unfold lS eP at h3;simp only[aC,mC]at h3;obtain⟨j1,j2⟩:=NG h2 (by omega);have h4:=hr.few.2.1;refine⟨?_,λz hz=>?_,by omega⟩;·unfold kI;rw[dC,dE];rw[h1.1]at i1;omega
 ·unfold kI at hz;rcases oC.1 hz with hz|hz;·exact i2 z hz
  ·obtain⟨x,hx,rfl⟩:=jD.1 hz;exact IY (j2 x hx)
theorem SU{p:lD}{s:yC}(h:iF p≠0):zG p s=iF p:=qA h
theorem n_(p:lD)(a1 a2 a3:Option Addr)(n1 c1 n2 c2 n3 c3:Nat)(s:yC)(b1 b2 b3:Option Addr)(m1 d1 m2 d2 m3 d3:Nat)(B1 B2:Nat)(w:World)(hp:sG w a1 a2 a3 n1 n2 n3 p)(hs:gK w b1 b2 b3 m1 m2 m3 s)(h1:w.heap[B1]?=some (.cells #[.slice a1 n1 c1,.slice a2 n2 c2,.slice a3 n3 c3] 26 (0,0)))(h2:w.heap[B2]?=some (.cells #[.slice b1 m1 d1,.slice b2 m2 d2,.slice b3 m3 d3,.int .i64 s.gA,.int .i64 s.fA,.int .i64 s.nB,.int .i64 s.uA,.int .i64 s.iA] 39 (0,0))):
 Calls Tryz.prog 154 #[.pointer (some ⟨B1,0,none⟩),.pointer (some ⟨B2,0,none⟩)] w λe w'=>e=zK (zG p s)/\Below w.heap.size w w':=by
 obtain⟨D,hD⟩:∃D:Int,D=zG p s:=⟨_,rfl⟩;rw[<-hD];have HD:=aA hD;have HP:=aA hp;have HS:=aA hs;have BX:Hid (∀W,Below w.heap.size w W->W.heap[B1]?=some (.cells #[.slice a1 n1 c1,.slice a2 n2 c2,.slice a3 n3 c3] 26 (0,0))/\W.heap[B2]?=some (.cells #[.slice b1 m1 d1,.slice b2 m2 d2,.slice b3 m3 d3,.int .i64 s.gA,.int .i64 s.fA,.int .i64 s.nB,.int .i64 s.uA,.int .i64 s.iA] 39 (0,0))):=λW hW=>⟨pB h1 hW,pB h2 hW⟩;have HM3:Hid (s.nA.length=m3):=hs.l3;have HN2:Hid (p.jB.length=n2):=hp.l2;have HM1:Hid (s.yA.length=m1):=hs.l1;clear hD hp hs h1 h2;obtain⟨x0,x1,x2⟩:=xH (BX.out w (dA _ _)).1;go_enter Tryz.func154,Tryz.ntmps154;go_wp2_with fail;refine(cX p _ _ _ _ _ _ _ _ _ _ HP.out.l1 HP.out.l2 HP.out.l3 HP.out.sz HP.out.p1 HP.out.p2 HP.out.p3).mono ?_;rintro e w1⟨rfl,k1⟩;have s1:=k1.size;obtain⟨d0,hd0⟩:∃d0,d0=iF p:=⟨_,rfl⟩;rw[<-hd0];have HD0:=aA hd0;have k1':=k1.alloc s1 (.cells #[.int .i64 d0] 27);have s1':=k1'.size;clear hd0 x0 x1 x2;by_cases hz0:d0=0
 ·subst hz0;have HR:Hid (nP p):=gS HD0.out.symm;go_wp2_with(go_at_call 69;refine(rS _ _ (rM _ _ _) (by simp)).mono ?_;rintro e w2⟨rfl,hB2⟩;have k2:=k1'.trans (hB2.mono s1');obtain⟨y0,y1,y2,y3,y4,y5,y6,y7⟩:=gD (BX.out w2 k2).2);have s2:=k2.size;clear hB2;by_cases hm:4<m3;·refine(aN 2 [decide ((4:Int)<(m3:Int))] _ _ (by simp) (bI w2 _ rfl) (by simp;omega)).mono ?_;rintro e w3⟨rfl,hw3⟩;refine⟨rfl,?_,by rw[hw3];exact k2.alloc s2 _⟩;rw[HD.out];unfold zG;rw[kA (by rw[<-HD0.out];simp),qA (by rw[HM3.out];exact hm)];rfl
  ·refine(zM 2 [decide ((4:Int)<(m3:Int))] _ _ (by simp) (bI w2 _ rfl) (by simp;omega)).mono ?_;rintro e w3⟨rfl,hw3⟩;have HST:Hid (zG p s=if uR p s=false then 1 else if(dT p s&&eT s)=false then 3 else if pS s=false then 10 else 0):=by
    show zG p s=_;unfold zG;rw[kA (by rw[<-HD0.out];simp),kA (by rw[HM3.out];exact hm)]
   have HFO:Hid (uR p s=(yO n2 s.yA&&s.nA.all (sM n2)&&oK s.nA s.fA (-1) s.xB&&lS s&&oS s)):=by show uR p s=_;unfold uR;rw[HN2.out]
   have HF1:Hid (uR p s=false->zK D=.panicked [{v:=.iface 27 (.int .i64 1),recovered:=false}]):=λh=>by
    show zK D=_;rw[HD.out,HST.out,qA h];rfl
   have k3:Below w.heap.size w w3:=by rw[hw3];exact k2.alloc s2 _
   have s3:=k3.size;clear hw3 hm y0 y1 y2 y3 y4 y5 y6 y7;obtain⟨x0,x1,x2⟩:=xH (BX.out w3 k3).1;obtain⟨y0,y1,y2,y3,y4,y5,y6,y7⟩:=gD (BX.out w3 k3).2;go_wp2_with fail;refine(WV p _ _ _ _ _ _ _ _ _ s _ _ _ _ _ _ _ _ _ _ (HP.out.sA k3) (HS.out.sA k3)).mono ?_;rintro e w4⟨he4,hB4⟩;have k4:=k3.trans (hB4.mono s3);have s4:=k4.size;clear hB4 x0 x1 x2 y0 y1 y2 y3 y4 y5 y6 y7;by_cases g1:yO n2 s.yA=true
   ·rw[qA g1,dV]at he4;subst he4;unfold xR;have G1:=aA g1;clear g1;obtain⟨x0,x1,x2⟩:=xH (BX.out w4 k4).1;obtain⟨y0,y1,y2,y3,y4,y5,y6,y7⟩:=gD (BX.out w4 k4).2;go_wp2_with fail;refine(WH p _ _ _ _ _ _ _ _ _ s _ _ _ _ _ _ _ _ _ _ (HS.out.sA k4)).mono ?_;rintro e w5⟨he5,hB5⟩;have k5:=k4.trans (hB5.mono s4);have s5:=k5.size;clear hB5 x0 x1 x2 y0 y1 y2 y3 y4 y5 y6 y7;by_cases g2:s.nA.all (sM n2)=true
    ·rw[qA g2,dV]at he5;subst he5;unfold xR;have G2:=aA g2;clear g2;obtain⟨y0,y1,y2,y3,y4,y5,y6,y7⟩:=gD (BX.out w5 k5).2;go_wp2_with fail;refine(YA s _ _ _ _ _ _ _ _ _ _ (HS.out.sA k5)).mono ?_;rintro e w6⟨he6,hB6⟩;have k6:=k5.trans (hB6.mono s5);have s6:=k6.size;clear hB6 y0 y1 y2 y3 y4 y5 y6 y7;by_cases g3:oK s.nA s.fA (-1) s.xB=true
     ·rw[qA g3,dV]at he6;subst he6;unfold xR;have G3:=aA g3;clear g3;obtain⟨y0,y1,y2,y3,y4,y5,y6,y7⟩:=gD (BX.out w6 k6).2;go_wp2_with fail;refine(WG s _ _ _ _ _ _ _ _ _ _).mono ?_;rintro e w7⟨he7,hB7⟩;have k7:=k6.trans (hB7.mono s6);have s7:=k7.size;clear hB7 y0 y1 y2 y3 y4 y5 y6 y7;by_cases g4:lS s=true
      ·rw[qA g4,dV]at he7;subst he7;unfold xR;have G4:=aA g4;have HBD:=aA (OV HR.out (by rw[HN2.out];exact G1.out) G3.out g4);clear g4;obtain⟨y0,y1,y2,y3,y4,y5,y6,y7⟩:=gD (BX.out w7 k7).2;go_wp2_with fail;refine(YD s _ _ _ _ _ _ _ _ _ _ (HS.out.sA k7) HBD.out.1 HBD.out.2.1).mono ?_;rintro e w8⟨he8,hB8⟩;have k8:=k7.trans (hB8.mono s7);have s8:=k8.size;clear hB8 y0 y1 y2 y3 y4 y5 y6 y7;by_cases g5:oS s=true
       ·rw[qA g5,dV]at he8;subst he8;unfold xR;have HF2:Hid (uR p s=true):=by show uR p s=true;rw[HFO.out,G1.out,G2.out,G3.out,G4.out,g5];rfl
        clear g5;obtain⟨x0,x1,x2⟩:=xH (BX.out w8 k8).1;obtain⟨y0,y1,y2,y3,y4,y5,y6,y7⟩:=gD (BX.out w8 k8).2;have HMN:Hid (m1=n2):=by
         have:=G1.out;unfold yO at this;simp only[aC,mC]at this;exact HM1.out.symm.trans this.1
        go_wp2_with fail;refine(YC p _ _ _ _ _ _ _ _ _ s _ _ _ _ _ _ _ _ _ _ (HP.out.sA k8) (HS.out.sA k8) HMN.out).mono ?_;rintro e w9⟨he9,hB9⟩;have k9:=k8.trans (hB9.mono s8);have s9:=k9.size;clear hB9 x0 x1 x2 y0 y1 y2 y3 y4 y5 y6 y7;by_cases g6:(dT p s&&eT s)=true
        ·rw[qA g6,dV]at he9;subst he9;unfold xR;have G6:=aA g6;clear g6;obtain⟨y0,y1,y2,y3,y4,y5,y6,y7⟩:=gD (BX.out w9 k9).2;go_wp2_with fail;refine(XO s _ _ _ _ _ _ _ _ _ _ (HS.out.sA k9) HBD.out.1 G4.out).mono ?_;rintro e w10⟨he10,hB10⟩;have k10:=k9.trans (hB10.mono s9);clear hB10 y0 y1 y2 y3 y4 y5 y6 y7;by_cases g7:pS s=true
         ·rw[qA g7,dV]at he10;subst he10;unfold xR;have HDZ:Hid (D=0):=by show D=0;rw[HD.out,HST.out,HF2.out,G6.out,g7];rfl
          clear g7;go_wp2_with fail;go_end0;exact⟨by rw[HDZ.out];rfl,k10⟩
         ·rw[kA g7]at he10;subst he10;refine⟨rfl,?_,k10⟩;rw[HD.out,HST.out,HF2.out,G6.out,kA (by decide),kA (by decide),qA (by simpa using g7)];rfl
        ·rw[kA g6]at he9;subst he9;refine⟨rfl,?_,k9⟩;rw[HD.out,HST.out,HF2.out,kA (by decide),qA (by simpa using g6)];rfl
       ·rw[kA g5]at he8;subst he8;exact⟨rfl,(HF1.out (by rw[HFO.out,show oS s=false by simpa using g5];simp)).symm,k8⟩
      ·rw[kA g4]at he7;subst he7;exact⟨rfl,(HF1.out (by rw[HFO.out,show lS s=false by simpa using g4];simp)).symm,k7⟩
     ·rw[kA g3]at he6;subst he6;exact⟨rfl,(HF1.out (by rw[HFO.out,show oK s.nA s.fA (-1) s.xB=false by simpa using g3];simp)).symm,k6⟩
    ·rw[kA g2]at he5;subst he5;exact⟨rfl,(HF1.out (by rw[HFO.out,show s.nA.all (sM n2)=false by simpa using g2];simp)).symm,k5⟩
   ·rw[kA g1]at he4;subst he4;exact⟨rfl,(HF1.out (by rw[HFO.out,show yO n2 s.yA=false by simpa using g1];simp)).symm,k4⟩
 ·have HZ0:=aA hz0;go_wp2_with(go_at_call 69;refine(qV d0 _ _ (rM _ _ _) (by simp) HZ0.out).mono ?_;rintro e w2⟨rfl,hB2⟩);refine⟨rfl,?_,k1'.trans (hB2.mono s1')⟩;rw[HD.out,SU (by rw[<-HD0.out];exact HZ0.out),<-HD0.out,eX HZ0.out];rfl
theorem ET(p:lD)(a1 a2 a3:Option Addr)(n1 c1 n2 c2 n3 c3:Nat)(s:yC)(b1 b2 b3:Option Addr)(m1 d1 m2 d2 m3 d3:Nat)(w:World)(hp:sG w a1 a2 a3 n1 n2 n3 p)(hs:gK w b1 b2 b3 m1 m2 m3 s):
 Calls Tryz.prog 112 #[.agg #[.slice a1 n1 c1,.slice a2 n2 c2,.slice a3 n3 c3],.agg #[.slice b1 m1 d1,.slice b2 m2 d2,.slice b3 m3 d3,.int .i64 s.gA,.int .i64 s.fA,.int .i64 s.nB,.int .i64 s.uA,.int .i64 s.iA]] w λe w'=>e=.returned (.int .i64 (zG p s))/\Below w.heap.size w w':=by
 obtain⟨D,hD⟩:∃D:Int,D=zG p s:=⟨_,rfl⟩;rw[<-hD];have HD:=aA hD;obtain⟨W2,hW2,hBw,hs2,hbx⟩:=mV w #[.slice a1 n1 c1,.slice a2 n2 c2,.slice a3 n3 c3] #[.slice b1 m1 d1,.slice b2 m2 d2,.slice b3 m3 d3,.int .i64 s.gA,.int .i64 s.fA,.int .i64 s.nB,.int .i64 s.uA,.int .i64 s.iA];have HW2:=aA hW2;have s0:=hBw.size;have hmf:∀(fn:Fn)(first cap:Array Value)(w:World),(Instr.makeFunc fn first cap).run Tryz.prog w=.ok (.func fn first cap) w:=λ_ _ _ _=>rfl;have l3:Below W2.heap.size W2 (W2.alloc (.cells #[.int .i64 0] 27)):=(dA _ _).alloc (eA _) _;have HDO:=aA (n_ p a1 a2 a3 n1 c1 n2 c2 n3 c3 s b1 b2 b3 m1 d1 m2 d2 m3 d3 w.heap.size (w.heap.size+1) (W2.alloc (.cells #[.int .i64 0] 27)) ((hp.sA hBw).sA l3) ((hs.sA hBw).sA l3) (hbx _ l3).1 (hbx _ l3).2);rw[<-hD,pC]at HDO;clear hW2 hbx hs2 hp hs hD;go_enter Tryz.func112,Tryz.ntmps112;go_wp2_with fail;rw[<-HW2.out];refine(ZG w.heap.size (w.heap.size+1) D W2 HDO.out).mono ?_;rintro e w3⟨rfl,hB3⟩;go_wp2_with fail;go_ret;exact⟨rfl,hBw.trans (hB3.mono s0)⟩
theorem lZ{a b c d:Int}(h1:a=b)(h2:c=d):Ending.returned (.tuple #[.int .i64 a,.int .i64 c])=.returned (.tuple #[.int .i64 b,.int .i64 d]):=by rw[h1,h2]
def nZ(p:lD)(s:yC)(t:Int):Int:=if zG p s=0 then(if tG t s.nA.length=true then 0 else 5)else zG p s
def oZ(p:lD)(s:yC)(t:Int):Int:=if nZ p s t=0 then(xE s t:Int)else 0
theorem Q6(p:lD)(a1 a2 a3:Option Addr)(n1 c1 n2 c2 n3 c3:Nat)(s:yC)(b1 b2 b3:Option Addr)(m1 d1 m2 d2 m3 d3:Nat)(t:Int)(w:World)(hp:sG w a1 a2 a3 n1 n2 n3 p)(hs:gK w b1 b2 b3 m1 m2 m3 s):
 Calls Tryz.prog 208 #[.agg #[.slice a1 n1 c1,.slice a2 n2 c2,.slice a3 n3 c3],.agg #[.slice b1 m1 d1,.slice b2 m2 d2,.slice b3 m3 d3,.int .i64 s.gA,.int .i64 s.fA,.int .i64 s.nB,.int .i64 s.uA,.int .i64 s.iA],.int .i64 t] w λe w'=>e=.returned (.tuple #[.int .i64 (oZ p s t),.int .i64 (nZ p s t)])/\Below w.heap.size w w':=by
 obtain⟨D,hD⟩:∃D:Int,D=nZ p s t:=⟨_,rfl⟩;obtain⟨N,hN⟩:∃N:Int,N=oZ p s t:=⟨_,rfl⟩;rw[<-hD,<-hN];have HD:=aA hD;have HN:=aA hN;have HM3:Hid (s.nA.length=m3):=hs.l3;obtain⟨W2,hW2,hBw,hs2,hbx⟩:=mV w #[.slice a1 n1 c1,.slice a2 n2 c2,.slice a3 n3 c3] #[.slice b1 m1 d1,.slice b2 m2 d2,.slice b3 m3 d3,.int .i64 s.gA,.int .i64 s.fA,.int .i64 s.nB,.int .i64 s.uA,.int .i64 s.iA];have HW2:=aA hW2;have BX:=aA hbx;have HS:=aA (hs.sA hBw);have HP:=aA (hp.sA hBw);have s0:=hBw.size;obtain⟨x0,x1,x2⟩:=xH (hbx W2 (dA _ _)).1;obtain⟨y0,y1,y2,y3,y4,y5,y6,y7⟩:=gD (hbx W2 (dA _ _)).2;clear hW2 hbx hs2 hp hs hD hN;go_enter Tryz.func208,Tryz.ntmps208;go_wp2_with fail;rw[<-HW2.out];refine(ET p _ _ _ _ _ _ _ _ _ s _ _ _ _ _ _ _ _ _ _ HP.out HS.out).mono ?_;rintro e w3⟨rfl,hB3⟩;obtain⟨E,hE⟩:∃E:Int,E=zG p s:=⟨_,rfl⟩;rw[<-hE];have HE:=aA hE;have s3:=hB3.size;clear hE x0 x1 x2 y0 y1 y2 y3 y4 y5 y6 y7;obtain⟨y0,y1,y2,y3,y4,y5,y6,y7⟩:=gD (BX.out w3 hB3).2;by_cases h0:E=0
 ·subst h0;have HDE:Hid (D=if tG t m3=true then 0 else 5):=by show D=_;rw[HD.out];unfold nZ;rw[qA HE.out.symm,HM3.out]
  by_cases ht:0<=t/\t<m3
  ·have HD0:Hid (D=0):=by show D=0;rw[HDE.out,qA (cP.2 ht)]
   have HN0:Hid (N=xE s t):=by show N=_;rw[HN.out];unfold oZ;rw[qA (by rw[<-HD.out];exact HD0.out)]
   have t1:¬t<0:=by omega
   have t2:¬(m3:Int)<=t:=by omega
   clear ht;go_wp2_with fail;refine(TI s _ _ _ _ _ _ _ _ _ t _ (HS.out.sA hB3)).mono ?_;rintro e w4⟨rfl,hB4⟩;rw[<-HN0.out];go_wp2_with fail;go_ret2;exact⟨lZ rfl HD0.out.symm,hBw.trans ((hB3.trans (hB4.mono s3)).mono s0)⟩
  ·have HD0:Hid (D=5):=by show D=5;rw[HDE.out,kA (λh=>ht (cP.1 h))]
   have HN0:Hid (N=0):=by show N=_;rw[HN.out];unfold oZ;rw[kA (by rw[<-HD.out,HD0.out];decide)]
   have hor:t<0\/(¬t<0/\(m3:Int)<=t):=by omega
   clear ht;rcases hor with g1|⟨g1,g2⟩;all_goals
    go_wp2_with fail;go_ret2;exact⟨lZ HN0.out.symm HD0.out.symm,hBw.trans (hB3.mono s0)⟩
 ·have h0':(E !=0)=true:=kD.2 h0;have HD0:Hid (D=E):=by show D=E;rw[HD.out];unfold nZ;rw[kA (by rw[<-HE.out];exact h0),<-HE.out]
  have HN0:Hid (N=0):=by show N=_;rw[HN.out];unfold oZ;rw[kA (by rw[<-HD.out,HD0.out];exact h0)]
  clear h0;go_wp2_with fail;go_ret2;exact⟨lZ HN0.out.symm HD0.out.symm,hBw.trans (hB3.mono s0)⟩
structure vJ(B:Nat)(W W':World):Prop where
 os:W'.os=W.os
 tape:W'.tape=W.tape
 output:W'.output=W.output
 size:W.heap.size<=W'.heap.size
 block:∀k,k<W.heap.size->k≠B->W'.heap[k]?=W.heap[k]?
theorem vJ.below{B n:Nat}{W W':World}(h:vJ B W W')(hn:n<=W.heap.size)(hB:n<=B):Below n W W':=⟨h.os,h.tape,h.output,h.size,λk hk=>h.block k (by omega) (by omega)⟩
theorem uF(W:World)(B i:Nat)(v:Value):vJ B W (W.setCell ⟨B,i,none⟩ v):=by
 have h:Below 0 W (W.setCell ⟨B,i,none⟩ v):=(dA 0 W).setCell (p:=⟨B,i,none⟩) (zA _) v;exact⟨h.os,h.tape,h.output,h.size,λk hk hne=>jG W ⟨B,i,none⟩ k v hne⟩
theorem vJ.trans{B:Nat}{A C E:World}(h:vJ B A C)(k:vJ B C E):vJ B A E:=
 ⟨k.os.trans h.os,k.tape.trans h.tape,k.output.trans h.output,vA h.size k.size,λi hi hne=>(k.block i (uC hi h.size) hne).trans (h.block i hi hne)⟩
theorem eD{W W':World}{B:Nat}{v0 v1 v2 v3 v4 v5 v6 v7 u0 u1 u2 u3 u4 u5 u6 u7:Value}{t:TypeId}(h:W.heap[B]?=some (.cells #[v0,v1,v2,v3,v4,v5,v6,v7] t (0,0)))
 (hW:((((((((W.setCell ⟨B,0,none⟩ u0).setCell ⟨B,1,none⟩ u1).setCell ⟨B,2,none⟩ u2).setCell ⟨B,3,none⟩ u3).setCell ⟨B,4,none⟩ u4).setCell ⟨B,5,none⟩ u5).setCell ⟨B,6,none⟩ u6).setCell ⟨B,7,none⟩ u7)=W'):
 W'.heap[B]?=some (.cells #[u0,u1,u2,u3,u4,u5,u6,u7] t (0,0))/\vJ B W W':=by
 subst hW;have h0:(W.setCell ⟨B,0,none⟩ u0).heap[B]?=some (.cells #[u0,v1,v2,v3,v4,v5,v6,v7] t (0,0)):=bG h u0;have h1:((W.setCell ⟨B,0,none⟩ u0).setCell ⟨B,1,none⟩ u1).heap[B]?=some (.cells #[u0,u1,v2,v3,v4,v5,v6,v7] t (0,0)):=bG h0 u1;have h2:(((W.setCell ⟨B,0,none⟩ u0).setCell ⟨B,1,none⟩ u1).setCell ⟨B,2,none⟩ u2).heap[B]?=some (.cells #[u0,u1,u2,v3,v4,v5,v6,v7] t (0,0)):=bG h1 u2;have h3:((((W.setCell ⟨B,0,none⟩ u0).setCell ⟨B,1,none⟩ u1).setCell ⟨B,2,none⟩ u2).setCell ⟨B,3,none⟩ u3).heap[B]?=some (.cells #[u0,u1,u2,u3,v4,v5,v6,v7] t (0,0)):=bG h2 u3;have h4:(((((W.setCell ⟨B,0,none⟩ u0).setCell ⟨B,1,none⟩ u1).setCell ⟨B,2,none⟩ u2).setCell ⟨B,3,none⟩ u3).setCell ⟨B,4,none⟩ u4).heap[B]?=some (.cells #[u0,u1,u2,u3,u4,v5,v6,v7] t (0,0)):=bG h3 u4;have h5:((((((W.setCell ⟨B,0,none⟩ u0).setCell ⟨B,1,none⟩ u1).setCell ⟨B,2,none⟩ u2).setCell ⟨B,3,none⟩ u3).setCell ⟨B,4,none⟩ u4).setCell ⟨B,5,none⟩ u5).heap[B]?=some (.cells #[u0,u1,u2,u3,u4,u5,v6,v7] t (0,0)):=bG h4 u5;have h6:(((((((W.setCell ⟨B,0,none⟩ u0).setCell ⟨B,1,none⟩ u1).setCell ⟨B,2,none⟩ u2).setCell ⟨B,3,none⟩ u3).setCell ⟨B,4,none⟩ u4).setCell ⟨B,5,none⟩ u5).setCell ⟨B,6,none⟩ u6).heap[B]?=some (.cells #[u0,u1,u2,u3,u4,u5,u6,v7] t (0,0)):=bG h5 u6;have h7:((((((((W.setCell ⟨B,0,none⟩ u0).setCell ⟨B,1,none⟩ u1).setCell ⟨B,2,none⟩ u2).setCell ⟨B,3,none⟩ u3).setCell ⟨B,4,none⟩ u4).setCell ⟨B,5,none⟩ u5).setCell ⟨B,6,none⟩ u6).setCell ⟨B,7,none⟩ u7).heap[B]?=some (.cells #[u0,u1,u2,u3,u4,u5,u6,u7] t (0,0)):=bG h6 u7;refine⟨h7,?_⟩;exact(((((((uF _ _ _ _).trans (uF _ _ _ _)).trans (uF _ _ _ _)).trans (uF _ _ _ _)).trans (uF _ _ _ _)).trans (uF _ _ _ _)).trans (uF _ _ _ _)).trans (uF _ _ _ _)
def iN(n:Nat):yC:=⟨List.replicate n [],[],[],0,0,0,0,0⟩
theorem Tryz.infoLine:(Tryz.prog.info? 110).map (λi=>(i.zero,i.size,i.bytes))=some (some (.slice none 0 0),1,24):=by kernel_rfl
theorem JF(n:Nat):(madeCells (Value.slice none 0 0).cells (n*1)).toList=List.replicate n (.slice none 0 0):=by
 apply nG;·simp[madeCells]
 ·intro i h1 h2;simp[madeCells,Value.cells,Nat.mod_one]
theorem HU:∀(l:List UInt8)(c:UInt8),Lib.indexByte l c=if mG l c<l.length then(mG l c:Int)else-1
 |[],c=>rfl
 |b::l,c=>by
   have ih:=HU l c;unfold Lib.indexByte;have e:mG (b::l) c=if b==c then 0 else mG l c+1:=by
    unfold mG;rw[List.findIdx_cons];by_cases h:(b==c)=true<;>simp[h]
   rw[e];by_cases h:(b==c)=true;·simp[h]
   ·rw[kA h,kA h,ih];by_cases h2:mG l c<l.length
    ·have g1:((mG l c:Int)==-1)=false:=by rw[xD];omega
     rw[qA h2,g1,qA (show mG l c+1<(b::l).length by rw[List.length_cons];omega)];simp
    ·rw[kA h2,kA (show¬mG l c+1<(b::l).length by rw[List.length_cons];omega)];simp
theorem ZO(s:ByteArray)(w:World):
 Calls Tryz.prog 58 #[.string s,.string ⟨#[32]⟩] w λe w'=>e=.returned (.int .i64 (Lib.indexByte s.data.toList 32))/\w'=w:=by
 go_enter Tryz.func58,Tryz.ntmps58;go_wp2_with(go_at_call 92;refine(GZ _ _ _).mono ?_;rintro e w'⟨rfl,rfl⟩)
 ·have h:([32]==s.toList)=true:=by assumption
  go_ret;refine⟨?_,rfl⟩;have e:s.data.toList=[32]:=by rw[<-zC];exact(mQ.1 h).symm
  rw[e];simp[Lib.indexByte]
 ·go_ret;exact⟨rfl,rfl⟩
theorem PR(s:ByteArray)(w:World):
 Calls Tryz.prog 30 #[.string s,.string ⟨#[32]⟩] w λe w'=>e=.returned (.int .i64 (Lib.indexByte s.data.toList 32))/\w'=w:=by
 go_enter Tryz.func30,Tryz.ntmps30;go_wp2_with(go_at_call 58;refine(ZO _ _).mono ?_;rintro e w'⟨rfl,rfl⟩);go_ret;exact⟨rfl,rfl⟩
def xU:Nat->List UInt8->List (List UInt8)
 |0,l=>[l]
 |k+1,l=>if mG l 32<l.length then l.take (mG l 32)::xU k (l.drop (mG l 32+1))else[l]
theorem LQ:∀(k:Nat)(l:List UInt8),xU (min k l.length) l=xU k l
 |0,l=>by simp
 |k+1,l=>by
   rcases cJ l.length with h0|h0;·have:l=[]:=kC.1 h0;subst this;simp[xU]
   ·rw[show min (k+1) l.length=min k (l.length-1)+1 by omega];unfold xU;by_cases h:mG l 32<l.length
    ·rw[qA h,qA h];have ih:=LQ k (l.drop (mG l 32+1));have ih2:=LQ (min k (l.length-1)) (l.drop (mG l 32+1));have e:min (min k (l.length-1)) (l.drop (mG l 32+1)).length=min k (l.drop (mG l 32+1)).length:=by rw[rF];omega
     rw[<-ih2,e,ih]
    ·rw[kA h,kA h]
theorem qm_(k:Nat)(l:List UInt8):xU k l≠[]:=by
 cases k with
 |zero=>simp[xU]
 |succ k=>unfold xU;split<;>simp
def wF(k:Nat)(s:ByteArray):List ByteArray:=(xU k s.data.toList).map (λl=>⟨l.toArray⟩)
theorem FK(s:ByteArray):wF 0 s=[s]:=by unfold wF xU;simp
theorem JL{k:Nat}{s:ByteArray}(h:¬mG s.data.toList 32<s.size):wF k s=[s]:=by
 cases k with
 |zero=>exact FK s
 |succ k=>
   unfold wF xU;rw[kA (by simpa using h)];simp
theorem JM{k:Nat}{s:ByteArray}(h:mG s.data.toList 32<s.size):wF (k+1) s=s.extract 0 (mG s.data.toList 32)::wF k (s.extract (mG s.data.toList 32+1) s.size):=by
 unfold wF;conv=>lhs;unfold xU
 rw[qA (by simpa using h),fH];congr 1;·rw[GO];simp
 ·congr 1;rw[GO,iB (by simp)]
theorem Z9(k:Nat)(s:ByteArray):wF (min k s.size) s=wF k s:=by
 unfold wF;have:=LQ k s.data.toList;rw[show s.data.toList.length=s.size by simp]at this;rw[this]
theorem Z8(k:Nat):∀(s:ByteArray),(wF k s).length<=k+1:=by
 induction k with
 |zero=>intro s;rw[FK];simp
 |succ k ih=>
   intro s;by_cases h:mG s.data.toList 32<s.size;·rw[JM h,List.length_cons];have:=ih (s.extract (mG s.data.toList 32+1) s.size);omega
   ·rw[JL h];simp
theorem XE(s:ByteArray)(w:World)(hs:s.size<=1000000):
 Calls Tryz.prog 113 #[.string s,.string ⟨#[32]⟩,.int .i64 0,.int .i64 4] w λe w'=>∃g c,e=.returned (.slice (some ⟨g,0,none⟩) (wF 3 s).length c)/\qM w' g 0 (wF 3 s)/\g<w'.heap.size/\(wF 3 s).length<=c/\Below w.heap.size w w':=by
 obtain⟨i0,hi,hz0,hz1,hz2⟩:=qF Tryz.info9;obtain⟨K,hK⟩:∃K,K=min 3 s.size:=⟨_,rfl⟩;have HSP:Hid (wF 3 s=wF K s):=by show _=_;rw[hK,Z9]
 rw[HSP.out];have q1:IntKind.i64.wrap ((s.size:Int)+1)=s.size+1:=by rw[uB];omega
 have q2:min (4:Int) ((s.size:Int)+1)=((K+1:Nat):Int):=by omega
 have hK3:K<=3:=by omega
 have HK:=aA hK;have HI:=aA (And.intro hi (And.intro hz0 (And.intro hz1 hz2)));clear hK;go_enter Tryz.func113,Tryz.ntmps113;go_upto_region 8 with fail;clear q1 q2;have q3:IntKind.i64.wrap ((K:Int)+1-1)=(K:Int):=by rw[uB];omega
 obtain⟨N,hN⟩:∃N:Nat,N=K+1:=⟨_,rfl⟩;have hN':((K:Int)+1)=((N:Nat):Int):=by omega
 rw[hN']at q3⊢;have HNN:=aA hN;have hNb:N<=4:=by omega
 clear hN hN';go_wp2_with(at_make;refine cK _ rfl _ _ 52 rfl w.heap.size 9 i0 (.string ⟨#[]⟩) 1 Tryz.underlying52 hi hz0 hz1 _ _ _ _ N rfl rfl rfl rfl (by rw[hz2];omega) (by unfold maxLen;omega) (eA _) ?_;intro w3 hown3 hgrow3;have HO3:=aA hown3;have HB3:=aA ((dA w.heap.size w).grown hgrow3 (eA _) (λk h=>by cases h));clear hown3 hgrow3);obtain⟨g,hg⟩:∃g,g=w.heap.size:=⟨_,rfl⟩;rw[<-hg]at HO3⊢;have HG:=aA hg;clear hg;have HCL:Hid ((madeCells (Value.string ⟨#[]⟩).cells (N*1)).toList.length=N):=by
  have:=HO3.out.1;show _=N;omega
 go_loopw[0,10](λsv i wr=>∃(k:Nat)(cur:ByteArray)(xB:List ByteArray)(cs:List Value),k<=K/\sv=.string cur/\i=.int .i64 k/\cur.size<=1000000/\xB.length=k/\wF K s=xB++wF (K-k) cur/\wr.ownsRow g 9 1 (.slice (some ⟨g,0,none⟩) N N) N cs/\cs.take k=xB.map .string/\Below w.heap.size w wr)(λ_ i _=>K-(intOf i).toNat);case atStart=>exact⟨0,s,[],_,zA _,rfl,rfl,hs,rfl,by simp,HO3.out,by simp,HB3.out⟩
 case round=>
  obtain⟨k,cur,xB,cs,hk,rfl,rfl,hcs,hol,hsp,hown,htk,hBr⟩:=hrel;have HOL:=aA hol;have HSK:=aA hsp;have HO:=aA hown;have HTK:=aA htk;have HBR:=aA hBr;have hcl:cs.length=N:=by have:=hown.1;omega
  have HCS:=aA hcl;clear hol hsp hown htk hBr hcl;have hkN:k<N:=by have:=HNN.out;omega
  have FIN:Hid (wF K s=xB++[cur]->(wF K s).length=k+1/\qM (wr.setCell ⟨g,k,none⟩ (.string cur)) g 0 (wF K s)/\g<(wr.setCell ⟨g,k,none⟩ (.string cur)).heap.size/\k+1<=N/\Below w.heap.size w (wr.setCell ⟨g,k,none⟩ (.string cur))):=λhfin=>by
   have s1:=(HO.out.stored k (.string cur)).1;refine⟨by rw[hfin,dC,HOL.out];rfl,λi hi=>?_,(s1.lt g rfl).2,hkN,HBR.out.setCell (p:=⟨g,k,none⟩) (by show _<=g;rw[HG.out];exact eA _) _⟩;rw[uD];have hi2:i<k+1:=by rw[hfin,dC,HOL.out]at hi;exact hi
   rw[s1.cellAt i (by omega)];by_cases e:i=k
   ·subst e;rw[rE,qA rfl,qA (by rw[HCS.out];exact hkN)];have e2:(wF K s)[i]?=some cur:=by rw[hfin,uE (by rw[HOL.out];exact eA _),HOL.out];simp
    rw[tA hi]at e2;rw[yG e2]
   ·have hik:i<k:=by omega
    rw[rE,kA (λh=>e h.symm)];have e3:(cs.take k)[i]?=cs[i]?:=List.getElem?_take_of_lt hik;rw[<-e3,HTK.out,List.getElem?_map];have e2:(wF K s)[i]?=xB[i]?:=by rw[hfin,wE (by rw[HOL.out];exact hik)]
    rw[<-e2,tA hi];rfl
  have cc:=HO.out.cellAt k (by omega);rw[tA (by rw[HCS.out];exact hkN)]at cc;obtain⟨cv,hcv⟩:∃cv,cv=cs[k]'(by rw[HCS.out];exact hkN):=⟨_,rfl⟩;rw[<-hcv]at cc;have ff:=HO.out.frozenAt k;have hgl:=(HO.out.lt g rfl).2;have j1:(0:Int)<=(k:Int):=by omega
  have j2:(k:Int)<N:=by omega
  have q5:IntKind.i64.wrap ((k:Int)+1)=((k+1:Nat):Int):=by rw[uB];omega
  have q6:((k+1:Nat):Int)<=N:=by omega
  have q7:(0:Int)<=((k+1:Nat):Int):=by omega
  clear hcv;by_cases hlt:k<K
  ·have HLT:=aA hlt;have hidx:=HU cur.data.toList 32;rw[show cur.data.toList.length=cur.size by simp]at hidx;by_cases hp:mG cur.data.toList 32<cur.size
   ·rw[qA hp]at hidx;have HNX:=aA (JM (k:=K-(k+1)) hp);obtain⟨m,hm⟩:∃m,m=mG cur.data.toList 32:=⟨_,rfl⟩;rw[<-hm]at hidx hp HNX;have m1:¬((m:Int)<0):=by omega
    have m2:IntKind.i64.wrap (m:Int)=m:=by rw[uB];omega
    have m3:IntKind.i64.wrap ((m:Int)+1)=((m+1:Nat):Int):=by rw[uB];omega
    have m4:(m:Int)<=cur.size:=by omega
    have m5:((m+1:Nat):Int)<=cur.size:=by omega
    have m6:(0:Int)<=(m:Int):=by omega
    have HNEW:Hid (wF K s=(xB++[cur.extract 0 m])++wF (K-(k+1)) (cur.extract (m+1) cur.size)):=by
     show _=_;rw[HSK.out,show K-k=K-(k+1)+1 by omega,HNX.out];simp
    have HTN:Hid ((cs.set k (.string (cur.extract 0 m))).take (k+1)=(xB++[cur.extract 0 m]).map .string):=by
     show _=_;rw[rA (by rw[kF,HCS.out];exact hkN),List.getElem_set_self,List.take_set_of_le (eA _),HTK.out,oD];rfl
    have HST:=aA (HO.out.stored k (.string (cur.extract 0 m))).1;have hbel:=HBR.out.setCell (p:=⟨g,k,none⟩) (by show _<=g;rw[HG.out];exact eA _) (.string (cur.extract 0 m));have HBL:=aA hbel;have hsz2:(cur.extract (m+1) cur.size).size<=1000000:=by simp;omega
    have HSZ:=aA hsz2;clear hm hbel hsz2;go_wp2_with fail;refine(PR cur _).mono ?_;rintro e w4⟨rfl,hw4⟩;rw[hw4,hidx];clear hw4 hidx;go_wp2_with fail;go_roundw;case rel=>exact⟨k+1,_,xB++[cur.extract 0 m],_,HLT.out,rfl,by have:=HLT.out;go_num,HSZ.out,by rw[dC,HOL.out];rfl,HNEW.out,HST.out,HTN.out,HBL.out⟩
    case measure=>have:=HLT.out;simp[intOf];omega
   ·rw[kA hp]at hidx;have HF:=aA (FIN.out (by rw[HSK.out,JL hp]));go_wp2_with fail;refine(PR cur _).mono ?_;rintro e w4⟨rfl,hw4⟩;rw[hw4,hidx];clear hw4 hidx hp;go_wp2_with fail;go_ret;exact⟨g,N,by rw[HF.out.1];rfl,HF.out.2.1,HF.out.2.2.1,by rw[HF.out.1];exact HF.out.2.2.2.1,HF.out.2.2.2.2⟩
  ·have hke:k=K:=by omega
   have HF:=aA (FIN.out (by rw[HSK.out,show K-k=0 by omega,FK]));clear hke;go_wp2_with fail;go_ret;exact⟨g,N,by rw[HF.out.1];rfl,HF.out.2.1,HF.out.2.2.1,by rw[HF.out.1];exact HF.out.2.2.2.1,HF.out.2.2.2.2⟩
theorem L_(s:ByteArray)(w:World)(hs:s.size<=1000000):
 Calls Tryz.prog 71 #[.string s,.string ⟨#[32]⟩,.int .i64 4] w λe w'=>∃g c,e=.returned (.slice (some ⟨g,0,none⟩) (wF 3 s).length c)/\qM w' g 0 (wF 3 s)/\g<w'.heap.size/\(wF 3 s).length<=c/\Below w.heap.size w w':=by
 have HG:=aA (XE s w hs);clear hs;go_enter Tryz.func71,Tryz.ntmps71;go_wp2_with fail;refine HG.out.mono ?_;rintro e w2⟨g,c,rfl,h1,h2,h3,h4⟩;have H1:=aA (And.intro h1 (And.intro h2 (And.intro h3 h4)));clear h1 h2 h3 h4;go_wp2_with fail;go_ret;exact⟨g,c,rfl,H1.out⟩
def GS:List (List UInt8×Nat):=[([115,117,109,115],1),([108,121,105,110,103],1),([110,101,120,116],2),([100,114,111,112],2),([98,97,99,107],2),([97,99,107],2),([108,101,97,118,101],2),([106,111,105,110],3),([115,101,110,100],4)]
def wT(l:List UInt8):Nat:=match GS.find? (λx=>x.1==l)with
 |some x=>x.2
 |none=>0
def pV(l:List UInt8):Bool:=GS.any (λx=>x.1==l)
def AS(r:List (List UInt8×Nat)):DataW Unit:=r.foldr (λx D=>D.put (.string x.1) (.lit (.int .i64 (x.2:Nat)))) (.map [])
theorem JX:∀r,IsMap (AS r)
 |[]=>⟨[],rfl⟩
 |x::r=>by
   obtain⟨es,h⟩:=JX r;show IsMap ((AS r).put _ _);rw[h];exact⟨_,rfl⟩
theorem TZ(l:List UInt8)(z:DataW Unit):∀r,(AS r).atKey (.string l) z=(match r.find? (λx=>x.1==l)with|some x=>.lit (.int .i64 (x.2:Nat))|none=>z)
 |[]=>rfl
 |x::r=>by
   show((AS r).put (.string x.1) (.lit (.int .i64 (x.2:Nat)))).atKey (.string l) z=_;by_cases h:x.1=l;·subst h;rw[atKey_put_same (JX r) (show WideAt.IsKeyLit (Lit.string x.1)by simp[WideAt.IsKeyLit]),List.find?_cons_of_pos (by simp)]
   ·rw[atKey_put_other (λe=>h (by injection e with e;exact e.symm)),TZ l z r,List.find?_cons_of_neg (by simpa using h)]
theorem QW(l:List UInt8):∀r,has (AS r) (.string l)=r.any (λx=>x.1==l)
 |[]=>rfl
 |x::r=>by
   show has ((AS r).put (.string x.1) (.lit (.int .i64 (x.2:Nat)))) (.string l)=_;by_cases h:x.1=l;·subst h;rw[has_put_same (JX r) (show WideAt.IsKeyLit (Lit.string x.1)by simp[WideAt.IsKeyLit])];simp
   ·rw[has_put_other (λe=>h (by injection e with e;exact e.symm)),QW l r,List.any_cons];simp[h]
def VD(W:World)(b:Nat):Prop:=∀W'(s:ByteArray),Below W.heap.size W W'->s.size<=maxLen->(Instr.lookup 106 (.map (some b)) (.string s) true).run Tryz.prog W'=.ok (.tuple #[.int .i64 (wT s.data.toList:Nat),.bool (pV s.data.toList)]) W'
theorem ZU(w:World):
 Calls Tryz.prog 72 #[] w λe w'=>e=.returned (.map (some w.heap.size))/\VD w' w.heap.size/\Below w.heap.size w w':=by
 have hmm:=@run_makeMap Tryz.prog;have o0:(w.alloc (.map #[] 0)).ownsMap Tryz.prog 9 (plainElem (H:=Unit) Tryz.prog 3) w.heap.size 0 (.map []):=vN _ _ _ _;have b0:Below w.heap.size w (w.alloc (.map #[] 0)):=(dA _ _).alloc (eA _) _;obtain⟨w1,r1,o1,t1⟩:=aG (t:=106) (e:=3) (key:=.string ⟨#[115,101,110,100]⟩) (val:=.int .i64 4) (kl:=.string [115,101,110,100]) (d:=.lit (.int .i64 4)) (ps:=[]) o0 gP Tryz.underlying106 (by unfold maxLen;omega) (sE Tryz.underlying9 (by unfold maxLen;decide)) (uG Tryz.underlying3 (by decide));obtain⟨w2,r2,o2,t2⟩:=aG (t:=106) (e:=3) (key:=.string ⟨#[106,111,105,110]⟩) (val:=.int .i64 3) (kl:=.string [106,111,105,110]) (d:=.lit (.int .i64 3)) (ps:=[]) o1 gP Tryz.underlying106 (by unfold maxLen;omega) (sE Tryz.underlying9 (by unfold maxLen;decide)) (uG Tryz.underlying3 (by decide));obtain⟨w3,r3,o3,t3⟩:=aG (t:=106) (e:=3) (key:=.string ⟨#[108,101,97,118,101]⟩) (val:=.int .i64 2) (kl:=.string [108,101,97,118,101]) (d:=.lit (.int .i64 2)) (ps:=[]) o2 gP Tryz.underlying106 (by unfold maxLen;omega) (sE Tryz.underlying9 (by unfold maxLen;decide)) (uG Tryz.underlying3 (by decide));obtain⟨w4,r4,o4,t4⟩:=aG (t:=106) (e:=3) (key:=.string ⟨#[97,99,107]⟩) (val:=.int .i64 2) (kl:=.string [97,99,107]) (d:=.lit (.int .i64 2)) (ps:=[]) o3 gP Tryz.underlying106 (by unfold maxLen;omega) (sE Tryz.underlying9 (by unfold maxLen;decide)) (uG Tryz.underlying3 (by decide));obtain⟨w5,r5,o5,t5⟩:=aG (t:=106) (e:=3) (key:=.string ⟨#[98,97,99,107]⟩) (val:=.int .i64 2) (kl:=.string [98,97,99,107]) (d:=.lit (.int .i64 2)) (ps:=[]) o4 gP Tryz.underlying106 (by unfold maxLen;omega) (sE Tryz.underlying9 (by unfold maxLen;decide)) (uG Tryz.underlying3 (by decide));obtain⟨w6,r6,o6,t6⟩:=aG (t:=106) (e:=3) (key:=.string ⟨#[100,114,111,112]⟩) (val:=.int .i64 2) (kl:=.string [100,114,111,112]) (d:=.lit (.int .i64 2)) (ps:=[]) o5 gP Tryz.underlying106 (by unfold maxLen;omega) (sE Tryz.underlying9 (by unfold maxLen;decide)) (uG Tryz.underlying3 (by decide));obtain⟨w7,r7,o7,t7⟩:=aG (t:=106) (e:=3) (key:=.string ⟨#[110,101,120,116]⟩) (val:=.int .i64 2) (kl:=.string [110,101,120,116]) (d:=.lit (.int .i64 2)) (ps:=[]) o6 gP Tryz.underlying106 (by unfold maxLen;omega) (sE Tryz.underlying9 (by unfold maxLen;decide)) (uG Tryz.underlying3 (by decide));obtain⟨w8,r8,o8,t8⟩:=aG (t:=106) (e:=3) (key:=.string ⟨#[108,121,105,110,103]⟩) (val:=.int .i64 1) (kl:=.string [108,121,105,110,103]) (d:=.lit (.int .i64 1)) (ps:=[]) o7 gP Tryz.underlying106 (by unfold maxLen;omega) (sE Tryz.underlying9 (by unfold maxLen;decide)) (uG Tryz.underlying3 (by decide));obtain⟨w9,r9,o9,t9⟩:=aG (t:=106) (e:=3) (key:=.string ⟨#[115,117,109,115]⟩) (val:=.int .i64 1) (kl:=.string [115,117,109,115]) (d:=.lit (.int .i64 1)) (ps:=[]) o8 gP Tryz.underlying106 (by unfold maxLen;omega) (sE Tryz.underlying9 (by unfold maxLen;decide)) (uG Tryz.underlying3 (by decide));have b1:Below w.heap.size w w1:=b0.grown t1.grown (by have:=b0.size;omega) (λk h=>by cases h;exact eA _);have b2:Below w.heap.size w w2:=b1.grown t2.grown (by have:=b1.size;omega) (λk h=>by cases h;exact eA _);have b3:Below w.heap.size w w3:=b2.grown t3.grown (by have:=b2.size;omega) (λk h=>by cases h;exact eA _);have b4:Below w.heap.size w w4:=b3.grown t4.grown (by have:=b3.size;omega) (λk h=>by cases h;exact eA _);have b5:Below w.heap.size w w5:=b4.grown t5.grown (by have:=b4.size;omega) (λk h=>by cases h;exact eA _);have b6:Below w.heap.size w w6:=b5.grown t6.grown (by have:=b5.size;omega) (λk h=>by cases h;exact eA _);have b7:Below w.heap.size w w7:=b6.grown t7.grown (by have:=b6.size;omega) (λk h=>by cases h;exact eA _);have b8:Below w.heap.size w w8:=b7.grown t8.grown (by have:=b7.size;omega) (λk h=>by cases h;exact eA _);have b9:Below w.heap.size w w9:=b8.grown t9.grown (by have:=b8.size;omega) (λk h=>by cases h;exact eA _);have HL:Hid (VD w9 w.heap.size):=λW' s hB hs=>by
  obtain⟨es,clock,hb,F,hn,hD⟩:=o9;have o':W'.ownsMap Tryz.prog 9 (plainElem (H:=Unit) Tryz.prog 3) w.heap.size 9 (AS GS):=⟨es,clock,(hB.block _ ((iC.1 hb).1)).trans hb,F,hn,hD⟩;obtain⟨v,ps,hrun,hv⟩:=o'.look_ok (t:=106) gP Tryz.underlying106 (z:=.int .i64 0) (by rfl) (uG Tryz.underlying3 (by decide)) (sE (s:=s) Tryz.underlying9 hs);obtain⟨c,rfl,hc,_⟩:=plainElem_int_inv Tryz.underlying3 hv;simp only[Prod.mk.injEq]at hc;rw[QW]at hrun;rw[TZ]at hc;have hc1:=hc.1;have hcl:c=(wT s.data.toList:Nat):=by
   unfold wT;split at hc1<;>simp at hc1<;>rw[<-hc1];rfl
  rw[hrun,hcl];rfl
 have HB:Hid (Below w.heap.size w w9):=b9;clear o0 o1 o2 o3 o4 o5 o6 o7 o8 o9 t1 t2 t3 t4 t5 t6 t7 t8 t9 b0 b1 b2 b3 b4 b5 b6 b7 b8 b9;go_enter Tryz.func72,Tryz.ntmps72;go_wp2_with fail;go_ret;exact⟨rfl,HL.out,HB.out⟩
theorem SQ:∀(k:Nat)(l x:List UInt8),x∈xU k l->x.length<=l.length
 |0,l,x,h=>by unfold xU at h;simp at h;rw[h];exact eA _
 |k+1,l,x,h=>by
   unfold xU at h;split at h
   ·rcases vH.1 h with h|h;·rw[h,iD];omega
    ·have:=SQ k _ _ h;rw[rF]at this;omega
   ·simp at h;rw[h];exact eA _
theorem LP(k:Nat)(s:ByteArray):0<(wF k s).length:=by
 unfold wF;rw[dE];exact List.length_pos_iff.2 (qm_ _ _)
theorem RG{k:Nat}{s x:ByteArray}(h:x∈wF k s):x.size<=s.size:=by
 unfold wF at h;obtain⟨l,hl,rfl⟩:=jD.1 h;have:=SQ _ _ _ hl;show l.length<=s.data.size;simpa using this
def vU(s:ByteArray):ByteArray:=(wF 3 s)[0]'(LP 3 s)
def vR(s:ByteArray):Bool:=pV (vU s).data.toList&&decide ((wF 3 s).length=wT (vU s).data.toList)
theorem K_(s:ByteArray)(w:World)(hs:s.size<=1000000):
 Calls Tryz.prog 36 #[.string s] w λe w'=>Below w.heap.size w w'/\((vR s=false/\e=aK 1)\/(vR s=true/\∃g c,e=.returned (.slice (some ⟨g,0,none⟩) (wF 3 s).length c)/\qM w' g 0 (wF 3 s)/\g<w'.heap.size)):=by
 have HS:=aA (L_ s w hs);have hfs:(vU s).size<=maxLen:=by
  have:(vU s).size<=s.size:=RG (k:=3) (qB _);unfold maxLen;omega
 have hn0:=LP 3 s;have hn4:=Z8 3 s;obtain⟨f,hf⟩:∃f,f=vU s:=⟨_,rfl⟩;obtain⟨n,hn⟩:∃n,n=(wF 3 s).length:=⟨_,rfl⟩;have HOK:Hid (vR s=(pV f.data.toList&&decide (n=wT f.data.toList))):=by show _=_;rw[hf,hn];rfl
 rw[<-hf]at hfs;have HN:=aA hn;have HF:=aA hf;rw[<-hn]at hn0 hn4;clear hs hf hn;go_enter Tryz.func36,Tryz.ntmps36;go_wp2_with fail;refine HS.out.mono ?_;rintro e w2⟨g,c,rfl,h1,h2,h3,h4⟩;have hc:w2.cell? ⟨g,0,none⟩=some (.string f):=by
  have:=h1 0 (LP 3 s);rw[HF.out];exact this
 rw[<-HN.out];have H1:=aA (And.intro h1 h4);clear h1 h3 h4;have j0:(0:Int)<n:=by omega
 go_wp2_with fail;go_region_held3(λw'=>w'.cell? ⟨g,0,none⟩=some (.string f))(go_keep)
  (first|(go_at_call 72;refine(ZU _).mono ?_;rintro e w3⟨rfl,hL,hB'⟩;have hB:=nQ hB';have e0:=(hB.cell (p:=⟨g,0,none⟩) h2).trans hc;have hl:Sem.run Tryz.prog (Instr.lookup 106 (.map (some w2.heap.size)) (.string f) true) w3=.ok (.tuple #[.int .i64 (wT f.data.toList:Nat),.bool (pV f.data.toList)]) w3:=hL w3 f (dA _ _) hfs;clear hL));all_goals
  clear hl e0 hc;obtain⟨kn,hkn⟩:∃kn,kn=pV f.data.toList:=⟨_,rfl⟩;obtain⟨ln,hln⟩:∃ln,ln=wT f.data.toList:=⟨_,rfl⟩;have HOK2:Hid (vR s=(kn&&decide (n=ln))):=by show _=_;rw[HOK.out,<-hkn,<-hln]
  rw[<-hkn,<-hln];have HB:Hid (Below w.heap.size w w3):=H1.out.2.trans (hB.mono H1.out.2.size);have HT:Hid (qM w3 g 0 (wF 3 s)/\g<w3.heap.size):=⟨λi hi=>(hB.cell (p:=⟨g,0+i,none⟩) h2).trans (H1.out.1 i hi),uC h2 hB.size⟩;clear hkn hln hB hB' HOK H1;by_cases hk:kn=true/\n=ln;·obtain⟨rfl,rfl⟩:=hk;go_wp2_with fail;refine(zM 1 [false,false] _ _ (by simp) (fQ _ [false,false]) (by simp)).mono ?_;rintro e w4⟨rfl,rfl⟩;go_wp2_with fail;go_ret;have b4:Below w3.heap.size w3 (w3.alloc (.cells (([false,false]:List Bool).map Value.bool).toArray 4)):=(dA _ _).alloc (eA _) _;refine⟨HB.out.trans (b4.mono HB.out.size),.inr ⟨by rw[HOK2.out];simp,g,c,by rw[<-HN.out];rfl,λi hi=>(b4.cell (p:=⟨g,0+i,none⟩) HT.out.2).trans (HT.out.1 i hi),uC HT.out.2 b4.size⟩⟩
  ·have HNO:Hid (vR s=false):=by
    show _=_;rw[HOK2.out,mI];intro h;simp at h;exact hk h
   have b4:∀bs:List Bool,Hid (Below w.heap.size w (w3.alloc (.cells (bs.map Value.bool).toArray 4))):=λbs=>HB.out.trans (((dA _ _).alloc (eA _) _:Below w3.heap.size w3 _).mono HB.out.size);have hmem:true∈[!kn,((n:Int)!=(ln:Int))]:=by
    cases kn;·simp
    ·simp at hk⊢;omega
   have HM:=aA hmem;clear hk hmem;go_wp2_with fail;refine(aN 1 [!kn,((n:Int)!=(ln:Int))] _ _ (by simp) (fQ _ [!kn,((n:Int)!=(ln:Int))]) HM.out).mono ?_;rintro e w4⟨rfl,rfl⟩;exact⟨rfl,(b4 _).out,.inl ⟨HNO.out,rfl⟩⟩
open Go.Shelf Go.Lib
def Tryz.laysItoa_ren:Go.Shelf.Ren:=⟨λ|171=>37|243=>74|246=>115|283=>164|284=>165|285=>166|286=>167|129=>194|317=>193|318=>195|319=>196|320=>197|337=>212|338=>213|n=>n,λ|3=>3|9=>9|2=>2|4=>4|171=>190|0=>0|53=>191|37=>91|5=>5|173=>194|212=>218|51=>154|20=>20|213=>219|46=>133|232=>250|233=>251|n=>n,λ|17=>1|18=>4|19=>5|n=>n⟩
theorem Tryz.laysItoa:Go.Proofs.LaysM.n171 Tryz.prog Tryz.laysItoa_ren:={
 mixed:=by kernel_rfl
 f129:=Tryz.func194.trans (congrArg some (by kernel_rfl))
 f171:=Tryz.func37.trans (congrArg some (by kernel_rfl))
 f243:=Tryz.func74.trans (congrArg some (by kernel_rfl))
 f246:=Tryz.func115.trans (congrArg some (by kernel_rfl))
 f283:=Tryz.func164.trans (congrArg some (by kernel_rfl))
 f284:=Tryz.func165.trans (congrArg some (by kernel_rfl))
 f285:=Tryz.func166.trans (congrArg some (by kernel_rfl))
 f286:=Tryz.func167.trans (congrArg some (by kernel_rfl))
 f317:=Tryz.func193.trans (congrArg some (by kernel_rfl))
 f318:=Tryz.func195.trans (congrArg some (by kernel_rfl))
 f319:=Tryz.func196.trans (congrArg some (by kernel_rfl))
 f320:=Tryz.func197.trans (congrArg some (by kernel_rfl))
 f337:=Tryz.func212.trans (congrArg some (by kernel_rfl))
 f338:=Tryz.func213.trans (congrArg some (by kernel_rfl))
 t0:=Tryz.underlying0
 a0:=Tryz.isAgg0
 z0:=Tryz.sizeOf0
 v0:=Tryz.zeroValue0
 t2:=Tryz.underlying2
 a2:=Tryz.isAgg2
 z2:=Tryz.sizeOf2
 v2:=Tryz.zeroValue2
 t3:=Tryz.underlying3
 a3:=Tryz.isAgg3
 z3:=Tryz.sizeOf3
 v3:=Tryz.zeroValue3
 t4:=Tryz.underlying4
 a4:=Tryz.isAgg4
 z4:=Tryz.sizeOf4
 v4:=Tryz.zeroValue4
 t5:=Tryz.underlying5
 a5:=Tryz.isAgg5
 z5:=Tryz.sizeOf5
 v5:=Tryz.zeroValue5
 t9:=Tryz.underlying9
 a9:=Tryz.isAgg9
 z9:=Tryz.sizeOf9
 v9:=Tryz.zeroValue9
 t20:=Tryz.underlying20
 a20:=Tryz.isAgg20
 z20:=Tryz.sizeOf20
 v20:=Tryz.zeroValue20
 t37:=Tryz.underlying91
 a37:=Tryz.isAgg91
 z37:=Tryz.sizeOf91
 v37:=Tryz.zeroValue91
 t46:=Tryz.underlying133
 a46:=Tryz.isAgg133
 z46:=Tryz.sizeOf133
 v46:=Tryz.zeroValue133
 t51:=Tryz.underlying154
 a51:=Tryz.isAgg154
 z51:=Tryz.sizeOf154
 v51:=Tryz.zeroValue154
 t53:=Tryz.underlying191
 a53:=Tryz.isAgg191
 z53:=Tryz.sizeOf191
 v53:=Tryz.zeroValue191
 t171:=Tryz.underlying190
 a171:=Tryz.isAgg190
 z171:=Tryz.sizeOf190
 v171:=Tryz.zeroValue190
 t173:=Tryz.underlying194
 a173:=Tryz.isAgg194
 z173:=Tryz.sizeOf194
 v173:=Tryz.zeroValue194
 t212:=Tryz.underlying218
 a212:=Tryz.isAgg218
 z212:=Tryz.sizeOf218
 v212:=Tryz.zeroValue218
 t213:=Tryz.underlying219
 a213:=Tryz.isAgg219
 z213:=Tryz.sizeOf219
 t232:=Tryz.underlying250
 a232:=Tryz.isAgg250
 z232:=Tryz.sizeOf250
 v232:=Tryz.zeroValue250
 t233:=Tryz.underlying251
 a233:=Tryz.isAgg251
 z233:=Tryz.sizeOf251
 v233:=Tryz.zeroValue251
 g17:=by kernel_rfl
 g18:=by kernel_rfl
 g19:=by kernel_rfl
 i0:=by kernel_rfl
 i2:=by kernel_rfl
 i3:=by kernel_rfl
 i4:=by kernel_rfl
 i5:=by kernel_rfl
 i9:=by kernel_rfl
 i20:=by kernel_rfl
 i37:=by kernel_rfl
 i46:=by kernel_rfl
 i51:=by kernel_rfl
 i53:=by kernel_rfl
 i171:=by kernel_rfl
 i173:=by kernel_rfl
 i212:=by kernel_rfl
 i232:=by kernel_rfl
 i233:=by kernel_rfl
 m17:=by kernel_rfl
 m18:=by kernel_rfl
 m19:=by kernel_rfl}
def Tryz.laysJoin_ren:Go.Shelf.Ren:=⟨λ|156=>111|165=>151|166=>152|169=>153|240=>188|241=>189|276=>209|277=>210|n=>n,λ|31=>52|9=>9|3=>3|4=>4|0=>0|20=>20|72=>179|76=>183|70=>177|37=>91|75=>182|127=>213|164=>232|5=>5|80=>185|n=>n,λ|n=>n⟩
theorem Tryz.laysJoin:Go.Proofs.Lays.n156 Tryz.prog Tryz.laysJoin_ren:={
 mixed:=by kernel_rfl
 f156:=Tryz.func111.trans (congrArg some (by kernel_rfl))
 f165:=Tryz.func151.trans (congrArg some (by kernel_rfl))
 f166:=Tryz.func152.trans (congrArg some (by kernel_rfl))
 f169:=Tryz.func153.trans (congrArg some (by kernel_rfl))
 f240:=Tryz.func188.trans (congrArg some (by kernel_rfl))
 f241:=Tryz.func189.trans (congrArg some (by kernel_rfl))
 f276:=Tryz.func209.trans (congrArg some (by kernel_rfl))
 f277:=Tryz.func210.trans (congrArg some (by kernel_rfl))
 t0:=Tryz.underlying0
 a0:=Tryz.isAgg0
 z0:=Tryz.sizeOf0
 v0:=Tryz.zeroValue0
 t3:=Tryz.underlying3
 a3:=Tryz.isAgg3
 z3:=Tryz.sizeOf3
 v3:=Tryz.zeroValue3
 t4:=Tryz.underlying4
 a4:=Tryz.isAgg4
 z4:=Tryz.sizeOf4
 v4:=Tryz.zeroValue4
 t9:=Tryz.underlying9
 a9:=Tryz.isAgg9
 z9:=Tryz.sizeOf9
 v9:=Tryz.zeroValue9
 t20:=Tryz.underlying20
 a20:=Tryz.isAgg20
 z20:=Tryz.sizeOf20
 v20:=Tryz.zeroValue20
 t31:=Tryz.underlying52
 a31:=Tryz.isAgg52
 z31:=Tryz.sizeOf52
 v31:=Tryz.zeroValue52
 t37:=Tryz.underlying91
 a37:=Tryz.isAgg91
 z37:=Tryz.sizeOf91
 v37:=Tryz.zeroValue91
 t70:=Tryz.underlying177
 a70:=Tryz.isAgg177
 z70:=Tryz.sizeOf177
 v70:=Tryz.zeroValue177
 t72:=Tryz.underlying179
 a72:=Tryz.isAgg179
 z72:=Tryz.sizeOf179
 v72:=Tryz.zeroValue179
 t75:=Tryz.underlying182
 a75:=Tryz.isAgg182
 z75:=Tryz.sizeOf182
 v75:=Tryz.zeroValue182
 t76:=Tryz.underlying183
 a76:=Tryz.isAgg183
 z76:=Tryz.sizeOf183
 v76:=Tryz.zeroValue183
 t127:=Tryz.underlying213
 a127:=Tryz.isAgg213
 z127:=Tryz.sizeOf213
 v127:=Tryz.zeroValue213
 t164:=Tryz.underlying232
 a164:=Tryz.isAgg232
 z164:=Tryz.sizeOf232
 v164:=Tryz.zeroValue232}
def rJ(w:World):Prop:=Lib.TabIs Tryz.prog w "internal/strconv.uint64pow10" .u64 Lib.pow10Tab
theorem TP(n:Nat)(hn:n<=1000000000000000)(w:World)(htab:rJ w):
 Calls Tryz.prog 37 #[.int .i64 (n:Nat)] w λe w'=>e=.returned (.string ⟨(Lib.decDigits n).toArray⟩)/\Below w.heap.size w w':=by
 have h:=Any.strconv_Itoa Tryz.laysItoa (n:Int) (by omega) (by omega) w htab;refine h.mono ?_;rintro e w'⟨rfl,k,os,rfl⟩;exact⟨by rw[Lib.itoa_nonneg],below_grow _ w (eA _) k os⟩
theorem CD:Builder.Extra Tryz.prog Tryz.laysJoin_ren where
 sizeBuilder:=by kernel_rfl
 liesBuilder:=by kernel_rfl
 t5:=Tryz.underlying5
 a5:=Tryz.isAgg5
 z5:=Tryz.sizeOf5
 v5:=Tryz.zeroValue5
 infoByte:=by kernel_rfl
 cellsByte:=by kernel_rfl
 sizeByte:=by kernel_rfl
 neB5:=by decide
theorem QB(bk o c:Nat)(xs:List ByteArray)(w:World)(h:qM w bk o xs)(hbk:bk<w.heap.size)(hn:xs.length<=c)(hc:xs.length<=1000)(hl:(Lib.join (xs.map (·.data.toList)) [32]).length<=140737488355328):
 Calls Tryz.prog 111 #[.slice (some ⟨bk,o,none⟩) xs.length c,.string ⟨#[32]⟩] w λe w'=>e=.returned (.string ⟨(Lib.join (xs.map (·.data.toList)) [32]).toArray⟩)/\Below w.heap.size w w':=
 Any.strings_Join Tryz.laysJoin CD bk o c xs ⟨#[32]⟩ w (λj x hj=>by
  obtain⟨hj',e⟩:=cH.1 hj;rw[<-e];exact h j hj') hbk (by omega) hn hl
theorem e_(a:Option Addr)(c:Nat)(w:World):
 Calls Tryz.prog 111 #[.slice a 0 c,.string ⟨#[32]⟩] w λe w'=>e=.returned (.string ⟨#[]⟩)/\w'=w:=Any.strings_Join_none Tryz.laysJoin CD a c _ w
end Go.Proofs.YtedmnjimkhamaaaGreatDoor
namespace Go.Proofs.YtedmnjimkhamaaaGreatDoor
set_option linter.unusedVariables false
set_option maxRecDepth 100000
set_option maxHeartbeats 4000000
open Go.RowKit Go.Maps
theorem pn_{p:lD}{s:yC}(h:zG p s=0):iF p=0/\s.nA.length<=4/\yO p.jB.length s.yA=true/\s.nA.all (sM p.jB.length)=true/\oK s.nA s.fA (-1) s.xB=true/\lS s=true/\oS s=true/\dT p s=true/\eT s=true/\pS s=true:=by
 unfold zG at h;by_cases h1:iF p=0
 ·rw[kA (by simp[h1])]at h;by_cases h2:4<s.nA.length;·rw[qA h2]at h;cases h
  ·rw[kA h2]at h;by_cases h3:uR p s=false;·rw[qA h3]at h;cases h
   ·rw[kA h3]at h;by_cases h4:(dT p s&&eT s)=false;·rw[qA h4]at h;cases h
    ·rw[kA h4]at h;by_cases h5:pS s=false;·rw[qA h5]at h;cases h
     ·simp only[Bool.not_eq_false,aC]at h3 h4 h5;unfold uR at h3;simp only[aC]at h3;exact⟨h1,by omega,h3.1.1.1.1,h3.1.1.1.2,h3.1.1.2,h3.1.2,h3.2,h4.1,h4.2,h5⟩
 ·rw[qA h1]at h;exact absurd h h1
theorem TW{ts:List kH}{nt:Int}:∀{xs:List eF}{l:Int},oK ts nt l xs=true->∀o∈xs,(0<=o.fE/\o.fE<ts.length)/\∃t,ts[o.fE.toNat]?=some t/\t.queue≠-1
 |[],_,_,o,ho=>by simp at ho
 |x::r,l,h,o,ho=>by
   unfold oK at h;rw[aC]at h;rcases vH.1 ho with rfl|ho;·have h1:=h.1;unfold aQ tG at h1;simp only[aC,mC]at h1;refine⟨h1.1.1.2,?_⟩;have h2:=h1.1.2;cases ht:ts[o.fE.toNat]? with
    |none=>rw[ht]at h2;cases h2
    |some t=>rw[ht]at h2;simp at h2;exact⟨t,rfl,h2.1⟩
   ·exact TW h.2 o ho
def yU(s:yC):Nat->Nat
 |0=>0
 |k+1=>yU s k+xE s (k:Int)
theorem PU(k:Nat):∀xs:List eF,(xs.filter (λo=>decide (0<=o.fE/\o.fE<((k+1:Nat):Int)))).length=(xs.filter (λo=>decide (0<=o.fE/\o.fE<(k:Int)))).length+(xs.filter (λo=>decide (o.fE=(k:Int)))).length
 |[]=>rfl
 |x::r=>by
   have ih:=PU k r;simp only[xJ];by_cases h1:0<=x.fE/\x.fE<(k:Int)
   ·have h2:0<=x.fE/\x.fE<((k+1:Nat):Int):=by omega
    have h3:¬x.fE=(k:Int):=by omega
    simp only[h1,h2,h3,decide_true,decide_false,if_true,sN,if_false,List.length_cons,and_self];omega
   ·by_cases h3:x.fE=(k:Int)
    ·have h2:0<=x.fE/\x.fE<((k+1:Nat):Int):=by omega
     rw[qA (eC h2),kA (by simpa using h1),qA (eC h3)];simp only[List.length_cons];omega
    ·have h2:¬(0<=x.fE/\x.fE<((k+1:Nat):Int)):=by omega
     rw[kA (by simpa using h2),kA (by simpa using h1),kA (by simpa using h3)];exact ih
theorem UX(s:yC):∀k,yU s k=(s.xB.filter (λo=>decide (0<=o.fE/\o.fE<(k:Int)))).length
 |0=>by
   have:s.xB.filter (λo=>decide (0<=o.fE/\o.fE<((0:Nat):Int)))=[]:=by
    rw[iQ];intro o _;simp
   rw[this];rfl
 |k+1=>by
   rw[PU];show yU s k+xE s k=_;rw[UX s k];rfl
theorem po_{s:yC}(h:oK s.nA s.fA (-1) s.xB=true):yU s s.nA.length=s.xB.length:=by
 rw[UX,List.filter_eq_self.2];intro o ho;exact eC (TW h o ho).1
theorem V9(s:yC)(t:Int):xE s t<=s.xB.length:=sL _ _
theorem Tryz.infoItem:(Tryz.prog.info? 86).map (λi=>(i.zero,i.size,i.bytes))=some (some (.agg #[.int .i64 0,.string ⟨#[]⟩,.string ⟨#[]⟩,.bool false,.int .i64 0]),5,56):=by kernel_rfl
def zD.cells(x:zD):List Value:=[.int .i64 x.seq,.string x.key,.string x.body,.bool x.again,.int .i64 x.fC]
def tK(xs:List zD):List Value:=xs.flatMap zD.cells
theorem CH(xs:List zD):(tK xs).length=xs.length*5:=by
 induction xs with
 |nil=>rfl
 |cons x r ih=>unfold tK at ih⊢;rw[mF,dC,ih];simp[zD.cells];omega
theorem IM:∀(xs:List zD)(i:Nat)(h:i<xs.length)(j:Nat),j<5->(tK xs)[i*5+j]?=(xs[i].cells)[j]?
 |[],i,h,_,_=>by simp at h
 |x::r,0,h,j,hj=>by
   unfold tK;rw[mF,wE (by simp[zD.cells];omega)];simp
 |x::r,i+1,h,j,hj=>by
   have ih:=IM r i (by simpa using h) j hj;unfold tK at ih⊢;rw[mF,uE (by simp[zD.cells];omega)];have e:(i+1)*5+j-x.cells.length=i*5+j:=by simp[zD.cells];omega
   rw[e,ih];simp
theorem VU(xs ys:List zD):tK (xs++ys)=tK xs++tK ys:=by unfold tK;rw[zF]
theorem CI(xs:List zD):∀u∈tK xs,u.oneCell'=true:=by
 intro u hu;obtain⟨x,_,hx⟩:=sI.1 hu;simp[zD.cells]at hx;rcases hx with rfl|rfl|rfl|rfl|rfl<;>rfl
theorem jS.of{W:World}{g o:Nat}{x:zD}(h:∀j,j<5->W.cell? ⟨g,o+j,none⟩=x.cells[j]?):jS W g o x:=
 ⟨h 0 (by omega),h 1 (by omega),h 2 (by omega),h 3 (by omega),h 4 (by omega)⟩
theorem jS.at{W:World}{g o:Nat}{x:zD}(h:jS W g o x){j:Nat}(hj:j<5):W.cell? ⟨g,o+j,none⟩=x.cells[j]?:=by
 obtain⟨h0,h1,h2,h3,h4⟩:=h;match j,hj with
 |0,_=>exact h0
 |1,_=>exact h1
 |2,_=>exact h2
 |3,_=>exact h3
 |4,_=>exact h4
theorem bZ(g o j:Nat):(⟨g,o,none⟩:Addr).add j=⟨g,o+j,none⟩:=by unfold Addr.add;split<;>simp_all
theorem RW{W:World}{base:Nat}{T:TypeId}{v:Value}{n:Nat}{xs:List zD}(h:W.ownsRow base T 5 v n (tK xs)):
 n=xs.length/\∃a c,v=.slice a n c/\n<=c/\c<=maxLen/\(a=none->c=0/\xs=[])/\qI W a xs:=by
 have hn:n=xs.length:=by have:=h.1;rw[CH]at this;omega
 refine⟨hn,?_⟩;rcases h.2 with⟨rfl,h0⟩|⟨g,cap,cur,rfl,hb,hg,h1,h2,_⟩;·have hx:xs=[]:=kC.1 (by omega);exact⟨none,0,by rw[h0],by omega,by unfold maxLen;omega,λ_=>⟨rfl,hx⟩,.inl hx⟩
 ·refine⟨_,cap,rfl,h1,h2,(λh=>by cases h),.inr ⟨g,0,rfl,(iC.1 hg).1,λi hi=>jS.of λj hj=>?_⟩⟩;have hc:=IM xs i hi j hj;have hv:xs[i].cells[j]?=some (xs[i].cells[j]'(by simpa[zD.cells]using hj)):=tA _;rw[hv]at hc⊢;have:=h.cells (g:=g) rfl _ _ hc;rw[bZ]at this;rw[<-gH]at this;exact this
theorem C_{W:World}{ad:Addr}{ys:List zD}(h:qI W (some ad) ys):∀j u,(tK ys)[j]?=some u->W.cell? (ad.add j)=some u:=by
 intro j u hj;have hjl:j<ys.length*5:=by
  rcases xG j (ys.length*5)with h|h;·exact h
  ·rw[tF (by rw[CH];exact h)]at hj;cases hj
 rcases h with rfl|⟨g,o,ha,_,h⟩;·simp at hjl
 ·cases ha;have hi:j/5<ys.length:=by omega
  have hr:j%5<5:=Nat.mod_lt _ (by omega);have hc:=(h (j/5) hi).at hr;have e:j/5*5+j%5=j:=by omega
  have hk:=IM ys (j/5) hi (j%5) hr;rw[e]at hk;rw[bZ];rw[gH,e]at hc;rw[hc,<-hk,hj]
theorem PK(w:World)(row:Option Nat):w.grownBy w row:=⟨rfl,rfl,rfl,eA _,λ_ _ _=>rfl⟩
theorem wX{w:World}{ops:Array Oper}{rest:List Oper}{o:Oper}{act:Act}{Q:Exit->Act->World->Prop}(hgd:o.guard=none)(s x:Operand)
 (ho:o.op=.call {callee:=.builtin .append,args:=#[s,x],argTypes:=#[110,110]})
 (base:Nat)(v:Value)(n:Nat)(xs:List zD)(hs:act.eval s=v)(hown:w.ownsRow base 86 5 v n (tK xs))
 (a:Option Addr)(m c:Nat)(ys:List zD)(hx:act.eval x=.slice a m c)(hm:ys.length=m)(hz:a=none->c=0/\ys=[])(hT:qI w a ys)
 (hb:n+m<=100000000)(hbase:base<=w.heap.size)
 (h:∀v' w',w'.ownsRow base 86 5 v' (n+m) (tK (xs++ys))->w.grownBy w' v.ownBlock->wpList Tryz.prog ops Q rest (act.put o.dst v') w'):wpList Tryz.prog ops Q (o::rest) act w:=by
 obtain⟨i0,hi,hz0,hz1,hz2⟩:=qF Tryz.infoItem;cases a with
 |none=>
   obtain⟨rfl,rfl⟩:=hz rfl;simp at hm;subst hm;exact wpList_append_own_none hgd s x _ ho base _ i0 5 Tryz.underlying110 hi v n _ hs hown hx (by
    have:=h v w (by simpa using hown) (PK _ _);exact this)
 |some ad=>
   exact vE _ hgd s x _ ho base _ i0 _ 5 56 Tryz.underlying110 hi hz0 hz1 hz2 rfl (by decide) v n _ hs hown ad m c (tK ys) hx (by rw[CH,hm]) (C_ hT) (CI ys) (by unfold maxLen;omega) (by omega) hbase (λv' w' h1 h2 _=>h v' w' (by rw[VU];exact h1) h2)
theorem N7(n:Nat)(w:World)(h1:0<n)(h2:n<=100000000):
 Calls Tryz.prog 207 #[.slice none 0 0,.int .i64 n] w λe w'=>∃v,e=.returned v/\w'.ownsRow w.heap.size 86 5 v 0 (tK [])/\Below w.heap.size w w':=by
 obtain⟨i0,hi,hz0,hz1,hz2⟩:=qF Tryz.infoItem;have hrun:=Lib.run_append_nil_zeros (P:=Tryz.prog) w 110 3 110 86 i0 _ .i64 .i64 Tryz.underlying110 Tryz.underlying3 hi hz0 n h1 (by omega) (by omega) (by rw[hz2];omega);obtain⟨cap,hcap⟩:∃cap,cap=grownCap w n 0 86:=⟨_,rfl⟩;have hge:n<=cap:=by rw[hcap];exact grownCap_ge _ _ _ _
 have hle:cap<=maxLen:=by rw[hcap];exact grownCap_le_maxLen _ _ _ _ (by unfold maxLen;omega)
 rw[<-hcap]at hrun;obtain⟨cs,hcs⟩:∃cs,cs=Builtin.zeroCells (Value.agg #[.int .i64 0,.string ⟨#[]⟩,.string ⟨#[]⟩,.bool false,.int .i64 0]).cells n++Builtin.zeroCells (Value.agg #[.int .i64 0,.string ⟨#[]⟩,.string ⟨#[]⟩,.bool false,.int .i64 0]).cells (cap-n):=⟨_,rfl⟩;have hsz:cs.size=cap*5:=by rw[hcs];simp[size_zeroCells,Value.cells];omega
 rw[<-hcs]at hrun;have HS:Hid (cs.size=cap*5):=hsz;have HL:Hid (cap<=maxLen):=hle;clear hsz hcs hcap hle;have q0:¬(n:Int)<0:=by omega
 have q1:(0:Int)<n:=by omega
 have q2:IntKind.i64.wrap (n:Int)=(n:Int):=LU _ (by omega);go_enter Tryz.func207,Tryz.ntmps207;go_wp2_with(at_builtin;refine Lib.wpList_append_run _ rfl _ _ _ _ rfl _ _ rfl rfl _ _ hrun ?_);go_ret;have hown:=aI (base:=w.heap.size) (e:=86) (size:=5) w.drew cs cap (by simp) HL.out HS.out;exact⟨_,rfl,hown,(by repeat(first|exact dA _ _|assumption|refine nE ?_|refine cE ?_ (by first|(simp;done)|(simp;omega)|omega) _|refine pD ?_ (by first|(simp;done)|(simp;omega)|omega) _))⟩
def dD(q:Int):List zD->Nat
 |[]=>0
 |x::r=>if q<=x.seq then 0 else dD q r+1
def lN(q:Int)(xs:List zD):Int:=if dD q xs<xs.length then dD q xs else-1
theorem CR(q:Int):∀xs:List zD,dD q xs<=xs.length
 |[]=>by simp[dD]
 |x::r=>by
   have:=CR q r;unfold dD;split<;>simp<;>omega
theorem QT(s d:Int)(k b:ByteArray)(a:Bool)(B:Nat)(q:Int)(w:World)(hB:B<w.heap.size)(hq:w.cell? ⟨B,0,none⟩=some (.int .i64 q)):
 Calls Tryz.prog 182 #[.agg #[.int .i64 s,.string k,.string b,.bool a,.int .i64 d],.pointer (some ⟨B,0,none⟩)] w λe w'=>e=.returned (.bool (decide (q<=s)))/\Below w.heap.size w w':=by
 have hne:¬w.heap.size=B:=by omega
 go_enter Tryz.func182,Tryz.ntmps182;go_wp2;go_ret;exact⟨rfl,(dA _ _).alloc (eA _) _⟩
theorem IA(xs:List zD)(a:Option Addr)(n c:Nat)(B:Nat)(q:Int)(w:World)(hn:xs.length=n)(hm:n<=maxLen)(hp:qI w a xs)(hB:B<w.heap.size)(hq:w.cell? ⟨B,0,none⟩=some (.int .i64 q)):
 Calls Tryz.prog 181 #[.slice a n c,.func (.func 182) #[] #[.pointer (some ⟨B,0,none⟩)]] w λe w'=>e=.returned (.int .i64 (lN q xs))/\Below w.heap.size w w':=by
 have HN:Hid (xs.length=n):=hn;have HP:Hid (qI w a xs):=hp;unfold maxLen at hm;clear hn hp;go_enter Tryz.func181,Tryz.ntmps181;go_wp2;go_loopw[8](λi wr=>∃(k:Nat),k<=n/\i=.int .i64 k/\dD q xs=k+dD q (xs.drop k)/\Below w.heap.size w wr)(λi _=>n-(intOf i).toNat);case atStart=>exact⟨0,zA _,rfl,by simp,dA _ _⟩
 case round=>
  obtain⟨k,hk,rfl,ha,hBl⟩:=hrel;have HA:Hid (dD q xs=k+dD q (xs.drop k)):=ha;have hBs:=hBl.size;have hqc:=(hBl.cell (p:=⟨B,0,none⟩) hB).trans hq;clear ha;by_cases hlt:k<n
  ·have hkl:k<xs.length:=by rw[HN.out];exact hlt
   obtain⟨g,o,rfl,hg,hx⟩:=HP.out.cells (by omega);obtain⟨x,hxx⟩:∃x,x=xs[k]:=⟨_,rfl⟩;have hc:=(hx k hkl).sA hBl hg;rw[<-hxx]at hc;have hd:xs.drop k=x::xs.drop (k+1):=by rw[hxx];exact vC hkl
   clear hx hxx;obtain⟨s,ky,b,ag,d⟩:=x;obtain⟨c0,c1,c2,c3,c4⟩:=hc;dsimp only at c0 c1 c2 c3 c4;have j1:(0:Int)<=(k:Int):=by omega
   have j2:(k:Int)<n:=by omega
   by_cases hle:q<=s
   ·have HF:Hid (lN q xs=k):=by
     show lN q xs=k;have e:dD q xs=k:=by rw[HA.out,hd,dD,qA hle];rfl
     unfold lN;rw[e,qA hkl]
    have HD:Hid (decide (q<=s)=true):=by show decide (q<=s)=true;simpa using hle
    clear hd hle;go_wp2_with fail;refine(QT _ _ _ _ _ _ q _ (by omega) hqc).mono ?_;rintro e w2⟨rfl,hB2⟩;rw[HD.out];go_wp2_with fail;go_ret;exact⟨tJ HF.out.symm,hBl.trans (hB2.mono hBs)⟩
   ·have HF:Hid (dD q xs=(k+1)+dD q (xs.drop (k+1))):=by
     show dD q xs=_;rw[HA.out,hd,dD,kA hle];omega
    have HD:Hid (decide (q<=s)=false):=by show decide (q<=s)=false;simpa using hle
    clear hd hle;go_wp2_with fail;refine(QT _ _ _ _ _ _ q _ (by omega) hqc).mono ?_;rintro e w2⟨rfl,hB2⟩;rw[HD.out];go_wp2_with fail;go_roundw;case rel=>exact⟨k+1,by omega,by go_num,HF.out,hBl.trans (hB2.mono hBs)⟩
    case measure=>simp[intOf];omega
  ·have HF:Hid (lN q xs=-1):=by
    show lN q xs=-1;have e:xs.drop k=[]:=mD (by rw[HN.out];omega);have e2:dD q xs=k:=by rw[HA.out,e];rfl
    unfold lN;rw[e2,kA (by rw[HN.out];exact hlt)]
   go_wp2;go_ret;exact⟨tJ HF.out.symm,hBl⟩
def eQ(a b c:Nat):Nat->Nat
 |0=>0
 |1=>a
 |2=>a+b
 |_=>a+b+c
def zX(x y z:List zD):Nat->List zD
 |0=>[]
 |1=>x
 |2=>x++y
 |_=>x++y++z
theorem bY(h:Nat)(x y z:List zD)(a1 a2 a3:Option Addr)(n1 n2 n3 c1 c2 c3:Nat)(w:World)(hh:h<w.heap.size)
 (g0:w.cell? ⟨h,0,none⟩=some (.slice a1 n1 c1))(g1:w.cell? ⟨h,1,none⟩=some (.slice a2 n2 c2))(g2:w.cell? ⟨h,2,none⟩=some (.slice a3 n3 c3))
 (l1:x.length=n1)(l2:y.length=n2)(l3:z.length=n3)(hx:qI w a1 x)(hy:qI w a2 y)(hz:qI w a3 z)
 (z1:a1=none->c1=0/\x=[])(z2:a2=none->c2=0/\y=[])(z3:a3=none->c3=0/\z=[])(hpos:0<n1+n2+n3)(hb:n1+n2+n3<=100000000):
 Calls Tryz.prog 183 #[.slice (some ⟨h,0,none⟩) 3 3] w λe w'=>∃v,e=.returned v/\w'.ownsRow w.heap.size 86 5 v (n1+n2+n3) (tK (x++y++z))/\Below w.heap.size w w':=by
 have HX:Hid (qI w a1 x/\qI w a2 y/\qI w a3 z):=⟨hx,hy,hz⟩;have HL:Hid (x.length=n1/\y.length=n2/\z.length=n3):=⟨l1,l2,l3⟩;have HZ:Hid ((a1=none->c1=0/\x=[])/\(a2=none->c2=0/\y=[])/\(a3=none->c3=0/\z=[])):=⟨z1,z2,z3⟩;clear hx hy hz l1 l2 l3 z1 z2 z3;go_enter Tryz.func183,Tryz.ntmps183;go_wp2;go_loopw[3,11](λs i wr=>∃k:Nat,k<=3/\i=.int .i64 k/\s=.int .i64 (eQ n1 n2 n3 k:Nat)/\w=wr)(λ_ i _=>3-(intOf i).toNat);case atStart=>exact⟨0,by omega,rfl,rfl,rfl⟩
 case round=>
  obtain⟨k,hk,rfl,rfl,rfl⟩:=hrel;by_cases hlt:k<3;·match k,hlt with
   |0,_=>
     have q:¬(n1:Int)<0:=by omega
     have q2:IntKind.i64.wrap (n1:Int)=(n1:Int):=LU _ (by omega);simp only[eQ];go_wp2;go_roundw;case rel=>exact⟨1,by omega,by go_num,by go_num,trivial⟩
     case measure=>simp[intOf]
   |1,_=>
     have q:¬(n1:Int)+n2<0:=by omega
     have q2:IntKind.i64.wrap ((n1:Int)+n2)=(n1:Int)+n2:=by rw[uB];omega
     simp only[eQ];go_wp2;go_roundw;case rel=>exact⟨2,by omega,by go_num,by go_num,trivial⟩
     case measure=>simp[intOf]
   |2,_=>
     have q:¬(n1:Int)+n2+n3<0:=by omega
     have q2:IntKind.i64.wrap ((n1:Int)+n2+n3)=(n1:Int)+n2+n3:=by rw[uB];omega
     simp only[eQ];go_wp2;go_roundw;case rel=>exact⟨3,by omega,by go_num,by go_num,trivial⟩
     case measure=>simp[intOf]
  ·have e3:k=3:=by omega
   subst e3;simp only[eQ];obtain⟨t,ht⟩:∃t,t=n1+n2+n3:=⟨_,rfl⟩;rw[<-ht];have ht1:0<t:=by omega
   have ht2:t<=100000000:=by omega
   have HT:Hid (t=n1+n2+n3):=ht;clear hpos hlt hk ht;go_wp2_with fail;refine(N7 t _ ht1 ht2).mono ?_;rintro e w2⟨v,rfl,hown,hB⟩;have hBs:=hB.size;go_wp2_with fail;go_loopw[6,27](λs i wr=>∃k:Nat,k<=3/\i=.int .i64 k/\wr.ownsRow w.heap.size 86 5 s (eQ n1 n2 n3 k) (tK (zX x y z k))/\Below w.heap.size w wr)(λ_ i _=>3-(intOf i).toNat);case atStart=>exact⟨0,by omega,rfl,hown,hB⟩
   case round=>
    obtain⟨k,hk,rfl,hrow,hB2⟩:=hrel;have hB2s:=hB2.size;have e0:=(hB2.cell (p:=⟨h,0,none⟩) hh).trans g0;have e1:=(hB2.cell (p:=⟨h,1,none⟩) hh).trans g1;have e2:=(hB2.cell (p:=⟨h,2,none⟩) hh).trans g2;by_cases hlt:k<3;·match k,hlt with
     |0,_=>
       go_wp2_with(at_builtin;refine wX rfl _ _ rfl w.heap.size _ _ [] rfl hrow a1 n1 c1 x rfl HL.out.1 HZ.out.1 (HX.out.1.sA hB2) (by simp[eQ];omega) hB2s ?_;intro v' w3 hown3 hgrow3);have hB3:=hB2.grown hgrow3 hB2s (nS hrow);go_roundw;case rel=>exact⟨1,by omega,by go_num,by simpa[eQ,zX]using hown3,hB3⟩
       case measure=>simp[intOf]
     |1,_=>
       go_wp2_with(at_builtin;refine wX rfl _ _ rfl w.heap.size _ _ x rfl hrow a2 n2 c2 y rfl HL.out.2.1 HZ.out.2.1 (HX.out.2.1.sA hB2) (by simp[eQ];omega) hB2s ?_;intro v' w3 hown3 hgrow3);have hB3:=hB2.grown hgrow3 hB2s (nS hrow);go_roundw;case rel=>exact⟨2,by omega,by go_num,by simpa[eQ,zX]using hown3,hB3⟩
       case measure=>simp[intOf]
     |2,_=>
       go_wp2_with(at_builtin;refine wX rfl _ _ rfl w.heap.size _ _ (x++y) rfl hrow a3 n3 c3 z rfl HL.out.2.2 HZ.out.2.2 (HX.out.2.2.sA hB2) (by simp[eQ];omega) hB2s ?_;intro v' w3 hown3 hgrow3);have hB3:=hB2.grown hgrow3 hB2s (nS hrow);go_roundw;case rel=>exact⟨3,by omega,by go_num,by simpa[eQ,zX]using hown3,hB3⟩
       case measure=>simp[intOf]
    ·have e3:k=3:=by omega
     subst e3;go_wp2_with fail;go_ret;exact⟨_,rfl,hrow,hB2⟩
def lT(q:Int)(xs:List zD):Bool:=(xs[dD q xs]?.map zD.seq)==some q
def sH(xs:List zD)(x:zD):List zD:=xs.take (dD x.seq xs)++[x]++xs.drop (dD x.seq xs)
def uU(xs:List zD)(x:zD):Int:=if tI xs=true then(if nH x=true then(if lT x.seq xs=true then 6 else 0)else 1)else 1
def jY(xs:List zD)(x:zD):List zD:=if uU xs x=0 then sH xs x else[]
theorem NF:∀{xs:List zD}{last:Int},last<=1048575->lP last xs=true->(xs.length:Int)<=1048575-last
 |[],last,h,_=>by simp;omega
 |x::r,last,h,hl=>by
   unfold lP at hl;simp only[aC,mC]at hl;obtain⟨⟨h1,h2⟩,h3⟩:=hl;have hx:x.seq<=1048575:=by unfold nH bV at h1;simp at h1;omega
   have:=NF hx h3;simp only[List.length_cons];omega
theorem EP{xs:List zD}(h:tI xs=true):xs.length<=1048576:=by
 have:=NF (by omega) h;omega
theorem xS{W:World}{base base':Nat}{e:TypeId}{size:Nat}{v:Value}{n:Nat}{xs:List Value}(h:W.ownsRow base e size v n xs)(hb:base'<=base):W.ownsRow base' e size v n xs:=by
 refine⟨h.1,?_⟩;rcases h.2 with h|⟨g,cap,cur,h1,h2,h3⟩;·exact .inl h
 ·exact .inr ⟨g,cap,cur,h1,vA hb h2,h3⟩
theorem cZ{W:World}{b:Nat}{cs:Array Value}{t:TypeId}(h:W.heap[b]?=some (.cells cs t (0,0)))(i:Nat):W.cell? ⟨b,i,none⟩=cs[i]?:=by
 unfold World.cell?;simp only;rw[h];rfl
theorem qI.take{W:World}{a:Option Addr}{xs:List zD}(h:qI W a xs)(i:Nat):qI W a (xs.take i):=by
 rcases h with h|⟨g,o,ha,hg,h⟩;·exact .inl (by rw[h];simp)
 ·exact .inr ⟨g,o,ha,hg,λj hj=>by
   have hj':j<xs.length:=by simp at hj;omega
   have:=h j hj';simpa using this⟩
theorem qI.drop{W:World}{a:Option Addr}{xs:List zD}(h:qI W a xs)(i c:Nat)(hc:xs.length<=c):qI W (if c=i then a else Option.map (λx=>x.add (i*5)) a) (xs.drop i):=by
 by_cases hci:c=i;·exact .inl (mD (by omega))
 ·rw[kA hci];rcases h with h|⟨g,o,ha,hg,h⟩;·exact .inl (by rw[h];simp)
  ·subst ha;refine .inr ⟨g,o+i*5,by simp[bZ],hg,λj hj=>?_⟩;have hj':i+j<xs.length:=by simp at hj;omega
   have:=h (i+j) hj';have e:o+i*5+j*5=o+(i+j)*5:=by omega
   rw[e];simpa using this
theorem qI.single{W:World}{hb:Nat}{t:TypeId}{x:zD}(h:W.heap[hb]?=some (.cells #[.int .i64 x.seq,.string x.key,.string x.body,.bool x.again,.int .i64 x.fC] t (0,0))):qI W (some ⟨hb,0,none⟩) [x]:=
 .inr ⟨hb,0,rfl,(iC.1 h).1,λj hj=>by
  have hj0:j=0:=by simp at hj;omega
  subst hj0;exact⟨cZ h 0,cZ h 1,cZ h 2,cZ h 3,cZ h 4⟩⟩
theorem NZ(xs:List zD)(x:zD)(a A3:Option Addr)(n c i m3 c3:Nat)(h hb:Nat)(t t2:TypeId)(W:World)(hn:xs.length=n)(hi:i<=n)(hnc:n<=c)(hz:a=none->c=0)(hf:n<=1048576)
 (hA3:A3=(if c=i then a else Option.map (λx=>x.add (i*5)) a))(hm3:m3=n-i)(hc3:c3=c-i)(hp:qI W a xs)
 (hh:W.heap[h]?=some (.cells #[.slice a i c,.slice (some ⟨hb,0,none⟩) 1 1,.slice A3 m3 c3] t (0,0)))
 (hx:W.heap[hb]?=some (.cells #[.int .i64 x.seq,.string x.key,.string x.body,.bool x.again,.int .i64 x.fC] t2 (0,0))):
 Calls Tryz.prog 183 #[.slice (some ⟨h,0,none⟩) 3 3] W λe w'=>∃v,e=.returned v/\w'.ownsRow W.heap.size 86 5 v (n+1) (tK (xs.take i++[x]++xs.drop i))/\Below W.heap.size W w':=by
 subst hm3 hc3;have ha0:a=none->xs=[]:=λe=>kC.1 (by have:=hz e;omega);have key:=bY h (xs.take i) [x] (xs.drop i) a (some ⟨hb,0,none⟩) A3 i 1 (n-i) c 1 (c-i) W (iC.1 hh).1 (cZ hh 0) (cZ hh 1) (cZ hh 2) (by simp;omega) rfl (by simp;omega)
  (hp.take i) (qI.single hx) (by rw[hA3];exact hp.drop i c (by omega)) (λe=>⟨hz e,by rw[ha0 e];simp⟩) (λe=>by cases e)
  (λe=>by
   have e2:a=none:=by
    rw[hA3]at e;split at e;·exact e
    ·simpa using e
   exact⟨by have:=hz e2;omega,by rw[ha0 e2];simp⟩) (by omega) (by omega);have e:i+1+(n-i)=n+1:=by omega
 rw[e]at key;exact key
theorem T0(xs:List zD)(a:Option Addr)(n c:Nat)(s d:Int)(ky b:ByteArray)(ag:Bool)(w:World)(hn:xs.length=n)(hnc:n<=c)(hcm:c<=maxLen)(hz:a=none->c=0)(hp:qI w a xs)
 (hl:tI xs=true)(hr:nH ⟨s,ky,b,ag,d⟩=true)(i:Nat)(hi:i=dD s xs)(hlt:¬i<n):
 Calls Tryz.prog 143 #[.slice a n c,.agg #[.int .i64 s,.string ky,.string b,.bool ag,.int .i64 d]] w λe w'=>∃v,e=.returned (.tuple #[v,.int .i64 0])/\w'.ownsRow w.heap.size 86 5 v (n+1) (tK (sH xs ⟨s,ky,b,ag,d⟩))/\Below w.heap.size w w':=by
 have hm:n<=maxLen:=vA hnc hcm;have hfew:=EP hl;have HL:Hid (tL xs=0):=by show tL xs=0;unfold tL;rw[qA hl]
 have HR:Hid (nH ⟨s,ky,b,ag,d⟩=true):=hr;have HI:Hid (lN s xs=-1):=by show lN s xs=-1;unfold lN;rw[<-hi,kA (by rw[hn];exact hlt)]
 obtain⟨W1,hW1,hBw,hs1,hbx⟩:=dZ w (.int .i64 s) (.string ky) (.string b) (.bool ag) (.int .i64 d) 86;have HW1:Hid (W1=_):=hW1;have BX:Hid (∀W,Below W1.heap.size W1 W->_):=hbx;have HP:Hid (qI W1 a xs):=hp.sA hBw;have HN:Hid (xs.length=n):=hn;have HM:Hid (n<=maxLen):=hm;have HF:Hid (n<=1048576):=by show n<=1048576;omega
 have HX:Hid (i=dD s xs):=hi;clear hW1 hbx hp hl hr hn hm;have s1:=hBw.size;go_enter Tryz.func143,Tryz.ntmps143;go_wp2_with fail;rw[<-HW1.out];refine(gW xs _ _ _ _ HN.out HM.out HP.out).mono ?_;rintro e w2⟨rfl,hB2⟩;obtain⟨d0,d1,d2,d3,d4⟩:=BX.out w2 hB2;rw[HL.out];go_wp2_with fail;refine(AK _ _ _ _ _ _).mono ?_;rintro e w3⟨rfl,hB3⟩;have hB13:Below W1.heap.size W1 w3:=hB2.trans (hB3.mono hB2.size);clear d0 d1 d2 d3 d4;obtain⟨d0,d1,d2,d3,d4⟩:=BX.out w3 hB13;rw[HR.out];go_wp2_with fail;refine(IA xs _ _ _ _ s _ HN.out HM.out (HP.out.sA hB13) (by have:=hB13.size;omega) d0).mono ?_;rintro e w4⟨rfl,hB4⟩;have hB14:Below W1.heap.size W1 w4:=hB13.trans (hB4.mono hB13.size);clear d0 d1 d2 d3 d4;obtain⟨d0,d1,d2,d3,d4⟩:=BX.out w4 hB14;rw[HI.out];go_wp2_with fail;refine zB (S:=λw'=>True) (by kernel_rfl) trivial (λhHeld=>?_);refine tk 0 ?_;refine tk 1 ?_;refine tk 2 ?_;refine tk 3 ?_;refine tk 4 ?_;refine sk 5 ?_;refine sk 6 ?_;refine sk 7 ?_;refine sk 8 ?_;refine sk 9 ?_;refine sk 10 ?_;refine sk 11 ?_;refine sk 12 ?_;refine tk 13 ?_;refine gC (by kernel_rfl) ?_ _;go_wp2_with fail;have hB5:Below W1.heap.size W1 w4.drew:=⟨hB14.os,hB14.tape,hB14.output,hB14.size,hB14.block⟩;have hB6:Below W1.heap.size W1 w4.drew.drew:=⟨hB14.os,hB14.tape,hB14.output,hB14.size,hB14.block⟩;have q1:(0:Int)<=(n:Int):=by omega
 have q2:(n:Int)<=(c:Int):=by omega
 have q3:(n:Int)<=(n:Int):=by omega
 clear d0 d1 d2 d3 d4;refine zB (S:=λw'=>w'.cell? ⟨w.heap.size,0,none⟩=some (.int .i64 s)/\w'.cell? ⟨w.heap.size,1,none⟩=some (.string ky)/\w'.cell? ⟨w.heap.size,2,none⟩=some (.string b)/\w'.cell? ⟨w.heap.size,3,none⟩=some (.bool ag)/\w'.cell? ⟨w.heap.size,4,none⟩=some (.int .i64 d)) (by kernel_rfl) (BX.out _ hB6) (λhHeld=>?_);refine tk 0 ?_;refine tk 1 ?_;refine tk 2 ?_;refine tk 3 ?_;refine tk 5 ?_;refine tk 6 ?_;refine tk 7 ?_;refine pG 4 (λK hK=>?_);go_simp;obtain⟨W5,hW5⟩:∃W5,W5=w4.alloc (.cells #[.int .i64 s,.string ky,.string b,.bool ag,.int .i64 d] 86):=⟨_,rfl⟩;have hB45:Below w4.heap.size w4 W5:=by rw[hW5];exact(dA _ _).alloc (eA _) _
 have hs5:W5.heap.size=w4.heap.size+1:=by rw[hW5];simp
 have hh5:W5.heap[w4.heap.size]?=some (.cells #[.int .i64 s,.string ky,.string b,.bool ag,.int .i64 d] 86):=by rw[hW5];exact jA w4 _
 rw[<-hW5];clear hW5;have hB15:Below W1.heap.size W1 W5:=hB14.trans (hB45.mono hB14.size);have hB15':Below W1.heap.size W1 W5.drew.drew:=⟨hB15.os,hB15.tape,hB15.output,hB15.size,hB15.block⟩;refine hK.out _ _ (BX.out _ hB15') (λhHeld2=>?_);clear hHeld hK K;try simp only[Act.put,List.getElem_toArray,List.getElem_cons_succ,List.getElem_cons_zero,cD,List.set_cons_zero,List.set_cons_succ]
 refine pG 8 (λK hK=>?_);go_simp;obtain⟨A3,hA3⟩:∃A3,A3=(if c=n then a else Option.map (λx=>x.add (n*5)) a):=⟨_,rfl⟩;have HA3:Hid (A3=(if c=n then a else Option.map (λx=>x.add (n*5)) a)):=hA3;rw[<-hA3];clear hA3;obtain⟨W6,hW6⟩:∃W6,W6=W5.alloc (.cells #[.slice a n c,.slice (some ⟨w4.heap.size,0,none⟩) 1 1,.slice A3 0 (c-n)] 110):=⟨_,rfl⟩;have hB56:Below W5.heap.size W5 W6:=by rw[hW6];exact(dA _ _).alloc (eA _) _
 have hs6:W6.heap.size=W5.heap.size+1:=by rw[hW6];simp
 have hh6:W6.heap[W5.heap.size]?=some (.cells #[.slice a n c,.slice (some ⟨w4.heap.size,0,none⟩) 1 1,.slice A3 0 (c-n)] 110):=by rw[hW6];exact jA W5 _
 rw[<-hW6];clear hW6;have hB16:Below W1.heap.size W1 W6:=hB15.trans (hB56.mono hB15.size);have hB16':Below W1.heap.size W1 W6.drew.drew:=⟨hB16.os,hB16.tape,hB16.output,hB16.size,hB16.block⟩;have hx6:W6.heap[w4.heap.size]?=some (.cells #[.int .i64 s,.string ky,.string b,.bool ag,.int .i64 d] 86):=(hB56.block _ (by omega)).trans hh5;have hi6:qI W6 a xs:=(HP.out.sA hB14).sA (hB45.trans (hB56.mono hB45.size));refine hK.out _ _ (BX.out _ hB16') (λhHeld3=>?_);clear hHeld2 hK K;try simp only[Act.put,List.getElem_toArray,List.getElem_cons_succ,List.getElem_cons_zero,cD,List.set_cons_zero,List.set_cons_succ]
 refine pG 9 (λK hK=>?_);go_simp;refine(NZ xs ⟨s,ky,b,ag,d⟩ a A3 n c n 0 (c-n) _ w4.heap.size _ _ W6.drew.drew HN.out (eA _) hnc hz HF.out HA3.out (by omega) rfl hi6 (by rw[<-hs5];exact hh6) hx6).mono ?_;rintro e w7⟨v,rfl,hown,hB7⟩;have hB7':Below W6.heap.size W6 w7:=⟨hB7.os,hB7.tape,hB7.output,hB7.size,hB7.block⟩;have hB17:Below W1.heap.size W1 w7:=hB16.trans (hB7'.mono hB16.size);refine hK.out _ _ (BX.out _ hB17) (λhHeld4=>?_);clear hHeld3 hK K;try simp only[Act.put,List.getElem_toArray,List.getElem_cons_succ,List.getElem_cons_zero,cD,List.set_cons_zero,List.set_cons_succ]
 refine tk 10 ?_;refine tk 11 ?_;refine gC (by kernel_rfl) ?_ _;go_wp2_with fail;go_ret2;have e1:sH xs ⟨s,ky,b,ag,d⟩=xs.take n++[⟨s,ky,b,ag,d⟩]++xs.drop n:=by
  unfold sH;have e2:dD s xs=n:=by have:=CR s xs;have:=HX.out;have:=HN.out;omega
  dsimp only;rw[e2]
 have h16:=hB16.size;have h17:=hB17.size;refine⟨v,rfl,?_,hBw.trans (hB17.mono hBw.size)⟩;rw[e1];exact xS hown (by show w.heap.size<=W6.heap.size;omega)
theorem M2(xs:List zD)(a:Option Addr)(n c:Nat)(s d:Int)(ky b:ByteArray)(ag:Bool)(w:World)(hn:xs.length=n)(hnc:n<=c)(hcm:c<=maxLen)(hz:a=none->c=0)(hp:qI w a xs)
 (hl:tI xs=true)(hr:nH ⟨s,ky,b,ag,d⟩=true)(i:Nat)(hi:i=dD s xs)(hlt:i<n)(q:Int)(hq:xs[i]?.map zD.seq=some q)(hne:¬q=s):
 Calls Tryz.prog 143 #[.slice a n c,.agg #[.int .i64 s,.string ky,.string b,.bool ag,.int .i64 d]] w λe w'=>∃v,e=.returned (.tuple #[v,.int .i64 0])/\w'.ownsRow w.heap.size 86 5 v (n+1) (tK (sH xs ⟨s,ky,b,ag,d⟩))/\Below w.heap.size w w':=by
 have hm:n<=maxLen:=vA hnc hcm;have hfew:=EP hl;have HL:Hid (tL xs=0):=by show tL xs=0;unfold tL;rw[qA hl]
 have HR:Hid (nH ⟨s,ky,b,ag,d⟩=true):=hr;have HI:Hid (lN s xs=i):=by show lN s xs=i;unfold lN;rw[<-hi,qA (by rw[hn];exact hlt)]
 obtain⟨W1,hW1,hBw,hs1,hbx⟩:=dZ w (.int .i64 s) (.string ky) (.string b) (.bool ag) (.int .i64 d) 86;have HW1:Hid (W1=_):=hW1;have BX:Hid (∀W,Below W1.heap.size W1 W->_):=hbx;have HP:Hid (qI W1 a xs):=hp.sA hBw;have HN:Hid (xs.length=n):=hn;have HM:Hid (n<=maxLen):=hm;have HF:Hid (n<=1048576):=by show n<=1048576;omega
 have HX:Hid (i=dD s xs):=hi;clear hW1 hbx hp hl hr hn hm hi;have s1:=hBw.size;go_enter Tryz.func143,Tryz.ntmps143;go_wp2_with fail;rw[<-HW1.out];refine(gW xs _ _ _ _ HN.out HM.out HP.out).mono ?_;rintro e w2⟨rfl,hB2⟩;obtain⟨d0,d1,d2,d3,d4⟩:=BX.out w2 hB2;rw[HL.out];go_wp2_with fail;refine(AK _ _ _ _ _ _).mono ?_;rintro e w3⟨rfl,hB3⟩;have hB13:Below W1.heap.size W1 w3:=hB2.trans (hB3.mono hB2.size);clear d0 d1 d2 d3 d4;obtain⟨d0,d1,d2,d3,d4⟩:=BX.out w3 hB13;rw[HR.out];go_wp2_with fail;refine(IA xs _ _ _ _ s _ HN.out HM.out (HP.out.sA hB13) (by have:=hB13.size;omega) d0).mono ?_;rintro e w4⟨rfl,hB4⟩;have hB14:Below W1.heap.size W1 w4:=hB13.trans (hB4.mono hB13.size);clear d0 d1 d2 d3 d4;obtain⟨d0,d1,d2,d3,d4⟩:=BX.out w4 hB14;rw[HI.out];have q0:¬(i:Int)<0:=by omega
 have q4:(0:Int)<=(i:Int):=by omega
 have q5:(i:Int)<(n:Int):=by omega
 go_wp2_with fail;obtain⟨g,o,rfl,hg,hx⟩:=HP.out.cells (by rw[HN.out];omega);have hg4:g<w4.heap.size:=by have:=hB14.size;omega
 have cq:w4.cell? ⟨g,o+i*5,none⟩=some (.int .i64 q):=by
  have h1:=((hx i (by rw[HN.out];exact hlt)).sA hB14 hg).1;have h2:xs[i]'(by rw[HN.out];exact hlt)=xs[i]'(by rw[HN.out];exact hlt):=rfl;rw[tA (by rw[HN.out];exact hlt)]at hq;simp at hq;rw[hq]at h1;exact h1
 clear hx hq;refine zB (S:=λw'=>w'.cell? ⟨g,o+i*5,none⟩=some (.int .i64 q)/\w'.cell? ⟨w.heap.size,0,none⟩=some (.int .i64 s)) (by kernel_rfl) ⟨cq,d0⟩ (λhHeld=>?_);refine tk 0 ?_;refine tk 1 ?_;refine tk 2 ?_;refine tk 3 ?_;refine tk 4 ?_;refine tk 5 ?_;refine tk 6 ?_;refine tk 7 ?_;refine tk 8 ?_;refine tk 9 ?_;refine tk 10 ?_;refine tk 11 ?_;refine tk 12 ?_;refine tk 13 ?_;refine gC (by kernel_rfl) ?_ _;go_wp2_with fail;have hB5:Below W1.heap.size W1 w4.drew:=⟨hB14.os,hB14.tape,hB14.output,hB14.size,hB14.block⟩;have hB6:Below W1.heap.size W1 w4.drew.drew:=⟨hB14.os,hB14.tape,hB14.output,hB14.size,hB14.block⟩;have q1:(i:Int)<=(n:Int):=by omega
 have q2:(i:Int)<=(c:Int):=by omega
 have q3:(n:Int)<=(c:Int):=by omega
 clear d0 d1 d2 d3 d4;refine zB (S:=λw'=>w'.cell? ⟨w.heap.size,0,none⟩=some (.int .i64 s)/\w'.cell? ⟨w.heap.size,1,none⟩=some (.string ky)/\w'.cell? ⟨w.heap.size,2,none⟩=some (.string b)/\w'.cell? ⟨w.heap.size,3,none⟩=some (.bool ag)/\w'.cell? ⟨w.heap.size,4,none⟩=some (.int .i64 d)) (by kernel_rfl) (BX.out _ hB6) (λhHeld=>?_);refine tk 0 ?_;refine tk 1 ?_;refine tk 2 ?_;refine tk 3 ?_;refine tk 5 ?_;refine tk 6 ?_;refine tk 7 ?_;refine pG 4 (λK hK=>?_);go_simp;obtain⟨W5,hW5⟩:∃W5,W5=w4.alloc (.cells #[.int .i64 s,.string ky,.string b,.bool ag,.int .i64 d] 86):=⟨_,rfl⟩;have hB45:Below w4.heap.size w4 W5:=by rw[hW5];exact(dA _ _).alloc (eA _) _
 have hs5:W5.heap.size=w4.heap.size+1:=by rw[hW5];simp
 have hh5:W5.heap[w4.heap.size]?=some (.cells #[.int .i64 s,.string ky,.string b,.bool ag,.int .i64 d] 86):=by rw[hW5];exact jA w4 _
 rw[<-hW5];clear hW5;have hB15:Below W1.heap.size W1 W5:=hB14.trans (hB45.mono hB14.size);have hB15':Below W1.heap.size W1 W5.drew.drew:=⟨hB15.os,hB15.tape,hB15.output,hB15.size,hB15.block⟩;refine hK.out _ _ (BX.out _ hB15') (λhHeld2=>?_);clear hHeld hK K;try simp only[Act.put,List.getElem_toArray,List.getElem_cons_succ,List.getElem_cons_zero,cD,List.set_cons_zero,List.set_cons_succ]
 refine pG 8 (λK hK=>?_);go_simp;obtain⟨A3,hA3⟩:∃A3:Option Addr,A3=(if c=i then some ⟨g,o,none⟩else some ⟨g,o+i*5,none⟩):=⟨_,rfl⟩;have HA3:Hid (A3=(if c=i then some ⟨g,o,none⟩else some ⟨g,o+i*5,none⟩)):=hA3;rw[<-hA3];clear hA3;obtain⟨W6,hW6⟩:∃W6,W6=W5.alloc (.cells #[.slice (some ⟨g,o,none⟩) i c,.slice (some ⟨w4.heap.size,0,none⟩) 1 1,.slice A3 (n-i) (c-i)] 110):=⟨_,rfl⟩;have hB56:Below W5.heap.size W5 W6:=by rw[hW6];exact(dA _ _).alloc (eA _) _
 have hs6:W6.heap.size=W5.heap.size+1:=by rw[hW6];simp
 have hh6:W6.heap[W5.heap.size]?=some (.cells #[.slice (some ⟨g,o,none⟩) i c,.slice (some ⟨w4.heap.size,0,none⟩) 1 1,.slice A3 (n-i) (c-i)] 110):=by rw[hW6];exact jA W5 _
 rw[<-hW6];clear hW6;have hB16:Below W1.heap.size W1 W6:=hB15.trans (hB56.mono hB15.size);have hB16':Below W1.heap.size W1 W6.drew.drew:=⟨hB16.os,hB16.tape,hB16.output,hB16.size,hB16.block⟩;have hx6:W6.heap[w4.heap.size]?=some (.cells #[.int .i64 s,.string ky,.string b,.bool ag,.int .i64 d] 86):=(hB56.block _ (by omega)).trans hh5;have hi6:qI W6 (some ⟨g,o,none⟩) xs:=(HP.out.sA hB14).sA (hB45.trans (hB56.mono hB45.size));refine hK.out _ _ (BX.out _ hB16') (λhHeld3=>?_);clear hHeld2 hK K;try simp only[Act.put,List.getElem_toArray,List.getElem_cons_succ,List.getElem_cons_zero,cD,List.set_cons_zero,List.set_cons_succ]
 refine pG 9 (λK hK=>?_);go_simp;refine(NZ xs ⟨s,ky,b,ag,d⟩ _ A3 n c i (n-i) (c-i) _ w4.heap.size _ _ W6.drew.drew HN.out (Nat.le_of_lt hlt) hnc hz HF.out (by rw[HA3.out];simp[bZ]) rfl rfl hi6 (by rw[<-hs5];exact hh6) hx6).mono ?_;rintro e w7⟨v,rfl,hown,hB7⟩;have hB7':Below W6.heap.size W6 w7:=⟨hB7.os,hB7.tape,hB7.output,hB7.size,hB7.block⟩;have hB17:Below W1.heap.size W1 w7:=hB16.trans (hB7'.mono hB16.size);refine hK.out _ _ (BX.out _ hB17) (λhHeld4=>?_);clear hHeld3 hK K;try simp only[Act.put,List.getElem_toArray,List.getElem_cons_succ,List.getElem_cons_zero,cD,List.set_cons_zero,List.set_cons_succ]
 refine tk 10 ?_;refine tk 11 ?_;refine gC (by kernel_rfl) ?_ _;go_wp2_with fail;go_ret2;have e1:sH xs ⟨s,ky,b,ag,d⟩=xs.take i++[⟨s,ky,b,ag,d⟩]++xs.drop i:=by
  unfold sH;have e2:dD s xs=i:=HX.out.symm;dsimp only;rw[e2]
 have h16:=hB16.size;have h17:=hB17.size;refine⟨v,rfl,?_,hBw.trans (hB17.mono hBw.size)⟩;rw[e1];exact xS hown (by show w.heap.size<=W6.heap.size;omega)
theorem D9(xs:List zD)(a:Option Addr)(n c:Nat)(s d:Int)(ky b:ByteArray)(ag:Bool)(w:World)(hn:xs.length=n)(hm:n<=maxLen)(hp:qI w a xs)(hl:tI xs=false):
 Calls Tryz.prog 143 #[.slice a n c,.agg #[.int .i64 s,.string ky,.string b,.bool ag,.int .i64 d]] w λe w'=>e=.returned (.tuple #[.slice none 0 0,.int .i64 1])/\Below w.heap.size w w':=by
 have HL:Hid (tL xs=1):=by show tL xs=1;unfold tL;rw[hl];rfl
 obtain⟨W1,hW1,hBw,hs1,hbx⟩:=dZ w (.int .i64 s) (.string ky) (.string b) (.bool ag) (.int .i64 d) 86;have HW1:Hid (W1=_):=hW1;have HP:Hid (qI W1 a xs):=hp.sA hBw;have HN:Hid (xs.length=n):=hn;have HM:Hid (n<=maxLen):=hm;clear hW1 hbx hp hl hn hm;go_enter Tryz.func143,Tryz.ntmps143;go_wp2_with fail;rw[<-HW1.out];refine(gW xs _ _ _ _ HN.out HM.out HP.out).mono ?_;rintro e w2⟨rfl,hB2⟩;rw[HL.out];go_wp2_with fail;go_ret2;exact⟨rfl,hBw.trans (hB2.mono hBw.size)⟩
theorem D8(xs:List zD)(a:Option Addr)(n c:Nat)(s d:Int)(ky b:ByteArray)(ag:Bool)(w:World)(hn:xs.length=n)(hm:n<=maxLen)(hp:qI w a xs)(hl:tI xs=true)(hr:nH ⟨s,ky,b,ag,d⟩=false):
 Calls Tryz.prog 143 #[.slice a n c,.agg #[.int .i64 s,.string ky,.string b,.bool ag,.int .i64 d]] w λe w'=>e=.returned (.tuple #[.slice none 0 0,.int .i64 1])/\Below w.heap.size w w':=by
 have HL:Hid (tL xs=0):=by show tL xs=0;unfold tL;rw[qA hl]
 have HR:Hid (nH ⟨s,ky,b,ag,d⟩=false):=hr;obtain⟨W1,hW1,hBw,hs1,hbx⟩:=dZ w (.int .i64 s) (.string ky) (.string b) (.bool ag) (.int .i64 d) 86;have HW1:Hid (W1=_):=hW1;have BX:Hid (∀W,Below W1.heap.size W1 W->_):=hbx;have HP:Hid (qI W1 a xs):=hp.sA hBw;have HN:Hid (xs.length=n):=hn;have HM:Hid (n<=maxLen):=hm;clear hW1 hbx hp hl hr hn hm;go_enter Tryz.func143,Tryz.ntmps143;go_wp2_with fail;rw[<-HW1.out];refine(gW xs _ _ _ _ HN.out HM.out HP.out).mono ?_;rintro e w2⟨rfl,hB2⟩;obtain⟨d0,d1,d2,d3,d4⟩:=BX.out w2 hB2;rw[HL.out];go_wp2_with fail;refine(AK _ _ _ _ _ _).mono ?_;rintro e w3⟨rfl,hB3⟩;rw[HR.out];go_wp2_with fail;go_ret2;exact⟨rfl,hBw.trans ((hB2.trans (hB3.mono hB2.size)).mono hBw.size)⟩
theorem y8(xs:List zD)(a:Option Addr)(n c:Nat)(s d:Int)(ky b:ByteArray)(ag:Bool)(w:World)(hn:xs.length=n)(hnc:n<=c)(hcm:c<=maxLen)(hz:a=none->c=0)(hp:qI w a xs)
 (hl:tI xs=true)(hr:nH ⟨s,ky,b,ag,d⟩=true)(i:Nat)(hi:i=dD s xs)(hlt:i<n)(hq:xs[i]?.map zD.seq=some s):
 Calls Tryz.prog 143 #[.slice a n c,.agg #[.int .i64 s,.string ky,.string b,.bool ag,.int .i64 d]] w λe w'=>e=.returned (.tuple #[.slice none 0 0,.int .i64 6])/\Below w.heap.size w w':=by
 have hm:n<=maxLen:=vA hnc hcm;have hfew:=EP hl;have HL:Hid (tL xs=0):=by show tL xs=0;unfold tL;rw[qA hl]
 have HR:Hid (nH ⟨s,ky,b,ag,d⟩=true):=hr;have HI:Hid (lN s xs=i):=by show lN s xs=i;unfold lN;rw[<-hi,qA (by rw[hn];exact hlt)]
 obtain⟨W1,hW1,hBw,hs1,hbx⟩:=dZ w (.int .i64 s) (.string ky) (.string b) (.bool ag) (.int .i64 d) 86;have HW1:Hid (W1=_):=hW1;have BX:Hid (∀W,Below W1.heap.size W1 W->_):=hbx;have HP:Hid (qI W1 a xs):=hp.sA hBw;have HN:Hid (xs.length=n):=hn;have HM:Hid (n<=maxLen):=hm;have HF:Hid (n<=1048576):=by show n<=1048576;omega
 have HX:Hid (i=dD s xs):=hi;clear hW1 hbx hp hl hr hn hm hi;have s1:=hBw.size;go_enter Tryz.func143,Tryz.ntmps143;go_wp2_with fail;rw[<-HW1.out];refine(gW xs _ _ _ _ HN.out HM.out HP.out).mono ?_;rintro e w2⟨rfl,hB2⟩;obtain⟨d0,d1,d2,d3,d4⟩:=BX.out w2 hB2;rw[HL.out];go_wp2_with fail;refine(AK _ _ _ _ _ _).mono ?_;rintro e w3⟨rfl,hB3⟩;have hB13:Below W1.heap.size W1 w3:=hB2.trans (hB3.mono hB2.size);clear d0 d1 d2 d3 d4;obtain⟨d0,d1,d2,d3,d4⟩:=BX.out w3 hB13;rw[HR.out];go_wp2_with fail;refine(IA xs _ _ _ _ s _ HN.out HM.out (HP.out.sA hB13) (by have:=hB13.size;omega) d0).mono ?_;rintro e w4⟨rfl,hB4⟩;have hB14:Below W1.heap.size W1 w4:=hB13.trans (hB4.mono hB13.size);clear d0 d1 d2 d3 d4;obtain⟨d0,d1,d2,d3,d4⟩:=BX.out w4 hB14;rw[HI.out];have q0:¬(i:Int)<0:=by omega
 have q4:(0:Int)<=(i:Int):=by omega
 have q5:(i:Int)<(n:Int):=by omega
 go_wp2_with fail;obtain⟨g,o,rfl,hg,hx⟩:=HP.out.cells (by rw[HN.out];omega);have hg4:g<w4.heap.size:=by have:=hB14.size;omega
 have cq:w4.cell? ⟨g,o+i*5,none⟩=some (.int .i64 s):=by
  have h1:=((hx i (by rw[HN.out];exact hlt)).sA hB14 hg).1;have h2:xs[i]'(by rw[HN.out];exact hlt)=xs[i]'(by rw[HN.out];exact hlt):=rfl;rw[tA (by rw[HN.out];exact hlt)]at hq;simp at hq;rw[hq]at h1;exact h1
 clear hx hq;refine zB (S:=λw'=>w'.cell? ⟨g,o+i*5,none⟩=some (.int .i64 s)/\w'.cell? ⟨w.heap.size,0,none⟩=some (.int .i64 s)) (by kernel_rfl) ⟨cq,d0⟩ (λhHeld=>?_);refine tk 0 ?_;refine tk 1 ?_;refine tk 2 ?_;refine tk 3 ?_;refine tk 4 ?_;refine tk 5 ?_;refine tk 6 ?_;refine tk 7 ?_;refine tk 8 ?_;refine tk 9 ?_;refine tk 10 ?_;refine tk 11 ?_;refine tk 12 ?_;refine tk 13 ?_;refine gC (by kernel_rfl) ?_ _;go_wp2_with fail;go_ret2;exact⟨rfl,hBw.trans ((hB14.mono hBw.size).trans ⟨rfl,rfl,rfl,eA _,λ_ _=>rfl⟩)⟩
theorem M1(xs:List zD)(a:Option Addr)(n c:Nat)(s d:Int)(ky b:ByteArray)(ag:Bool)(w:World)(hn:xs.length=n)(hnc:n<=c)(hcm:c<=maxLen)(hz:a=none->c=0)(hp:qI w a xs):
 Calls Tryz.prog 143 #[.slice a n c,.agg #[.int .i64 s,.string ky,.string b,.bool ag,.int .i64 d]] w λe w'=>∃v m,e=.returned (.tuple #[v,.int .i64 (uU xs ⟨s,ky,b,ag,d⟩)])/\w'.ownsRow w.heap.size 86 5 v m (tK (jY xs ⟨s,ky,b,ag,d⟩))/\Below w.heap.size w w':=by
 have hm:n<=maxLen:=vA hnc hcm;cases hl:tI xs with
 |false=>
   have e1:uU xs ⟨s,ky,b,ag,d⟩=1:=by unfold uU;rw[hl];rfl
   refine(D9 xs a n c s d ky b ag w hn hm hp hl).mono ?_;rintro e w'⟨rfl,hB⟩;exact⟨_,0,by rw[e1],by unfold jY;rw[e1];exact jC _ _ _ _,hB⟩
 |true=>
   cases hr:nH ⟨s,ky,b,ag,d⟩with
   |false=>
     have e1:uU xs ⟨s,ky,b,ag,d⟩=1:=by unfold uU;rw[hl,hr];rfl
     refine(D8 xs a n c s d ky b ag w hn hm hp hl hr).mono ?_;rintro e w'⟨rfl,hB⟩;exact⟨_,0,by rw[e1],by unfold jY;rw[e1];exact jC _ _ _ _,hB⟩
   |true=>
     by_cases hlt:dD s xs<n
     ·have hq:xs[dD s xs]?.map zD.seq=some (xs[dD s xs]'(by rw[hn];exact hlt)).seq:=by rw[tA (by rw[hn];exact hlt)];rfl
      by_cases heq:(xs[dD s xs]'(by rw[hn];exact hlt)).seq=s
      ·have e1:uU xs ⟨s,ky,b,ag,d⟩=6:=by unfold uU lT;rw[hl,hr];simp only[hq,heq];simp
       refine(y8 xs a n c s d ky b ag w hn hnc hcm hz hp hl hr _ rfl hlt (by rw[hq,heq])).mono ?_;rintro e w'⟨rfl,hB⟩;exact⟨_,0,by rw[e1],by unfold jY;rw[e1];exact jC _ _ _ _,hB⟩
      ·have e1:uU xs ⟨s,ky,b,ag,d⟩=0:=by unfold uU lT;rw[hl,hr];simp only[hq];simp[heq]
       refine(M2 xs a n c s d ky b ag w hn hnc hcm hz hp hl hr _ rfl hlt _ hq heq).mono ?_;rintro e w'⟨v,rfl,hown,hB⟩;exact⟨v,_,by rw[e1],by unfold jY;rw[e1];exact hown,hB⟩
     ·have e1:uU xs ⟨s,ky,b,ag,d⟩=0:=by
       unfold uU lT;rw[hl,hr];have:xs[dD s xs]?=none:=tF (by rw[hn];omega);simp only[this];simp
      refine(T0 xs a n c s d ky b ag w hn hnc hcm hz hp hl hr _ rfl hlt).mono ?_;rintro e w'⟨v,rfl,hown,hB⟩;exact⟨v,_,by rw[e1],by unfold jY;rw[e1];exact hown,hB⟩
theorem PF(xs:List zD)(a:Option Addr)(n c:Nat)(w:World)(hn:xs.length=n)(hb:n<=100000000)(hz:a=none->c=0/\xs=[])(hp:qI w a xs):
 Calls Tryz.prog 184 #[.slice a n c] w λe w'=>∃v,e=.returned v/\w'.ownsRow w.heap.size 86 5 v n (tK xs)/\Below w.heap.size w w':=by
 have HN:Hid (xs.length=n):=hn;have HP:Hid (qI w a xs):=hp;have HZ:Hid (a=none->c=0/\xs=[]):=hz;clear hn hp hz;go_enter Tryz.func184,Tryz.ntmps184;go_wp2_with(at_builtin;refine wX rfl _ _ rfl w.heap.size (.slice none 0 0) 0 [] rfl (jC _ _ _ _) a n c xs rfl HN.out HZ.out HP.out (by omega) (eA _) ?_;intro v' w3 hown3 hgrow3);go_ret;exact⟨v',rfl,by simpa using hown3,(dA _ _).grown hgrow3 (eA _) (by simp[Value.ownBlock])⟩
theorem EZ{s:Int}:∀{xs:List zD}{j:Nat},j<dD s xs->∃h:j<xs.length,xs[j].seq<s
 |[],j,h=>by simp[dD]at h
 |x::r,j,h=>by
   unfold dD at h;by_cases hx:s<=x.seq;·rw[qA hx]at h;omega
   ·rw[kA hx]at h;cases j with
    |zero=>exact⟨by simp,by simp;omega⟩
    |succ j=>obtain⟨h1,h2⟩:=EZ (s:=s) (xs:=r) (j:=j) (by omega);exact⟨by simp;omega,by simpa using h2⟩
theorem GQ{s:Int}:∀{xs:List zD}(h:dD s xs<xs.length),s<=xs[dD s xs].seq
 |[],h=>by simp at h
 |x::r,h=>by
   by_cases hx:s<=x.seq
   ·have e:dD s (x::r)=0:=by unfold dD;rw[qA hx]
    simp[e,hx]
   ·have e : dD s (x :: r) = dD s r + 1 := by conv=>lhs;unfold dD
                                              rw[kA hx]
    have h':dD s r<r.length:=by rw[e]at h;simpa using h
    have:=GQ h';simpa[e]using this
def aP(xs:List zD)(x:zD)(k:Nat):List zD:=if dD x.seq xs<k then(sH xs x).take (k+1)else xs.take k
theorem QV(xs:List zD)(x:zD):(sH xs x).length=xs.length+1:=by
 have:=CR x.seq xs;unfold sH;simp;omega
theorem QU{xs:List zD}{x:zD}{k:Nat}(h:dD x.seq xs<=k)(hk:k<xs.length):(sH xs x)[k+1]?=some xs[k]:=by
 have h1:=CR x.seq xs;unfold sH;rw[uE (by simp;omega),List.getElem?_drop];have e:dD x.seq xs+(k+1-(List.take (dD x.seq xs) xs++[x]).length)=k:=by simp;omega
 rw[e,tA hk]
theorem p9(xs:List zD)(x:zD):aP xs x 0=[]:=by unfold aP;simp
theorem YY{xs:List zD}{x:zD}{k:Nat}(hk:k<xs.length)(h:dD x.seq xs≠k):aP xs x (k+1)=aP xs x k++[xs[k]]:=by
 unfold aP;by_cases h1:dD x.seq xs<k;·rw[qA h1,qA (by omega),List.take_add_one,QU (by omega) hk];rfl
 ·rw[kA h1,kA (by omega),rA hk]
theorem p8{xs:List zD}{x:zD}{k:Nat}(hk:k<xs.length)(h:dD x.seq xs=k):aP xs x (k+1)=aP xs x k++[x]++[xs[k]]:=by
 unfold aP;rw[qA (show dD x.seq xs<k+1 by omega),kA (show¬dD x.seq xs<k by omega),List.take_add_one,QU (by omega) hk];have e:(sH xs x).take (k+1)=xs.take k++[x]:=by
  unfold sH;rw[h,List.take_append_of_le_length (by simp;omega),iB (by simp;omega)]
 rw[e];rfl
theorem D6{xs:List zD}{x:zD}{k:Nat}(hk:k<=xs.length):(aP xs x k).length<=xs.length+1:=by
 unfold aP;split;·rw[iD,QV];omega
 ·rw[iD];omega
theorem D4{xs:List zD}{x:zD}(h:dD x.seq xs<xs.length):aP xs x xs.length=sH xs x:=by
 unfold aP;rw[qA h,iB (by rw[QV];omega)]
theorem D5{xs:List zD}{x:zD}(h:¬dD x.seq xs<xs.length):sH xs x=aP xs x xs.length++[x]:=by
 have:=CR x.seq xs;have e:dD x.seq xs=xs.length:=by omega
 unfold aP;rw[kA h];unfold sH;rw[e];simp
theorem IJ{b n:Nat}{W w':World}(h:Below b W w'):Below b W (w'.drewN n):=⟨h.os,h.tape,h.output,h.size,h.block⟩
theorem CP{W1 wq w3:World}{o:Obj}{v:Value}{T:TypeId}{m:Nat}{xs:List Value}(hB:Below W1.heap.size W1 wq)(hrow:wq.ownsRow W1.heap.size T 5 v m xs)(hg:(wq.alloc o).grownBy w3 v.ownBlock):Below W1.heap.size W1 w3:=
 (hB.alloc hB.size o).grown hg (by have:=hB.size;simp;omega) (nS hrow)
theorem RB(xs:List zD)(a:Option Addr)(n c:Nat)(s d:Int)(ky b:ByteArray)(ag:Bool)(w:World)(hn:xs.length=n)(hf:n<=1048576)(hp:qI w a xs)(hh:lT s xs=false):
 Calls Tryz.prog 85 #[.slice a n c,.agg #[.int .i64 s,.string ky,.string b,.bool ag,.int .i64 d]] w λe w'=>∃v m,e=.returned v/\w'.ownsRow w.heap.size 86 5 v m (tK (sH xs ⟨s,ky,b,ag,d⟩))/\Below w.heap.size w w':=by
 obtain⟨W1,hW1,hBw,hs1,hbx⟩:=dZ w (.int .i64 s) (.string ky) (.string b) (.bool ag) (.int .i64 d) 86;have HW1:Hid (W1=_):=hW1;have BX:Hid (∀W,Below W1.heap.size W1 W->_):=hbx;have HP:Hid (qI W1 a xs):=hp.sA hBw;have HN:Hid (xs.length=n):=hn;have HH:Hid (lT s xs=false):=hh;obtain⟨x,hx⟩:∃x:zD,x=⟨s,ky,b,ag,d⟩:=⟨_,rfl⟩;have HX:Hid (x=⟨s,ky,b,ag,d⟩):=hx;have HQ:Hid (x.seq=s):=by show x.seq=s;rw[hx]
 rw[<-hx];clear hW1 hbx hp hn hh hx;have hBs1:=hBw.size;go_enter Tryz.func85,Tryz.ntmps85;go_wp2_with fail;rw[<-HW1.out];go_loopw[5,6,7](λl dn i wr=>∃(k m:Nat),k<=n/\i=.int .i64 k/\dn=.bool (decide (dD s xs<k))/\wr.ownsRow W1.heap.size 86 5 l m (tK (aP xs x k))/\Below W1.heap.size W1 wr)(λ_ _ i _=>n-(intOf i).toNat);case atStart=>exact⟨0,0,zA _,rfl,by simp,by rw[p9];exact jC _ _ _ _,dA _ _⟩
 case round=>
  obtain⟨k,m,hk,rfl,rfl,hrow,hB⟩:=hrel;have hBs:=hB.size;have hml:m=(aP xs x k).length:=(RW hrow).1;have hmk:m<=n+1:=by rw[hml,<-HN.out];exact D6 (by rw[HN.out];exact hk)
  obtain⟨d0,d1,d2,d3,d4⟩:=BX.out wr hB;clear hml;by_cases hlt:k<n
  ·have hkl:k<xs.length:=by rw[HN.out];exact hlt
   obtain⟨g,o,rfl,hg,hx⟩:=HP.out.cells (by omega);obtain⟨y,hyy⟩:∃y,y=xs[k]:=⟨_,rfl⟩;have hc:=(hx k hkl).sA hB hg;rw[<-hyy]at hc;have HY:Hid (y=xs[k]):=hyy;have HC:Hid (jS W1 g (o+k*5) y):=by show jS W1 g (o+k*5) y;rw[hyy];exact hx k hkl
   clear hx hyy;obtain⟨s',ky',b',ag',d'⟩:=y;obtain⟨c0,c1,c2,c3,c4⟩:=hc;dsimp only at c0 c1 c2 c3 c4;have j1:(0:Int)<=(k:Int):=by omega
   have j2:(k:Int)<n:=by omega
   have hgw:g<wr.heap.size:=by omega
   by_cases hd:dD s xs=k
   ·have hq:s<s':=by
     have h1:=GQ (s:=s) (xs:=xs) (by rw[hd];exact hkl);have h2:s<=s':=by simp only[hd]at h1;rw[<-HY.out]at h1;exact h1
     have h3:¬s'=s:=by
      intro e;have:=HH.out;unfold lT at this;rw[hd,tA hkl,<-HY.out]at this;simp[e]at this
     omega
    have HF:Hid (aP xs x (k+1)=aP xs x k++[x]++[⟨s',ky',b',ag',d'⟩]):=by
     show aP xs x (k+1)=_;rw[p8 hkl (by rw[HQ.out];exact hd),<-HY.out]
    have hdd:decide (dD s xs<k)=false:=by simp;omega
    have HD1:Hid (decide (dD s xs<k+1)=true):=by show decide _=true;simp;omega
    rw[hdd];clear hdd hd;go_wp2_with fail;go_quiet(fail);obtain⟨wq,hwq⟩:∃wq,wq=wr.drewN nq:=⟨_,rfl⟩;have hBq:Below W1.heap.size W1 wq:=by rw[hwq];exact IJ hB
    have hrq:wq.ownsRow W1.heap.size 86 5 u5 m (tK (aP xs x k)):=by rw[hwq];exact hrow
    rw[<-hwq];clear hwq hrow d0 d1 d2 d3 d4 hB;obtain⟨d0,d1,d2,d3,d4⟩:=BX.out wq hBq;have hBqs:=hBq.size;go_wp2_with(first
     |(at_builtin;refine wX rfl _ _ rfl W1.heap.size _ _ _ rfl (hrq.alloc _) (some ⟨wq.heap.size,0,none⟩) 1 1 [x] rfl rfl (λe=>by cases e) (by rw[HX.out];exact qI.single (jA _ _)) (by omega) (by simp;omega) ?_;intro v' w3 hown3 hgrow3;have hB3:=CP hBq hrq hgrow3;have hB3s:=hB3.size;clear d0 d1 d2 d3 d4;obtain⟨e0,e1,e2,e3,e4⟩:=HC.out.sA hB3 hg)
     |(at_builtin;refine wX rfl _ _ rfl W1.heap.size _ _ _ rfl (hown3.alloc _) (some ⟨w3.heap.size,0,none⟩) 1 1 [⟨s',ky',b',ag',d'⟩] rfl rfl (λe=>by cases e) (qI.single (jA _ _)) (by omega) (by simp;omega) ?_;intro v4 w4 hown4 hgrow4));have hB4:=CP hB3 hown3 hgrow4;go_roundw;case rel=>exact⟨k+1,_,by omega,by go_num,by rw[HD1.out],by rw[HF.out];exact hown4,hB4⟩
    case measure=>simp[intOf];omega
   ·have HF:Hid (aP xs x (k+1)=aP xs x k++[⟨s',ky',b',ag',d'⟩]):=by
     show aP xs x (k+1)=_;rw[YY hkl (by rw[HQ.out];exact hd),<-HY.out]
    have hdn:(decide (dD s xs<k)=true/\decide (dD s xs<k+1)=true)\/(decide (dD s xs<k)=false/\decide (dD s xs<k+1)=false/\s'<s):=by
     rcases xG (dD s xs) k with h|h;·left;simp;omega
     ·right;obtain⟨_,h2⟩:=EZ (s:=s) (xs:=xs) (j:=k) (by omega);rw[<-HY.out]at h2;refine⟨by simp;omega,by simp;omega,h2⟩
    clear hd;rcases hdn with⟨h1,h2⟩|⟨h1,h2,h3⟩;all_goals
     rw[h1];have HD1:Hid (decide (dD s xs<k+1)=_):=h2;clear h1 h2
    ·go_wp2_with fail;go_quiet(fail);obtain⟨wq,hwq⟩:∃wq,wq=wr.drewN nq:=⟨_,rfl⟩;have hBq:Below W1.heap.size W1 wq:=by rw[hwq];exact IJ hB
     have hrq:wq.ownsRow W1.heap.size 86 5 u5 m (tK (aP xs x k)):=by rw[hwq];exact hrow
     rw[<-hwq];clear hwq hrow d0 d1 d2 d3 d4 hB c0 c1 c2 c3 c4;have hBqs:=hBq.size;obtain⟨e0,e1,e2,e3,e4⟩:=HC.out.sA hBq hg;go_wp2_with(at_builtin;refine wX rfl _ _ rfl W1.heap.size _ _ _ rfl (hrq.alloc _) (some ⟨wq.heap.size,0,none⟩) 1 1 [⟨s',ky',b',ag',d'⟩] rfl rfl (λe=>by cases e) (qI.single (jA _ _)) (by omega) (by simp;omega) ?_;intro v4 w4 hown4 hgrow4);have hB4:=CP hBq hrq hgrow4;go_roundw;case rel=>exact⟨k+1,_,by omega,by go_num,by rw[HD1.out],by rw[HF.out];exact hown4,hB4⟩
     case measure=>simp[intOf];omega
    ·have h4:decide (s<s')=false:=by simp;omega
     clear h3;go_wp2_with fail;go_quiet(fail);obtain⟨wq,hwq⟩:∃wq,wq=wr.drewN nq:=⟨_,rfl⟩;have hBq:Below W1.heap.size W1 wq:=by rw[hwq];exact IJ hB
     have hrq:wq.ownsRow W1.heap.size 86 5 u5 m (tK (aP xs x k)):=by rw[hwq];exact hrow
     rw[<-hwq];clear hwq hrow d0 d1 d2 d3 d4 hB c0 c1 c2 c3 c4;have hBqs:=hBq.size;obtain⟨e0,e1,e2,e3,e4⟩:=HC.out.sA hBq hg;go_wp2_with(at_builtin;refine wX rfl _ _ rfl W1.heap.size _ _ _ rfl (hrq.alloc _) (some ⟨wq.heap.size,0,none⟩) 1 1 [⟨s',ky',b',ag',d'⟩] rfl rfl (λe=>by cases e) (qI.single (jA _ _)) (by omega) (by simp;omega) ?_;intro v4 w4 hown4 hgrow4);have hB4:=CP hBq hrq hgrow4;go_roundw;case rel=>exact⟨k+1,_,by omega,by go_num,by rw[HD1.out],by rw[HF.out];exact hown4,hB4⟩
     case measure=>simp[intOf];omega
  ·have hkn:k=xs.length:=by rw[HN.out];omega
   by_cases hd:dD s xs<k
   ·have HF:Hid (aP xs x k=sH xs x):=by show aP xs x k=_;rw[hkn];exact D4 (by rw[HQ.out,<-hkn];exact hd)
    have hdd:decide (dD s xs<k)=true:=by simpa using hd
    rw[hdd];clear hdd hd hkn;go_wp2_with fail;go_ret;exact⟨_,m,rfl,by rw[<-HF.out];exact xS hrow (by omega),hBw.trans (hB.mono hBs1)⟩
   ·have HF:Hid (sH xs x=aP xs x k++[x]):=by show sH xs x=_;rw[hkn];exact D5 (by rw[HQ.out,<-hkn];exact hd)
    have hdd:decide (dD s xs<k)=false:=by simpa using hd
    rw[hdd];clear hdd hd hkn;go_wp2_with(at_builtin;refine wX rfl _ _ rfl W1.heap.size _ _ _ rfl (hrow.alloc _) (some ⟨wr.heap.size,0,none⟩) 1 1 [x] rfl rfl (λe=>by cases e) (by rw[HX.out];exact qI.single (jA _ _)) (by omega) (by simp;omega) ?_;intro v4 w4 hown4 hgrow4);have hB4:=CP hB hrow hgrow4;go_ret;exact⟨_,_,rfl,by rw[HF.out];exact xS hown4 (by omega),hBw.trans (hB4.mono hBs1)⟩
theorem IB:∀{xs:List zD}{last:Int},lP last xs=true->xs.Pairwise (λx y=>x.seq<y.seq)/\∀x∈xs,last<x.seq
 |[],last,_=>⟨List.Pairwise.nil,by simp⟩
 |x::r,last,h=>by
   unfold lP at h;simp only[aC,mC]at h;obtain⟨⟨h1,h2⟩,h3⟩:=h;obtain⟨h4,h5⟩:=IB h3;refine⟨bJ.2 ⟨h5,h4⟩,?_⟩;intro y hy;rcases vH.1 hy with rfl|hy;·exact h2
   ·have:=h5 y hy;omega
theorem NV{xs:List zD}(h:tI xs=true){i j:Nat}(hj:j<xs.length)(hij:i<j):(xs[i]'(by omega)).seq<xs[j].seq:=
 dH.1 (IB h).1 i j (by omega) hj hij
theorem UE{xs:List zD}(hl:tI xs=true){k:Nat}{s:Int}(hk:k<xs.length)(h:xs[k].seq=s):lT s xs=true:=by
 have h1:dD s xs<=k:=by
  rcases xG k (dD s xs)with h1|h1;·obtain⟨_,h2⟩:=EZ h1;omega
  ·exact h1
 have h2:=GQ (s:=s) (xs:=xs) (by omega);have h3:dD s xs=k:=by
  rcases xG (dD s xs) k with h3|h3;·have:=NV hl hk h3;omega
  ·omega
 unfold lT;rw[h3,tA hk];simp[h]
end Go.Proofs.YtedmnjimkhamaaaGreatDoor
