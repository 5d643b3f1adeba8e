import Derived.Test.YtedmnjimkhamaaaGreatDoorMkx
namespace Go.Proofs.YtedmnjimkhamaaaGreatDoor
set_option linter.unusedVariables false
set_option maxRecDepth 100000
set_option maxHeartbeats 4000000
open Go.RowKit Go.Maps
theorem H8(s:yC)(q:Int)(n:Nat):0<=(zJ s q n).2/\(zJ s q n).2<=4/\-1<=(zJ s q n).1/\(zJ s q n).1<=n:=by
 rcases MO s q n with⟨h,_⟩|⟨k,h,hk⟩;·rw[h];simp only;omega
 ·rw[h];have:=hk.few;have:=hk.lt;simp only;omega
theorem XH(p:lD)(a1 a2 a3:Option Addr)(n1 c1 n2 c2 n3 c3:Nat)(s:yC)(b1 b2 b3:Option Addr)(m1 d1 m2 d2 m3 d3:Nat)(q:Int)(w:World)(hp:sG w a1 a2 a3 n1 n2 n3 p)(hs:gK w b1 b2 b3 m1 m2 m3 s)(h0:zG p s=0):
 Calls Tryz.prog 187 #[.agg #[.slice a1 n1 c1,.slice a2 n2 c2,.slice a3 n3 c3],.agg #[.slice b1 m1 d1,.slice b2 m2 d2,.slice b3 m3 d3,.int .i64 s.gA,.int .i64 s.fA,.int .i64 s.nB,.int .i64 s.uA,.int .i64 s.iA],.int .i64 q] w λe w'=>e=.returned (.int .i64 (nO s q))/\Below w.heap.size w w':=by
 obtain⟨W2,hW2,hBw,hs2,hbx⟩:=mV w #[.slice a1 n1 c1,.slice a2 n2 c2,.slice a3 n3 c3] #[.slice b1 m1 d1,.slice b2 m2 d2,.slice b3 m3 d3,.int .i64 s.gA,.int .i64 s.fA,.int .i64 s.nB,.int .i64 s.uA,.int .i64 s.iA];have HW2:=aA hW2;have BX:=aA hbx;have HS:=aA (hs.sA hBw);have HP:=aA (hp.sA hBw);have HBW:=aA hBw;have HM3:Hid (s.nA.length=m3):=hs.l3;have H0:=aA h0;have hm3:m3<=4:=by rw[<-hs.l3];exact(nN h0).tk
 have s0:=hBw.size;obtain⟨y0,y1,y2,y3,y4,y5,y6,y7⟩:=gD (hbx W2 (dA _ _)).2;clear hW2 hbx hs2 hp hs h0 hBw;go_enter Tryz.func187,Tryz.ntmps187;go_wp2_with fail;rw[<-HW2.out];clear y0 y1 y2 y3 y4 y5 y6 y7;go_loopw[7,8,9,10,11,12,16](λa b _ _ _ _ i wr=>∃(k:Nat),k<=m3/\i=.int .i64 k/\a=.int .i64 (zJ s q k).1/\b=.int .i64 (zJ s q k).2/\Below W2.heap.size W2 wr)(λ_ _ _ _ _ _ i _=>m3-(intOf i).toNat);case atStart=>exact⟨0,zA _,rfl,rfl,rfl,dA _ _⟩
 case round=>
  obtain⟨k,hk,rfl,rfl,rfl,hB⟩:=hrel;have hBs:=hB.size;have HB:=aA hB;obtain⟨l1,l2,l3,l4⟩:=H8 s q k;have HLB:Hid (zJ s q (k+1)=if zP s q k=true/\(xE s k:Int)<(zJ s q k).2 then((k:Int),(xE s k:Int))else zJ s q k):=rfl;obtain⟨A,hA⟩:∃A,A=(zJ s q k).1:=⟨_,rfl⟩;obtain⟨F,hF⟩:∃F,F=(zJ s q k).2:=⟨_,rfl⟩;rw[<-hA]at l3 l4⊢;rw[<-hF]at l1 l2 HLB⊢;have HAF:Hid (zJ s q k=(A,F)):=by show zJ s q k=(A,F);rw[hA,hF]
  clear hA hF;by_cases hlt:k<m3
  ·have HLT:=aA hlt;have hkl:k<s.nA.length:=by rw[HM3.out];exact hlt
   obtain⟨g,o,ha,hg,e1,e2⟩:=(HS.out.q3.sA hB).get hkl;subst ha;have HFR:Hid (zP s q k=(decide (s.nA[k].queue=q)&&decide ((xE s k:Int)<s.nA[k].nD))):=by
    show zP s q k=_;unfold zP bU;rw[tB,tA hkl];rfl
   have hmo:=(BM.1 ((nN H0.out).tok _ (qB hkl))).2;have HHE:Hid (nZ p s (k:Int)=0):=by show nZ p s (k:Int)=0;unfold nZ;rw[qA H0.out,qA (cP.2 ⟨by omega,by omega⟩)]
   have HHN:Hid (oZ p s (k:Int)=(xE s (k:Int):Int)):=by show oZ p s (k:Int)=_;unfold oZ;rw[qA HHE.out]
   obtain⟨x,hx⟩:∃x,x=s.nA[k].queue:=⟨_,rfl⟩;obtain⟨mo,hmo'⟩:∃mo,mo=s.nA[k].nD:=⟨_,rfl⟩;rw[<-hx]at e1 HFR;rw[<-hmo']at e2 HFR hmo;have j1:(0:Int)<=(k:Int):=by omega
   have j2:(k:Int)<m3:=by omega
   clear hx hmo' hkl;have l5:Below W2.heap.size W2 (wr.alloc (.cells #[.int .i64 x,.int .i64 mo] 121)):=hB.alloc hBs _;have L5:=aA l5;obtain⟨x0,x1,x2⟩:=xH (BX.out _ l5).1;obtain⟨y0,y1,y2,y3,y4,y5,y6,y7⟩:=gD (BX.out _ l5).2;by_cases hq:x=q
   ·subst hq;go_wp2_with fail;refine(Q6 p _ _ _ _ _ _ _ _ _ s _ _ _ _ _ _ _ _ _ (k:Int) _ (HP.out.sA L5.out) (HS.out.sA L5.out)).mono ?_;rintro e w5⟨rfl,hB5⟩;rw[HHE.out,HHN.out];have k5:=L5.out.trans (hB5.mono L5.out.size);have xb:=pB (jA wr (.cells #[.int .i64 x,.int .i64 mo] 121)) hB5;have s5:=k5.size;have k5':=k5.alloc s5 (.cells #[.int .i64 0] 27);have XB:=aA xb;have K5:=aA k5;have hwr:wr.heap.size<w5.heap.size:=bE xb;obtain⟨H,hH⟩:∃H:Nat,H=xE s (k:Int):=⟨_,rfl⟩;rw[<-hH]at HFR HLB⊢;clear x0 x1 x2 y0 y1 y2 y3 y4 y5 y6 y7 hB5 xb hH e1 e2;have hor:((H:Int)<mo/\(H:Int)<F)\/((¬(H:Int)<mo)\/((H:Int)<mo/\¬(H:Int)<F)):=by omega
    rcases hor with⟨i1,i2⟩|hno
    ·have HF1:Hid (zJ s x (k+1)=((k:Int),(H:Int))):=by
      show zJ s x (k+1)=_;rw[HLB.out,HFR.out,qA ⟨by simp[i1],i2⟩]
     go_wp2_with(go_at_call 69;refine(rS _ _ (rM _ _ _) (by simp)).mono ?_;rintro e w6⟨rfl,hB6⟩;have k6:=k5'.trans (hB6.mono k5'.size);have K6:=aA k6;have xb6:=(hB6.block wr.heap.size (by simp;omega)).trans ((lE w5 (.cells #[.int .i64 0] 27) wr.heap.size hwr).trans XB.out);have c0:=yB xb6 0;have c1:=yB xb6 1;simp at c0 c1;clear hB6 k6 xb6);go_roundw;case rel=>exact⟨k+1,HLT.out,by have:=HLT.out;go_num,by rw[HF1.out],by rw[HF1.out],K6.out⟩
     case measure=>have:=HLT.out;simp[intOf];omega
    ·have HF0:Hid (zJ s x (k+1)=(A,F)):=by
      show zJ s x (k+1)=(A,F);rw[HLB.out,HFR.out,kA (by simp;omega),HAF.out]
     rcases hno with i1|⟨i1,i2⟩;all_goals
      go_wp2_with(go_at_call 69;refine(rS _ _ (rM _ _ _) (by simp)).mono ?_;rintro e w6⟨rfl,hB6⟩;have k6:=k5'.trans (hB6.mono k5'.size);have K6:=aA k6;have xb6:=(hB6.block wr.heap.size (by simp;omega)).trans ((lE w5 (.cells #[.int .i64 0] 27) wr.heap.size hwr).trans XB.out);have c0:=yB xb6 0;have c1:=yB xb6 1;simp at c0 c1;clear hB6 k6 xb6);go_roundw;case rel=>exact⟨k+1,HLT.out,by have:=HLT.out;go_num,by rw[HF0.out],by rw[HF0.out],K6.out⟩
      case measure=>have:=HLT.out;simp[intOf];omega
   ·have hq':(x !=q)=true:=kD.2 hq;have HF0:Hid (zJ s q (k+1)=(A,F)):=by
     show zJ s q (k+1)=(A,F);rw[HLB.out,HFR.out,kA (by simp[hq]),HAF.out]
    clear hq;go_wp2_with fail;go_roundw;case rel=>exact⟨k+1,HLT.out,by have:=HLT.out;go_num,by rw[HF0.out],by rw[HF0.out],L5.out⟩
    case measure=>have:=HLT.out;simp[intOf];omega
  ·have hke:m3=k:=by omega
   subst hke;have HNK:Hid (nO s q=A):=by show nO s q=A;unfold nO;rw[HM3.out,HAF.out]
   clear hlt hk;go_wp2_with fail;go_ret;exact⟨tJ HNK.out.symm,HBW.out.trans (hB.mono s0)⟩
structure yJ(t:Nat)(W W':World):Prop where
 os:W'.os=W.os
 tape:W'.tape=W.tape
 output:W'.output=W.output
 size:W.heap.size<=W'.heap.size
 block:∀k,k<W.heap.size->k≠t->W'.heap[k]?=W.heap[k]?
theorem yJ.kB{t:Nat}{W W':World}(h:Below W.heap.size W W'):yJ t W W':=⟨h.os,h.tape,h.output,h.size,λk h1 _=>h.block k h1⟩
theorem yJ.setCell{t:Nat}{W W':World}(h:yJ t W W')(i:Nat)(u:Value):yJ t W (W'.setCell ⟨t,i,none⟩ u):=⟨h.os,h.tape,h.output,by simpa[World.setCell]using h.size,λk h1 h2=>(rN W' ⟨t,i,none⟩ u k h2).trans (h.block k h1 h2)⟩
theorem yJ.trans_below{t:Nat}{A B C:World}(h:yJ t A B)(k:Below B.heap.size B C):yJ t A C:=⟨k.os.trans h.os,k.tape.trans h.tape,k.output.trans h.output,vA h.size k.size,λi h1 h2=>(k.block i (by have:=h.size;omega)).trans (h.block i h1 h2)⟩
theorem U2{d:Int}(h:d≠0):(Ending.panicked [{v:=.iface 27 (.int .i64 d),recovered:=false}])=zK d:=by rw[eX h];rfl
theorem I9(p:lD)(a1 a2 a3:Option Addr)(n1 c1 n2 c2 n3 c3:Nat)(s:yC)(b1 b2 b3:Option Addr)(m1 d1 m2 d2 m3 d3:Nat)(q:Int)(B:Nat)(w:World)(hp:sG w a1 a2 a3 n1 n2 n3 p)(hs:gK w b1 b2 b3 m1 m2 m3 s)(x0:w.heap[B]?=some (.cells #[.slice a1 n1 c1,.slice a2 n2 c2,.slice a3 n3 c3] 26 (0,0)))(x1:w.heap[B+1]?=some (.cells #[.slice b1 m1 d1,.slice b2 m2 d2,.slice b3 m3 d3,.int .i64 s.gA,.int .i64 s.fA,.int .i64 s.nB,.int .i64 s.uA,.int .i64 s.iA] 39 (0,0)))(x2:w.heap[B+2]?=some (.cells #[.int .i64 q] 3 (0,0)))(x3:w.heap[B+3]?=some (.cells #[.int .i64 (-1)] 3 (0,0))):
 Calls Tryz.prog 186 #[.pointer (some ⟨B,0,none⟩),.pointer (some ⟨B+1,0,none⟩),.pointer (some ⟨B+2,0,none⟩),.pointer (some ⟨B+3,0,none⟩)] w λe w'=>e=zK (fR p s q)/\yJ (B+3) w w'/\(fR p s q=0->w'.heap[B+3]?=some (.cells #[.int .i64 (nO s q)] 3 (0,0))):=by
 obtain⟨E,hE⟩:∃E,E=fR p s q:=⟨_,rfl⟩;rw[<-hE];obtain⟨E0,hE0⟩:∃E0,E0=zG p s:=⟨_,rfl⟩;have HE:=aA hE;have HE0:=aA hE0;have HP:=aA hp;have HS:=aA hs;have X0:=aA x0;have X1:=aA x1;have X2:=aA x2;have X3:=aA x3;have HN2:Hid (p.jB.length=n2):=hp.l2;have HM1:Hid (s.yA.length=m1):=hs.l1;have hl3:=bE x3;obtain⟨p0,p1,p2⟩:=xH x0;obtain⟨y0,y1,y2,y3,y4,y5,y6,y7⟩:=gD x1;clear hE hE0 hp hs x0 x1 x2 x3;go_enter Tryz.func186,Tryz.ntmps186;go_wp2_with fail;refine(ET p _ _ _ _ _ _ _ _ _ s _ _ _ _ _ _ _ _ _ _ HP.out HS.out).mono ?_;rintro e w1⟨rfl,k1⟩;rw[<-HE0.out];have s1:=k1.size;have k1':=k1.alloc s1 (.cells #[.int .i64 E0] 27);have s1':=k1'.size;clear p0 p1 p2 y0 y1 y2 y3 y4 y5 y6 y7;by_cases hz:E0=0
 ·subst hz;have HE1:Hid (E=if tG q n2=false then 5 else if oF s q.toNat=[]then 8 else if nO s q=-1 then 9 else 0):=by show E=_;rw[HE.out];unfold fR;rw[kA (by simp[<-HE0.out]),HN2.out]
  have HR:=aA (nN HE0.out.symm);go_wp2_with(go_at_call 69;refine(rS _ _ (rM _ _ _) (by simp)).mono ?_;rintro e w2⟨rfl,hB2⟩;have k2:=k1'.trans (hB2.mono s1');have K2:=aA k2;obtain⟨p0,p1,p2⟩:=xH (pB X0.out k2);have cq:=yB (pB X2.out k2) 0;simp at cq;clear hB2);refine(ND p _ _ _ _ _ _ _ _ _ q _ (HP.out.sA K2.out)).mono ?_;rintro e w3⟨rfl,k3'⟩;have k3:=K2.out.trans (k3'.mono K2.out.size);have s3:=k3.size;have K3:=aA k3;clear k3' p0 p1 p2 cq k2;by_cases hq:tG q n2=false
  ·rw[qA hq,eX (by decide)];unfold aK;have e5:E=5:=by rw[HE1.out,qA hq]
   exact⟨rfl,by rw[e5];rfl,yJ.kB k3,λh=>by rw[e5]at h;cases h⟩
  ·rw[kA hq,dV];unfold xR;have hq':0<=q/\q<n2:=cP.1 (by simpa using hq);obtain⟨j,rfl⟩:=oE hq'.1;have HE2:Hid (E=if oF s j=[]then 8 else if nO s j=-1 then 9 else 0):=by show E=_;rw[HE1.out,kA hq];rfl
   have hjr:j<s.yA.length:=by rw[HR.out.len,HN2.out];omega
   obtain⟨g,o,b,c,ha,hg,hl⟩:=(HS.out.q1.sA k3).get hjr;subst ha;have c1:=hl.cell;have HLA:Hid (oF s j=s.yA[j]):=rU hjr;obtain⟨n,hn⟩:∃n,n=(s.yA[j]'hjr).length:=⟨_,rfl⟩;have HN:Hid (n=0↔oF s j=[]):=by show n=0↔_;rw[HLA.out,hn];exact kC
   rw[<-hn]at c1;have j1:(0:Int)<=(j:Int):=by omega
   have j2:(j:Int)<m1:=by rw[<-HM1.out];omega
   obtain⟨y0,y1,y2,y3,y4,y5,y6,y7⟩:=gD (pB X1.out k3);have cq:=yB (pB X2.out k3) 0;simp at cq;clear hl hn hq hq' HE1;go_wp2_with fail;by_cases hn0:n=0
   ·refine(aN 8 [((n:Int)==0)] _ _ (by simp) (bI w3 _ rfl) (by simp;omega)).mono ?_;rintro e w4⟨rfl,rfl⟩;have e8:E=8:=by rw[HE2.out,qA (HN.out.1 hn0)]
    exact⟨rfl,by rw[e8];rfl,yJ.kB (K3.out.alloc s3 _),λh=>by rw[e8]at h;cases h⟩
   ·refine(zM 8 [((n:Int)==0)] _ _ (by simp) (bI w3 _ rfl) (by simp;omega)).mono ?_;rintro e w4⟨rfl,hw4⟩;have k4:Below w.heap.size w w4:=by rw[hw4];exact K3.out.alloc s3 _
    have HE3:Hid (E=if nO s j=-1 then 9 else 0):=by show E=_;rw[HE2.out,kA (λh=>hn0 (HN.out.2 h))]
    have K4:=aA k4;have s4:=k4.size;clear hw4 hn0 y0 y1 y2 y3 y4 y5 y6 y7 cq c1 k3;obtain⟨p0,p1,p2⟩:=xH (pB X0.out k4);obtain⟨y0,y1,y2,y3,y4,y5,y6,y7⟩:=gD (pB X1.out k4);have cq:=yB (pB X2.out k4) 0;simp at cq;go_wp2_with fail;refine(XH p _ _ _ _ _ _ _ _ _ s _ _ _ _ _ _ _ _ _ (j:Int) _ (HP.out.sA K4.out) (HS.out.sA K4.out) HE0.out.symm).mono ?_;rintro e w5⟨rfl,k5'⟩;have k5:=K4.out.trans (k5'.mono s4);have K5:=aA k5;have x35:=pB X3.out k5;have X35:=aA x35;have c3:=yB x35 0;have f3:=pA x35 0;simp at c3;obtain⟨N,hN⟩:∃N,N=nO s (j:Int):=⟨_,rfl⟩;have HNN:=aA hN;rw[<-hN]at HE3⊢;clear k5' k4 x35 p0 p1 p2 y0 y1 y2 y3 y4 y5 y6 y7 cq hN;have tb:=bG X35.out (j:=0) (.int .i64 N);have t5:yJ (B+3) w (w5.setCell ⟨B+3,0,none⟩ (.int .i64 N)):=(yJ.kB K5.out).setCell 0 _;have ly:Below (w5.setCell ⟨B+3,0,none⟩ (.int .i64 N)).heap.size (w5.setCell ⟨B+3,0,none⟩ (.int .i64 N)) ((w5.setCell ⟨B+3,0,none⟩ (.int .i64 N)).alloc (.cells #[.bool (N==-1)] 4)):=(dA _ _).alloc (eA _) _;have T6:=aA (t5.trans_below ly);have TB6:=aA (pB tb ly);clear tb t5 ly;go_wp2_with fail;have hsz:w5.heap.size=(w5.setCell ⟨B+3,0,none⟩ (.int .i64 N)).heap.size:=by simp[World.setCell]
    by_cases hn1:N=-1
    ·refine(aN 9 [(N==-1)] _ _ (by simp) (bI (w5.setCell ⟨B+3,0,none⟩ (.int .i64 N)) _ hsz) (by simp[hn1])).mono ?_;rintro e w6⟨rfl,rfl⟩;have e9:E=9:=by rw[HE3.out,qA hn1]
     exact⟨rfl,by rw[e9];rfl,T6.out,λh=>by rw[e9]at h;cases h⟩
    ·refine(zM 9 [(N==-1)] _ _ (by simp) (bI (w5.setCell ⟨B+3,0,none⟩ (.int .i64 N)) _ hsz) (by simp[hn1])).mono ?_;rintro e w6⟨rfl,hw6⟩;have e0:E=0:=by rw[HE3.out,kA hn1]
     have T6':Hid (yJ (B+3) w w6):=by show yJ (B+3) w w6;rw[hw6];exact T6.out
     have TB6':Hid (w6.heap[B+3]?=some (.cells #[.int .i64 N] 3 (0,0))):=by show w6.heap[B+3]?=_;rw[hw6];exact TB6.out
     clear hw6 hsz;go_wp2_with fail;go_end0;exact⟨by rw[e0];rfl,T6'.out,λ_=>by rw[<-HNN.out];exact TB6'.out⟩
 ·have HZ:=aA hz;have e0:E=E0:=by rw[HE.out];unfold fR;rw[qA (by rw[<-HE0.out];exact hz),HE0.out]
  go_wp2_with(go_at_call 69;refine(qV E0 _ _ (rM _ _ _) (by simp) HZ.out).mono ?_;rintro e w2⟨rfl,hB2⟩);subst e0;exact⟨rfl,U2 HZ.out,yJ.kB (k1'.trans (hB2.mono s1')),λh=>absurd h HZ.out⟩
theorem J8(p:lD)(a1 a2 a3:Option Addr)(n1 c1 n2 c2 n3 c3:Nat)(s:yC)(b1 b2 b3:Option Addr)(m1 d1 m2 d2 m3 d3:Nat)(q:Int)(w:World)(hp:sG w a1 a2 a3 n1 n2 n3 p)(hs:gK w b1 b2 b3 m1 m2 m3 s):
 Calls Tryz.prog 150 #[.agg #[.slice a1 n1 c1,.slice a2 n2 c2,.slice a3 n3 c3],.agg #[.slice b1 m1 d1,.slice b2 m2 d2,.slice b3 m3 d3,.int .i64 s.gA,.int .i64 s.fA,.int .i64 s.nB,.int .i64 s.uA,.int .i64 s.iA],.int .i64 q] w λe w'=>e=.returned (.tuple #[.int .i64 (wJ (fR p s q) (nO s q)),.int .i64 (fR p s q)])/\Below w.heap.size w w':=by
 obtain⟨hz4,hg4,hB4⟩:=tR [.cells #[.slice a1 n1 c1,.slice a2 n2 c2,.slice a3 n3 c3] 26,.cells #[.slice b1 m1 d1,.slice b2 m2 d2,.slice b3 m3 d3,.int .i64 s.gA,.int .i64 s.fA,.int .i64 s.nB,.int .i64 s.uA,.int .i64 s.iA] 39,.cells #[.int .i64 q] 3,.cells #[.int .i64 (-1)] 3] w;obtain⟨W4,hW4⟩:∃W4,W4=List.foldl World.alloc w [.cells #[.slice a1 n1 c1,.slice a2 n2 c2,.slice a3 n3 c3] 26,.cells #[.slice b1 m1 d1,.slice b2 m2 d2,.slice b3 m3 d3,.int .i64 s.gA,.int .i64 s.fA,.int .i64 s.nB,.int .i64 s.uA,.int .i64 s.iA] 39,.cells #[.int .i64 q] 3,.cells #[.int .i64 (-1)] 3]:=⟨_,rfl⟩;rw[<-hW4]at hz4 hg4 hB4;have HW4:Hid (W4=((((w.alloc (.cells #[.slice a1 n1 c1,.slice a2 n2 c2,.slice a3 n3 c3] 26)).alloc (.cells #[.slice b1 m1 d1,.slice b2 m2 d2,.slice b3 m3 d3,.int .i64 s.gA,.int .i64 s.fA,.int .i64 s.nB,.int .i64 s.uA,.int .i64 s.iA] 39)).alloc (.cells #[.int .i64 q] 3)).alloc (.cells #[.int .i64 (-1)] 3))):=hW4;have hz4':W4.heap.size=w.heap.size+4:=by rw[hz4];rfl
 have x0:=hg4 0 _ rfl;have x1:=hg4 1 _ rfl;have x2:=hg4 2 _ rfl;have x3:=hg4 3 _ rfl;have l5:Below W4.heap.size W4 (W4.alloc (.cells #[.int .i64 0] 27)):=(dA _ _).alloc (eA _) _;have x6:=jA W4 (.cells #[.int .i64 0] 27);obtain⟨E,hE⟩:∃E,E=fR p s q:=⟨_,rfl⟩;obtain⟨K,hK⟩:∃K,K=nO s q:=⟨_,rfl⟩;have N1:=I9 p a1 a2 a3 n1 c1 n2 c2 n3 c3 s b1 b2 b3 m1 d1 m2 d2 m3 d3 q w.heap.size (W4.alloc (.cells #[.int .i64 0] 27)) ((hp.sA hB4).sA l5) ((hs.sA hB4).sA l5) (pB x0 l5) (pB x1 l5) (pB x2 l5) (pB x3 l5);rw[<-hE,<-hK]at N1;rw[<-hE,<-hK];have TR:=JP 186 (λ_ _=>rfl) #[.pointer (some ⟨w.heap.size,0,none⟩),.pointer (some ⟨w.heap.size+1,0,none⟩),.pointer (some ⟨w.heap.size+2,0,none⟩),.pointer (some ⟨w.heap.size+3,0,none⟩)]
  (λD w1=>D=E/\yJ (w.heap.size+3) (W4.alloc (.cells #[.int .i64 0] 27)) w1/\(E=0->w1.heap[w.heap.size+3]?=some (.cells #[.int .i64 K] 3 (0,0)))) W4
  (N1.mono (by
   rintro e w'⟨rfl,g1,g2⟩;exact⟨E,rfl,⟨rfl,g1,g2⟩,(g1.block _ (by simp) (by omega)).trans x6⟩));have HTR:=aA TR;have HB4:=aA hB4;have HZ4:=aA hz4';have hmf:∀(fn:Fn)(first cap:Array Value)(w:World),(Instr.makeFunc fn first cap).run Tryz.prog w=.ok (.func fn first cap) w:=λ_ _ _ _=>rfl;clear N1 TR hW4 hz4 hz4' hg4 hB4 x0 x1 x2 x3 x6 l5 hp hs hE hK;go_enter Tryz.func150,Tryz.ntmps150;go_wp2_with fail;rw[<-HW4.out];refine HTR.out.mono ?_;rintro e w7⟨D,w1,rfl,⟨rfl,g1,g2⟩,hb,rfl⟩;have hB7:Below w.heap.size w (w1.setCell ⟨W4.heap.size,0,none⟩ (.int .i64 D)):=by
  refine(HB4.out.trans ?_).setCell (p:=⟨W4.heap.size,0,none⟩) (by have:=HZ4.out;show w.heap.size<=W4.heap.size;omega) _;refine⟨g1.os,g1.tape,g1.output,by have:=g1.size;simp at this;omega,λk hk=>?_⟩;rw[g1.block k (by simp;have:=HZ4.out;omega) (by omega),lE _ _ _ (by have:=HZ4.out;omega)]
 have HB7:=aA hB7;by_cases hD:D=0
 ·subst hD;have r3:=g2 rfl;have r7:(w1.setCell ⟨W4.heap.size,0,none⟩ (.int .i64 0)).heap[w.heap.size+3]?=some (.cells #[.int .i64 K] 3 (0,0)):=by rw[rN _ _ _ _ (by have:=HZ4.out;show w.heap.size+3≠W4.heap.size;omega)];exact r3
  have c7:=yB r7 0;simp at c7;generalize hw7:w1.setCell ⟨W4.heap.size,0,none⟩ (.int .i64 0)=w7 at c7 HB7;clear r3 r7 g1 g2 hb hB7 hw7;go_wp2_with fail;go_ret2;exact⟨by first|rfl|(unfold wJ;rw[qA rfl]),HB7.out⟩
 ·have hD':(D !=0)=true:=kD.2 hD;have HDN:=aA hD;generalize hw7:w1.setCell ⟨W4.heap.size,0,none⟩ (.int .i64 D)=w7 at HB7;clear g1 g2 hb hB7 hw7 hD;go_wp2_with fail;go_ret2;exact⟨lZ (by unfold wJ;rw[kA HDN.out]) rfl,HB7.out⟩
end Go.Proofs.YtedmnjimkhamaaaGreatDoor
