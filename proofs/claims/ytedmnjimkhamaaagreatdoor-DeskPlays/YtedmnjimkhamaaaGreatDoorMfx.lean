import Derived.Test.YtedmnjimkhamaaaGreatDoorMex
namespace Go.Proofs.YtedmnjimkhamaaaGreatDoor
set_option linter.unusedVariables false
set_option maxRecDepth 100000
set_option maxHeartbeats 2000000
theorem NU:∀{xs:List zD}{last:Int},(∀x∈xs,nH x=true/\last<x.seq)->xs.Pairwise (λx y=>x.seq<y.seq)->lP last xs=true
 |[],last,_,_=>rfl
 |x::r,last,h,hp=>by
   obtain⟨h1,h2⟩:=h x (by simp);obtain⟨h3,h4⟩:=bJ.1 hp;rw[EC h1 (by omega)];exact NU (λy hy=>⟨(h y (by simp[hy])).1,h3 y hy⟩) h4
theorem MW:∀{xs:List zD}{last:Int},lP last xs=true->∀x∈xs,nH x=true
 |[],last,_,x,hx=>by simp at hx
 |y::r,last,h,x,hx=>by
   unfold lP at h;simp only[aC,mC]at h;rcases vH.1 hx with rfl|hx;·exact h.1.1
   ·exact MW h.2 x hx
theorem iW{xs:List zD}:tI xs=true↔(∀x∈xs,nH x=true)/\xs.Pairwise (λx y=>x.seq<y.seq):=
 ⟨λh=>⟨MW h,(IB h).1⟩,λh=>NU (λx hx=>⟨h.1 x hx,by have:=OJ (h.1 x hx);omega⟩) h.2⟩
theorem D7{xs:List zD}{x z:zD}:z∈sH xs x↔z=x\/z∈xs:=by
 unfold sH;simp only[oC,tC];have:z∈xs↔z∈xs.take (dD x.seq xs)\/z∈xs.drop (dD x.seq xs):=by
  conv=>lhs;rw[<-gF (dD x.seq xs) xs]
  exact oC
 rw[this];constructor
 ·rintro((h|h)|h);·exact .inr (.inl h)
  ·exact .inl h
  ·exact .inr (.inr h)
 ·rintro(h|h|h);·exact .inl (.inr h)
  ·exact .inl (.inl h)
  ·exact .inr h
theorem O_{xs:List zD}{s:Int}:∀z∈xs.take (dD s xs),z.seq<s:=by
 intro z hz;obtain⟨j,hj,rfl⟩:=oG.1 hz;have hj':j<dD s xs:=by rw[iD]at hj;omega
 obtain⟨h1,h2⟩:=EZ hj';rw[wG];exact h2
theorem PG{xs:List zD}{s:Int}(hl:tI xs=true)(hh:lT s xs=false):∀z∈xs.drop (dD s xs),s<z.seq:=by
 intro z hz;obtain⟨j,hj,rfl⟩:=oG.1 hz;rw[rF]at hj;rw[List.getElem_drop];have h1:dD s xs<xs.length:=by omega
 have h2:=GQ (s:=s) h1;have h3:xs[dD s xs].seq≠s:=by
  intro e;have:=UE hl h1 e;rw[hh]at this;cases this
 rcases cJ j with rfl|hj0;·simp only[Nat.add_zero];omega
 ·have:=NV hl (i:=dD s xs) (j:=dD s xs+j) (by omega) (by omega);omega
theorem AJ{xs:List zD}{x:zD}(hl:tI xs=true)(hx:nH x=true)(hh:lT x.seq xs=false):tI (sH xs x)=true:=by
 obtain⟨h1,h2⟩:=iW.1 hl;refine iW.2 ⟨λz hz=>?_,?_⟩
 ·rcases D7.1 hz with rfl|hz;·exact hx
  ·exact h1 z hz
 ·unfold sH;rw[gE,uJ];refine⟨h2.sublist (List.take_sublist _ _),?_,?_⟩;·rw[List.singleton_append,bJ];exact⟨PG hl hh,h2.sublist (List.drop_sublist _ _)⟩
  ·intro a ha b hb;have h3:=O_ a ha;rcases oC.1 hb with hb|hb;·simp at hb;subst hb;exact h3
   ·have:=PG hl hh b hb;omega
theorem V8{xs:List zD}{s:Int}(hl:tI xs=true):lT s xs=true↔∃z∈xs,z.seq=s:=by
 constructor;·intro h;unfold lT at h;cases he:xs[dD s xs]? with
  |none=>rw[he]at h;simp at h
  |some z=>rw[he]at h;exact⟨z,cS he,by simpa using h⟩
 ·rintro⟨z,hz,hs⟩;obtain⟨j,hj,rfl⟩:=oG.1 hz;exact UE hl hj hs
open Go.RowKit Go.Maps
def oF(s:yC)(q:Nat):List zD:=s.yA.getD q []
def fL(p:lD)(q:Nat):kL:=p.jB.getD q ⟨⟨#[]⟩,0,0⟩
structure mH(p:lD)(s:yC)(n:Int):Prop where
 pl:iF p=0
 tk:s.nA.length<=4
 len:s.yA.length=p.jB.length
 line:∀l∈s.yA,tI l=true
 tok:∀t∈s.nA,sM p.jB.length t=true
 xB:oK s.nA s.fA (-1) s.xB=true
 ns:0<=s.gA/\s.gA<=1048576
 nt:0<=s.fA/\s.fA<=1048576
 ak:0<=s.uA
 dr:0<=s.iA
 nodup:(kI s).Nodup
 lt:∀z∈kI s,z<s.gA
 room:∀q,q<s.yA.length->((oF s q).length:Int)<=(fL p q).yD
 hold:∀k,k<s.nA.length->(xE s k:Int)<=(s.nA.getD k ⟨0,0⟩).nD
 sum:s.nB=(kI s).length+n+s.uA+s.iA
 cs:s.nB=s.gA
theorem nN{p:lD}{s:yC}(h:zG p s=0):mH p s 0:=by
 obtain⟨g1,g2,g3,g4,g5,g6,g7,g8,g9,g10⟩:=pn_ h;unfold yO at g3;simp only[aC,mC,qD]at g3;unfold lS eP at g6;simp only[aC,mC]at g6;unfold oS at g7;simp only[aC,mC,qD]at g7;unfold pS at g10;simp only[aC,mC]at g10;refine⟨g1,g2,g3.1,g3.2,qD.1 g4,g5,g6.1.1.1.1,g6.1.1.1.2,g6.1.2.1,g6.2.1,g7.1,g7.2,λq hq=>?_,λk hk=>?_,by omega,g10.2⟩;·have:=qD.1 g8 q (fG.2 hq);rw[mC]at this;exact this
 ·have:=qD.1 g9 k (fG.2 hk);rw[mC]at this;exact this
theorem mH.ok{p:lD}{s:yC}(h:mH p s 0):zG p s=0:=by
 have hcnt:lS s=true:=by
  unfold lS eP;simp only[aC,mC];have h1:=h.ns;have h2:=h.nt;have h3:=h.ak;have h4:=h.dr;have h5:=h.sum;have h6:=h.cs;refine⟨⟨⟨⟨h1,h2⟩,?_⟩,?_⟩,?_⟩<;>omega
 have hf:uR p s=true:=by
  unfold uR;simp only[aC];refine⟨⟨⟨⟨?_,?_⟩,h.xB⟩,hcnt⟩,?_⟩;·unfold yO;simp only[aC,mC,qD];exact⟨h.len,h.line⟩
  ·exact qD.2 h.tok
  ·unfold oS;simp only[aC,mC,qD];exact⟨h.nodup,h.lt⟩
 have h1:dT p s=true:=qD.2 (λq hq=>eC (h.room q (fG.1 hq)));have h2:eT s=true:=qD.2 (λk hk=>eC (h.hold k (fG.1 hk)));have h3:pS s=true:=by
  unfold pS;simp only[aC,mC];exact⟨by have:=h.sum;omega,h.cs⟩
 unfold zG;rw[kA (by simp[h.pl]),kA (by have:=h.tk;omega),hf,h1,h2,h3];rfl
theorem mH.rp{p:lD}{s:yC}{n:Int}(h:mH p s n):nP p:=gS h.pl
theorem RF{α:Type}{xs:List α}{q:Nat}(h:q<xs.length)(y:α):xs=xs.take q++xs[q]::xs.drop (q+1)/\xs.set q y=xs.take q++y::xs.drop (q+1):=by
 refine⟨?_,List.set_eq_take_append_cons_drop.trans (qA h)⟩;conv=>lhs;rw[<-gF q xs]
 rw[vC h]
theorem KS{β:Type}(f:List zD->List β){xs:List (List zD)}{q:Nat}(h:q<xs.length)(y:List zD):∃A B,xs.flatMap f=A++f xs[q]++B/\(xs.set q y).flatMap f=A++f y++B:=by
 obtain⟨h1,h2⟩:=RF h y;refine⟨(xs.take q).flatMap f,(xs.drop (q+1)).flatMap f,?_,?_⟩;·have e:=congrArg (List.flatMap f) h1;rw[zF,mF,<-gE]at e;exact e
 ·rw[h2,zF,mF,<-gE]
theorem rU{s:yC}{q:Nat}(h:q<s.yA.length):oF s q=s.yA[q]:=by unfold oF;rw[tB,tA h];rfl
theorem cV{s:yC}{q:Nat}(h:q<s.yA.length):oF s q∈s.yA:=by rw[rU h];exact qB h
theorem A2(s:yC){q:Nat}(h:q<s.yA.length)(y:List zD):∃A B,kI s=A++(oF s q).map zD.seq++B/\kI {s with yA:=s.yA.set q y}=A++y.map zD.seq++B:=by
 obtain⟨A,B,h1,h2⟩:=KS (λl=>l.map zD.seq) h y;refine⟨A,B++s.xB.map (λo=>o.item.seq),?_,?_⟩;·unfold kI;rw[h1,rU h];simp
 ·unfold kI;simp only;rw[h2];simp
theorem ON{s:yC}{q r:Nat}(h:q<s.yA.length)(y:List zD)(d:Int):oF {s with yA:=s.yA.set q y,iA:=d} r=if r=q then y else oF s r:=by
 unfold oF;simp only;rw[tB,rE,tB];by_cases e:q=r;·subst e;rw[qA rfl,qA h,qA rfl];rfl
 ·rw[kA e,kA (λh=>e h.symm)]
theorem sY{x:zD}(h:nH x=true):0<=x.seq/\x.seq<1048576/\kG x.key.data.toList=0/\x.body.size<=12/\0<=x.fC/\x.fC<=2:=by
 unfold nH bV at h;simp at h;omega
theorem JR{x:zD}(h1:0<=x.seq)(h2:x.seq<1048576)(h3:kG x.key.data.toList=0)(h4:x.body.size<=12)(h5:0<=x.fC)(h6:x.fC<=2):nH x=true:=by
 unfold nH bV;simp;omega
theorem iZ{p:lD}{q:Nat}(h:q<p.jB.length):fL p q=p.jB[q]:=by unfold fL;rw[tB,tA h];rfl
theorem mH.line6{p:lD}{s:yC}{n:Int}(h:mH p s n){l:List zD}(hl:l∈s.yA):l.length<=6:=by
 obtain⟨q,hq,rfl⟩:=oG.1 hl;have h1:=h.room q hq;rw[rU hq]at h1;have hq':q<p.jB.length:=by rw[<-h.len];exact hq
 have h2:=h.rp.jB _ (qB hq');rw[iZ hq']at h1;omega
structure LN(ts:List kH)(nt:Int)(o:eF):Prop where
 tag:o.tag<nt
 rng:0<=o.fE/\o.fE<ts.length
 tk:∃t,ts[o.fE.toNat]?=some t/\t.queue≠-1/\t.queue=o.queue
 item:nH o.item=true
theorem C4{ts:List kH}{nt l:Int}{o:eF}:aQ ts nt l o=true↔l<o.tag/\LN ts nt o:=by
 unfold aQ;simp only[aC,mC];constructor;·rintro⟨⟨⟨⟨h1,h2⟩,h3⟩,h4⟩,h5⟩;refine⟨h1,h2,cP.1 h3,?_,h5⟩;cases ht:ts[o.fE.toNat]? with
  |none=>rw[ht]at h4;cases h4
  |some t=>rw[ht]at h4;simp only[aC,mC]at h4;exact⟨t,rfl,h4.1,h4.2⟩
 ·rintro⟨h1,h2⟩;refine⟨⟨⟨⟨h1,h2.tag⟩,cP.2 h2.rng⟩,?_⟩,h2.item⟩;obtain⟨t,ht,h3,h4⟩:=h2.tk;rw[ht];simp only[aC,mC];exact⟨h3,h4⟩
theorem uY{ts:List kH}{nt:Int}:∀{xs:List eF}{l:Int},oK ts nt l xs=true↔(∀o∈xs,l<o.tag/\LN ts nt o)/\xs.Pairwise (λa b=>a.tag<b.tag)
 |[],l=>by simp[oK]
 |x::r,l=>by
   unfold oK;rw[aC,C4,uY];constructor
   ·rintro⟨h1,h2,h3⟩;refine⟨λo ho=>?_,bJ.2 ⟨λb hb=>(h2 b hb).1,h3⟩⟩;rcases vH.1 ho with rfl|ho;·exact h1
    ·have:=h2 o ho;exact⟨by have:=h1.1;omega,this.2⟩
   ·rintro⟨h1,h2⟩;obtain⟨h3,h4⟩:=bJ.1 h2;exact⟨h1 x jE,λo ho=>⟨h3 o ho,(h1 o (cF _ ho)).2⟩,h4⟩
theorem mH.fine{p:lD}{s:yC}{n:Int}(h:mH p s n){o:eF}(ho:o∈s.xB):0<=o.tag/\LN s.nA s.fA o:=by
 have:=(uY.1 h.xB).1 o ho;exact⟨by omega,this.2⟩
theorem mH.rise{p:lD}{s:yC}{n:Int}(h:mH p s n):s.xB.Pairwise (λa b=>a.tag<b.tag):=(uY.1 h.xB).2
theorem BM{nq:Nat}{t:kH}:sM nq t=true↔(t.queue=-1\/0<=t.queue/\t.queue<nq)/\1<=t.nD/\t.nD<=4:=by
 unfold sM tG;simp
theorem G_(s:yC)(o:eF)(t:Int):xE {s with xB:=s.xB++[o]} t=xE s t+if o.fE=t then 1 else 0:=by
 unfold xE;simp only;rw[yH];by_cases h:o.fE=t<;>simp[h]
def iE(ts:List kH):Nat:=ts.findIdx (λt=>decide (t.queue=-1))
def iY(nq:Nat)(s:yC)(q nD:Int):Int:=if tG q nq=false then 5 else if pJ nD 1 4=false then 3 else if iE s.nA=s.nA.length/\4<=s.nA.length then 2 else 0
def oR(p:lD)(s:yC)(q nD:Int):Int:=if zG p s≠0 then zG p s else iY p.jB.length s q nD
def tT(ts:List kH)(q nD:Int):List kH:=if iE ts<ts.length then ts.set (iE ts) ⟨q,nD⟩else ts++[⟨q,nD⟩]
def bR(s:yC)(q nD:Int):yC:={s with nA:=tT s.nA q nD}
theorem BH(ts:List kH):iE ts<=ts.length:=List.findIdx_le_length
theorem y_{ts:List kH}(h:iE ts<ts.length):ts[iE ts].queue=-1:=by
 have:=cM (w:=h) (p:=λt:kH=>decide (t.queue=-1));exact qJ this
theorem FA(ts:List kH)(q nD:Int):(tT ts q nD).length=if iE ts<ts.length then ts.length else ts.length+1:=by
 unfold tT;split<;>simp
theorem JS{ts:List kH}{q nD:Int}{i:Nat}(hi:i≠iE ts)(hl:i<ts.length):(tT ts q nD)[i]?=ts[i]?:=by
 unfold tT;split;·rw[rE,kA (λe=>hi e.symm)]
 ·rw[wE hl]
theorem QC(ts:List kH)(q nD:Int):(tT ts q nD)[iE ts]?=some ⟨q,nD⟩:=by
 unfold tT;split;·rename_i h;rw[rE,qA rfl,qA h]
 ·rename_i h;have:=BH ts;have e:iE ts=ts.length:=by omega
  rw[e,uE (eA _)];simp
theorem NW{p:lD}{s:yC}{n:Int}(h:mH p s n){o:eF}(ho:o∈s.xB):o.fE.toNat≠iE s.nA/\o.fE.toNat<s.nA.length:=by
 obtain⟨_,hf⟩:=h.fine ho;obtain⟨t,ht,h1,h2⟩:=hf.tk;have hr:=hf.rng;refine⟨λe=>?_,by omega⟩;have hl:iE s.nA<s.nA.length:=by omega
 rw[e,tA hl]at ht;have:=y_ hl;cases ht;exact h1 this
theorem XF{p:lD}{s:yC}{n:Int}(h:mH p s n):xE s (iE s.nA:Nat)=0:=by
 unfold xE;rw[kC,iQ];intro o ho e;have e':o.fE=(iE s.nA:Nat):=by simpa using e
 have:=(NW h ho).1;rw[e']at this;simp at this
theorem mH.join{p:lD}{s:yC}(h:mH p s 0){q nD:Int}(hq:tG q p.jB.length=true)(hm:pJ nD 1 4=true)(hk:¬(iE s.nA=s.nA.length/\4<=s.nA.length)):mH p (bR s q nD) 0:=by
 have hq':=cP.1 hq;have hm':1<=nD/\nD<=4:=by unfold pJ at hm;simpa using hm
 have hg:=BH s.nA;refine⟨h.pl,?_,h.len,h.line,?_,?_,h.ns,h.nt,h.ak,h.dr,h.nodup,h.lt,h.room,?_,h.sum,h.cs⟩;·show(tT s.nA q nD).length<=4;rw[FA];have:=h.tk;split<;>omega
 ·intro t ht;have ht':t∈tT s.nA q nD:=ht;obtain⟨i,hi,rfl⟩:=oG.1 ht';by_cases e:i=iE s.nA;·have:=QC s.nA q nD;rw[<-e,tA hi]at this;rw[yG this];exact BM.2 ⟨.inr hq',hm'⟩
  ·have hl:i<s.nA.length:=by
    rw[FA]at hi;split at hi<;>omega
   have:=JS (q:=q) (nD:=nD) e hl;rw[tA hi,tA hl]at this;rw[yG this];exact h.tok _ (qB hl)
 ·refine uY.2 ⟨λo ho=>?_,h.rise⟩;obtain⟨h1,h2⟩:=h.fine ho;obtain⟨g1,g2⟩:=NW h ho;refine⟨by omega,h2.tag,?_,?_,h2.item⟩;·have:=h2.rng;show 0<=o.fE/\o.fE<((tT s.nA q nD).length:Nat);rw[FA];split<;>omega
  ·show∃t,(tT s.nA q nD)[o.fE.toNat]?=some t/\_;rw[JS g1 g2];exact h2.tk
 ·intro k hk';show(xE s k:Int)<=((tT s.nA q nD).getD k ⟨0,0⟩).nD;rw[tB];by_cases e:k=iE s.nA;·subst e;rw[QC,XF h];simp;omega
  ·have hl:k<s.nA.length:=by
    have hk2:k<(tT s.nA q nD).length:=hk';rw[FA]at hk2;split at hk2<;>omega
   rw[JS e hl];have:=h.hold k hl;rw[tB]at this;exact this
def bU(s:yC)(k:Nat):kH:=s.nA.getD k ⟨0,0⟩
def zP(s:yC)(q:Int)(k:Nat):Bool:=decide ((bU s k).queue=q)&&decide ((xE s k:Int)<(bU s k).nD)
def zJ(s:yC)(q:Int):Nat->Int×Int
 |0=>(-1,4)
 |k+1=>if zP s q k=true/\(xE s k:Int)<(zJ s q k).2 then((k:Int),(xE s k:Int))else zJ s q k
def nO(s:yC)(q:Int):Int:=(zJ s q s.nA.length).1
def fR(p:lD)(s:yC)(q:Int):Int:=
 if zG p s≠0 then zG p s else if tG q p.jB.length=false then 5 else if oF s q.toNat=[]then 8 else if nO s q=-1 then 9 else 0
structure jP(s:yC)(q:Int)(n k:Nat):Prop where
 lt:k<n
 free:zP s q k=true
 few:xE s k<4
 least:∀j,j<n->zP s q j=true->xE s k<=xE s j
 first:∀j,j<k->zP s q j=true->xE s k<xE s j
theorem MO(s:yC)(q:Int):∀n,(zJ s q n=(-1,4)/\∀j,j<n->zP s q j=true->4<=xE s j)\/∃k:Nat,zJ s q n=((k:Int),(xE s k:Int))/\jP s q n k
 |0=>.inl ⟨rfl,λj hj=>by omega⟩
 |n+1=>by
   rcases MO s q n with⟨h1,h2⟩|⟨k,h1,h2⟩
   ·unfold zJ;rw[h1];split;·rename_i hc;have hc2:(xE s n:Int)<4:=hc.2;exact .inr ⟨n,rfl,by omega,hc.1,by omega,λj hj hf=>by
      by_cases e:j=n;·subst e;omega
      ·have:=h2 j (by omega) hf;omega,λj hj hf=>by have:=h2 j hj hf;omega⟩
    ·rename_i hc;exact .inl ⟨rfl,λj hj hf=>by
      by_cases e:j=n
      ·subst e;apply yF;intro hlt;exact hc ⟨hf,by show(xE s j:Int)<4;omega⟩
      ·exact h2 j (by omega) hf⟩
   ·unfold zJ;rw[h1];split;·rename_i hc;have hc2:(xE s n:Int)<(xE s k:Int):=hc.2;have:=h2.few;exact .inr ⟨n,rfl,by omega,hc.1,by omega,λj hj hf=>by
      by_cases e:j=n;·subst e;omega
      ·have:=h2.least j (by omega) hf;omega,λj hj hf=>by have:=h2.least j hj hf;omega⟩
    ·rename_i hc;exact .inr ⟨k,rfl,by have:=h2.lt;omega,h2.free,h2.few,λj hj hf=>by
      by_cases e:j=n;·subst e;apply yF;intro hlt;exact hc ⟨hf,by show(xE s j:Int)<(xE s k:Int);omega⟩
      ·exact h2.least j (by omega) hf,h2.first⟩
theorem mH.few{p:lD}{s:yC}{n:Int}(h:mH p s n){q:Int}{j:Nat}(hj:j<s.nA.length)(hf:zP s q j=true):xE s j<4:=by
 unfold zP bU at hf;simp only[aC,mC]at hf;rw[tB,tA hj]at hf;have:=(BM.1 (h.tok _ (qB hj))).2;have h2:=hf.2;simp only[Option.getD_some]at h2;omega
theorem LX{p:lD}{s:yC}{n:Int}(h:mH p s n)(q:Int):(nO s q=-1/\∀j,j<s.nA.length->zP s q j=false)\/∃k:Nat,nO s q=k/\jP s q s.nA.length k:=by
 rcases MO s q s.nA.length with⟨h1,h2⟩|⟨k,h1,h2⟩;·refine .inl ⟨by unfold nO;rw[h1],λj hj=>?_⟩;rw[mI];intro hf;have:=h.few hj hf;have:=h2 j hj hf;omega
 ·exact .inr ⟨k,by unfold nO;rw[h1],h2⟩
theorem jP.uniq{s:yC}{q:Int}{n k j:Nat}(h:jP s q n k)(g:jP s q n j):k=j:=by
 rcases Nat.lt_trichotomy k j with e|e|e;·have:=g.first k e h.free;have:=h.least j g.lt g.free;omega
 ·exact e
 ·have:=h.first j e g.free;have:=g.least k h.lt h.free;omega
def mK(p:lD)(s:yC)(q:Int):Int:=if fR p s q≠0 then fR p s q else if s.fA=1048576 then 2 else 0
def DL:zD:=⟨0,⟨#[]⟩,⟨#[]⟩,false,0⟩
def oL(s:yC)(q:Int):eF:=⟨s.fA,nO s q,q,(oF s q.toNat).headD DL⟩
def lJ(s:yC)(q:Int):yC:={s with yA:=s.yA.set q.toNat (oF s q.toNat).tail,xB:=s.xB++[oL s q],fA:=s.fA+1}
structure gL(p:lD)(s:yC)(q:Int)(k:Nat)(x:zD)(r:List zD):Prop where
 right:mH p s 0
 q0:0<=q
 ql:q.toNat<s.yA.length
 line:oF s q.toNat=x::r
 key:nO s q=k
 least:jP s q s.nA.length k
 tag:s.fA<1048576
theorem JU{p:lD}{s:yC}{q:Int}(h:fR p s q=0):mH p s 0/\0<=q/\q<p.jB.length/\(∃x r,oF s q.toNat=x::r)/\∃k:Nat,nO s q=k/\jP s q s.nA.length k:=by
 unfold fR at h;by_cases h1:zG p s=0
 ·rw[kA (by simp[h1])]at h;by_cases h2:tG q p.jB.length=false;·rw[qA h2]at h;cases h
  ·rw[kA h2]at h;by_cases h3:oF s q.toNat=[];·rw[qA h3]at h;cases h
   ·rw[kA h3]at h;by_cases h4:nO s q=-1;·rw[qA h4]at h;cases h
    ·have hr:=nN h1;have hq:=cP.1 (by simpa using h2);refine⟨hr,hq.1,hq.2,?_,?_⟩;·cases hl:oF s q.toNat with
      |nil=>exact absurd hl h3
      |cons x r=>exact⟨x,r,rfl⟩
     ·rcases LX hr q with⟨e,_⟩|hk;·exact absurd e h4
      ·exact hk
 ·rw[qA h1]at h;exact absurd h h1
theorem SG{p:lD}{s:yC}{q:Int}(h:mK p s q=0):∃k x r,gL p s q k x r:=by
 unfold mK at h;by_cases h1:fR p s q=0
 ·rw[kA (by simp[h1])]at h;by_cases h2:s.fA=1048576;·rw[qA h2]at h;cases h
  ·obtain⟨hr,q0,q1,⟨x,r,hl⟩,k,hk,hL⟩:=JU h1;have:=hr.nt;exact⟨k,x,r,hr,q0,by rw[hr.len];omega,hl,hk,hL,by omega⟩
 ·rw[qA h1]at h;exact absurd h h1
theorem gL.out{p:lD}{s:yC}{q:Int}{k:Nat}{x:zD}{r:List zD}(h:gL p s q k x r):oL s q=⟨s.fA,(k:Int),q,x⟩:=by
 unfold oL;rw[h.key,h.line];rfl
theorem Y9{p:lD}{s:yC}{q:Int}{k:Nat}{x:zD}{r:List zD}(h:gL p s q k x r):(kI (lJ s q)).Perm (kI s):=by
 obtain⟨A,B,h1,h2⟩:=KS (λl=>l.map zD.seq) h.ql r;have e:s.yA[q.toNat]'h.ql=x::r:=by rw[<-rU h.ql];exact h.line
 have e1:kI s=A++(x.seq::(r.map zD.seq++(B++s.xB.map λo=>o.item.seq))):=by
  unfold kI;rw[h1,e];simp only[fH,gE,List.cons_append]
 have e2:kI (lJ s q)=A++(r.map zD.seq++(B++s.xB.map λo=>o.item.seq))++[x.seq]:=by
  have:kI (lJ s q)=((s.yA.set q.toNat (oF s q.toNat).tail).flatMap λl=>l.map zD.seq)++(s.xB++[oL s q]).map λo=>o.item.seq:=rfl;rw[this,h.line,List.tail_cons,h2,h.out,oD];simp only[fH,fN,gE]
 rw[e1,e2];refine List.perm_append_comm.trans ?_;rw[List.singleton_append];exact List.perm_middle.symm
theorem gL.done{p:lD}{s:yC}{q:Int}{k:Nat}{x:zD}{r:List zD}(h:gL p s q k x r):mH p (lJ s q) 0:=by
 have hR:=h.right;have hp:=Y9 h;have hlx:=hR.line _ (cV h.ql);rw[h.line]at hlx;obtain⟨l1,l2⟩:=iW.1 hlx;have hfree:=h.least.free;unfold zP at hfree;simp only[aC,mC]at hfree;have htk:s.nA[k]?=some (bU s k):=by unfold bU;rw[tB,tA h.least.lt];rfl
 have hkl:=h.least.lt;refine⟨hR.pl,hR.tk,by simpa[lJ]using hR.len,?_,hR.tok,?_,hR.ns,?_,hR.ak,hR.dr,hp.nodup_iff.2 hR.nodup,λz hz=>hR.lt z (hp.mem_iff.1 hz),?_,?_,?_,hR.cs⟩
 ·intro l hl;rcases List.mem_or_eq_of_mem_set hl with h'|h';·exact hR.line l h'
  ·rw[h',h.line,List.tail_cons];exact iW.2 ⟨λz hz=>l1 z (cF _ hz),(bJ.1 l2).2⟩
 ·show oK s.nA (s.fA+1) (-1) (s.xB++[oL s q])=true;rw[h.out];refine uY.2 ⟨λo ho=>?_,?_⟩
  ·rcases oC.1 ho with ho|ho;·obtain⟨g1,g2⟩:=hR.fine ho;exact⟨by omega,by have:=g2.tag;omega,g2.rng,g2.tk,g2.item⟩
   ·rw[tC.1 ho];refine⟨by have:=hR.nt;simp only;omega,by simp only;omega,by simp only;omega,⟨bU s k,by simp only[Int.toNat_natCast];exact htk,by rw[hfree.1];have:=h.q0;omega,hfree.1⟩,l1 x jE⟩
  ·rw[uJ];exact⟨hR.rise,by simp,λa ha b hb=>by rw[tC.1 hb];exact(hR.fine ha).2.tag⟩
 ·show 0<=s.fA+1/\s.fA+1<=1048576;have:=hR.nt;have:=h.tag;omega
 ·intro j hj;have hj':j<s.yA.length:=by simpa[lJ]using hj
  have:oF (lJ s q) j=if j=q.toNat then(oF s q.toNat).tail else oF s j:=ON (s:=s) h.ql (oF s q.toNat).tail 0;rw[this];split;·rename_i e;subst e;have:=hR.room q.toNat hj';rw[List.length_tail];omega
  ·exact hR.room j hj'
 ·intro j hj;show(xE {s with xB:=s.xB++[oL s q]} j:Int)<=(s.nA.getD j ⟨0,0⟩).nD;rw[G_,h.out];by_cases e:k=j;·subst e;have:=hfree.2;unfold bU at this;simp only[if_true];omega
  ·rw[kA (by simp only;omega)];exact hR.hold j hj
 ·show s.nB=_;have:=hR.sum;rw[hp.length_eq];exact this
def qL(p:lD)(J:List Nat):List Int:=(J.filter (λn=>!(oH p n).xF)).map (λn=>(oH p n).dst)
theorem E9{p:lD}{J:List Nat}{n:Nat}(h:(oH p n).xF=false):qL p (J++[n])=qL p J++[(oH p n).dst]:=by unfold qL;rw[yH];simp[h]
theorem E8{p:lD}{J:List Nat}{n:Nat}(h:(oH p n).xF=true):qL p (J++[n])=qL p J:=by unfold qL;rw[yH];simp[h]
theorem VB(p:lD)(J:List Nat):(qL p J).length<=J.length:=by unfold qL;rw[dE];exact sL _ _
def wO(p:lD)(key:ByteArray)(L:pE):List Nat:=L.flatMap (λx=>yQ p key (x.1:Nat))
theorem PI{p:lD}{key:ByteArray}{v:Int}{n:Nat}:n∈yQ p key v↔n<p.qC.length/\(oH p n).src=v/\nI p n key=true:=by
 unfold yQ mO rT;simp
theorem IK{p:lD}{key:ByteArray}{L:pE}{n:Nat}:n∈wO p key L↔∃x∈L,n<p.qC.length/\(oH p n).src=(x.1:Nat)/\nI p n key=true:=by
 unfold wO;simp[PI]
theorem MT{p:lD}{key:ByteArray}:∀{L:pE},(L.map Prod.fst).Nodup->(wO p key L).Nodup
 |[],_=>by simp[wO]
 |x::r,h=>by
   rw[fH,gJ]at h;have e:wO p key (x::r)=yQ p key (x.1:Nat)++wO p key r:=by simp[wO]
   rw[e,uO];refine⟨?_,MT h.2,λa ha b hb hab=>?_⟩;·unfold yQ mO;exact List.Pairwise.filter _ List.nodup_range
   ·subst hab;obtain⟨_,h1,_⟩:=PI.1 ha;obtain⟨y,hy,_,h2,_⟩:=IK.1 hb;exact h.1 (jD.2 ⟨y,hy,by omega⟩)
theorem OI{p:lD}{key:ByteArray}{L:pE}(h:(L.map Prod.fst).Nodup):(wO p key L).length<=p.qC.length:=
 GA _ _ (MT h) (λn hn=>by obtain⟨_,_,h1,_⟩:=IK.1 hn;exact h1)
theorem WZ{p:lD}{key:ByteArray}{L:pE}{i:Nat}(h:i<L.length):wO p key (L.take (i+1))=wO p key (L.take i)++yQ p key (L[i].1:Nat):=by
 unfold wO;rw[rA h,zF];simp
structure dX(p:lD)(key:ByteArray)(v:Nat)(zs:List Int):Prop where
 rise:zs.Pairwise (·<·)
 mem:∀z,z∈zs↔∃n,n<p.qC.length/\nI p n key=true/\(oH p n).xF=false/\(oH p n).dst=z/\∃s,eK (zL p key) v s (oH p n).src.toNat
theorem dX.uniq{p:lD}{key:ByteArray}{v:Nat}{xs ys:List Int}(hx:dX p key v xs)(hy:dX p key v ys):xs=ys:=
 A9 hx.rise hy.rise (λz=>by rw[hx.mem,hy.mem])
theorem QY{p:lD}{key:ByteArray}(hr:nP p){v:Nat}{L:pE}{i:Nat}(h:aH (zL p key) p.qC.length v L i)(hi:¬i<L.length){ys:List Int}(hs:ys.Pairwise (·<·))(hm:∀z,z∈ys↔z∈qL p (wO p key L)):dX p key v ys:=by
 have hf:=h.found kZ hi;refine⟨hs,λz=>?_⟩;rw[hm];unfold qL;simp only[jD,List.mem_filter,IK,Bool.not_eq_true'];constructor;·rintro⟨n,⟨⟨x,hx,h1,h2,h3⟩,h4⟩,h5⟩;refine⟨n,h1,h3,h4,h5,hf.mem.1 ?_⟩;rw[h2,Int.toNat_natCast];exact jD.2 ⟨x,hx,rfl⟩
 ·rintro⟨n,h1,h3,h4,h5,h6⟩;obtain⟨x,hx,h7⟩:=jD.1 (hf.mem.2 h6);have hs:0<=(oH p n).src:=by rw[jX h1];exact(hr.src _ (qB h1)).1
  exact⟨n,⟨⟨x,hx,h1,by omega,h3⟩,h4⟩,h5⟩
structure kP(w4:World)(b2:Nat)(u:Value)(l:List Int)(Ds:List Nat)(W:World):Prop where
 sA:aF (λk=>k=b2) w4 W
 lbox:Boxed W b2 77 u
 row:W.ownsRow w4.heap.size 3 1 u l.length (l.map (Value.int .i64))
 marks:pM w4.heap.size Ds W
theorem kP.rowAt{w4:World}{b2:Nat}{u:Value}{l:List Int}{Ds:List Nat}{W:World}(h:kP w4 b2 u l Ds W){g:Nat}(hg:u.ownBlock=some g):w4.heap.size<=g/\(∃cur,W.heap[g]?=some (.cells cur 3 (0,0))):=by
 rcases h.row.2 with⟨rfl,_⟩|⟨g',cap,cur,rfl,h2,h3,_⟩;·simp[Value.ownBlock]at hg
 ·simp only[Value.ownBlock,oJ]at hg;subst hg;exact⟨h2,cur,h3⟩
theorem kP.row_ne{w4:World}{b2:Nat}{u:Value}{l:List Int}{Ds:List Nat}{W:World}(h:kP w4 b2 u l Ds W){g:Nat}(hg:u.ownBlock=some g):g≠b2/\g∉Ds:=by
 obtain⟨h1,cur,h2⟩:=h.rowAt hg;refine⟨λe=>?_,λe=>?_⟩;·have:=h.lbox;unfold Boxed at this;rw[<-e,h2]at this;simp at this
 ·have:=(h.marks.there g e).2;rw[h2]at this;simp at this
theorem kP.mark_ne{w4:World}{b2:Nat}{u:Value}{l:List Int}{Ds:List Nat}{W:World}(h:kP w4 b2 u l Ds W){D:Nat}(hD:D∈Ds):D≠b2:=λe=>by
 have h2:=(h.marks.there D hD).2;have:=h.lbox;unfold Boxed at this;rw[<-e,h2]at this;simp at this
theorem kP.bF{w4:World}{b2:Nat}{u:Value}{l:List Int}{Ds:List Nat}{W W':World}{X:Nat->Prop}(h:kP w4 b2 u l Ds W)(t:aF X W W')(hx:∀k,k<w4.heap.size->¬X k)(h2:¬X b2)
 (hg:∀g,u.ownBlock=some g->¬X g)(hD:∀D∈Ds,¬X D):kP w4 b2 u l Ds W':=
 ⟨h.sA.trans t (λi hi e=>absurd e (hx i hi)),t.boxed h.lbox h2,t.row h.row hg,h.marks.bF t hD⟩
theorem kP.below{w4:World}{b2:Nat}{u:Value}{l:List Int}{Ds:List Nat}{W W':World}(h:kP w4 b2 u l Ds W)(hB:Below W.heap.size W W'):kP w4 b2 u l Ds W':=
 h.bF (X:=λ_=>False) (aF.kB _ hB) (λ_ _=>id) id (λ_ _=>id) (λ_ _=>id)
theorem kP.other{w4:World}{b2:Nat}{u:Value}{l:List Int}{Ds:List Nat}{W W':World}{row:Option Nat}{S:Nat}(h:kP w4 b2 u l Ds W)(hg:W.grownBy W' row)(hr:∀r,row=some r->S<=r/\∃o:Obj,W.heap[r]?=some o/\o.isCells=false)
 (hS:w4.heap.size<=S)(hb:b2<S)(hDs:∀D∈Ds,D<S):kP w4 b2 u l Ds W':=by
 refine h.bF (X:=λk=>row=some k) (aF.of_grown hg (λr e=>e)) (λk hk e=>by have:=(hr k e).1;omega) (λe=>by have:=(hr _ e).1;omega) (λg hg' e=>?_) (λD hD e=>by have:=(hr _ e).1;have:=hDs D hD;omega);obtain⟨_,cur,h2⟩:=h.rowAt hg';obtain⟨_,o,h3,h4⟩:=hr g e;rw[h2]at h3;cases h3;cases h4
theorem kP.push{w4:World}{b2:Nat}{u u':Value}{l:List Int}{Ds:List Nat}{W Wc:World}{z:Int}{tmp:Obj}(h:kP w4 b2 u l Ds W)(hb:b2<w4.heap.size)
 (hc:(W.alloc tmp).grownBy Wc u.ownBlock)(hr:Wc.ownsRow w4.heap.size 3 1 u' (l.length+1) (l.map (Value.int .i64)++[.int .i64 z])):
 Boxed Wc b2 77 u/\kP w4 b2 u' (l++[z]) Ds (Wc.setCell ⟨b2,0,none⟩ u')/\aF (λk=>k=b2\/u.ownBlock=some k) W (Wc.setCell ⟨b2,0,none⟩ u'):=by
 have t2:aF (λ_=>False) W (W.alloc tmp):=aF.of_grown (fK W tmp none) (λr e=>by cases e);have t3:aF (λk=>u.ownBlock=some k) (W.alloc tmp) Wc:=aF.of_grown hc (λr e=>e);have t4:aF (λk=>k=b2) Wc (Wc.setCell ⟨b2,0,none⟩ u'):=aF.of_grown (cQ Wc _ u') (λr e=>by cases e;rfl);have t23:aF (λk=>u.ownBlock=some k) W Wc:=(t2.mono (λ_ _ e=>e.elim)).trans t3 (λ_ _ e=>e);have t:aF (λk=>k=b2\/u.ownBlock=some k) W (Wc.setCell ⟨b2,0,none⟩ u'):=(t23.mono (λ_ _ e=>.inr e)).trans t4 (λ_ _ e=>.inl e);have hlb:Boxed Wc b2 77 u:=t23.boxed h.lbox (λe=>(h.row_ne e).1 rfl);have hu':∀g,u'.ownBlock=some g->g≠b2:=λg hg e=>by have:=(hr.lt g hg).1;omega
 refine⟨hlb,⟨h.sA.trans t (λi hi e=>?_),hlb.set u',?_,h.marks.bF t (λD hD e=>?_)⟩,t⟩
 ·rcases e with e|e;·exact e
  ·have:=(h.rowAt e).1;omega
 ·have:=t4.row hr (λg hg=>hu' g hg);simpa using this
 ·rcases e with e|e;·exact h.mark_ne hD e
  ·exact(h.row_ne e).2 hD
theorem kP.keepF{w4:World}{n0 b2 B:Nat}{u:Value}{l:List Int}{Ds:List Nat}{W W':World}(h:kP w4 b2 u l Ds W)(t:aF (λk=>k=b2\/u.ownBlock=some k) W W')
 (hn:n0<=b2)(hw:n0<=w4.heap.size)(hb:b2<w4.heap.size)(hB:w4.heap.size<=B)(hW:B+3<=W.heap.size)(hg:∀g,u.ownBlock=some g->g<B\/B+3<=g):xP n0 B W W':=by
 refine⟨t.below (by omega) (λk e=>?_),λj hj=>t.block _ (by omega) (λe=>?_)⟩
 ·rcases e with rfl|e;·exact hn
  ·have:=(h.rowAt e).1;omega
 ·rcases e with e|e;·omega
  ·have:=hg _ e;omega
theorem kP.keepsFrom{w4:World}{b2 S:Nat}{u:Value}{l:List Int}{Ds:List Nat}{W W':World}(h:kP w4 b2 u l Ds W)(t:aF (λk=>k=b2\/u.ownBlock=some k) W W')(hS:b2<S):KeepsFrom S W W':=by
 refine⟨t.size,λk o hk ho hc=>(t.block k (iC.1 ho).1 (λe=>?_)).trans ho⟩;rcases e with e|e;·omega
 ·obtain⟨_,cur,h2⟩:=h.rowAt e;rw[h2]at ho;cases ho;cases hc
open Go.Shelf
attribute[local go_sem]qH
theorem F0(p:lD)(a1 a2 a3:Option Addr)(n1 c1 n2 c2 n3 c3:Nat)(v:Nat)(key:ByteArray)(w:World)(hc:iF p=0)(hk:kG key.data.toList=0)(hv:v<n1)(hp:sG w a1 a2 a3 n1 n2 n3 p):
 CallsIn Fence.wide 8 Tryz.prog 130 #[.agg #[.slice a1 n1 c1,.slice a2 n2 c2,.slice a3 n3 c3],.int .i64 (v:Nat),.string key] w λe w'=>∃zs a c,e=.returned (.tuple #[.slice a zs.length c,.int .i64 0])/\dX p key v zs/\zs.length<=12/\zS w' a zs/\Below w.heap.size w w':=by
 have hr:=gS hc;have h4:n1<=4:=by have:=hr.few.1;rw[hp.l1]at this;exact this
 have HRE:Hid (fO p (v:Nat) key=0):=by
  show fO p (v:Nat) key=0;unfold fO;rw[qA hc,qA (cP.2 ⟨by omega,by rw[hp.l1];omega⟩),hk]
 have HR:Hid (∀(L:pE)(i:Nat),aH (zL p key) p.qC.length v L i->(∀x∈L,x.1<n1)/\L.length<=n1/\i<=L.length):=λL i h=>by
  have:=ER hr (by rw[hp.l1];exact hv) h;rw[hp.l1]at this;exact this
 have HRP:Hid (nP p):=hr;have HP:Hid (sG w a1 a2 a3 n1 n2 n3 p):=hp;have HCK:Hid (iF p=0/\kG key.data.toList=0):=⟨hc,hk⟩;obtain⟨W1,hW1,hBw,hs1,hbx⟩:=AC w (.slice a1 n1 c1) (.slice a2 n2 c2) (.slice a3 n3 c3) 26;have HW1:Hid (W1=_):=hW1;have hpb1:W1.heap[w.heap.size]?=some (.cells #[.slice a1 n1 c1,.slice a2 n2 c2,.slice a3 n3 c3] 26 (0,0)):=by rw[hW1];exact jA w _
 have HP1:Hid (sG W1 a1 a2 a3 n1 n2 n3 p):=hp.sA hBw;have BX:Hid (∀W,Below W1.heap.size W1 W->W.cell? ⟨w.heap.size,0,none⟩=some (.slice a1 n1 c1)/\W.cell? ⟨w.heap.size,1,none⟩=some (.slice a2 n2 c2)/\W.cell? ⟨w.heap.size,2,none⟩=some (.slice a3 n3 c3)):=hbx;have s1:=hBw.size;clear hW1 hp hbx hc hk hr;refine rI Tryz.func130 rfl trivial (Go.wpIn_mono ?_ PD) rfl;simp only[Tryz.ntmps130,dG,List.length_cons,List.length_nil,Nat.reduceAdd,Nat.reduceSub,nF,Array.replicate_zero,cG,sF,List.nil_append,List.cons_append];gi_wp2_with fail;refine⟨trivial,?_⟩;rw[<-HW1.out];refine(tE.2 (OF p _ _ _ _ _ _ _ _ _ _ _ _ HP1.out)).mono ?_;rintro e w2⟨rfl,hB2⟩;rw[HRE.out];have s2:=hB2.size;obtain⟨d0,d1,d2⟩:=BX.out w2 hB2;obtain⟨W3,hW3⟩:∃W3,W3=w2.alloc (.cells #[.slice none 0 0] 77):=⟨_,rfl⟩;have HW3:Hid (W3=_):=hW3;have hlb3:Boxed W3 w2.heap.size 77 (.slice none 0 0):=by rw[hW3];exact uS w2 _ _
 have hB3:Below w2.heap.size w2 W3:=by rw[hW3];exact(dA _ _).alloc (eA _) _
 have hs3:w2.heap.size+1<=W3.heap.size:=by rw[hW3];simp
 have hB13:Below W1.heap.size W1 W3:=hB2.trans (hB3.mono s2);clear hW3;have hww:w.heap.size<w2.heap.size:=by omega
 gi_wp2_with fail;refine⟨trivial,?_⟩;rw[<-HW3.out];clear d0 d1 d2;refine(M3 p _ _ _ _ _ _ _ _ _ v key W3 HCK.out.1 HCK.out.2 hv (HP1.out.sA hB13)).more (by omega)|>.mono ?_;rintro e w4⟨up,bm,L,iL,rfl,hre,hiL,hrow,_,_,hB4⟩;have hne:fV L≠[]:=λe=>by
  have:=((hre.nB kZ).1).first;have h0:L=[]:=by unfold fV at e;exact List.map_eq_nil_iff.1 e
  rw[h0]at this;simp at this
 rw[Y2]at hrow;obtain⟨gp,cp,rfl,hgb,hgc,hgm,hir⟩:=LD hrow hne;have hll:(fV L).length=L.length:=by unfold fV;rw[dE]
 have HLL:Hid ((fV L).length=L.length):=hll;have s4:=hB4.size;have hB14:Below W1.heap.size W1 w4:=hB13.trans (hB4.mono hB13.size);have hst:kP w4 w2.heap.size (.slice none 0 0) (qL p (wO p key (L.take 0))) [] w4:=⟨aF.refl _ _,(hB4.block _ (by omega)).trans hlb3,jC _ _ _ _,⟨dS,λD hD=>by simp at hD⟩⟩;have hpb4:w4.heap[w.heap.size]?=some (.cells #[.slice a1 n1 c1,.slice a2 n2 c2,.slice a3 n3 c3] 26 (0,0)):=(hB14.block _ (by omega)).trans hpb1;have hB04:Below w.heap.size w w4:=hBw.trans (hB14.mono s1);have HK:=xI (And.intro hpb4 (And.intro hir hB04));have hgp:=hir.lt;have hLn:=(HR.out L iL hre).2.1;have HND:Hid ((L.map Prod.fst).Nodup):=((hre.nB kZ).1).once;clear hrow hlb3 hB3 hB4 hB13 hB14 hpb1 hpb4 hir hB04 hll hne hB2;gi_wp2_with fail;refine wpIn_loop (λa W=>∃(i:Nat)(Ds:List Nat)(u u0 u1 u4 u5 u6 u7 u8 u10 u11 u12 u13 u14 u15 u16 u17 u18 u19 u20 u21 u22 u23 u24 u25 u26 u27 u28 u29 u33 u34 u35 u36 u37 u38 u39 u40 u41 u42 u43 u44 u45 u46 u47 u48 u49 u50 u51 u52 u53 u54:Value),a={tmps:=#[u0,u1,.string key,.pointer (some ⟨w.heap.size,0,none⟩),u4,u5,u6,u7,u8,.pointer (some ⟨w2.heap.size,0,none⟩),u10,u11,u12,u13,u14,u15,u16,u17,u18,u19,u20,u21,u22,u23,u24,u25,u26,u27,u28,u29,.slice (some ⟨gp,0,none⟩) (fV L).length cp,.int .i64 ((fV L).length:Nat),.int .i64 (i:Nat),u33,u34,u35,u36,u37,u38,u39,u40,u41,u42,u43,u44,u45,u46,u47,u48,u49,u50,u51,u52,u53,u54],defers:=Ds.map MH}/\i<=L.length/\kP w4 w2.heap.size u (qL p (wO p key (L.take i))) Ds W) (λa _=>5-(intOf (a.tmps.getD 32 undef)).toNat) ⟨0,[],_,_,_,_,_,_,_,_,_,_,_,_,_,_,_,_,_,_,_,_,_,_,_,_,_,_,_,_,_,_,_,_,_,_,_,_,_,_,_,_,_,_,_,_,_,_,_,_,_,_,rfl,zA _,hst⟩ ?_;rintro a W⟨i,Ds,u,u0,u1,u4,u5,u6,u7,u8,u10,u11,u12,u13,u14,u15,u16,u17,u18,u19,u20,u21,u22,u23,u24,u25,u26,u27,u28,u29,u33,u34,u35,u36,u37,u38,u39,u40,u41,u42,u43,u44,u45,u46,u47,u48,u49,u50,u51,u52,u53,u54,rfl,hi,hs⟩;have hW4:=hs.sA.size;by_cases hlt':i<(fV L).length
 ·have hlt:i<L.length:=by have:=HLL.out;omega
  obtain⟨x,t,hxt⟩:∃x t,L[i]=(x,t):=⟨_,_,rfl⟩;have e3:W.cell? ⟨gp,i,none⟩=some (.int .i64 (x:Nat)):=by
   have h1:=(HK.out.2.1.sA (hs.sA.block gp hgp (by omega))).cell (i:=i) (by rw[HLL.out];exact hlt);rw[h1];simp[fV,hxt]
  have hpb:=(hs.sA.block w.heap.size (by omega) (by omega)).trans HK.out.1;have e0:=xO hpb 0;have e1:=xO hpb 1;have e2:=xO hpb 2;simp at e0 e1 e2;have j1:(0:Int)<=(i:Int):=by omega
  have j2:(i:Int)<((fV L).length:Int):=by have:=HLL.out;omega
  obtain⟨Wf,hWf,fb,hBW,hsW⟩:=NM W a1 a2 a3 n1 c1 n2 c2 n3 c3 (x:Nat) key;have HWF:Hid (Wf=_):=hWf;have hsF:=hs.below hBW;have hDW:=hs.marks.lt;have hgu:∀g,u.ownBlock=some g->g<W.heap.size:=λg e=>(hs.row.lt g e).2;have HX:Hid (L[i]=(x,t)):=hxt;have h0F:Below w.heap.size w Wf:=HK.out.2.2.trans ((hs.sA.below (by omega) (λk e=>by omega)).trans (hBW.mono (by omega)));have hJ10:(wO p key (L.take i)).length<=10:=by
   have hnd:((L.take i).map Prod.fst).Nodup:=(HND.out).sublist ((List.take_sublist i L).map _);have:=OI (p:=p) (key:=key) hnd;have:=HRP.out.few.2.2;omega
  clear hWf hxt hpb;gi_wp2_with fail;refine⟨trivial,?_⟩;refine(PJ _ _ _ _ _ _ _).mono ?_;rintro e w'⟨rfl,rfl⟩;rw[<-HWF.out];clear e0 e1 e2 e3;gi_wp2_with fail;refine wpIn_rangeFunc_ownH rfl (by omega) (gf:=203) (lb:=#[.pointer (some ⟨W.heap.size,0,none⟩),.pointer (some ⟨W.heap.size+1,0,none⟩),.pointer (some ⟨W.heap.size+1+1,0,none⟩)]) rfl trivial (rK Tryz.func203 (by kernel_rfl) rfl)
   (QR 7 (by omega) W.heap.size p a1 a2 a3 n1 c1 n2 c2 n3 c3 (x:Nat) key w Wf HCK.out.1 HCK.out.2 HP.out (by omega) (by omega) h0F fb) (λh k=>h.trans k) (λW' l o o' hl ho _ _=>US (by omega) (by omega) W' l o o' hl ho) (dA _ _) (λ_=>rfl)
   (λpre W'=>∃u',kP w4 w2.heap.size u' (qL p (wO p key (L.take i)++pre)) Ds W'/\(∀g',u'.ownBlock=some g'->g'<W.heap.size\/W.heap.size+3<=g')/\Wf.heap.size<=W'.heap.size)
   (λ_ _ _=>False)
   (λpre W' W'' row hI hg hr=>by
    obtain⟨u',h1,h2,h3⟩:=hI;exact⟨u',h1.other hg hr (by omega) (by omega) (λD hD=>by have:=hDW D hD;omega),h2,vA h3 hg.size⟩)
   (λ_ _ _ _ _ h _ _=>h)
   ⟨u,by rw[List.append_nil];exact hsF,λg' e=>.inl (hgu g' e),eA _⟩
   (λy a' W'=>∃Bx,W.heap.size+3<=Bx/\W'.heap[Bx]?=some (.cells #[.int .i64 (oH p y).src,.bool (oH p y).xF,.int .i64 (oH p y).dst,.string (oH p y).pat] 74 (0,0))/\a'={tmps:=#[u0,u1,.string key,.pointer (some ⟨w.heap.size,0,none⟩),u4,u5,u6,u7,u8,.pointer (some ⟨w2.heap.size,0,none⟩),u10,u11,u12,.int .i64 (x:Nat),u14,.pointer (some ⟨Bx,0,none⟩),u16,u17,u18,u19,u20,u21,u22,u23,u24,u25,u26,u27,u28,u29,.slice (some ⟨gp,0,none⟩) (fV L).length cp,.int .i64 ((fV L).length:Nat),.int .i64 (i:Nat),.bool true,.pointer (some ⟨gp,i,none⟩),.int .i64 (x:Nat),.agg #[.slice a1 n1 c1,.slice a2 n2 c2,.slice a3 n3 c3],.int .i64 (x:Nat),.string key,.func (.func 203) #[] #[.pointer (some ⟨W.heap.size,0,none⟩),.pointer (some ⟨W.heap.size+1,0,none⟩),.pointer (some ⟨W.heap.size+1+1,0,none⟩)],.int .i64 (y:Nat),(oH p y).val,u42,u43,u44,u45,u46,u47,u48,u49,u50,u51,u52,u53,u54],defers:=[]})
   (λy a' _ W' W'' row hA hg hr=>by
    obtain⟨Bx,h1,h2,h3⟩:=hA;refine⟨Bx,h1,(hg.block Bx (iC.1 h2).1 (λe=>?_)).trans h2,h3⟩;obtain⟨_,o,h4,h5⟩:=hr Bx e.symm;rw[h2]at h4;cases h4;cases h5)
   ?assign ?body ?done ?stop;case stop=>rintro D c pre W' _ _ h _;exact h.elim
  case assign=>
   rintro l pre y W' K⟨u',h1,h2,h3⟩hK;dsimp only[qS.val];gi_wp2;have hBa:Below W'.heap.size W' (W'.alloc (.cells #[.int .i64 (oH p y).src,.bool (oH p y).xF,.int .i64 (oH p y).dst,.string (oH p y).pat] 74)):=(dA _ _).alloc (eA _) _;exact hK _ _ ((KeepsOthers.alloc _ _).from _) (xP.kB hBa (by omega) (by omega)) ⟨u',h1.below hBa,h2,vA h3 hBa.size⟩ ⟨W'.heap.size,by omega,jA W' _,rfl⟩
  case body=>
   rintro l pre y a' W' hl _⟨u',h1,h2,h3⟩⟨Bx,hBx,hcell,rfl⟩hlen;have h10:=PH (p:=p) (key:=key) (v:=(x:Nat)) HRP.out.few.2.2;have hql:=VB p (wO p key (L.take i)++pre);rw[dC]at hql;have hql':(qL p (wO p key (L.take i)++pre)).length<=100:=by omega
   have m0:=xO hcell 0;have m1:=xO hcell 1;have m2:=xO hcell 2;have m3:=xO hcell 3;simp at m0 m1 m2 m3;have lc':=h1.lbox.cell;cases htp:(oH p y).xF with
   |true=>
     have HC:Hid (qL p (wO p key (L.take i)++(pre++[y]))=qL p (wO p key (L.take i)++pre)):=by show qL p _=_;rw[<-gE];exact E8 htp
     rw[htp]at m1;gi_wp2;exact⟨KeepsFrom.refl _ _,xP.refl _ _ _,u',by rw[HC.out];exact h1,h2,h3⟩
   |false=>
     have HC:Hid (qL p (wO p key (L.take i)++(pre++[y]))=qL p (wO p key (L.take i)++pre)++[(oH p y).dst]):=by show qL p _=_;rw[<-gE];exact E9 htp
     rw[htp]at m1;obtain⟨i0,hi0,hz0,hz1,hz2⟩:=qF Tryz.infoInt;have hW'4:=h1.sA.size;obtain⟨z,hz⟩:∃z,z=(oH p y).dst:=⟨_,rfl⟩;rw[<-hz]at m2 HC;obtain⟨ql,hqe⟩:∃ql,ql=qL p (wO p key (L.take i)++pre):=⟨_,rfl⟩;rw[<-hqe]at h1 hql' HC;clear htp hz hql hqe;gi_wp2_with(gi_at_builtin;refine wpListIn_append_own_at _ rfl _ _ 77 rfl w4.heap.size 3 i0 (.int .i64 0) 1 8 Tryz.underlying77 hi0 hz0 hz1 hz2 rfl (by decide) _ _ _ rfl (h1.row.alloc _) ⟨W'.heap.size,0,none⟩ 1 1 [.int .i64 z] rfl rfl (tH _ _ _) (by simp[Value.oneCell']) (by unfold maxLen;omega) (by omega) (by simp;omega) ?_;intro v' wc hown' hgrow _ hat';obtain⟨gn,capn,rfl⟩:=ownsRow_succ hown';obtain⟨hbx',hst',hturn⟩:=h1.push (by omega) hgrow (by simpa using hown');have hc1:=hbx'.cell;have hf1:=hbx'.frozen);exact⟨h1.keepsFrom hturn (by omega),h1.keepF hturn (by omega) (by omega) (by omega) (by omega) (by omega) h2,_,by rw[HC.out];exact hst',λg' e=>by
      rcases(show Value.ownBlock (.slice (some ⟨gn,0,none⟩) (ql.length+1) capn)=u'.ownBlock\/Value.ownBlock (.slice (some ⟨gn,0,none⟩) (ql.length+1) capn)=some (W'.alloc _).heap.size from hat')with e2|e2;·exact h2 g' (e2.symm.trans e)
      ·rw[e2]at e;simp only[oJ,pC]at e;omega,vA h3 hturn.size⟩
  case done=>
   rintro D ys W' hD hys⟨u',h1,h2,h3⟩hmark;have hbt:=WZ (p:=p) (key:=key) hlt;rw[HX.out]at hbt;rw[hys,<-hbt]at h1;have h1':kP w4 w2.heap.size u' (qL p (wO p key (L.take (i+1)))) (D::Ds) W':=⟨h1.sA,h1.lbox,h1.row,h1.marks.cons (λh=>by have:=hDW D h;omega) (by omega) hmark⟩;clear h1 hys hbt;gi_wp2_with fail;exact⟨⟨i+1,D::Ds,u',_,_,_,_,_,_,_,_,_,_,_,_,_,_,_,_,_,_,_,_,_,_,_,_,_,_,_,_,_,_,_,_,_,_,_,_,_,_,_,_,_,_,_,_,_,_,_,_,_,rfl,by omega,h1'⟩,by simp[intOf];omega⟩
 ·have lc:=hs.lbox.cell;have hiL':i=L.length:=by have:=HLL.out;omega
  subst hiL';rw[tP]at hs;have hJ10:(qL p (wO p key L)).length<=10:=by
   have h1:=VB p (wO p key L);have h2:=OI (p:=p) (key:=key) HND.out;have:=HRP.out.few.2.2;omega
  have hB0W:Below w.heap.size w W:=HK.out.2.2.trans (hs.sA.below (by omega) (λk e=>by omega));obtain⟨ql,hqe⟩:∃ql,ql=qL p (wO p key L):=⟨_,rfl⟩;have HQ:Hid (ql=qL p (wO p key L)):=hqe;rw[<-hqe]at hs hJ10;clear hqe;by_cases hq0:ql=[]
  ·obtain⟨au,cu,rfl⟩:∃au cu,u=.slice au 0 cu:=by
    rcases hs.row.2 with⟨rfl,_⟩|⟨g,cap,cur,rfl,_⟩;·exact⟨none,0,rfl⟩
    ·exact⟨_,cap,by rw[hq0];rfl⟩
   gi_wp2_with fail;refine⟨trivial,?_⟩;refine(tE.2 (Q8 _ _ _)).mono ?_;rintro e w5⟨⟨q,rfl⟩,rfl⟩;gi_wp2_with fail;refine⟨trivial,?_⟩;refine(tE.2 (XA _ _ _)).mono ?_;rintro e w6⟨rfl,rfl⟩;gi_wp2_with fail;refine DZ (n0:=w4.heap.size) (Ds:=Ds) hs.marks (λW' hW'=>?_);exact⟨_,tQ rfl _ _ _,[],au,cu,rfl,QY HRP.out hre hiL List.Pairwise.nil (λz=>by rw[<-HQ.out,hq0]),by simp,.inl rfl,hB0W.trans (hW'.below hB0W.size (λk h=>by have:=(hs.marks.there k h).1;omega))⟩
  ·obtain⟨g,cg,rfl,hgb,hgc,hgm,hir⟩:=LD hs.row hq0;have hgne:=hs.row_ne (g:=g) rfl;gi_wp2_with fail;refine⟨trivial,?_⟩;refine(tE.2 (Z7 ql g _ cg _ rfl (by omega) hir)).mono ?_;rintro e w5⟨⟨q,rfl⟩,ys,hpm,hso,hir5,ht5⟩;have lc5:=(ht5.boxed hs.lbox (λe=>hgne.1 e.symm)).cell;have hm5:=hs.marks.bF ht5 (λD hD e=>hgne.2 (by rw[<-e];exact hD));have hyl:ys.length=ql.length:=hpm.length_eq;have HYL:Hid (ys.length=ql.length):=hyl;have HPM:=xI (And.intro hpm hso);clear lc hyl hpm hso;gi_wp2_with fail;refine⟨trivial,?_⟩;refine(tE.2 (XP ys g _ cg _ HYL.out (by omega) hgc HPM.out.2 hir5)).mono ?_;rintro e w6⟨zs,cz,rfl,hz12,hzr,hzm,hir6,ht6⟩;have hm6:=hm5.bF ht6 (λD hD e=>hgne.2 (by rw[<-e];exact hD));clear lc5;gi_wp2_with fail;refine DZ (n0:=w4.heap.size) (Ds:=Ds) hm6 (λW' hW'=>?_);have ht:aF (λk=>w4.heap.size<=k) W W':=((ht5.mono (λk _ e=>by rw[e];exact hgb)).trans ht6 (λk _ e=>by rw[e];exact hgb)).trans hW' (λk _ h=>(hm6.there k h).1);exact⟨_,tQ rfl _ _ _,zs,_,cz,rfl,QY HRP.out hre hiL hzr (λz=>by rw[hzm,HPM.out.1.mem_iff,HQ.out]),hz12,(hir6.sA (hW'.block g hir6.lt hgne.2)).ints,hB0W.trans (ht.below hB0W.size (λk h=>by omega))⟩
theorem OT(p:lD)(a1 a2 a3:Option Addr)(n1 c1 n2 c2 n3 c3:Nat)(v:Int)(key:ByteArray)(w:World)(hp:sG w a1 a2 a3 n1 n2 n3 p):
 Calls Tryz.prog 130 #[.agg #[.slice a1 n1 c1,.slice a2 n2 c2,.slice a3 n3 c3],.int .i64 v,.string key] w λe w'=>∃zs a c,e=.returned (.tuple #[.slice a zs.length c,.int .i64 (fO p v key)])/\(fO p v key=0->dX p key v.toNat zs)/\(fO p v key≠0->zs=[])/\zs.length<=12/\zS w' a zs/\Below w.heap.size w w':=by
 obtain⟨d,hd⟩:∃d,d=fO p v key:=⟨_,rfl⟩;rw[<-hd];by_cases h0:d=0;·obtain⟨z1,z2,z3,z4⟩:=T7 (hd.symm.trans h0);obtain⟨x,rfl⟩:=oE z3;refine(tE.1 (F0 p a1 a2 a3 n1 c1 n2 c2 n3 c3 x key w z1 z2 (by have:=hp.l1;omega) hp)).mono ?_;rintro e w'⟨zs,a,c,rfl,h1,h2,h3,h4⟩;exact⟨zs,a,c,by rw[h0],λ_=>h1,λh=>absurd h0 h,h2,h3,h4⟩
 ·obtain⟨W1,hW1,hBw,hs1,hbx⟩:=AC w (.slice a1 n1 c1) (.slice a2 n2 c2) (.slice a3 n3 c3) 26;have HW1:Hid (W1=_):=hW1;have HP1:Hid (sG W1 a1 a2 a3 n1 n2 n3 p):=hp.sA hBw;have HD:Hid (d=fO p v key):=hd;have s1:=hBw.size;have h0':(d !=0)=true:=kD.2 h0;have H0:Hid (¬d=0):=h0;clear h0 hd hW1 hp hbx hs1;go_enter Tryz.func130,Tryz.ntmps130;go_wp2_with fail;rw[<-HW1.out];refine(OF p _ _ _ _ _ _ _ _ _ _ _ _ HP1.out).mono ?_;rintro e w2⟨rfl,hB2⟩;rw[<-HD.out];go_wp2_with fail;go_ret2;exact⟨[],none,0,rfl,λh=>absurd h H0.out,λ_=>rfl,by simp,.inl rfl,hBw.trans (hB2.mono s1)⟩
end Go.Proofs.YtedmnjimkhamaaaGreatDoor
namespace Go.Proofs.YtedmnjimkhamaaaGreatDoor
set_option linter.unusedVariables false
set_option maxRecDepth 100000
open Go.RowKit Go.Maps
open Go.Shelf
attribute[local go_sem]qH
end Go.Proofs.YtedmnjimkhamaaaGreatDoor
namespace Go.Proofs.YtedmnjimkhamaaaGreatDoor
set_option linter.unusedVariables false
set_option maxRecDepth 100000
open Go.RowKit Go.Maps
theorem tM{p:lD}{key:ByteArray}{n u x:Nat}(hr:nP p)(h:zL p key n=some (u,x)):n<p.qC.length/\nI p n key=true/\(oH p n).xF=true/\(oH p n).src=u/\(oH p n).dst=x:=by
 unfold zL at h;split at h;·rename_i hh;obtain⟨h1,h2,h3⟩:=hh;simp at h;have e1:=(hr.src _ (qB h1)).1;have e2:=(hr.dst _ (qB h1)).1;rw[<-jX h1]at e1 e2;exact⟨h1,h2,h3,by omega,by omega⟩
 ·cases h
structure rG(A:Nat->Option (Nat×Nat))(v:Nat)(bs:List Bool)(r k:Nat):Prop where
 sound:∀i,bs.getD i false=true->∃s,eK A v s i
 full:∀s i,eK A v s i->(s.length<=r\/∃s' m,s=s'++[m]/\s'.length<=r/\m<k)->bs.getD i false=true
theorem FV{bs:List Bool}{x i:Nat}(hx:x<bs.length):(bs.set x true).getD i false=(decide (i=x)||bs.getD i false):=by
 rw[tB,tB,rE];by_cases h:x=i;·subst h;rw[qA rfl,qA hx];simp
 ·rw[kA h];have:¬i=x:=λe=>h e.symm;simp[this]
theorem QS{n i:Nat}:(List.replicate n false).getD i false=false:=by
 rw[tB,sP];split<;>rfl
theorem rG.start{A:Nat->Option (Nat×Nat)}{v n:Nat}(hv:v<n):rG A v ((List.replicate n false).set v true) 0 0 where
 sound:=by
  intro i h;rw[FV (by simpa using hv),QS]at h;simp at h;subst h;exact⟨[],.nil⟩
 full:=by
  intro s i hp h;rw[FV (by simpa using hv)];rcases h with h|⟨s',m,_,_,h⟩
  ·have e:s=[]:=kC.1 (by omega);subst e;rcases hp.inv with⟨_,rfl⟩|⟨s',u,m,e,_,_⟩;·simp
   ·simp at e
  ·omega
theorem rG.stay{A:Nat->Option (Nat×Nat)}{v:Nat}{bs:List Bool}{r k:Nat}(h:rG A v bs r k)(hA:∀u x,A k=some (u,x)->bs.getD u false=false):rG A v bs r (k+1):=by
 refine⟨h.sound,λs i hp hl=>?_⟩;rcases hl with hl|⟨s',m,rfl,h1,h2⟩;·exact h.full s i hp (.inl hl)
 ·by_cases e:m<k;·exact h.full _ i hp (.inr ⟨s',m,rfl,h1,e⟩)
  ·have e2:m=k:=by omega
   subst e2;obtain⟨u,hu,ha⟩:=hp.inv_snoc;have:=h.full s' u hu (.inl h1);rw[hA u i ha]at this;cases this
theorem rG.mark{A:Nat->Option (Nat×Nat)}{v:Nat}{bs:List Bool}{r k u x:Nat}(h:rG A v bs r k)(hA:A k=some (u,x))(hu:bs.getD u false=true)(hx:x<bs.length):rG A v (bs.set x true) r (k+1):=by
 obtain⟨s0,hs0⟩:=h.sound u hu;refine⟨λi hi=>?_,λs i hp hl=>?_⟩
 ·rw[FV hx]at hi;by_cases e:i=x;·subst e;exact⟨_,.snoc hs0 hA⟩
  ·simp[e]at hi;exact h.sound i (by rw[tB];exact hi)
 ·rw[FV hx];rcases hl with hl|⟨s',m,rfl,h1,h2⟩;·rw[h.full s i hp (.inl hl)];simp
  ·by_cases e:m<k;·rw[h.full _ i hp (.inr ⟨s',m,rfl,h1,e⟩)];simp
   ·have e2:m=k:=by omega
    subst e2;obtain⟨u',hu',ha⟩:=hp.inv_snoc;rw[hA]at ha;simp at ha;rw[ha.2];simp
theorem rG.next{A:Nat->Option (Nat×Nat)}{v:Nat}{bs:List Bool}{r nb:Nat}(h:rG A v bs r nb)(hnb:∀m q,A m=some q->m<nb):rG A v bs (r+1) 0:=by
 refine⟨h.sound,λs i hp hl=>?_⟩;rcases hl with hl|⟨_,_,_,_,h2⟩
 ·rcases hp.inv with⟨rfl,rfl⟩|⟨s',u,m,rfl,h1,h2⟩;·exact h.full [] _ .nil (.inl (by simp))
  ·exact h.full _ i hp (.inr ⟨s',m,rfl,by simp at hl;omega,hnb m _ h2⟩)
 ·omega
theorem OD{A:Nat->Option (Nat×Nat)}{nb r N:Nat}(hN:∀L i,aH A nb r L i->L.length<=N):∀(k:Nat){L:pE}{i:Nat},aH A nb r L i->N<=i+k->∃L' i',aH A nb r L' i'/\¬i'<L'.length
 |0,L,i,h,hk=>⟨L,i,h,by have:=hN L i h;omega⟩
 |k+1,L,i,h,hk=>by
   by_cases hi:i<L.length;·exact OD hN k (aH.next h hi) (by omega)
   ·exact⟨L,i,h,hi⟩
theorem I_{p:lD}{key:ByteArray}(hr:nP p){v:Nat}(hv:v<p.nC.length){s:List Nat}{x:Nat}(h:eK (zL p key) v s x):∃s',eK (zL p key) v s' x/\s'.length<=p.nC.length:=by
 obtain⟨L,i,hL,hi⟩:=OD (A:=zL p key) (nb:=p.qC.length) (r:=v) (N:=p.nC.length) (λL i h=>(ER hr hv h).2.1) p.nC.length aH.start (by omega);have hc:=(hL.nB kZ).1;have hx:=(hL.found kZ hi).all h;obtain⟨y,hy,rfl⟩:=jD.1 hx;obtain⟨j,hj,rfl⟩:=GI hy;have h1:=hc.short (j+1) j hj (by omega);have h2:=(ER hr hv hL).2.1;exact⟨_,hc.path _ hy,by omega⟩
theorem rG.done{p:lD}{key:ByteArray}(hr:nP p){v:Nat}(hv:v<p.nC.length){bs:List Bool}{r:Nat}(h:rG (zL p key) v bs r 0)(hle:p.nC.length<=r)(x:Nat):bs.getD x false=true↔∃s,eK (zL p key) v s x:=by
 refine⟨h.sound x,?_⟩;rintro⟨s,hs⟩;obtain⟨s',h1,h2⟩:=I_ hr hv hs;exact h.full s' x h1 (.inl (by omega))
def oP(f:Nat->Bool)(k:Nat):List Int:=((List.range k).filter f).map (λi:Nat=>(i:Int))
theorem TU{f:Nat->Bool}{k:Nat}(h:f k=true):oP f (k+1)=oP f k++[(k:Int)]:=by unfold oP;rw[iI,yH];simp[h]
theorem UW{f:Nat->Bool}{k:Nat}(h:f k=false):oP f (k+1)=oP f k:=by unfold oP;rw[iI,yH];simp[h]
theorem CZ(f:Nat->Bool)(k:Nat):(oP f k).length<=k:=by
 unfold oP;rw[dE];have:=sL f (List.range k);simpa using this
theorem LC{f:Nat->Bool}{k:Nat}{z:Int}:z∈oP f k↔∃x:Nat,z=x/\x<k/\f x=true:=by
 unfold oP;simp only[jD,List.mem_filter,fG];constructor;·rintro⟨x,⟨h1,h2⟩,rfl⟩;exact⟨x,rfl,h1,h2⟩
 ·rintro⟨x,rfl,h1,h2⟩;exact⟨x,⟨h1,h2⟩,rfl⟩
theorem RT(f:Nat->Bool)(k:Nat):(oP f k).Pairwise (·<·):=by
 unfold oP;rw[List.pairwise_map];exact(List.Pairwise.filter f List.pairwise_lt_range).imp (λh=>by omega)
theorem S7{p:lD}{key:ByteArray}(hr:nP p){v:Nat}(hv:v<p.nC.length){s:List Nat}{x:Nat}(h:eK (zL p key) v s x):x<p.nC.length:=by
 rcases h.inv with⟨_,e⟩|⟨s,u,n,_,_,e⟩;·omega
 ·obtain⟨h1,h2,h3,h4,h5⟩:=tM hr e;have:=GL hr n h3;omega
theorem NH{p:lD}{key:ByteArray}(hr:nP p){v:Nat}(hv:v<p.nC.length){bs:List Bool}{r:Nat}(h:rG (zL p key) v bs r 0)(hle:p.nC.length<=r):GG p key v (oP (λi=>bs.getD i false) p.nC.length):=by
 refine⟨RT _ _,λz=>?_⟩;rw[LC];constructor;·rintro⟨x,rfl,h1,h2⟩;exact⟨x,rfl,(h.done hr hv hle x).1 h2⟩
 ·rintro⟨x,rfl,s,hs⟩;exact⟨x,rfl,S7 hr hv hs,(h.done hr hv hle x).2 ⟨s,hs⟩⟩
def nW(p:lD)(key:ByteArray)(ps:List Int)(q:Int)(k:Nat):Bool:=(List.range k).any (λn=>!(oH p n).xF&&(decide ((oH p n).dst=q)&&(decide ((oH p n).src∈ps)&&nI p n key)))
theorem ZL{p:lD}{key:ByteArray}{ps:List Int}{q:Int}{k:Nat}:nW p key ps q (k+1)=(nW p key ps q k||(!(oH p k).xF&&(decide ((oH p k).dst=q)&&(decide ((oH p k).src∈ps)&&nI p k key)))):=by
 unfold nW;rw[iI,List.any_append];simp
theorem OC{p:lD}{key:ByteArray}(hr:nP p){v:Nat}{ps:List Int}(hp:GG p key v ps):dX p key v (oP (λq=>nW p key ps (q:Int) p.qC.length) p.jB.length):=by
 refine⟨RT _ _,λz=>?_⟩;rw[LC];constructor;·rintro⟨x,rfl,h1,h2⟩;unfold nW at h2;simp only[aE,fG,aC,Bool.not_eq_true',mC]at h2;obtain⟨n,hn,a1,a2,a3,a4⟩:=h2;obtain⟨y,hy,hs⟩:=(hp.mem _).1 a3;exact⟨n,hn,a4,a1,a2,by rw[hy,Int.toNat_natCast];exact hs⟩
 ·rintro⟨n,hn,a4,a1,rfl,hs⟩;have hd:=hr.dst _ (qB hn);have hsr:=hr.src _ (qB hn);rw[<-jX hn]at hd hsr;rw[a1]at hd;simp only[sN,if_false]at hd;refine⟨(oH p n).dst.toNat,by omega,by omega,?_⟩;unfold nW;simp only[aE,fG,aC,Bool.not_eq_true',mC];exact⟨n,hn,a1,by omega,(hp.mem _).2 ⟨(oH p n).src.toNat,by omega,hs⟩,a4⟩
end Go.Proofs.YtedmnjimkhamaaaGreatDoor
