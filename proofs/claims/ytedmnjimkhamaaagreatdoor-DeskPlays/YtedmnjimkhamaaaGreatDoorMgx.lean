import Derived.Test.YtedmnjimkhamaaaGreatDoorMfx
namespace Go.Proofs.YtedmnjimkhamaaaGreatDoor
set_option linter.unusedVariables false
set_option maxRecDepth 100000
set_option maxHeartbeats 4000000
open Go.RowKit Go.Maps
def FZ(A:Nat->Option (Nat×Nat))(bs:List Bool)(k:Nat):List Bool:=
 match A k with
 |none=>bs
 |some (u,x)=>if bs.getD u false=true then bs.set x true else bs
def BY(A:Nat->Option (Nat×Nat))(bs:List Bool):Nat->List Bool
 |0=>bs
 |k+1=>FZ A (BY A bs k) k
def CA(A:Nat->Option (Nat×Nat))(nb:Nat)(bs:List Bool):Nat->List Bool
 |0=>bs
 |r+1=>BY A (CA A nb bs r) nb
theorem YG(A:Nat->Option (Nat×Nat))(bs:List Bool)(k:Nat):(FZ A bs k).length=bs.length:=by
 unfold FZ;split;·rfl
 ·split;·simp
  ·rfl
theorem JG(A:Nat->Option (Nat×Nat))(bs:List Bool):∀k,(BY A bs k).length=bs.length
 |0=>rfl
 |k+1=>by unfold BY;rw[YG,JG A bs k]
theorem RQ(A:Nat->Option (Nat×Nat))(nb:Nat)(bs:List Bool):∀r,(CA A nb bs r).length=bs.length
 |0=>rfl
 |r+1=>by unfold CA;rw[JG,RQ A nb bs r]
theorem rG.onw{A:Nat->Option (Nat×Nat)}{v:Nat}{bs:List Bool}{r:Nat}(hA:∀k u x,A k=some (u,x)->x<bs.length)(h:rG A v bs r 0):∀k,rG A v (BY A bs k) r k
 |0=>h
 |k+1=>by
   have ih:=rG.onw hA h k;unfold BY FZ;split;·rename_i e;exact ih.stay (λu x hx=>by rw[e]at hx;cases hx)
   ·rename_i u x e;split;·rename_i hu;exact ih.mark e hu (by rw[JG];exact hA _ _ _ e)
    ·rename_i hu;exact ih.stay (λu' x' hx=>by rw[e]at hx;cases hx;simpa using hu)
def LW(p:lD)(key:ByteArray)(v:Nat):List Bool:=CA (zL p key) p.qC.length ((List.replicate p.nC.length false).set v true) p.nC.length
theorem h9{p:lD}{key:ByteArray}(hr:nP p){v:Nat}(hv:v<p.nC.length):rG (zL p key) v (LW p key v) p.nC.length 0:=by
 unfold LW;have:∀r,rG (zL p key) v (CA (zL p key) p.qC.length ((List.replicate p.nC.length false).set v true) r) r 0:=by
  intro r;induction r with
  |zero=>exact rG.start hv
  |succ r ih=>
    unfold CA;refine(rG.onw (λk u x e=>?_) ih p.qC.length).next kZ;obtain⟨h1,h2,h3,h4,h5⟩:=tM hr e;have:=GL hr k h3;rw[RQ];simp;omega
 exact this _
def eO(p:lD)(key:ByteArray)(v:Nat):List Int:=oP (λq=>nW p key (oP (λi=>(LW p key v).getD i false) p.nC.length) (q:Int) p.qC.length) p.jB.length
theorem GR{p:lD}{key:ByteArray}(hr:nP p){v:Nat}(hv:v<p.nC.length):dX p key v (eO p key v):=OC hr (NH hr hv (h9 hr hv) (eA _))
theorem DF(p:lD)(key:ByteArray)(v:Nat):(eO p key v).length<=p.jB.length:=CZ _ _
theorem T3{p:lD}{key:ByteArray}{v:Nat}{z:Int}(h:z∈eO p key v):0<=z/\z<p.jB.length:=by
 obtain⟨x,rfl,hx,_⟩:=LC.1 h;omega
structure fF where
 queue:Int
 key:ByteArray
 body:ByteArray
 fC:Int
def gN(zs:List Int)(key body:ByteArray)(d:Int):List fF:=zs.map (λz=>⟨z,key,body,d⟩)
def pI(p:lD)(q:Nat)(x:zD):List fF:=if(fL p q).dead=-1\/2<=x.fC then[]else gN (eO p x.key (fL p q).dead.toNat) x.key x.body (x.fC+1)
def bK(p:lD)(q:Nat)(line:List zD):List zD:=if(line.length:Int)<=(fL p q).yD then line else line.tail
def cO(p:lD)(q:Nat)(line:List zD):Int:=if(line.length:Int)<=(fL p q).yD then 0 else 1
def vL(p:lD)(q:Nat)(line:List zD):List fF:=if(line.length:Int)<=(fL p q).yD then[]else match line with|[]=>[]|y::_=>pI p q y
def qK(p:lD)(s:yC)(q:Nat)(x:zD):yC:={s with yA:=s.yA.set q (bK p q (sH (oF s q) x)),iA:=s.iA+cO p q (sH (oF s q) x)}
def aO(p:lD)(s:yC)(q:Nat)(x:zD):List fF:=vL p q (sH (oF s q) x)
def dL(s:yC)(a:fF):zD:=⟨s.gA,a.key,a.body,false,a.fC⟩
def rL(s:yC):yC:={s with gA:=s.gA+1,nB:=s.nB+1}
def cT(p:lD)(s:yC)(a:fF):yC:=qK p (rL s) a.queue.toNat (dL s a)
def qR(p:lD)(s:yC)(a:fF):List fF:=aO p (rL s) a.queue.toNat (dL s a)
def oI(p:lD):Nat->yC->List fF->yC
 |0,s,_=>s
 |_+1,s,[]=>s
 |f+1,s,a::l=>oI p f (cT p s a) (l++qR p s a)
def jJ(p:lD):Nat->yC->List fF->Nat
 |0,_,_=>0
 |_+1,_,[]=>0
 |f+1,s,a::l=>jJ p f (cT p s a) (l++qR p s a)+1
theorem JI(xs:List zD)(x:zD):(sH xs x).Perm (x::xs):=by
 unfold sH;have:(xs.take (dD x.seq xs)++[x]++xs.drop (dD x.seq xs)).Perm (x::(xs.take (dD x.seq xs)++xs.drop (dD x.seq xs))):=by
  rw[gE];exact List.perm_middle
 rwa[gF]at this
theorem EF(xs:List zD)(x:zD):(sH xs x).length=xs.length+1:=by simpa using(JI xs x).length_eq
theorem Z2(p:lD)(s:yC){q:Nat}(x:zD)(h:q<s.yA.length):
 ((cO p q (sH (oF s q) x)=0/\(kI (qK p s q x)).Perm (x.seq::kI s))\/
  (cO p q (sH (oF s q) x)=1/\∃y r,sH (oF s q) x=y::r/\(y.seq::kI (qK p s q x)).Perm (x.seq::kI s))):=by
 obtain⟨A,B,h1,h2⟩:=A2 s h (bK p q (sH (oF s q) x));have e2:kI (qK p s q x)=A++(bK p q (sH (oF s q) x)).map zD.seq++B:=by unfold qK;rw[<-h2];rfl
 have hp:((sH (oF s q) x).map zD.seq).Perm (x.seq::(oF s q).map zD.seq):=by simpa using(JI (oF s q) x).map zD.seq
 have key:(A++(sH (oF s q) x).map zD.seq++B).Perm (x.seq::kI s):=by
  rw[h1];have e:(A++(sH (oF s q) x).map zD.seq++B).Perm (A++(x.seq::(oF s q).map zD.seq)++B):=(hp.append_left A).append_right B;refine e.trans ?_;rw[gE,gE];exact List.perm_middle
 by_cases hc:((sH (oF s q) x).length:Int)<=(fL p q).yD;·left;have e1:bK p q (sH (oF s q) x)=sH (oF s q) x:=qA hc;exact⟨qA hc,by rw[e2,e1];exact key⟩
 ·right;have e1:bK p q (sH (oF s q) x)=(sH (oF s q) x).tail:=kA hc;refine⟨kA hc,?_⟩;cases hl:sH (oF s q) x with
  |nil=>have:=EF (oF s q) x;rw[hl]at this;simp at this
  |cons y r=>
    refine⟨y,r,rfl,?_⟩;rw[e2,e1,hl,List.tail_cons];rw[hl]at key;refine List.Perm.trans ?_ key;rw[fH,gE,gE,List.cons_append];exact List.perm_middle.symm
theorem OM(p:lD){s:yC}{q r:Nat}(h:q<s.yA.length)(x:zD):oF (qK p s q x) r=if r=q then bK p q (sH (oF s q) x)else oF s r:=ON h _ _
theorem T2{p:lD}{q:Nat}{l:List zD}(h:tI l=true):tI (bK p q l)=true:=by
 unfold bK;split;·exact h
 ·obtain⟨h1,h2⟩:=iW.1 h;exact iW.2 ⟨λz hz=>h1 z (List.mem_of_mem_tail hz),h2.tail⟩
theorem wY{s:yC}{q:Nat}{x:zD}(hq:q<s.yA.length)(hl:tI (oF s q)=true)(hx:x.seq∉kI s):lT x.seq (oF s q)=false:=by
 rw[mI];intro h;obtain⟨z,hz,e⟩:=(V8 hl).1 h;apply hx;unfold kI;refine List.mem_append_left _ (sI.2 ⟨oF s q,cV hq,?_⟩);rw[<-e];exact List.mem_map_of_mem hz
theorem mH.put{p:lD}{s:yC}{q:Nat}{x:zD}(h:mH p s 1)(hq:q<s.yA.length)(hx:nH x=true)(hn:x.seq∉kI s)(hlt:x.seq<s.gA):mH p (qK p s q x) 0:=by
 have hl:=h.line _ (cV hq);have hh:=wY hq hl hn;have hpl:tI (sH (oF s q) x)=true:=AJ hl hx hh;have hsq:=Z2 p s x hq;have hnx:(x.seq::kI s).Nodup:=gJ.2 ⟨hn,h.nodup⟩;have hd:cO p q (sH (oF s q) x)=0\/cO p q (sH (oF s q) x)=1:=by unfold cO;split<;>simp
 refine⟨h.pl,h.tk,by simpa[qK]using h.len,?_,h.tok,h.xB,h.ns,h.nt,h.ak,?_,?_,?_,?_,h.hold,?_,h.cs⟩
 ·intro l hl';rcases List.mem_or_eq_of_mem_set hl' with h'|h';·exact h.line l h'
  ·rw[h'];exact T2 hpl
 ·show 0<=s.iA+_;have:=h.dr;omega
 ·rcases hsq with⟨_,h1⟩|⟨_,y,r,_,h1⟩;·exact h1.nodup_iff.2 hnx
  ·exact(gJ.1 (h1.nodup_iff.2 hnx)).2
 ·intro z hz;show z<s.gA;have:z∈x.seq::kI s:=by
   rcases hsq with⟨_,h1⟩|⟨_,y,r,_,h1⟩;·exact h1.mem_iff.1 hz
   ·exact h1.mem_iff.1 (cF _ hz)
  rcases vH.1 this with rfl|h';·exact hlt
  ·exact h.lt z h'
 ·intro r hr;have hr':r<s.yA.length:=by simpa[qK]using hr
  rw[OM p hq];split
  ·rename_i e;subst e;unfold bK;split;·assumption
   ·have:=h.room r hr';rw[List.length_tail,EF];omega
  ·exact h.room r hr'
 ·show s.nB=((kI (qK p s q x)).length:Int)+0+s.uA+(s.iA+_);have:=h.sum;rcases hsq with⟨e,h1⟩|⟨e,y,r,_,h1⟩;·have:=h1.length_eq;rw[e];simp at this;omega
  ·have:=h1.length_eq;rw[e];simp at this;omega
structure mR(p:lD)(a:fF):Prop where
 q:0<=a.queue/\a.queue<p.jB.length
 k:kG a.key.data.toList=0
 b:a.body.size<=12
 d:0<=a.fC/\a.fC<=2
theorem LT{p:lD}{q:Nat}{x:zD}(hx:nH x=true):(∀a∈pI p q x,mR p a)/\(pI p q x).length<=p.jB.length:=by
 unfold pI;split;·simp
 ·rename_i hc;obtain⟨h1,h2,h3,h4,h5,h6⟩:=sY hx;refine⟨λa ha=>?_,by unfold gN;rw[dE];exact DF _ _ _⟩;obtain⟨z,hz,rfl⟩:=jD.1 ha;exact⟨T3 hz,h3,h4,by simp only;omega⟩
theorem UR{p:lD}{q:Nat}{l:List zD}(h:tI l=true):(∀a∈vL p q l,mR p a)/\(vL p q l).length<=p.jB.length:=by
 unfold vL;split;·simp
 ·cases l with
  |nil=>simp
  |cons y r=>exact LT ((iW.1 h).1 y jE)
theorem mH.up{p:lD}{s:yC}(h:mH p s 0)(hs:s.gA<1048576):mH p (rL s) 1:=
 ⟨h.pl,h.tk,h.len,h.line,h.tok,h.xB,by show 0<=s.gA+1/\s.gA+1<=1048576;have:=h.ns;omega,h.nt,h.ak,h.dr,h.nodup,λz hz=>by show z<s.gA+1;have:=h.lt z hz;omega,h.room,h.hold,by show s.nB+1=((kI s).length:Int)+1+s.uA+s.iA;have:=h.sum;omega,by show s.nB+1=s.gA+1;have:=h.cs;omega⟩
theorem CW{p:lD}{s:yC}{a:fF}(h:mH p s 0)(ha:mR p a)(hs:s.gA<1048576):nH (dL s a)=true:=JR h.ns.1 hs ha.k ha.b ha.d.1 ha.d.2
theorem DA{p:lD}{s:yC}{a:fF}(h:mH p s 0):(dL s a).seq∉kI (rL s):=λhm=>by
 have:=h.lt _ hm;simp[dL]at this
theorem mH.recv{p:lD}{s:yC}{a:fF}(h:mH p s 0)(ha:mR p a)(hs:s.gA<1048576):mH p (cT p s a) 0:=
 (h.up hs).put (by show a.queue.toNat<s.yA.length;rw[h.len];have:=ha.q;omega) (CW h ha hs) (DA h) (by show s.gA<s.gA+1;omega)
theorem FH{p:lD}{s:yC}{a:fF}(h:mH p s 0)(ha:mR p a)(hs:s.gA<1048576):(∀b∈qR p s a,mR p b)/\(qR p s a).length<=p.jB.length:=by
 have hq:a.queue.toNat<(rL s).yA.length:=by show a.queue.toNat<s.yA.length;rw[h.len];have:=ha.q;omega
 have hl:tI (oF (rL s) a.queue.toNat)=true:=h.line _ (cV hq);exact UR (AJ hl (CW h ha hs) (wY hq hl (DA h)))
def lw(d:Int):Nat:=if d<=0 then 20 else if d=1 then 4 else 0
def zR(l:List zD):List Nat:=l.map (λx=>lw x.fC)
def AQ(s:yC):Nat:=(s.yA.flatMap zR).sum
def uM(l:List fF):Nat:=(l.map (λa=>lw a.fC+1)).sum
def nY(s:yC)(l:List fF):Nat:=AQ s+uM l
theorem VM(d:Int):lw d<=20:=by unfold lw;split<;>(try split)<;>omega
theorem MK{l:List Nat}{c:Nat}(h:∀x∈l,x<=c):l.sum<=l.length*c:=by
 induction l with
 |nil=>simp
 |cons x r ih=>
   have h1:=h x jE;have h2:=ih (λy hy=>h y (cF _ hy));rw[List.sum_cons,List.length_cons,Nat.add_mul];omega
theorem XZ(a b:List fF):uM (a++b)=uM a+uM b:=by unfold uM;rw[oD,oM]
theorem S0{p:lD}{q:Nat}{y:zD}(hr:nP p)(hy:nH y=true):uM (pI p q y)<=lw y.fC:=by
 unfold pI;split;·simp[uM]
 ·rename_i hc;obtain⟨_,_,_,_,h5,h6⟩:=sY hy;have hlen:(gN (eO p y.key (fL p q).dead.toNat) y.key y.body (y.fC+1)).length<=4:=by
   unfold gN;rw[dE];exact vA (DF _ _ _) hr.few.2.1
  have hs:uM (gN (eO p y.key (fL p q).dead.toNat) y.key y.body (y.fC+1))<=(gN (eO p y.key (fL p q).dead.toNat) y.key y.body (y.fC+1)).length*(lw (y.fC+1)+1):=by
   unfold uM;refine vA (MK (c:=lw (y.fC+1)+1) ?_) (by simp);intro n hn;obtain⟨a,ha,rfl⟩:=jD.1 hn;obtain⟨z,_,rfl⟩:=jD.1 ha;exact eA _
  have hd:y.fC=0\/y.fC=1:=by omega
  rcases hd with e|e;·rw[e]at hs hlen⊢;have:lw (0+1)+1=5:=rfl;have e2:lw 0=20:=rfl;rw[this]at hs;rw[e2];omega
  ·rw[e]at hs hlen⊢;have:lw (1+1)+1=1:=rfl;have e2:lw 1=4:=rfl;rw[this]at hs;rw[e2];omega
theorem ps_{a b:List zD}(h:a.Perm b):(zR a).sum=(zR b).sum:=(h.map _).sum_nat
theorem TX{p:lD}{s:yC}{a:fF}{l:List fF}(h:mH p s 0)(ha:mR p a)(hs:s.gA<1048576):nY (cT p s a) (l++qR p s a)+1<=nY s (a::l):=by
 have hq:a.queue.toNat<(rL s).yA.length:=by show a.queue.toNat<s.yA.length;rw[h.len];have:=ha.q;omega
 obtain⟨A,B,h1,h2⟩:=KS zR hq (bK p a.queue.toNat (sH (oF (rL s) a.queue.toNat) (dL s a)));have e1:AQ s=A.sum+(zR (oF (rL s) a.queue.toNat)).sum+B.sum:=by
  unfold AQ;show((rL s).yA.flatMap zR).sum=_;rw[h1,rU hq,oM,oM]
 have e2:AQ (cT p s a)=A.sum+(zR (bK p a.queue.toNat (sH (oF (rL s) a.queue.toNat) (dL s a)))).sum+B.sum:=by
  unfold AQ;show(((rL s).yA.set a.queue.toNat _).flatMap zR).sum=_;rw[h2,oM,oM]
 have e3:(zR (sH (oF (rL s) a.queue.toNat) (dL s a))).sum=lw a.fC+(zR (oF (rL s) a.queue.toNat)).sum:=by
  rw[ps_ (JI _ _)];simp[zR,dL]
 have hl:tI (oF (rL s) a.queue.toNat)=true:=h.line _ (cV hq);have hpl:=AJ hl (CW h ha hs) (wY hq hl (DA h));unfold nY;rw[e1,e2,XZ];have e4:uM (a::l)=lw a.fC+1+uM l:=by simp[uM]
 rw[e4];unfold qR aO vL bK;by_cases hc:((sH (oF (rL s) a.queue.toNat) (dL s a)).length:Int)<=(fL p a.queue.toNat).yD;·rw[qA hc,qA hc,e3];have:uM []=0:=rfl;omega
 ·rw[kA hc,kA hc];cases hL:sH (oF (rL s) a.queue.toNat) (dL s a)with
  |nil=>have:=EF (oF (rL s) a.queue.toNat) (dL s a);rw[hL]at this;simp at this
  |cons y r=>
    rw[hL]at e3 hpl;have hy:=(iW.1 hpl).1 y jE;have hd:=S0 (q:=a.queue.toNat) h.rp hy;have e5:(zR (y::r)).sum=lw y.fC+(zR r).sum:=by simp[zR]
    rw[e5]at e3;simp only[List.tail_cons];omega
theorem UQ{s:yC}{a:fF}{l:List fF}:1<=nY s (a::l):=by unfold nY;simp[uM];omega
theorem ZK{xss:List (List zD)}{c:Nat}(h:∀l∈xss,l.length<=c):(xss.flatMap zR).length<=xss.length*c:=by
 induction xss with
 |nil=>simp
 |cons x r ih=>
   have h1:=h x jE;have h2:=ih (λy hy=>h y (cF _ hy));rw[mF,dC,List.length_cons,Nat.add_mul];have:(zR x).length=x.length:=by simp[zR]
   omega
theorem MG{p:lD}{s:yC}{l:List fF}(h:mH p s 0)(hl:l.length<=4):nY s l<=564:=by
 have h1:AQ s<=480:=by
  have a1:=ZK (λl hl=>h.line6 hl);have a2:(s.yA.flatMap zR).sum<=(s.yA.flatMap zR).length*20:=MK (λx hx=>by
   obtain⟨l,_,hx⟩:=sI.1 hx;obtain⟨y,_,rfl⟩:=jD.1 hx;exact VM _);have a3:=h.len;have a4:=h.rp.few.2.1;unfold AQ;have a5:s.yA.length*6<=24:=by omega
  have a6:(s.yA.flatMap zR).length*20<=24*20:=fS _ (by omega);omega
 have h2:uM l<=84:=by
  have a2:uM l<=l.length*21:=by
   unfold uM;refine vA (MK (c:=21) ?_) (by simp);intro n hn;obtain⟨a,_,rfl⟩:=jD.1 hn;have:=VM a.fC;omega
  omega
 unfold nY;omega
theorem UA(p:lD)(s:yC)(a:fF):(cT p s a).gA=s.gA+1:=rfl
theorem RY(p:lD)(f:Nat)(s:yC):oI p f s []=s:=by cases f<;>rfl
theorem SM(p:lD)(f:Nat)(s:yC):jJ p f s []=0:=by cases f<;>rfl
structure yI(p:lD)(s t:yC)(n:Nat):Prop where
 right:mH p t 0
 xB:t.xB=s.xB
 nA:t.nA=s.nA
 tag:t.fA=s.fA
 uA:t.uA=s.uA
 nB:t.nB=s.nB+n
 seq:t.gA=s.gA+n
 iA:s.iA<=t.iA
 len:t.yA.length=s.yA.length
 old:∀q,q<s.yA.length->∃k new,k<=(oF s q).length/\oF t q=(oF s q).drop k++new/\∀z∈new,s.gA<=z.seq
theorem yI.refl{p:lD}{s:yC}(h:mH p s 0):yI p s s 0:=⟨h,rfl,rfl,rfl,rfl,by simp,by simp,zI _,rfl,λq _=>⟨0,[],zA _,by simp,by simp⟩⟩
theorem PM{q:Int}:∀{xs:List zD},(∀z∈xs,z.seq<q)->dD q xs=xs.length
 |[],_=>rfl
 |x::r,h=>by
   have h1:=h x jE;have ih:=PM (xs:=r) (λz hz=>h z (cF _ hz));unfold dD;rw[kA (by omega),ih];rfl
theorem u9{xs:List zD}{x:zD}(h:∀z∈xs,z.seq<x.seq):sH xs x=xs++[x]:=by
 unfold sH;rw[PM h];simp
theorem I2{p:lD}{s:yC}{n:Int}(h:mH p s n){q:Nat}(hq:q<s.yA.length):∀z∈oF s q,z.seq<s.gA:=λz hz=>h.lt _ (by
 unfold kI;exact List.mem_append_left _ (sI.2 ⟨oF s q,cV hq,List.mem_map_of_mem hz⟩))
theorem A7{p:lD}{s:yC}{a:fF}(h:mH p s 0)(ha:mR p a){r:Nat}:oF (cT p s a) r=if r=a.queue.toNat then bK p r (oF s r++[dL s a])else oF s r:=by
 have hq:a.queue.toNat<(rL s).yA.length:=by show a.queue.toNat<s.yA.length;rw[h.len];have:=ha.q;omega
 unfold cT;rw[OM p hq];split;·rename_i e;subst e;have e:=u9 (xs:=oF (rL s) a.queue.toNat) (x:=dL s a) (λz hz=>I2 h hq z hz);rw[e];rfl
 ·rfl
theorem yI.recv{p:lD}{s:yC}{a:fF}(h:mH p s 0)(ha:mR p a)(hs:s.gA<1048576):yI p s (cT p s a) 1:=by
 refine⟨h.recv ha hs,rfl,rfl,rfl,rfl,rfl,rfl,?_,?_,λq hq=>?_⟩
 ·show s.iA<=s.iA+_;have:∀l,0<=cO p a.queue.toNat l:=λl=>by unfold cO;split<;>omega
  have:=this (sH (oF (rL s) a.queue.toNat) (dL s a));omega
 ·show(s.yA.set _ _).length=_;simp
 ·rw[A7 h ha];split
  ·rename_i e;unfold bK;split;·exact⟨0,[dL s a],zA _,by simp,by simp[dL]⟩
   ·cases hl:oF s q with
    |nil=>exact⟨0,[],zA _,by simp,by simp⟩
    |cons y r=>exact⟨1,[dL s a],by simp,by simp,by simp[dL]⟩
  ·exact⟨0,[],zA _,by simp,by simp⟩
theorem yI.trans{p:lD}{s t u:yC}{n m:Nat}(h:yI p s t n)(k:yI p t u m):yI p s u (n+m):=by
 refine⟨k.right,k.xB.trans h.xB,k.nA.trans h.nA,k.tag.trans h.tag,k.uA.trans h.uA,by rw[k.nB,h.nB];omega,by rw[k.seq,h.seq];omega,Int.le_trans h.iA k.iA,k.len.trans h.len,λq hq=>?_⟩;obtain⟨k1,n1,l1,e1,g1⟩:=h.old q hq;obtain⟨k2,n2,l2,e2,g2⟩:=k.old q (by rw[h.len];exact hq);rw[e1]at e2 l2;have hsq:=h.seq;rw[dC,rF]at l2;by_cases hc:k1+k2<=(oF s q).length
 ·refine⟨k1+k2,n1++n2,hc,?_,λz hz=>?_⟩;·rw[e2,aJ (by rw[rF];omega),List.drop_drop,gE]
  ·rcases oC.1 hz with hz|hz;·exact g1 z hz
   ·have:=g2 z hz;omega
 ·refine⟨(oF s q).length,n1.drop (k2-((oF s q).length-k1))++n2,eA _,?_,λz hz=>?_⟩;·rw[e2,List.drop_append,rF,List.drop_drop,mD (by omega),List.drop_length];simp
  ·rcases oC.1 hz with hz|hz;·exact g1 z (List.mem_of_mem_drop hz)
   ·have:=g2 z hz;omega
theorem KO{p:lD}:∀(f:Nat){s:yC}{l:List fF},mH p s 0->(∀a∈l,mR p a)->nY s l<=f->s.gA+f<=1048576->yI p s (oI p f s l) (jJ p f s l)/\l.length<=jJ p f s l/\jJ p f s l<=f
 |f,s,[],h,_,_,_=>by rw[RY,SM];exact⟨yI.refl h,by simp,zA _⟩
 |0,s,a::l,h,_,hf,_=>by have:=UQ (s:=s) (a:=a) (l:=l);omega
 |f+1,s,a::l,h,ha,hf,hs=>by
   have hs1:s.gA<1048576:=by omega
   have ha1:=ha a jE;have hph:=TX (l:=l) h ha1 hs1;obtain⟨i1,i2,i3⟩:=KO f (s:=cT p s a) (l:=l++qR p s a) (h.recv ha1 hs1) (λb hb=>by
    rcases oC.1 hb with hb|hb;·exact ha b (cF _ hb)
    ·exact(FH h ha1 hs1).1 b hb) (by omega) (by rw[UA];omega);refine⟨?_,?_,?_⟩;·have:=(yI.recv h ha1 hs1).trans i1;unfold oI jJ;rw[Nat.add_comm];exact this
   ·unfold jJ;rw[dC]at i2;rw[List.length_cons];omega
   ·unfold jJ;omega
def MI:eF:=⟨0,0,0,DL⟩
def lG(s:yC)(tag:Int):Nat:=s.xB.findIdx (λo=>decide (o.tag=tag))
def iV(s:yC)(tag:Int):eF:=s.xB.getD (lG s tag) MI
def lK(s:yC)(tag:Int):yC:={s with xB:=s.xB.eraseIdx (lG s tag)}
def sK(p:lD)(s:yC)(tag:Int):Int:=if zG p s≠0 then zG p s else if lG s tag=s.xB.length then 5 else 0
def kT(s:yC)(tag:Int):yC:={lK s tag with uA:=s.uA+1}
def cL(p:lD)(s:yC)(tag:Int):Int:=if sK p s tag≠0 then sK p s tag else if 524288<s.gA then 2 else 0
def DM(x:zD):zD:={x with again:=true}
def rejM(p:lD)(s:yC)(tag:Int)(back:Bool):yC:=if back=true then qK p (lK s tag) (iV s tag).queue.toNat (DM (iV s tag).item)else{lK s tag with iA:=s.iA+1}
def rejA(p:lD)(s:yC)(tag:Int)(back:Bool):List fF:=if back=true then aO p (lK s tag) (iV s tag).queue.toNat (DM (iV s tag).item)else pI p (iV s tag).queue.toNat (iV s tag).item
def vK(p:lD)(s:yC)(tag:Int)(back:Bool):yC:=oI p 600 (rejM p s tag back) (rejA p s tag back)
theorem FG(s:yC)(tag:Int):lG s tag<=s.xB.length:=List.findIdx_le_length
theorem ZI{α:Type}{xs:List α}{i:Nat}(h:i<xs.length):xs=xs.take i++xs[i]::xs.drop (i+1)/\xs.eraseIdx i=xs.take i++xs.drop (i+1):=
 ⟨(RF h xs[i]).1,jL _ _⟩
structure xQ(s:yC)(tag:Int)(i:Nat)(o:eF):Prop where
 idx:lG s tag=i
 lt:i<s.xB.length
 get:s.xB[i]'lt=o
 out:iV s tag=o
 tag:o.tag=tag
theorem GP{s:yC}{tag:Int}(h:lG s tag≠s.xB.length):∃i o,xQ s tag i o:=by
 have hl:lG s tag<s.xB.length:=by have:=FG s tag;omega
 refine⟨lG s tag,s.xB[lG s tag],rfl,hl,rfl,?_,?_⟩;·unfold iV;rw[tB,tA hl];rfl
 ·have:=cM (w:=hl) (p:=λo:eF=>decide (o.tag=tag));exact qJ this
theorem xQ.mem{s:yC}{tag:Int}{i:Nat}{o:eF}(h:xQ s tag i o):o∈s.xB:=by rw[<-h.get];exact qB h.lt
theorem xQ.less{s:yC}{tag:Int}{i:Nat}{o:eF}(h:xQ s tag i o):(lK s tag).xB=s.xB.eraseIdx i:=by unfold lK;simp only;rw[h.idx]
theorem xQ.perm{s:yC}{tag:Int}{i:Nat}{o:eF}(h:xQ s tag i o):(o::(lK s tag).xB).Perm s.xB:=by
 obtain⟨e1,e2⟩:=ZI h.lt;rw[h.less,e2,<-h.get];refine List.perm_middle.symm.trans ?_;rw[<-e1]
theorem xQ.seqs{s:yC}{tag:Int}{i:Nat}{o:eF}(h:xQ s tag i o):(o.item.seq::kI (lK s tag)).Perm (kI s):=by
 have e:kI (lK s tag)=s.yA.flatMap (λl=>l.map zD.seq)++(lK s tag).xB.map (λo=>o.item.seq):=rfl;have hp:((o::(lK s tag).xB).map (λo=>o.item.seq)).Perm (s.xB.map (λo=>o.item.seq)):=h.perm.map _;rw[fH]at hp;rw[e];refine List.perm_middle.symm.trans ?_;exact hp.append_left _
theorem xQ.held{s:yC}{tag:Int}{i:Nat}{o:eF}(h:xQ s tag i o)(t:Int):xE (lK s tag) t+(if o.fE=t then 1 else 0)=xE s t:=by
 have hp:=(h.perm.filter (λo=>decide (o.fE=t))).length_eq;unfold xE;rw[<-hp,xJ];by_cases e:o.fE=t<;>simp[e]
theorem mH.less{p:lD}{s:yC}(h:mH p s 0){tag:Int}{i:Nat}{o:eF}(ho:xQ s tag i o):mH p (lK s tag) 1:=by
 have hs:=ho.seqs;have hnd:=hs.nodup_iff.2 h.nodup;have hsub:(lK s tag).xB.Sublist s.xB:=by rw[ho.less];exact List.eraseIdx_sublist _ _
 refine⟨h.pl,h.tk,h.len,h.line,h.tok,?_,h.ns,h.nt,h.ak,h.dr,(gJ.1 hnd).2,λz hz=>h.lt z (hs.mem_iff.1 (cF _ hz)),h.room,λk hk=>?_,?_,h.cs⟩;·exact uY.2 ⟨λo ho=>(uY.1 h.xB).1 o (hsub.mem ho),h.rise.sublist hsub⟩
 ·have h1:=h.hold k hk;have h2:=ho.held (k:Int);show(xE (lK s tag) k:Int)<=(s.nA.getD k ⟨0,0⟩).nD;omega
 ·have h1:=h.sum;have h2:=hs.length_eq;simp only[List.length_cons]at h2;show s.nB=((kI (lK s tag)).length:Int)+1+s.uA+s.iA;omega
theorem xQ.notin{p:lD}{s:yC}{tag:Int}{i:Nat}{o:eF}(ho:xQ s tag i o)(h:mH p s 0):o.item.seq∉kI (lK s tag):=(gJ.1 (ho.seqs.nodup_iff.2 h.nodup)).1
theorem mH.ack{p:lD}{s:yC}(h:mH p s 0){tag:Int}{i:Nat}{o:eF}(ho:xQ s tag i o):mH p (kT s tag) 0:=by
 have g:=h.less ho;exact⟨g.pl,g.tk,g.len,g.line,g.tok,g.xB,g.ns,g.nt,by show 0<=s.uA+1;have:=h.ak;omega,g.dr,g.nodup,g.lt,g.room,g.hold,by have:=g.sum;show s.nB=((kI (lK s tag)).length:Int)+0+(s.uA+1)+s.iA;have e:(lK s tag).nB=s.nB:=rfl;have e2:(lK s tag).uA=s.uA:=rfl;have e3:(lK s tag).iA=s.iA:=rfl;omega,g.cs⟩
theorem KL{p:lD}{s:yC}{tag:Int}(h:sK p s tag=0):mH p s 0/\∃i o,xQ s tag i o:=by
 unfold sK at h;by_cases h1:zG p s=0
 ·rw[kA (by simp[h1])]at h;by_cases h2:lG s tag=s.xB.length;·rw[qA h2]at h;cases h
  ·exact⟨nN h1,GP h2⟩
 ·rw[qA h1]at h;exact absurd h h1
theorem Y7{p:lD}{s:yC}{tag:Int}(h:cL p s tag=0):mH p s 0/\(∃i o,xQ s tag i o)/\s.gA<=524288:=by
 unfold cL at h;by_cases h1:sK p s tag=0
 ·rw[kA (by simp[h1])]at h;by_cases h2:524288<s.gA;·rw[qA h2]at h;cases h
  ·exact⟨(KL h1).1,(KL h1).2,by omega⟩
 ·rw[qA h1]at h;exact absurd h h1
theorem xQ.queue{p:lD}{s:yC}{n:Int}{tag:Int}{i:Nat}{o:eF}(ho:xQ s tag i o)(h:mH p s n):0<=o.queue/\o.queue.toNat<s.yA.length/\o.queue<p.jB.length:=by
 obtain⟨_,hf⟩:=h.fine ho.mem;obtain⟨t,ht,h1,h2⟩:=hf.tk;have:=(BM.1 (h.tok t (cS ht))).1;have hl:=h.len;omega
theorem mH.rejM{p:lD}{s:yC}(h:mH p s 0){tag:Int}{i:Nat}{o:eF}(ho:xQ s tag i o)(back:Bool):mH p (rejM p s tag back) 0/\(∀a∈rejA p s tag back,mR p a)/\(rejA p s tag back).length<=4:=by
 have g:=h.less ho;have hi:=(h.fine ho.mem).2.item;have hf:=h.rp.few.2.1;cases back with
 |true=>
   unfold Go.Proofs.YtedmnjimkhamaaaGreatDoor.rejM Go.Proofs.YtedmnjimkhamaaaGreatDoor.rejA;rw[qA rfl,qA rfl,ho.out];have hq:o.queue.toNat<(lK s tag).yA.length:=(ho.queue h).2.1;have hi':nH (DM o.item)=true:=hi;have hl:=g.line _ (cV hq);have hn:(DM o.item).seq∉kI (lK s tag):=ho.notin h;refine⟨g.put hq hi' hn (h.lt _ (ho.seqs.mem_iff.1 jE)),?_⟩;obtain⟨a1,a2⟩:=UR (p:=p) (q:=o.queue.toNat) (AJ hl hi' (wY hq hl hn));exact⟨a1,vA a2 hf⟩
 |false=>
   unfold Go.Proofs.YtedmnjimkhamaaaGreatDoor.rejM Go.Proofs.YtedmnjimkhamaaaGreatDoor.rejA;rw[kA (by decide),kA (by decide),ho.out];obtain⟨a1,a2⟩:=LT (p:=p) (q:=o.queue.toNat) hi;refine⟨⟨g.pl,g.tk,g.len,g.line,g.tok,g.xB,g.ns,g.nt,g.ak,by show 0<=s.iA+1;have:=h.dr;omega,g.nodup,g.lt,g.room,g.hold,?_,g.cs⟩,a1,vA a2 hf⟩;have:=g.sum;show s.nB=((kI (lK s tag)).length:Int)+0+s.uA+(s.iA+1);have e:(lK s tag).nB=s.nB:=rfl;have e2:(lK s tag).uA=s.uA:=rfl;have e3:(lK s tag).iA=s.iA:=rfl;omega
theorem BS(p:lD)(s:yC)(tag:Int)(back:Bool):(rejM p s tag back).gA=s.gA/\(rejM p s tag back).xB=(lK s tag).xB/\(rejM p s tag back).nA=s.nA/\(rejM p s tag back).uA=s.uA/\(rejM p s tag back).fA=s.fA/\(rejM p s tag back).nB=s.nB/\(rejM p s tag back).yA.length=s.yA.length:=by
 cases back with
 |true=>refine⟨rfl,rfl,rfl,rfl,rfl,rfl,?_⟩;unfold rejM qK;simp[lK]
 |false=>exact⟨rfl,rfl,rfl,rfl,rfl,rfl,rfl⟩
theorem M4{p:lD}{s:yC}(h:mH p s 0){tag:Int}{i:Nat}{o:eF}(ho:xQ s tag i o)(back:Bool)(hs:s.gA<=524288):∃n,n<=600/\yI p (rejM p s tag back) (vK p s tag back) n:=by
 obtain⟨g1,g2,g3⟩:=h.rejM ho back;have hph:=MG g1 g3;obtain⟨a1,a2,a3⟩:=KO 600 g1 g2 (by omega) (by rw[(BS p s tag back).1];omega);exact⟨_,a3,a1⟩
def iR(p:lD)(t:Int):List eF->yC->Int
 |[],_=>0
 |o::r,s=>if o.fE=t then(if cL p s o.tag≠0 then cL p s o.tag else iR p t r (vK p s o.tag true))else iR p t r s
def bT(p:lD)(t:Int):List eF->yC->yC
 |[],s=>s
 |o::r,s=>if o.fE=t then bT p t r (vK p s o.tag true)else bT p t r s
def gV(p:lD)(s:yC)(t:Int):Int:=
 if zG p s≠0 then zG p s else if tG t s.nA.length=false then 5 else if(bU s t.toNat).queue=-1 then 5 else iR p t s.xB s
def sT(ts:List kH)(t:Nat):List kH:=ts.set t ⟨-1,(ts.getD t ⟨0,0⟩).nD⟩
def qW(p:lD)(s:yC)(t:Int):yC:={bT p t s.xB s with nA:=sT (bT p t s.xB s).nA t.toNat}
theorem OG(p:lD):∀(f:Nat)(s:yC)(l:List fF),(oI p f s l).nA=s.nA
 |0,_,_=>rfl
 |_+1,_,[]=>rfl
 |f+1,s,a::l=>by unfold oI;rw[OG p f];rfl
theorem OE(p:lD)(s:yC)(tag:Int)(back:Bool):(vK p s tag back).nA=s.nA:=by
 unfold vK;rw[OG];exact(BS p s tag back).2.2.1
structure eW(p:lD)(s t:yC)(tag:Int)(i:Nat)(o:eF)(n:Nat):Prop where
 right:mH p t 0
 xB:t.xB=s.xB.eraseIdx i
 nA:t.nA=s.nA
 tag:t.fA=s.fA
 uA:t.uA=s.uA
 nB:t.nB=s.nB+n
 seq:t.gA=s.gA+n
 iA:s.iA<=t.iA
 len:t.yA.length=s.yA.length
theorem XY(p:lD)(s:yC)(tag:Int)(back:Bool):s.iA<=(rejM p s tag back).iA:=by
 cases back with
 |true=>
   unfold rejM;rw[qA rfl];show s.iA<=s.iA+_;have:∀q l,0<=cO p q l:=λq l=>by unfold cO;split<;>omega
   have:=this (iV s tag).queue.toNat (sH (oF (lK s tag) (iV s tag).queue.toNat) (DM (iV s tag).item));omega
 |false=>unfold rejM;rw[kA (by decide)];show s.iA<=s.iA+1;omega
theorem rQ{p:lD}{s:yC}{tag:Int}(h:cL p s tag=0)(back:Bool):∃i o n,xQ s tag i o/\n<=600/\eW p s (vK p s tag back) tag i o n:=by
 obtain⟨hR,⟨i,o,ho⟩,hs⟩:=Y7 h;obtain⟨n,hn,ha⟩:=M4 hR ho back hs;obtain⟨g1,g2,g3,g4,g5,g6,g7⟩:=BS p s tag back;have g8:=XY p s tag back;exact⟨i,o,n,ho,hn,ha.right,by rw[ha.xB,g2,ho.less],by rw[ha.nA,g3],by rw[ha.tag,g5],by rw[ha.uA,g4],by rw[ha.nB,g6],by rw[ha.seq,g1],Int.le_trans g8 ha.iA,by rw[ha.len,g7]⟩
theorem Y8{xs:List eF}(h:xs.Pairwise (λa b=>a.tag<b.tag)){i j:Nat}(hi:i<xs.length)(hj:j<xs.length)(e:xs[i].tag=xs[j].tag):i=j:=by
 rw[dH]at h;rcases Nat.lt_trichotomy i j with hl|hl|hl;·have:=h i j hi hj hl;omega
 ·exact hl
 ·have:=h j i hj hi hl;omega
structure GW(p:lD)(t:Int)(pre r:List eF)(s s':yC):Prop where
 right:mH p s' 0
 nA:s'.nA=s.nA
 xB:s'.xB=pre++r.filter (λo=>decide (o.fE≠t))
 tag:s'.fA=s.fA
 uA:s'.uA=s.uA
 nB:s.nB<=s'.nB
 iA:s.iA<=s'.iA
 len:s'.yA.length=s.yA.length
theorem KU{p:lD}{t:Int}:∀(r pre:List eF)(s:yC),mH p s 0->s.xB=pre++r->iR p t r s=0->GW p t pre r s (bT p t r s)
 |[],pre,s,h,ho,_=>⟨h,rfl,by show s.xB=_;simpa using ho,rfl,rfl,zI _,zI _,rfl⟩
 |o::r,pre,s,h,ho,he=>by
   unfold iR at he;unfold bT;by_cases ht:o.fE=t
   ·rw[qA ht]at he⊢;by_cases hz:cL p s o.tag=0
    ·rw[kA (by simp[hz])]at he;obtain⟨i,o',n,hi,_,hr⟩:=rQ hz true;have hlen:pre.length<s.xB.length:=by rw[ho];simp
     have hget:s.xB[pre.length]=o:=by simp[ho]
     have hii:i=pre.length:=Y8 h.rise hi.lt hlen (by rw[hi.get,hget,hi.tag]);have hout:(vK p s o.tag true).xB=pre++r:=by
      rw[hr.xB,hii,ho,List.eraseIdx_append_of_length_le (eA _)];simp
     have ih:=KU r pre (vK p s o.tag true) hr.right hout he;exact⟨ih.right,by rw[ih.nA,hr.nA],by rw[ih.xB,xJ,kA (by simp[ht])],by rw[ih.tag,hr.tag],by rw[ih.uA,hr.uA],by have:=ih.nB;have:=hr.nB;omega,Int.le_trans hr.iA ih.iA,by rw[ih.len,hr.len]⟩
    ·rw[qA hz]at he;exact absurd he hz
   ·rw[kA ht]at he⊢;have ih:=KU r (pre++[o]) s h (by rw[ho];simp) he;exact⟨ih.right,ih.nA,by rw[ih.xB,xJ,qA (by simp[ht])];simp,ih.tag,ih.uA,ih.nB,ih.iA,ih.len⟩
theorem H9{p:lD}{s:yC}{t:Int}(h:gV p s t=0):mH p s 0/\0<=t/\t<s.nA.length/\(bU s t.toNat).queue≠-1/\iR p t s.xB s=0:=by
 unfold gV at h;by_cases h1:zG p s=0
 ·rw[kA (by simp[h1])]at h;by_cases h2:tG t s.nA.length=false;·rw[qA h2]at h;cases h
  ·rw[kA h2]at h;have h2':=cP.1 (by simpa using h2:tG t s.nA.length=true);by_cases h3:(bU s t.toNat).queue=-1;·rw[qA h3]at h;cases h
   ·rw[kA h3]at h;exact⟨nN h1,h2'.1,h2'.2,h3,h⟩
 ·rw[qA h1]at h;exact absurd h h1
theorem xZ(ts:List kH)(k:Nat):(sT ts k).length=ts.length:=by unfold sT;simp
theorem KG{ts:List kH}{k i:Nat}(h:i≠k):(sT ts k)[i]?=ts[i]?:=by
 unfold sT;rw[rE,kA (λe=>h e.symm)]
theorem TG{ts:List kH}{k:Nat}(h:k<ts.length):(sT ts k)[k]?=some ⟨-1,(ts.getD k ⟨0,0⟩).nD⟩:=by
 unfold sT;rw[rE,qA rfl,qA h]
theorem mH.gone{p:lD}{s:yC}(h:mH p s 0){t:Int}(h0:0<=t)(hl:t<s.nA.length)(hn:∀o∈s.xB,o.fE≠t):mH p {s with nA:=sT s.nA t.toNat} 0:=by
 have hk:t.toNat<s.nA.length:=by omega
 refine⟨h.pl,by show(sT _ _).length<=4;rw[xZ];exact h.tk,h.len,h.line,?_,?_,h.ns,h.nt,h.ak,h.dr,h.nodup,h.lt,h.room,?_,h.sum,h.cs⟩
 ·intro u hu;have hu':u∈sT s.nA t.toNat:=hu;obtain⟨i,hi,rfl⟩:=oG.1 hu';rw[xZ]at hi;by_cases e:i=t.toNat;·subst e;have:=TG hk;rw[tA (by rw[xZ];exact hi)]at this;rw[yG this];have:=BM.1 (h.tok _ (qB hi));refine BM.2 ⟨.inl rfl,?_⟩;rw[tB,tA hi];exact this.2
  ·have:=KG (ts:=s.nA) e;rw[tA (by rw[xZ];exact hi),tA hi]at this;rw[yG this];exact h.tok _ (qB hi)
 ·refine uY.2 ⟨λo ho=>?_,h.rise⟩;obtain⟨h1,h2⟩:=h.fine ho;have h3:=hn o ho;have h4:=h2.rng;refine⟨by omega,h2.tag,by show _/\o.fE<((sT s.nA t.toNat).length:Nat);rw[xZ];exact h4,?_,h2.item⟩;show∃u,(sT s.nA t.toNat)[o.fE.toNat]?=some u/\_;rw[KG (by omega)];exact h2.tk
 ·intro k hk';have hk2:k<s.nA.length:=by have:k<(sT s.nA t.toNat).length:=hk';rwa[xZ]at this
  have h1:=h.hold k hk2;show(xE s k:Int)<=((sT s.nA t.toNat).getD k ⟨0,0⟩).nD;rw[tB];by_cases e:k=t.toNat;·subst e;rw[TG hk];exact h1
  ·rw[KG e,<-tB];exact h1
theorem MU(t:Int):∀xs:List eF,((xs.filter (λo=>decide (o.fE≠t))).length:Int)=xs.length-((xs.filter (λo=>decide (o.fE=t))).length:Int)
 |[]=>rfl
 |o::r=>by
   have ih:=MU t r;rw[xJ,xJ];by_cases h:o.fE=t<;>simp[h]<;>simp at ih<;>omega
structure GV(p:lD)(s s':yC)(t:Int):Prop where
 right:mH p s' 0
 was:mH p s 0
 rng:0<=t/\t<s.nA.length
 held:xE s' t=0
 xB:(s'.xB.length:Int)=s.xB.length-xE s t
 tlen:s'.nA.length=s.nA.length
 tag:s'.fA=s.fA
 uA:s'.uA=s.uA
 nB:s.nB<=s'.nB
 iA:s.iA<=s'.iA
 len:s'.yA.length=s.yA.length
theorem AT{p:lD}{s:yC}{t:Int}(h:gV p s t=0):GV p s (qW p s t) t:=by
 obtain⟨hR,h0,hl,hq,he⟩:=H9 h;have g:=KU s.xB [] s hR (by simp) he;have hn:∀o∈(bT p t s.xB s).xB,o.fE≠t:=by
  intro o ho;rw[g.xB,List.nil_append]at ho;have:=(List.mem_filter.1 ho).2;simpa using this
 have hl':t<(bT p t s.xB s).nA.length:=by rw[g.nA];exact hl
 refine⟨g.right.gone h0 hl' hn,hR,⟨h0,hl⟩,?_,?_,?_,g.tag,g.uA,g.nB,g.iA,g.len⟩;·show(((bT p t s.xB s).xB).filter _).length=0;rw[kC,iQ];intro o ho e;exact hn o ho (by simpa using e)
 ·show(((bT p t s.xB s).xB).length:Int)=_;rw[g.xB,List.nil_append,MU];rfl
 ·show(sT _ _).length=_;rw[xZ,g.nA]
def lU(xs:List zD)(yD:Int):Int:=if tI xs=true then(if yD<0 then 3 else 0)else 1
def pX(n:Nat)(yD:Int):Nat:=((n:Int)-yD).toNat
def DQ(xs:List zD)(yD:Int):List zD:=if lU xs yD=0 then xs.drop (pX xs.length yD)else[]
def lY(xs:List zD)(yD:Int):List zD:=if lU xs yD=0 then xs.take (pX xs.length yD)else[]
theorem Z3{n:Nat}{yD:Int}(h:0<=yD):pX n yD<=n:=by unfold pX;omega
theorem uI{w1 w2:World}{base:Nat}{v:Value}{n:Nat}{xs:List Value}{e:TypeId}{size:Nat}(h:w1.ownsRow base e size v n xs)(hB:Below w1.heap.size w1 w2):w2.ownsRow base e size v n xs:=by
 refine⟨h.1,?_⟩;rcases h.2 with h|⟨g,cap,cur,h1,h2,h3,h4⟩;·exact .inl h
 ·exact .inr ⟨g,cap,cur,h1,h2,(hB.block g (iC.1 h3).1).trans h3,h4⟩
theorem T9(xs:List zD)(a:Option Addr)(n c i:Nat)(yD:Int)(w:World)(hn:xs.length=n)(hnc:n<=c)(hcm:c<=maxLen)(hz:a=none->c=0)(hp:qI w a xs)(hl:tI xs=true)(h0:0<=yD)(h1:yD<=9223372036854775807)(hi:i=pX n yD):
 Calls Tryz.prog 144 #[.slice a n c,.int .i64 yD] w λe w'=>∃v u,e=.returned (.tuple #[v,u,.int .i64 0])/\w'.ownsRow w.heap.size 86 5 v (n-i) (tK (xs.drop i))/\w'.ownsRow w.heap.size 86 5 u i (tK (xs.take i))/\Below w.heap.size w w':=by
 have hf:=EP hl;rw[hn]at hf;have HL:Hid (tL xs=0):=by show tL xs=0;unfold tL;rw[qA hl]
 have HP:Hid (qI w a xs):=hp;have HN:Hid (xs.length=n):=hn;have HM:Hid (n<=maxLen):=vA hnc hcm;have hin:i<=n:=by rw[hi];exact Z3 h0
 have HI:Hid (max ((n:Int)-yD) 0=i):=by show max ((n:Int)-yD) 0=i;rw[hi];unfold pX;omega
 have HZ:Hid (a=none->c=0):=hz;have q0:¬yD<0:=by omega
 have qw:IntKind.i64.wrap ((n:Int)-yD)=(n:Int)-yD:=by rw[uB];omega
 clear hp hl hn hi hz;go_enter Tryz.func144,Tryz.ntmps144;go_wp2_with fail;refine(gW xs _ _ _ _ HN.out HM.out HP.out).mono ?_;rintro e w2⟨rfl,hB2⟩;rw[HL.out];go_wp2_with fail;rw[HI.out];have q1:(0:Int)<=(i:Int):=by omega
 have q2:(i:Int)<=(n:Int):=by omega
 have q3:(i:Int)<=(c:Int):=by omega
 have q4:(n:Int)<=(c:Int):=by omega
 refine zB (S:=λw'=>True) (by kernel_rfl) trivial (λhHeld=>?_);refine tk 0 ?_;refine tk 1 ?_;refine tk 2 ?_;refine tk 4 ?_;refine tk 5 ?_;refine tk 6 ?_;refine pG 3 (λK hK=>?_);go_simp;have hB2s:=hB2.size;have hp2:qI w2 a xs:=HP.out.sA hB2;have ha0:a=none->xs=[]:=λe=>kC.1 (by have:=HZ.out e;have:=HN.out;omega);refine(PF (xs.drop i) _ (n-i) (c-i) w2.drew (by rw[rF,HN.out]) (by omega) (λe=>?_) (hp2.drop i c (by rw[HN.out];exact hnc))).mono ?_
 ·have e2:a=none:=by
   split at e;·exact e
   ·simpa using e
  exact⟨by have:=HZ.out e2;omega,by rw[ha0 e2];simp⟩
 rintro e w3⟨v,rfl,hown3,hB3'⟩;have hB3:Below w2.heap.size w2 w3:=nQ hB3';have hown3b:w3.ownsRow w2.heap.size 86 5 v (n-i) (tK (xs.drop i)):=hown3;refine hK.out _ _ trivial (λhHeld2=>?_);clear hHeld hK K hown3 hB3';try simp only[Act.put,List.getElem_toArray,List.getElem_cons_succ,List.getElem_cons_zero,cD,List.set_cons_zero,List.set_cons_succ]
 refine pG 7 (λK hK=>?_);go_simp;have hB3s:=hB3.size;refine(PF (xs.take i) _ i c w3 (by rw[iD,HN.out];omega) (by omega) (λe=>⟨HZ.out e,by rw[ha0 e];simp⟩) ((hp2.sA hB3).take i)).mono ?_;rintro e w4⟨u,rfl,hown4,hB4⟩;refine hK.out _ _ trivial (λhHeld3=>?_);clear hHeld2 hK K;try simp only[Act.put,List.getElem_toArray,List.getElem_cons_succ,List.getElem_cons_zero,cD,List.set_cons_zero,List.set_cons_succ]
 refine tk 8 ?_;refine tk 9 ?_;refine tk 10 ?_;refine gC (by kernel_rfl) ?_ _;go_wp2_with fail;all_goals
  exact dB (v:=.tuple #[v,u,.int .i64 0]) (by simp[results,Tryz.results144,go_sem]) rfl ⟨v,u,rfl,xS (uI hown3b hB4) (by omega),xS hown4 (by omega),hB2.trans ((hB3.trans (hB4.mono hB3s)).mono hB2s)⟩
theorem Z5(xs:List zD)(a:Option Addr)(n c:Nat)(yD:Int)(w:World)(hn:xs.length=n)(hm:n<=maxLen)(hp:qI w a xs)(he:lU xs yD≠0):
 Calls Tryz.prog 144 #[.slice a n c,.int .i64 yD] w λe w'=>e=.returned (.tuple #[.slice none 0 0,.slice none 0 0,.int .i64 (lU xs yD)])/\Below w.heap.size w w':=by
 have HP:Hid (qI w a xs):=hp;have HN:Hid (xs.length=n):=hn;have HM:Hid (n<=maxLen):=hm;cases hl:tI xs with
 |false=>
   have e1:lU xs yD=1:=by unfold lU;rw[hl];rfl
   have HL:Hid (tL xs=1):=by show tL xs=1;unfold tL;rw[hl];rfl
   rw[e1];clear hp hn hm he hl e1;go_enter Tryz.func144,Tryz.ntmps144;go_wp2_with fail;refine(gW xs _ _ _ _ HN.out HM.out HP.out).mono ?_;rintro e w2⟨rfl,hB2⟩;rw[HL.out];go_wp2_with fail;exact dB (v:=.tuple #[.slice none 0 0,.slice none 0 0,.int .i64 1]) (by simp[results,Tryz.results144,go_sem]) rfl ⟨rfl,hB2⟩
 |true=>
   have h0:yD<0:=by
    rcases Int.lt_or_le yD 0 with h|h;·exact h
    ·exfalso;apply he;unfold lU;rw[qA hl,kA (by omega)]
   have e1:lU xs yD=3:=by unfold lU;rw[qA hl,qA h0]
   have HL:Hid (tL xs=0):=by show tL xs=0;unfold tL;rw[qA hl]
   rw[e1];clear hp hn hm he hl e1;go_enter Tryz.func144,Tryz.ntmps144;go_wp2_with fail;refine(gW xs _ _ _ _ HN.out HM.out HP.out).mono ?_;rintro e w2⟨rfl,hB2⟩;rw[HL.out];go_wp2_with fail;exact dB (v:=.tuple #[.slice none 0 0,.slice none 0 0,.int .i64 3]) (by simp[results,Tryz.results144,go_sem]) rfl ⟨rfl,hB2⟩
theorem Z4(xs:List zD)(a:Option Addr)(n c:Nat)(yD:Int)(w:World)(hn:xs.length=n)(hnc:n<=c)(hcm:c<=maxLen)(hz:a=none->c=0)(hp:qI w a xs)(h1:yD<=9223372036854775807):
 Calls Tryz.prog 144 #[.slice a n c,.int .i64 yD] w λe w'=>∃v u m1 m2,e=.returned (.tuple #[v,u,.int .i64 (lU xs yD)])/\w'.ownsRow w.heap.size 86 5 v m1 (tK (DQ xs yD))/\w'.ownsRow w.heap.size 86 5 u m2 (tK (lY xs yD))/\Below w.heap.size w w':=by
 by_cases he:lU xs yD=0
 ·have hl:tI xs=true:=by
   cases hl:tI xs with
   |true=>rfl
   |false=>unfold lU at he;rw[hl]at he;simp at he
  have h0:0<=yD:=by
   rcases Int.lt_or_le yD 0 with h|h;·unfold lU at he;rw[qA hl,qA h]at he;cases he
   ·exact h
  refine(T9 xs a n c _ yD w hn hnc hcm hz hp hl h0 h1 rfl).mono ?_;rintro e w'⟨v,u,rfl,o1,o2,hB⟩;exact⟨v,u,_,_,by rw[he],by unfold DQ;rw[qA he,hn];exact o1,by unfold lY;rw[qA he,hn];exact o2,hB⟩
 ·refine(Z5 xs a n c yD w hn (vA hnc hcm) hp he).mono ?_;rintro e w'⟨rfl,hB⟩;exact⟨_,_,0,0,rfl,by unfold DQ;rw[kA he];exact jC _ _ _ _,by unfold lY;rw[kA he];exact jC _ _ _ _,hB⟩
def jK(W:World)(a:Option Addr)(cs:List Value):Prop:=cs=[]\/∃g o,a=some ⟨g,o,none⟩/\g<W.heap.size/\∀j u,cs[j]?=some u->W.cell? ⟨g,o+j,none⟩=some u
theorem jK.sA{W W':World}{a:Option Addr}{cs:List Value}(h:jK W a cs)(hB:Below W.heap.size W W'):jK W' a cs:=by
 rcases h with h|⟨g,o,ha,hg,h⟩;·exact .inl h
 ·exact .inr ⟨g,o,ha,uC hg hB.size,λj u hj=>(hB.cell (p:=⟨g,o+j,none⟩) hg).trans (h j u hj)⟩
theorem jK.news{W:World}{ad:Addr}{cs:List Value}(h:jK W (some ad) cs):∀j u,cs[j]?=some u->W.cell? (ad.add j)=some u:=by
 intro j u hj;rcases h with rfl|⟨g,o,ha,_,h⟩;·simp at hj
 ·cases ha;rw[bZ];exact h j u hj
theorem jM{W:World}{base:Nat}{T:TypeId}{size:Nat}{v:Value}{n:Nat}{cs:List Value}(h:W.ownsRow base T size v n cs):
 ∃a c,v=.slice a n c/\n<=c/\c<=maxLen/\(a=none->c=0/\n=0)/\jK W a cs:=by
 rcases h.2 with⟨rfl,h0⟩|⟨g,cap,cur,rfl,hb,hg,h1,h2,_⟩;·have hx:cs=[]:=kC.1 (by have:=h.1;rw[h0]at this;simpa using this);exact⟨none,0,by rw[h0],by omega,by unfold maxLen;omega,λ_=>⟨rfl,h0⟩,.inl hx⟩
 ·refine⟨_,cap,rfl,h1,h2,(λh=>by cases h),.inr ⟨g,0,rfl,(iC.1 hg).1,λj u hj=>?_⟩⟩;have:=h.cells (g:=g) rfl _ _ hj;rw[bZ]at this;exact this
theorem AE{α:Type}{f:α->List Value}{k:Nat}(hf:∀x,(f x).length=k)(xs:List α):(xs.flatMap f).length=xs.length*k:=by
 induction xs with
 |nil=>simp
 |cons x r ih=>rw[mF,dC,hf,ih,List.length_cons,Nat.add_mul];omega
theorem dU{α:Type}{f:α->List Value}{k:Nat}(hf:∀x,(f x).length=k):∀(xs:List α)(i:Nat)(h:i<xs.length)(j:Nat),j<k->(xs.flatMap f)[i*k+j]?=(f xs[i])[j]?
 |x::r,0,_,j,hj=>by
   rw[mF,wE (by rw[hf];omega)];simp
 |x::r,i+1,h,j,hj=>by
   have e:(i+1)*k+j=k+(i*k+j):=by rw[Nat.add_mul];omega
   rw[mF,e,uE (by rw[hf];omega),hf,uP];exact dU hf r i (by simpa using h) j hj
theorem TF{k j n:Nat}(hk:0<k)(h:j<n*k):j/k<n/\j%k<k/\j/k*k+j%k=j:=
 ⟨(Nat.div_lt_iff_lt_mul hk).2 h,Nat.mod_lt _ hk,by rw[Nat.mul_comm];exact Nat.div_add_mod j k⟩
theorem MF{α:Type}{f:α->List Value}{k:Nat}(hk:0<k)(hf:∀x,(f x).length=k){W:World}{a:Option Addr}{xs:List α}
 (h:xs=[]\/∃g o,a=some ⟨g,o,none⟩/\g<W.heap.size/\∀i(h:i<xs.length)j,j<k->W.cell? ⟨g,o+i*k+j,none⟩=(f xs[i])[j]?):jK W a (xs.flatMap f):=by
 rcases h with rfl|⟨g,o,ha,hg,h⟩;·exact .inl rfl
 ·refine .inr ⟨g,o,ha,hg,λj u hj=>?_⟩;have hjl:j<xs.length*k:=by
   rcases xG j (xs.length*k)with h|h;·exact h
   ·rw[tF (by rw[AE hf];exact h)]at hj;cases hj
  obtain⟨h1,h2,h3⟩:=TF hk hjl;have hc:=h _ h1 _ h2;rw[<-dU hf xs _ h1 _ h2,h3,gH,h3,hj]at hc;exact hc
theorem jK.get{α:Type}{f:α->List Value}{k:Nat}(hf:∀x,(f x).length=k){W:World}{a:Option Addr}{xs:List α}(h:jK W a (xs.flatMap f))(hk:0<k):
 xs=[]\/∃g o,a=some ⟨g,o,none⟩/\g<W.heap.size/\∀i(h:i<xs.length)j,j<k->W.cell? ⟨g,o+i*k+j,none⟩=(f xs[i])[j]?:=by
 rcases h with h|⟨g,o,ha,hg,h⟩
 ·refine .inl (kC.1 ?_);have:=congrArg List.length h;rw[AE hf,List.length_nil]at this;rcases Nat.mul_eq_zero.1 this with h|h;·exact h
  ·omega
 ·refine .inr ⟨g,o,ha,hg,λi hi j hj=>?_⟩;have e:=dU hf xs i hi j hj;have hv:(f xs[i])[j]?=some ((f xs[i])[j]'(by rw[hf];exact hj)):=tA _;rw[hv]at e⊢;have:=h _ _ e;rw[gH];exact this
def kH.cells(t:kH):List Value:=[.int .i64 t.queue,.int .i64 t.nD]
def eF.cells(o:eF):List Value:=[.int .i64 o.tag,.int .i64 o.fE,.int .i64 o.queue,.int .i64 o.item.seq,.string o.item.key,.string o.item.body,.bool o.item.again,.int .i64 o.item.fC]
def rH(xs:List kH):List Value:=xs.flatMap kH.cells
def dJ(xs:List eF):List Value:=xs.flatMap eF.cells
theorem zY{W:World}{a:Option Addr}{xs:List kH}:xX W a xs↔jK W a (rH xs):=by
 constructor
 ·intro h;refine MF (k:=2) (by omega) (λ_=>rfl) ?_;rcases h with h|⟨g,o,ha,hg,h⟩;·exact .inl h
  ·refine .inr ⟨g,o,ha,hg,λi hi j hj=>?_⟩;match j,hj with
   |0,_=>exact(h i hi).1
   |1,_=>exact(h i hi).2
 ·intro h;rcases jK.get (k:=2) (λ_=>rfl) h (by omega)with h|⟨g,o,ha,hg,h⟩;·exact .inl h
  ·exact .inr ⟨g,o,ha,hg,λi hi=>⟨h i hi 0 (by omega),h i hi 1 (by omega)⟩⟩
theorem eZ{W:World}{a:Option Addr}{xs:List eF}:gY W a xs↔jK W a (dJ xs):=by
 constructor
 ·intro h;refine MF (k:=8) (by omega) (λ_=>rfl) ?_;rcases h with h|⟨g,o,ha,hg,h⟩;·exact .inl h
  ·refine .inr ⟨g,o,ha,hg,λi hi j hj=>?_⟩;obtain⟨h0,h1,h2,h3⟩:=h i hi;match j,hj with
   |0,_=>exact h0
   |1,_=>exact h1
   |2,_=>exact h2
   |3,_=>exact h3.at (j:=0) (by omega)
   |4,_=>exact h3.at (j:=1) (by omega)
   |5,_=>exact h3.at (j:=2) (by omega)
   |6,_=>exact h3.at (j:=3) (by omega)
   |7,_=>exact h3.at (j:=4) (by omega)
 ·intro h;rcases jK.get (k:=8) (λ_=>rfl) h (by omega)with h|⟨g,o,ha,hg,h⟩;·exact .inl h
  ·refine .inr ⟨g,o,ha,hg,λi hi=>⟨h i hi 0 (by omega),h i hi 1 (by omega),h i hi 2 (by omega),jS.of λj hj=>?_⟩⟩;have:=h i hi (3+j) (by omega);rw[<-gH]at this;rw[this];match j,hj with
   |0,_=>rfl
   |1,_=>rfl
   |2,_=>rfl
   |3,_=>rfl
   |4,_=>rfl
theorem aY{W:World}{a:Option Addr}{xs:List zD}:qI W a xs↔jK W a (tK xs):=by
 constructor
 ·intro h;refine MF (k:=5) (by omega) (λ_=>rfl) ?_;rcases h with h|⟨g,o,ha,hg,h⟩;·exact .inl h
  ·exact .inr ⟨g,o,ha,hg,λi hi j hj=>(h i hi).at hj⟩
 ·intro h;rcases jK.get (k:=5) (λ_=>rfl) h (by omega)with h|⟨g,o,ha,hg,h⟩;·exact .inl h
  ·exact .inr ⟨g,o,ha,hg,λi hi=>jS.of λj hj=>h i hi j hj⟩
theorem DU(xs:List kH):∀u∈rH xs,u.oneCell'=true:=by
 intro u hu;obtain⟨x,_,hx⟩:=sI.1 hu;simp[kH.cells]at hx;rcases hx with rfl|rfl<;>rfl
theorem tY(xs:List eF):∀u∈dJ xs,u.oneCell'=true:=by
 intro u hu;obtain⟨x,_,hx⟩:=sI.1 hu;simp[eF.cells]at hx;rcases hx with rfl|rfl|rfl|rfl|rfl|rfl|rfl|rfl<;>rfl
structure cW(L E:TypeId)(size bytes:Nat):Prop where
 ex:∃(i0:TypeInfo)(z:Value),Tryz.prog.underlying L=some (.slice E)/\Tryz.prog.info? E=some i0/\i0.zero=some z/\i0.size=size/\i0.bytes=bytes/\z.cells.size=size/\0<size
theorem AI{L E:TypeId}{size bytes:Nat}{z:Value}(hu:Tryz.prog.underlying L=some (.slice E))(hi:(Tryz.prog.info? E).map (λi=>(i.zero,i.size,i.bytes))=some (some z,size,bytes))(hz:z.cells.size=size)(h0:0<size):cW L E size bytes:=by
 obtain⟨i0,h1,h2,h3,h4⟩:=qF hi;exact⟨i0,z,hu,h1,h2,h3,h4,hz,h0⟩
theorem IE{L E:TypeId}{size bytes:Nat}(hE:cW L E size bytes){w:World}{o:Oper}{act:Act}{K:Act->World->Prop}{Q:Exit->Act->World->Prop}(s x:Operand)
 (ho:o.op=.call {callee:=.builtin .append,args:=#[s,x],argTypes:=#[L,L]})
 (base:Nat)(v:Value)(n:Nat)(cs:List Value)(hs:act.eval s=v)(hown:w.ownsRow base E size v n cs)
 (a:Option Addr)(m c:Nat)(ds:List Value)(hx:act.eval x=.slice a m c)(hm:ds.length=m*size)(hz:a=none->c=0/\m=0)(hT:jK w a ds)(h1:∀u∈ds,u.oneCell'=true)
 (hb:n+m<=maxLen)(hby:(n+m)*bytes<=140737488355328)(hbase:base<=w.heap.size)
 (h:∀v' w',w'.ownsRow base E size v' (n+m) (cs++ds)->w.grownBy w' v.ownBlock->(v'.ownBlock=v.ownBlock\/v'.ownBlock=some w.heap.size)->K (act.put o.dst v') w'):
 Oper.wp Tryz.prog o act w K Q:=by
 obtain⟨i0,z,hu,hi,hz0,hz1,hz2,hzs,h0⟩:=hE.ex;cases a with
 |none=>
   obtain⟨rfl,rfl⟩:=hz rfl;have hd:ds=[]:=kC.1 (by rw[hm,kQ]);subst hd;have hrun:=run_append_owned_none (P:=Tryz.prog) (w:=w) base L o.type E i0 size hu hi v n _ hown;unfold Oper.wp;simp[execOp,ho,resolve,invoke,builtin,hs,hx,hrun,Result.andThen];exact h v w (by simpa using hown) (PK _ _) (.inl rfl)
 |some ad=>
   obtain⟨v',w',hr,h2,h3,h4,h5⟩:=run_append_own_at (P:=Tryz.prog) w base L o.type E i0 z size bytes hu hi hz0 hz1 hz2 hzs h0 v n _ hown ad m c ds hm hT.news h1 hb hby hbase;unfold Oper.wp execOp;simp only[ho,resolve,invoke,builtin,Sem.run_bind,Sem.run_pure,Result.andThen_ok,List.map_toArray,fH,fN,hs,hx,hr];exact h v' w' h2 h3 h5
theorem jT{L E:TypeId}{size bytes:Nat}(hE:cW L E size bytes){w:World}{ops:Array Oper}{rest:List Oper}{o:Oper}{act:Act}{Q:Exit->Act->World->Prop}(hw:Region.wanted o (yielded ops act.tmps)=true)(s x:Operand)
 (ho:o.op=.call {callee:=.builtin .append,args:=#[s,x],argTypes:=#[L,L]})
 (base:Nat)(v:Value)(n:Nat)(cs:List Value)(hs:act.eval s=v)(hown:w.ownsRow base E size v n cs)
 (a:Option Addr)(m c:Nat)(ds:List Value)(hx:act.eval x=.slice a m c)(hm:ds.length=m*size)(hz:a=none->c=0/\m=0)(hT:jK w a ds)(h1:∀u∈ds,u.oneCell'=true)
 (hb:n+m<=maxLen)(hby:(n+m)*bytes<=140737488355328)(hbase:base<=w.heap.size)
 (h:∀v' w',w'.ownsRow base E size v' (n+m) (cs++ds)->w.grownBy w' v.ownBlock->(v'.ownBlock=v.ownBlock\/v'.ownBlock=some w.heap.size)->wpList Tryz.prog ops Q rest (act.put o.dst v') w'):wpList Tryz.prog ops Q (o::rest) act w:=
 wpList_step λK hK=>by
  rw[qA hw];exact IE hE s x ho base v n cs hs hown a m c ds hx hm hz hT h1 hb hby hbase (λv' w' h1 h2 h3=>hK _ _ (h v' w' h1 h2 h3))
theorem FT:cW 110 86 5 56:=AI Tryz.underlying110 Tryz.infoItem rfl (by omega)
theorem Tryz.infoTaker:(Tryz.prog.info? 121).map (λi=>(i.zero,i.size,i.bytes))=some (some (.agg #[.int .i64 0,.int .i64 0]),2,16):=by kernel_rfl
theorem EJ:cW 37 121 2 16:=AI Tryz.underlying37 Tryz.infoTaker rfl (by omega)
theorem Tryz.infoOut:(Tryz.prog.info? 88).map (λi=>(i.zero,i.size,i.bytes))=some (some (.agg #[.int .i64 0,.int .i64 0,.int .i64 0,.int .i64 0,.string ⟨#[]⟩,.string ⟨#[]⟩,.bool false,.int .i64 0]),8,80):=by kernel_rfl
theorem AM:cW 36 88 8 80:=AI Tryz.underlying36 Tryz.infoOut rfl (by omega)
def bS(f:FuncId):Prop:=∀(args:Array Value)(w:World),Sem.run Tryz.prog (callFunc f args) w=.ok (.enter f args) w
theorem JP(f:FuncId)(hf:bS f)(cap:Array Value)(R:Int->World->Prop)(w:World)
 (hdo:Calls Tryz.prog f cap (w.alloc (.cells #[.int .i64 0] 27)) λe w'=>∃D,e=zK D/\R D w'/\w'.heap[w.heap.size]?=some (.cells #[.int .i64 0] 27 (0,0))):
 Calls Tryz.prog 33 #[.func (.func f) #[] cap] w λe w'=>∃D w1,e=.returned (.int .i64 D)/\R D w1/\w1.heap[w.heap.size]?=some (.cells #[.int .i64 0] 27 (0,0))/\w'=w1.setCell ⟨w.heap.size,0,none⟩ (.int .i64 D):=by
 have hmf:∀(fn:Fn)(first cap:Array Value)(w:World),(Instr.makeFunc fn first cap).run Tryz.prog w=.ok (.func fn first cap) w:=λ_ _ _ _=>rfl;have HDO:=aA hdo;have hf':∀(args:Array Value)(w:World),Sem.run Tryz.prog (callFunc f args) w=.ok (.enter f args) w:=hf;clear hdo hf;go_enter_defers Tryz.func33,Tryz.ntmps33;go_wp2_with fail;refine HDO.out.mono ?_;rintro e w2⟨D,rfl,hR,hb⟩;have HR:=aA hR;have HB:=aA hb;have c0:=yB hb 0;have f0:=pA hb 0;simp at c0;clear hR hb;by_cases hD:D=0;·subst hD;rw[dV];unfold xR;go_wp2_with fail;refine leaves_cons (f:=59) (args:=#[.pointer (some ⟨w.heap.size,0,none⟩)]) (by simp) (by simp[go_sem]) ?_;refine(NR w.heap.size _).mono ?_;rintro e u' w''⟨rfl,rfl,rfl⟩;have c1:=yB (bG HB.out (j:=0) (.int .i64 0)) 0;simp at c1;simp[Leaves,settle,results,Tryz.results33,go_sem,c1];exact⟨w2,HR.out,HB.out,rfl⟩
 ·rw[eX hD];unfold aK;go_wp2_with fail;refine leaves_cons (f:=59) (args:=#[.pointer (some ⟨w.heap.size,0,none⟩)]) (by simp) (by simp[go_sem]) ?_;refine(OZ w.heap.size D 0 [] _ c0 f0).mono ?_;rintro e u' w''⟨rfl,rfl,rfl⟩;have c1:=yB (bG HB.out (j:=0) (.int .i64 D)) 0;simp at c1;simp[Leaves,settle,results,Tryz.results33,go_sem,c1];exact⟨w2,HR.out,HB.out,rfl⟩
def AN(W:World)(n:Nat)(b:Option Addr):Prop:=b=none\/∃g o cur,b=some ⟨g,o,none⟩/\n<=g/\W.heap[g]?=some (.cells cur 86 (0,0))
structure yP(W:World)(n:Nat)(xs:List zD)(v:Value)(b:Option Addr)(c:Nat):Prop where
 v:v=.slice b xs.length c
 le:xs.length<=c
 cm:c<=maxLen
 nil:b=none->c=0
 it:qI W b xs
 own:AN W n b
structure nT(W:World)(n:Nat)(xss:List (List zD))(vs:List Value):Prop where
 len:vs.length=xss.length
 get:∀i(h:i<xss.length),∃v b c,vs[i]?=some v/\yP W n xss[i] v b c
structure fI(W:World)(n:Nat)(b1 b2 b3:Option Addr)(m1 d1 m2 d2 m3 d3:Nat)(s:yC):Prop where
 l1:s.yA.length=m1
 l2:s.xB.length=m2
 l3:s.nA.length=m3
 x2:m2<=100000000
 r1:∃vs,W.ownsRow n 110 1 (.slice b1 m1 d1) m1 vs/\nT W n s.yA vs
 r2:W.ownsRow n 88 8 (.slice b2 m2 d2) m2 (dJ s.xB)
 r3:W.ownsRow n 121 2 (.slice b3 m3 d3) m3 (rH s.nA)
structure qE(n t:Nat)(W W':World):Prop where
 os:W'.os=W.os
 tape:W'.tape=W.tape
 output:W'.output=W.output
 size:W.heap.size<=W'.heap.size
 block:∀k,k<n->k≠t->W'.heap[k]?=W.heap[k]?
theorem qE.refl(n t:Nat)(W:World):qE n t W W:=⟨rfl,rfl,rfl,eA _,λ_ _ _=>rfl⟩
theorem qE.trans{n t:Nat}{A B C:World}(h:qE n t A B)(k:qE n t B C):qE n t A C:=
 ⟨k.os.trans h.os,k.tape.trans h.tape,k.output.trans h.output,vA h.size k.size,λi h1 h2=>(k.block i h1 h2).trans (h.block i h1 h2)⟩
theorem qE.kB{n m t:Nat}{A B:World}(h:Below m A B)(hn:n<=m):qE n t A B:=⟨h.os,h.tape,h.output,h.size,λk h1 _=>h.block k (by omega)⟩
theorem qE.below{n m t:Nat}{A B:World}(h:qE n t A B)(hn:m<=n)(ht:m<=t):Below m A B:=⟨h.os,h.tape,h.output,h.size,λk h1=>h.block k (by omega) (by omega)⟩
theorem qE.setCell{n t:Nat}{A B:World}(h:qE n t A B){p:Addr}(hp:n<=p.block\/p.block=t)(u:Value):qE n t A (B.setCell p u):=
 h.trans ⟨rfl,rfl,rfl,by simp[World.setCell],λk h1 h2=>rN _ _ _ _ (by omega)⟩
theorem qE.grown{n t:Nat}{A B C:World}{row:Option Nat}(h:qE n t A B)(hg:B.grownBy C row)(hn:n<=B.heap.size)(hr:∀k,row=some k->n<=k):qE n t A C:=
 h.trans ⟨hg.os,hg.tape,hg.output,hg.size,λk h1 h2=>hg.block k (by omega) (λe=>by have:=hr k e.symm;omega)⟩
theorem AN.sA{W W':World}{n:Nat}{b:Option Addr}(h:AN W n b)(hB:Below W.heap.size W W'):AN W' n b:=by
 rcases h with h|⟨g,o,cur,h1,h2,h3⟩;·exact .inl h
 ·exact .inr ⟨g,o,cur,h1,h2,pB h3 hB⟩
theorem yP.sA{W W':World}{n:Nat}{xs:List zD}{v:Value}{b:Option Addr}{c:Nat}(h:yP W n xs v b c)(hB:Below W.heap.size W W'):yP W' n xs v b c:=⟨h.v,h.le,h.cm,h.nil,h.it.sA hB,h.own.sA hB⟩
theorem nT.sA{W W':World}{n:Nat}{xss:List (List zD)}{vs:List Value}(h:nT W n xss vs)(hB:Below W.heap.size W W'):nT W' n xss vs:=
 ⟨h.len,λi hi=>by obtain⟨v,b,c,h1,h2⟩:=h.get i hi;exact⟨v,b,c,h1,h2.sA hB⟩⟩
theorem fI.sA{W W':World}{n:Nat}{b1 b2 b3:Option Addr}{m1 d1 m2 d2 m3 d3:Nat}{s:yC}(h:fI W n b1 b2 b3 m1 d1 m2 d2 m3 d3 s)(hB:Below W.heap.size W W'):fI W' n b1 b2 b3 m1 d1 m2 d2 m3 d3 s:=by
 obtain⟨vs,h1,h2⟩:=h.r1;exact⟨h.l1,h.l2,h.l3,h.x2,⟨vs,uI h1 hB,h2.sA hB⟩,uI h.r2 hB,uI h.r3 hB⟩
theorem AN.lower{W:World}{n n':Nat}{b:Option Addr}(h:AN W n b)(hn:n'<=n):AN W n' b:=by
 rcases h with h|⟨g,o,cur,h1,h2,h3⟩;·exact .inl h
 ·exact .inr ⟨g,o,cur,h1,by omega,h3⟩
theorem nT.lower{W:World}{n n':Nat}{xss:List (List zD)}{vs:List Value}(h:nT W n xss vs)(hn:n'<=n):nT W n' xss vs:=
 ⟨h.len,λi hi=>by obtain⟨v,b,c,h1,h2⟩:=h.get i hi;exact⟨v,b,c,h1,h2.v,h2.le,h2.cm,h2.nil,h2.it,h2.own.lower hn⟩⟩
theorem fI.lower{W:World}{n n':Nat}{b1 b2 b3:Option Addr}{m1 d1 m2 d2 m3 d3:Nat}{s:yC}(h:fI W n b1 b2 b3 m1 d1 m2 d2 m3 d3 s)(hn:n'<=n):fI W n' b1 b2 b3 m1 d1 m2 d2 m3 d3 s:=by
 obtain⟨vs,h1,h2⟩:=h.r1;exact⟨h.l1,h.l2,h.l3,h.x2,⟨vs,xS h1 hn,h2.lower hn⟩,xS h.r2 hn,xS h.r3 hn⟩
theorem zV{W:World}{base:Nat}{T:TypeId}{size:Nat}{a:Option Addr}{n c:Nat}{cs:List Value}(h:W.ownsRow base T size (.slice a n c) n cs):jK W a cs:=by
 obtain⟨a',c',e,_,_,_,hr⟩:=jM h;cases e;exact hr
theorem rV{W:World}{base:Nat}{T:TypeId}{size:Nat}{a:Option Addr}{n c:Nat}{cs:List Value}(h:W.ownsRow base T size (.slice a n c) n cs):n<=c/\c<=maxLen/\(a=none->c=0/\n=0):=by
 obtain⟨a',c',e,h1,h2,h3,hr⟩:=jM h;cases e;exact⟨h1,h2,h3⟩
theorem nT.at{W:World}{n:Nat}{xss:List (List zD)}{vs:List Value}(h:nT W n xss vs){a:Option Addr}(hr:jK W a vs):AO W a xss:=by
 rcases hr with hr|⟨g,o,ha,hg,hr⟩;·refine .inl (kC.1 ?_);have:=h.len;rw[hr]at this;simpa using this.symm
 ·refine .inr ⟨g,o,ha,hg,λi hi=>?_⟩;obtain⟨v,b,c,h1,h2⟩:=h.get i hi;exact⟨b,c,by rw[hr _ _ h1,h2.v],h2.le,h2.cm,h2.nil,h2.it⟩
theorem fI.state{W:World}{n:Nat}{b1 b2 b3:Option Addr}{m1 d1 m2 d2 m3 d3:Nat}{s:yC}(h:fI W n b1 b2 b3 m1 d1 m2 d2 m3 d3 s):gK W b1 b2 b3 m1 m2 m3 s:=by
 obtain⟨vs,h1,h2⟩:=h.r1;have g1:=rV h1;have g3:=rV h.r3;have:=h.x2;exact⟨h.l1,h.l2,h.l3,by omega,by omega,by omega,h2.at (zV h1),eZ.2 (zV h.r2),zY.2 (zV h.r3)⟩
theorem FJ{W:World}{base:Nat}{T T':TypeId}{size:Nat}{v:Value}{n:Nat}{cs:List Value}(h:W.ownsRow base T size v n cs){B:Nat}{cur:Array Value}(hB:W.heap[B]?=some (.cells cur T' (0,0)))(hT:T≠T'):v.ownBlock≠some B:=by
 intro e;rcases h.2 with⟨rfl,_⟩|⟨g,cap,cur',rfl,_,hg,_⟩;·cases e
 ·have:g=B:=by simpa[Value.ownBlock]using e
  subst this;rw[hg]at hB;cases hB;exact hT rfl
theorem fZ{W W':World}{base:Nat}{T:TypeId}{size:Nat}{v:Value}{n:Nat}{cs:List Value}(h:W.ownsRow base T size v n cs)(hk:∀k,v.ownBlock=some k->W'.heap[k]?=W.heap[k]?):W'.ownsRow base T size v n cs:=by
 refine⟨h.1,?_⟩;rcases h.2 with h|⟨g,cap,cur,h1,h2,h3,h4⟩;·exact .inl h
 ·exact .inr ⟨g,cap,cur,h1,h2,(hk g (by rw[h1];rfl)).trans h3,h4⟩
theorem jK.keepBut{W W':World}{a:Option Addr}{cs:List Value}(h:jK W a cs)(hs:W.heap.size<=W'.heap.size)(hk:∀g o,a=some ⟨g,o,none⟩->W'.heap[g]?=W.heap[g]?):jK W' a cs:=by
 rcases h with h|⟨g,o,ha,hg,h⟩;·exact .inl h
 ·exact .inr ⟨g,o,ha,uC hg hs,λj u hj=>(dM (w:=W) (a:=⟨g,o+j,none⟩) (hk g o ha)).trans (h j u hj)⟩
structure pT(n:Nat)(W W':World):Prop where
 size:W.heap.size<=W'.heap.size
 block:∀g cur,n<=g->W.heap[g]?=some (.cells cur 86 (0,0))->W'.heap[g]?=W.heap[g]?
theorem pT.kB{n:Nat}{W W':World}(h:Below W.heap.size W W'):pT n W W':=⟨h.size,λg cur _ hg=>h.block g (bE hg)⟩
theorem pT.setCell{n:Nat}{W:World}{B i:Nat}{cur:Array Value}{T:TypeId}(hB:W.heap[B]?=some (.cells cur T (0,0)))(hT:T≠86)(u:Value):pT n W (W.setCell ⟨B,i,none⟩ u):=
 ⟨by simp[World.setCell],λg cur' _ hg=>jG _ _ _ _ (λe=>by
  have e':g=B:=e;rw[e',hB]at hg;cases hg;exact hT rfl)⟩
theorem yP.eG{W W':World}{n:Nat}{xs:List zD}{v:Value}{b:Option Addr}{c:Nat}(h2:yP W n xs v b c)(hk:pT n W W'):yP W' n xs v b c:=by
 refine⟨h2.v,h2.le,h2.cm,h2.nil,?_,?_⟩
 ·refine aY.2 ((aY.1 h2.it).keepBut hk.size λg o ha=>?_);rcases h2.own with e|⟨g',o',cur,e,e2,e3⟩;·rw[e]at ha;cases ha
  ·rw[e]at ha;cases ha;exact hk.block g cur e2 e3
 ·rcases h2.own with e|⟨g',o',cur,e,e2,e3⟩;·exact .inl e
  ·exact .inr ⟨g',o',cur,e,e2,(hk.block g' cur e2 e3).trans e3⟩
theorem nT.eG{W W':World}{n:Nat}{xss:List (List zD)}{vs:List Value}(h:nT W n xss vs)(hk:pT n W W'):nT W' n xss vs:=by
 refine⟨h.len,λi hi=>?_⟩;obtain⟨v,b,c,h1,h2⟩:=h.get i hi;exact⟨v,b,c,h1,h2.eG hk⟩
theorem mT{W:World}{base:Nat}{T:TypeId}{size g n c:Nat}{cs:List Value}(h:W.ownsRow base T size (.slice (some ⟨g,0,none⟩) n c) n cs):base<=g/\∃cur,W.heap[g]?=some (.cells cur T (0,0)):=by
 rcases h.2 with⟨e,_⟩|⟨g2,cap,cur,e,hb,hg,_⟩;·cases e
 ·cases e;exact⟨hb,cur,hg⟩
theorem pT.row{W:World}{base n:Nat}{T:TypeId}{size g m c:Nat}{cs:List Value}(h:W.ownsRow base T size (.slice (some ⟨g,0,none⟩) m c) m cs)(hT:T≠86)(i:Nat)(u:Value):pT n W (W.setCell ⟨g,i,none⟩ u):=by
 obtain⟨_,cur,hg⟩:=mT h;exact pT.setCell hg hT u
def pU(W:World)(n:Nat)(v:Value)(s:yC):Prop:=∃b1 b2 b3 m1 d1 m2 d2 m3 d3,v=.agg #[.slice b1 m1 d1,.slice b2 m2 d2,.slice b3 m3 d3,.int .i64 s.gA,.int .i64 s.fA,.int .i64 s.nB,.int .i64 s.uA,.int .i64 s.iA]/\fI W n b1 b2 b3 m1 d1 m2 d2 m3 d3 s
theorem pU.sA{W W':World}{n:Nat}{v:Value}{s:yC}(h:pU W n v s)(hB:Below W.heap.size W W'):pU W' n v s:=by
 obtain⟨b1,b2,b3,m1,d1,m2,d2,m3,d3,h1,h2⟩:=h;exact⟨b1,b2,b3,m1,d1,m2,d2,m3,d3,h1,h2.sA hB⟩
theorem pU.lower{W:World}{n n':Nat}{v:Value}{s:yC}(h:pU W n v s)(hn:n'<=n):pU W n' v s:=by
 obtain⟨b1,b2,b3,m1,d1,m2,d2,m3,d3,h1,h2⟩:=h;exact⟨b1,b2,b3,m1,d1,m2,d2,m3,d3,h1,h2.lower hn⟩
theorem fI.iH{W:World}{n:Nat}{b1 b2 b3:Option Addr}{m1 d1 m2 d2 m3 d3:Nat}{s:yC}(h:fI W n b1 b2 b3 m1 d1 m2 d2 m3 d3 s):(b2=none->d2=0)/\(b3=none->d3=0):=
 ⟨λe=>((rV h.r2).2.2 e).1,λe=>((rV h.r3).2.2 e).1⟩
theorem XC(xs:List zD)(a:Option Addr)(n c:Nat)(w:World)(hn:(tK xs).length=n*5)(hb:n<=100000000)(hz:a=none->c=0/\n=0)(hp:jK w a (tK xs)):
 Calls Tryz.prog 199 #[.slice a n c] w λe w'=>∃v,e=.returned v/\w'.ownsRow w.heap.size 86 5 v n (tK xs)/\Below w.heap.size w w':=by
 have HN:=aA hn;have HP:=aA hp;have HZ:=aA hz;clear hn hp hz;go_enter Tryz.func199,Tryz.ntmps199;go_wp2_with(at_builtin;refine jT FT (by kernel_rfl) _ _ rfl w.heap.size (.slice none 0 0) 0 [] rfl (jC _ _ _ _) a n c (tK xs) rfl HN.out HZ.out HP.out (CI xs) (by unfold maxLen;omega) (by omega) (eA _) ?_;intro v' w3 hown3 hgrow3 hblk);go_ret;exact⟨v',rfl,by simpa using hown3,(dA _ _).grown hgrow3 (eA _) (by simp[Value.ownBlock])⟩
theorem XR(xs:List eF)(a:Option Addr)(n c:Nat)(w:World)(hn:(dJ xs).length=n*8)(hb:n<=100000000)(hz:a=none->c=0/\n=0)(hp:jK w a (dJ xs)):
 Calls Tryz.prog 200 #[.slice a n c] w λe w'=>∃v,e=.returned v/\w'.ownsRow w.heap.size 88 8 v n (dJ xs)/\Below w.heap.size w w':=by
 have HN:=aA hn;have HP:=aA hp;have HZ:=aA hz;clear hn hp hz;go_enter Tryz.func200,Tryz.ntmps200;go_wp2_with(at_builtin;refine jT AM (by kernel_rfl) _ _ rfl w.heap.size (.slice none 0 0) 0 [] rfl (jC _ _ _ _) a n c (dJ xs) rfl HN.out HZ.out HP.out (tY xs) (by unfold maxLen;omega) (by omega) (eA _) ?_;intro v' w3 hown3 hgrow3 hblk);go_ret;exact⟨v',rfl,by simpa using hown3,(dA _ _).grown hgrow3 (eA _) (by simp[Value.ownBlock])⟩
theorem WC(xs:List kH)(a:Option Addr)(n c:Nat)(w:World)(hn:(rH xs).length=n*2)(hb:n<=100000000)(hz:a=none->c=0/\n=0)(hp:jK w a (rH xs)):
 Calls Tryz.prog 201 #[.slice a n c] w λe w'=>∃v,e=.returned v/\w'.ownsRow w.heap.size 121 2 v n (rH xs)/\Below w.heap.size w w':=by
 have HN:=aA hn;have HP:=aA hp;have HZ:=aA hz;clear hn hp hz;go_enter Tryz.func201,Tryz.ntmps201;go_wp2_with(at_builtin;refine jT EJ (by kernel_rfl) _ _ rfl w.heap.size (.slice none 0 0) 0 [] rfl (jC _ _ _ _) a n c (rH xs) rfl HN.out HZ.out HP.out (DU xs) (by unfold maxLen;omega) (by omega) (eA _) ?_;intro v' w3 hown3 hgrow3 hblk);go_ret;exact⟨v',rfl,by simpa using hown3,(dA _ _).grown hgrow3 (eA _) (by simp[Value.ownBlock])⟩
theorem DD(w W:World)(A B:Obj)(h:W=(w.alloc A).alloc B):W.heap.size=w.heap.size+2/\W.heap[w.heap.size]?=some A/\W.heap[w.heap.size+1]?=some B/\Below w.heap.size w W:=by
 subst h;have hB:=jA (w.alloc A) B;simp only[pC]at hB;refine⟨by simp only[pC],?_,hB,((dA _ _).alloc (eA _) _).alloc (by simp) _⟩;rw[lE _ _ _ (by simp only[pC];omega)];exact jA w A
structure iX(W:World)(n:Nat)(xss:List (List zD))(k:Nat)(vs:List Value):Prop where
 len:vs.length=xss.length
 get:∀i(h:i<xss.length),i<k->∃v b c,vs[i]?=some v/\yP W n xss[i] v b c
theorem iX.eG{W W':World}{n k:Nat}{xss:List (List zD)}{vs:List Value}(h:iX W n xss k vs)(hk:pT n W W'):iX W' n xss k vs:=by
 refine⟨h.len,λi hi hik=>?_⟩;obtain⟨v,b,c,h1,h2⟩:=h.get i hi hik;exact⟨v,b,c,h1,h2.eG hk⟩
theorem iX.set{W:World}{n k:Nat}{xss:List (List zD)}{vs:List Value}(h:iX W n xss k vs)(hk:k<xss.length){v:Value}{b:Option Addr}{c:Nat}(hv:yP W n xss[k] v b c):iX W n xss (k+1) (vs.set k v):=by
 refine⟨by rw[kF];exact h.len,λi hi hik=>?_⟩;by_cases e:i=k;·subst e;exact⟨v,b,c,by rw[rE,qA rfl,qA (by rw[h.len];exact hi)],hv⟩
 ·obtain⟨u,b',c',h1,h2⟩:=h.get i hi (by omega);exact⟨u,b',c',by rw[rE,kA (λe'=>e e'.symm)];exact h1,h2⟩
theorem iX.all{W:World}{n k:Nat}{xss:List (List zD)}{vs:List Value}(h:iX W n xss k vs)(hk:xss.length<=k):nT W n xss vs:=⟨h.len,λi hi=>h.get i hi (by omega)⟩
theorem vX{W:World}{base n:Nat}{v:Value}{xs:List zD}{m:Nat}(h:W.ownsRow base 86 5 v m (tK xs))(hn:n<=base):∃b c,yP W n xs v b c/\m=xs.length:=by
 obtain⟨e,a,c,h1,h2,h3,h4,h5⟩:=RW h;refine⟨a,c,⟨by rw[h1,e],by omega,h3,λz=>(h4 z).1,h5,?_⟩,e⟩;rcases h.2 with⟨rfl,_⟩|⟨g,cap,cur,rfl,hb,hg,_⟩;·cases h1;exact .inl rfl
 ·cases h1;exact .inr ⟨g,0,cur,rfl,by omega,hg⟩
theorem XQ(s:yC)(b1 b2 b3:Option Addr)(m1 d1 m2 d2 m3 d3:Nat)(w:World)(hs:gK w b1 b2 b3 m1 m2 m3 s)(hn2:b2=none->d2=0)(hn3:b3=none->d3=0)(h1:m1<=100)(hl:∀l∈s.yA,l.length<=100)(h2:m2<=1000)(h3:m3<=100):
 Calls Tryz.prog 173 #[.agg #[.slice b1 m1 d1,.slice b2 m2 d2,.slice b3 m3 d3,.int .i64 s.gA,.int .i64 s.fA,.int .i64 s.nB,.int .i64 s.uA,.int .i64 s.iA]] w λe w'=>∃v,e=.returned v/\pU w' w.heap.size v s/\Below w.heap.size w w':=by
 obtain⟨i0,hi,hz0,hz1,hz2⟩:=qF Tryz.infoLine;obtain⟨W2,hW2,hs2,hb0,hb1,hBw⟩:∃W2,W2=(w.alloc (.cells #[.slice b1 m1 d1,.slice b2 m2 d2,.slice b3 m3 d3,.int .i64 s.gA,.int .i64 s.fA,.int .i64 s.nB,.int .i64 s.uA,.int .i64 s.iA] 39)).alloc (.cells #[.slice none 0 0,.slice none 0 0,.slice none 0 0,.int .i64 0,.int .i64 0,.int .i64 0,.int .i64 0,.int .i64 0] 39)/\W2.heap.size=w.heap.size+2/\W2.heap[w.heap.size]?=some (.cells #[.slice b1 m1 d1,.slice b2 m2 d2,.slice b3 m3 d3,.int .i64 s.gA,.int .i64 s.fA,.int .i64 s.nB,.int .i64 s.uA,.int .i64 s.iA] 39 (0,0))/\W2.heap[w.heap.size+1]?=some (.cells #[.slice none 0 0,.slice none 0 0,.slice none 0 0,.int .i64 0,.int .i64 0,.int .i64 0,.int .i64 0,.int .i64 0] 39 (0,0))/\Below w.heap.size w W2:=by
  obtain⟨h1,h2,h3,h4⟩:=DD w _ _ _ rfl;exact⟨_,rfl,h1,h2,h3,h4⟩
 have HW2:=aA hW2;have HB0:=aA hb0;have HB1:=aA hb1;have HBW:=aA hBw;have HS:=aA (hs.sA hBw);have HM1:Hid (s.yA.length=m1):=hs.l1;have HM2:Hid (s.xB.length=m2):=hs.l2;have HM3:Hid (s.nA.length=m3):=hs.l3;have HS2:Hid (W2.heap.size=w.heap.size+2):=hs2;have HN2:=aA hn2;have HN3:=aA hn3;have HL:=aA hl;have s0:=hBw.size;obtain⟨y0,y1,y2,y3,y4,y5,y6,y7⟩:=gD hb0;clear hW2 hb0 hb1 hs hs2 hn2 hn3 hl hBw;go_enter Tryz.func173,Tryz.ntmps173;go_wp2_with(at_make;rw[<-HW2.out];refine cK _ rfl _ _ 35 rfl W2.heap.size 110 i0 (.slice none 0 0) 1 Tryz.underlying35 hi hz0 hz1 _ _ _ _ m1 rfl rfl rfl rfl (by rw[hz2];omega) (by unfold maxLen;omega) (eA _) ?_;intro w3 hown3 hgrow3;have q3:=(hgrow3.block w.heap.size (by have:=HS2.out;omega) (by simp)).trans HB0.out;clear y0 y1 y2 y3 y4 y5 y6 y7;obtain⟨y0,y1,y2,y3,y4,y5,y6,y7⟩:=gD q3);clear q3;have HB3:Hid (Below W2.heap.size W2 w3):=(dA _ _).grown hgrow3 (eA _) (by simp);have HO3:=aA hown3;clear hown3 hgrow3 y0 y1 y2 y3 y4 y5 y6 y7;go_loopw[4,5,13](λ_ _ i wr=>∃(k:Nat)(vs:List Value),k<=m1/\i=.int .i64 k/\wr.ownsRow W2.heap.size 110 1 (.slice (some ⟨W2.heap.size,0,none⟩) m1 m1) m1 vs/\iX wr W2.heap.size s.yA k vs/\Below W2.heap.size W2 wr)(λ_ _ i _=>m1-(intOf i).toNat);case atStart=>exact⟨0,_,zA _,rfl,HO3.out,⟨by rw[JF,List.length_replicate];exact HM1.out.symm,λi hi h=>absurd h (jI _)⟩,HB3.out⟩
 case round=>
  obtain⟨k,vs,hk,rfl,hown,hlt0,hB⟩:=hrel;have HO:=aA hown;have HLT0:=aA hlt0;have HB:=aA hB;have hBs:=hB.size;obtain⟨y0,y1,y2,y3,y4,y5,y6,y7⟩:=gD ((hB.block _ (by have:=HS2.out;omega)).trans HB0.out);clear hown hlt0;by_cases hlt:k<m1
  ·have HLT:=aA hlt;have hkl:k<s.yA.length:=by rw[HM1.out];exact hlt
   obtain⟨g,o,b,c,ha,hg,hl⟩:=(HS.out.q1.sA hB).get hkl;subst ha;have c1:=hl.cell;have HLC:=aA hl;have HKL:=aA hkl;obtain⟨n,hn⟩:∃n,n=(s.yA[k]'hkl).length:=⟨_,rfl⟩;have HNN:=aA hn;rw[<-hn]at c1;have hn100:n<=100:=by rw[hn];exact HL.out _ (qB hkl)
   have j1:(0:Int)<=(k:Int):=by omega
   have j2:(k:Int)<m1:=by omega
   clear hl hn;go_wp2_with fail;refine(XC (s.yA[k]'HKL.out) b n c wr (by rw[CH,HNN.out]) (by omega) (λe=>⟨HLC.out.nil e,by have:=HLC.out.nil e;have:=HLC.out.le;have:=HNN.out;omega⟩) (aY.1 HLC.out.it)).mono ?_;rintro e w5⟨v,rfl,hown5,hB5⟩;obtain⟨b5,c5,hv5,hn5⟩:=vX hown5 (vA hBs (eA _));have hve:=hv5.v;have HV5:=aA hv5;have hO5:=uI HO.out hB5;have hf5:=hO5.frozenAt k;have hc5:=hO5.cellAt k (by omega);have HO5:=aA hO5;have HB5:=aA hB5;have s5:=hB5.size;have hvs:vs[k]?=some (vs[k]'(by rw[HLT0.out.len];exact HKL.out)):=tA _;rw[hvs]at hc5;subst hve;clear hv5 hO5 hB5 hown5 hn5 hvs;go_wp2_with fail;go_roundw;case rel=>
    have hst:=HO5.out.stored k (.slice b5 (s.yA[k]'HKL.out).length c5);refine⟨k+1,vs.set k (.slice b5 (s.yA[k]'HKL.out).length c5),HLT.out,by have:=HLT.out;go_num,hst.1,?_,?_⟩;·have hki:=pT.row (n:=W2.heap.size) HO5.out (by decide) k (.slice b5 (s.yA[k]'HKL.out).length c5);exact iX.set ((HLT0.out.eG (pT.kB HB5.out)).eG hki) HKL.out (HV5.out.eG hki)
    ·exact(HB.out.trans (HB5.out.mono hBs)).setCell (p:=⟨W2.heap.size,k,none⟩) (eA _) _
   case measure=>have:=HLT.out;simp[intOf];omega
  ·have hke:m1=k:=by omega
   subst hke;clear hlt hk;have hO0:=(hB.block _ (by have:=HS2.out;omega)).trans HB0.out;have HOD:Hid (∀W,Below wr.heap.size wr.drew W->W.heap[w.heap.size]?=some (.cells #[.slice b1 m1 d1,.slice b2 m2 d2,.slice b3 m3 d3,.int .i64 s.gA,.int .i64 s.fA,.int .i64 s.nB,.int .i64 s.uA,.int .i64 s.iA] 39 (0,0))):=λW hW=>(hW.block _ (by have:=HS2.out;omega)).trans hO0;have HRD:Hid (∀W,Below wr.heap.size wr.drew W->W.heap[w.heap.size+1]?=some (.cells #[.slice none 0 0,.slice none 0 0,.slice none 0 0,.int .i64 0,.int .i64 0,.int .i64 0,.int .i64 0,.int .i64 0] 39 (0,0))):=λW hW=>(hW.block _ (by have:=HS2.out;omega)).trans ((hB.block _ (by have:=HS2.out;omega)).trans HB1.out);have HST:=aA (HS.out.sA hB);have hm2:b2=none->d2=0/\m2=0:=λe=>⟨HN2.out e,by
    rcases HST.out.q2 with h|⟨_,_,h,_⟩;·rw[<-HM2.out,h];rfl
    ·rw[e]at h;cases h⟩;have hm3:b3=none->d3=0/\m3=0:=λe=>⟨HN3.out e,by
    rcases HST.out.q3 with h|⟨_,_,h,_⟩;·rw[<-HM3.out,h];rfl
    ·rw[e]at h;cases h⟩;have CO:=aA (XR s.xB b2 m2 d2 wr.drew (by rw[dJ,AE (k:=8) (λ_=>rfl),HM2.out]) (by omega) hm2 (eZ.1 HST.out.q2));have CT:Hid (∀W,Below wr.heap.size wr.drew W->Calls Tryz.prog 201 #[.slice b3 m3 d3] W λe w'=>∃v,e=.returned v/\w'.ownsRow W.heap.size 121 2 v m3 (rH s.nA)/\Below W.heap.size W w'):=λW hW=>WC s.nA b3 m3 d3 W (by rw[rH,AE (k:=2) (λ_=>rfl),HM3.out]) (by omega) hm3 ((zY.1 HST.out.q3).sA (nQ hW));clear hm2 hm3 hO0;go_wp2_with fail;go_region_with(first
    |(go_at_call 200;refine CO.out.mono ?_;rintro e w6⟨v6,rfl,hown6,hB6⟩;obtain⟨a6,c6,rfl,l6,l6',l6n,r6⟩:=jM hown6;have HO6:=aA hown6;have HB6:=aA hB6;obtain⟨z0,z1,z2,z3,z4,z5,z6,z7⟩:=gD (HOD.out _ hB6);clear hown6 hB6 l6 l6' l6n r6)
    |(go_at_call 201;refine(CT.out _ HB6.out).mono ?_;rintro e w7⟨v7,rfl,hown7,hB7⟩;obtain⟨a7,c7,rfl,l7,l7',l7n,r7⟩:=jM hown7;have HO7:=aA hown7;have HB7:=aA hB7;have k7:=HB6.out.trans (hB7.mono HB6.out.size);have q7:=HOD.out _ k7;have K7:=aA k7;obtain⟨u0,u1,u2,u3,u4,u5,u6,u7⟩:=gD q7;have f0:=pA q7 0;have f1:=pA q7 1;have f2:=pA q7 2;have Q7:=aA q7;have r7b:=HRD.out _ K7.out;have R7:=aA r7b;obtain⟨x0,x1,x2,x3,x4,x5,x6,x7⟩:=gD r7b;have e0:=pA r7b 0;have e1:=pA r7b 1;have e2:=pA r7b 2;have e3:=pA r7b 3;have e4:=pA r7b 4;have e5:=pA r7b 5;have e6:=pA r7b 6;have e7:=pA r7b 7;clear r7b hown7 hB7 l7 l7' l7n r7 q7 k7));all_goals
    go_wp2_with fail;generalize hX:World.setCell (World.setCell (World.setCell w7 _ _) _ _) _ _=X;generalize hW4:World.setCell (World.setCell (World.setCell (World.setCell (World.setCell (World.setCell (World.setCell (World.setCell X _ _) _ _) _ _) _ _) _ _) _ _) _ _) _ _=W4;have tX:vJ w.heap.size w7 X:=by rw[<-hX];exact((uF _ _ _ _).trans (uF _ _ _ _)).trans (uF _ _ _ _)
    have hRX:X.heap[w.heap.size+1]?=_:=(tX.block _ (bE R7.out) (by omega)).trans R7.out;obtain⟨b4,t4⟩:=eD hRX hW4;obtain⟨z0,z1,z2,z3,z4,z5,z6,z7⟩:=gD b4;exact dB (v:=.agg #[.slice (some ⟨W2.heap.size,0,none⟩) m1 m1,.slice a6 m2 c6,.slice a7 m3 c7,.int .i64 s.gA,.int .i64 s.fA,.int .i64 s.nB,.int .i64 s.uA,.int .i64 s.iA]) (by simp[results,Tryz.results173,go_sem,z0,z1,z2,z3,z4,z5,z6,z7]) rfl (by
     have T4:∀k,W2.heap.size<=k->k<w7.heap.size->W4.heap[k]?=w7.heap[k]?:=λk h1 h2=>(t4.block k (uC h2 tX.size) (by have:=HS2.out;omega)).trans (tX.block k h2 (by have:=HS2.out;omega));have hsz:w7.heap.size<=W4.heap.size:=vA tX.size t4.size;have g6:W2.heap.size<=wr.heap.size:=hBs;have g7:wr.heap.size<=w6.heap.size:=HB6.out.size;have B7:Below wr.heap.size wr w7:=nQ K7.out;have r1:=uI HO.out B7;have KI:pT w.heap.size w7 W4:=⟨hsz,λg cur hn hg=>by
      by_cases hge:W2.heap.size<=g;·exact T4 g hge (bE hg)
      ·exfalso;have:g=w.heap.size\/g=w.heap.size+1:=by have:=HS2.out;omega
       rcases this with rfl|rfl;·rw[Q7.out]at hg;cases hg
       ·rw[R7.out]at hg;cases hg⟩;have KR:∀{T:TypeId}{size n:Nat}{v:Value}{cs:List Value}{base:Nat},w7.ownsRow base T size v n cs->W2.heap.size<=base->W4.ownsRow w.heap.size T size v n cs:=λh hb=>xS (fZ h (λk hk=>by have:=h.lt k hk;exact T4 k (by omega) this.2)) (by omega);refine⟨_,rfl,⟨_,_,_,_,_,_,_,_,_,rfl,HM1.out,HM2.out,HM3.out,by omega,⟨vs,KR r1 (eA _),?_⟩,KR (uI HO6.out HB7.out) g6,KR HO7.out (by omega)⟩,?_⟩;·exact(((HLT0.out.all (by rw[HM1.out];exact eA _)).lower (by omega)).eG (pT.kB B7)).eG KI
     ·exact HBW.out.trans (((hB.trans (B7.mono hBs)).mono s0).trans ((tX.below (by have:=B7.size;omega) (eA _)).trans (t4.below (by have:=tX.size;have:=B7.size;omega) (by omega)))))
def mE(W:World)(n t:Nat)(s:yC):Prop:=∃b1 b2 b3 m1 d1 m2 d2 m3 d3,W.heap[t]?=some (.cells #[.slice b1 m1 d1,.slice b2 m2 d2,.slice b3 m3 d3,.int .i64 s.gA,.int .i64 s.fA,.int .i64 s.nB,.int .i64 s.uA,.int .i64 s.iA] 39 (0,0))/\fI W n b1 b2 b3 m1 d1 m2 d2 m3 d3 s
def iG:Value:=.agg #[.slice none 0 0,.slice none 0 0,.slice none 0 0,.int .i64 0,.int .i64 0,.int .i64 0,.int .i64 0,.int .i64 0]
theorem fI.bF{W W':World}{n t:Nat}{b1 b2 b3:Option Addr}{m1 d1 m2 d2 m3 d3:Nat}{s:yC}{cur:Array Value}{T:TypeId}(h:fI W n b1 b2 b3 m1 d1 m2 d2 m3 d3 s)(ht:W.heap[t]?=some (.cells cur T (0,0)))(hT:T≠86/\T≠88/\T≠121/\T≠110)(k:vJ t W W'):fI W' n b1 b2 b3 m1 d1 m2 d2 m3 d3 s:=by
 obtain⟨vs,h1,h2⟩:=h.r1;have KR:∀{T':TypeId}{size m:Nat}{v:Value}{cs:List Value},W.ownsRow n T' size v m cs->T'≠T->W'.ownsRow n T' size v m cs:=λh hne=>fZ h (λj hj=>k.block j (h.lt j hj).2 (λe=>FJ h ht hne (by rw[hj,e])));refine⟨h.l1,h.l2,h.l3,h.x2,⟨vs,KR h1 (λe=>hT.2.2.2 e.symm),h2.eG ⟨k.size,λg cur' _ hg=>k.block g (bE hg) (λe=>?_)⟩⟩,KR h.r2 (λe=>hT.2.1 e.symm),KR h.r3 (λe=>hT.2.2.1 e.symm)⟩;rw[e,ht]at hg;cases hg;exact hT.1 rfl
def kK(W:World)(n:Nat)(v:Value)(E:Int)(s:yC):Prop:=(E=0->pU W n v s)/\(E≠0->v=iG)
theorem kK.sA{W W':World}{n:Nat}{v:Value}{E:Int}{s:yC}(h:kK W n v E s)(hB:Below W.heap.size W W'):kK W' n v E s:=⟨λe=>(h.1 e).sA hB,h.2⟩
theorem kK.lower{W:World}{n n':Nat}{v:Value}{E:Int}{s:yC}(h:kK W n v E s)(hn:n'<=n):kK W n' v E s:=⟨λe=>(h.1 e).lower hn,h.2⟩
def nU(f:FuncId)(cap:Array Value)(w:World)(s:yC)(E N:Int)(S':yC):Prop:=
 ∀(W:World)(n t:Nat),Below w.heap.size w W->w.heap.size<=t->t<n->n<=W.heap.size->mE W n t s->
   Calls Tryz.prog f (#[.pointer (some ⟨t,0,none⟩)]++cap) W λe W'=>qE n t W W'/\((E≠0/\e=aK E)\/(E=0/\e=.returned (.int .i64 N)/\mE W' n t S'))
theorem yV{p:lD}{s:yC}(h:mH p s 0):s.yA.length<=100/\(∀l∈s.yA,l.length<=100)/\s.xB.length<=1000/\s.nA.length<=100:=by
 have h1:=h.rp.few.2.1;have h2:=h.len;have h3:=h.tk;refine⟨by omega,λl hl=>by have:=h.line6 hl;omega,?_,by omega⟩;have hall:yU s s.nA.length=s.xB.length:=po_ h.xB;have hk:∀k,k<=s.nA.length->yU s k<=k*4:=by
  intro k;induction k with
  |zero=>intro _;exact eA _
  |succ k ih=>
    intro hk;have a:=ih (by omega);have b:=h.hold k (by omega);have hm:(s.nA.getD k ⟨0,0⟩).nD<=4:=by
     rw[tB,tA (by omega)];have:=h.tok _ (qB (show k<s.nA.length by omega));unfold sM at this;simp only[aC,mC]at this;exact this.2.2
    show yU s k+xE s k<=(k+1)*4;omega
 have:=hk s.nA.length (eA _);omega
theorem gK.small{W:World}{b1 b2 b3:Option Addr}{m1 m2 m3:Nat}{s:yC}{p:lD}(h:gK W b1 b2 b3 m1 m2 m3 s)(hr:mH p s 0):m1<=100/\(∀l∈s.yA,l.length<=100)/\m2<=1000/\m3<=100:=by
 have:=yV hr;rw[h.l1,h.l2,h.l3]at this;exact this
theorem R1(p:lD)(a1 a2 a3:Option Addr)(n1 c1 n2 c2 n3 c3:Nat)(s:yC)(b1 b2 b3:Option Addr)(m1 d1 m2 d2 m3 d3:Nat)(f:FuncId)(hf:bS f)(cap:Array Value)(w0:World)(E N:Int)(S':yC)(hE0:zG p s≠0->E=zG p s)(hdo:zG p s=0->nU f cap w0 s E N S')
 (B:Nat)(hB0:w0.heap.size<=B)(w:World)(h0:Below w0.heap.size w0 w)(hw:B+6<w.heap.size)(hp:sG w a1 a2 a3 n1 n2 n3 p)(hs:gK w b1 b2 b3 m1 m2 m3 s)(hn2:b2=none->d2=0)(hn3:b3=none->d3=0)
 (x0:w.heap[B]?=some (.cells #[.slice a1 n1 c1,.slice a2 n2 c2,.slice a3 n3 c3] 26 (0,0)))(x1:w.heap[B+1]?=some (.cells #[.slice b1 m1 d1,.slice b2 m2 d2,.slice b3 m3 d3,.int .i64 s.gA,.int .i64 s.fA,.int .i64 s.nB,.int .i64 s.uA,.int .i64 s.iA] 39 (0,0)))(x2:w.heap[B+2]?=some (.cells #[.func (.func f) #[] cap] 160 (0,0)))(x4:w.heap[B+4]?=some (.cells #[.slice none 0 0,.slice none 0 0,.slice none 0 0,.int .i64 0,.int .i64 0,.int .i64 0,.int .i64 0,.int .i64 0] 39 (0,0)))(x5:w.heap[B+5]?=some (.cells #[.int .i64 0] 3 (0,0))):
 Calls Tryz.prog 172 #[.pointer (some ⟨B,0,none⟩),.pointer (some ⟨B+1,0,none⟩),.pointer (some ⟨B+4,0,none⟩),.pointer (some ⟨B+2,0,none⟩),.pointer (some ⟨B+5,0,none⟩)] w λe w'=>
  e=zK E/\w.heap.size<=w'.heap.size/\(∀k,k<w.heap.size->k≠B+4->k≠B+5->w'.heap[k]?=w.heap[k]?)/\w'.os=w.os/\w'.tape=w.tape/\w'.output=w.output/\(E=0->(∃n,w.heap.size<=n/\mE w' n (B+4) S')/\w'.heap[B+5]?=some (.cells #[.int .i64 N] 3 (0,0))):=by
 obtain⟨E0,hE0'⟩:∃E0,E0=zG p s:=⟨_,rfl⟩;have HE0:=aA hE0';have HEE:=aA hE0;have HDO:=aA hdo;have HP:=aA hp;have HS:=aA hs;have HN2:=aA hn2;have HN3:=aA hn3;have H0:=aA h0;have X0:=aA x0;have X1:=aA x1;have X2:=aA x2;have X4:=aA x4;have X5:=aA x5;have hf':∀(args:Array Value)(w:World),Sem.run Tryz.prog (callFunc f args) w=.ok (.enter f args) w:=hf;obtain⟨p0,p1,p2⟩:=xH x0;obtain⟨y0,y1,y2,y3,y4,y5,y6,y7⟩:=gD x1;clear hE0' hE0 hdo hp hs hn2 hn3 h0 x0 x1 x2 x4 x5 hf;go_enter Tryz.func172,Tryz.ntmps172;go_wp2_with fail;refine(ET p _ _ _ _ _ _ _ _ _ s _ _ _ _ _ _ _ _ _ _ HP.out HS.out).mono ?_;rintro e w1⟨rfl,k1⟩;rw[<-HE0.out];have s1:=k1.size;have k1':=k1.alloc s1 (.cells #[.int .i64 E0] 27);have s1':=k1'.size;clear p0 p1 p2 y0 y1 y2 y3 y4 y5 y6 y7;by_cases hz:E0=0
 ·subst hz;go_wp2_with(go_at_call 69;refine(rS _ _ (rM _ _ _) (by simp)).mono ?_;rintro e w2⟨rfl,hB2⟩;have k2:=k1'.trans (hB2.mono s1');have K2:=aA k2;obtain⟨y0,y1,y2,y3,y4,y5,y6,y7⟩:=gD (pB X1.out k2);clear hB2);have hR:=nN HE0.out.symm;obtain⟨q1,q2,q3,q4⟩:=HS.out.small hR;refine(XQ s _ _ _ _ _ _ _ _ _ w2 (HS.out.sA K2.out) HN2.out HN3.out q1 q2 q3 q4).mono ?_;rintro e w3⟨v3,rfl,hv3,k3'⟩;have k3:=K2.out.trans (k3'.mono K2.out.size);obtain⟨g1,g2,g3,l1,r1,l2,r2,l3,r3,rfl,ho⟩:=hv3;have HO:=aA ho;have K3:=aA k3;have K3':=aA k3';have q4b:=pB X4.out k3;have Q4:=aA q4b;obtain⟨z0,z1,z2,z3,z4,z5,z6,z7⟩:=gD q4b;have f0:=pA q4b 0;have f1:=pA q4b 1;have f2:=pA q4b 2;have f3:=pA q4b 3;have f4:=pA q4b 4;have f5:=pA q4b 5;have f6:=pA q4b 6;have f7:=pA q4b 7;have c2:=yB (pB X2.out k3) 0;simp at c2;clear y0 y1 y2 y3 y4 y5 y6 y7 q4b k3 k3' ho k2;go_wp2_with fail;generalize hW4:World.setCell (World.setCell (World.setCell (World.setCell (World.setCell (World.setCell (World.setCell (World.setCell w3 _ _) _ _) _ _) _ _) _ _) _ _) _ _) _ _=W4;obtain⟨b4,t4⟩:=eD Q4.out hW4;have kW4:qE w.heap.size (B+4) w W4:=(qE.kB K3.out (eA _)).trans ⟨t4.os,t4.tape,t4.output,t4.size,λk h1 h2=>t4.block k (by have:=K3.out.size;omega) h2⟩;have hdo:=HDO.out HE0.out.symm W4 w2.heap.size (B+4) (H0.out.trans (kW4.below H0.out.size (by omega))) (by omega) (by have:=K2.out.size;omega) (by have:=K3'.out.size;have:=t4.size;omega) ⟨_,_,_,_,_,_,_,_,_,b4,HO.out.bF Q4.out (by decide) t4⟩;refine hdo.mono ?_;rintro e w5⟨hF,hc⟩;have hF':qE w.heap.size (B+4) w w5:=kW4.trans ⟨hF.os,hF.tape,hF.output,hF.size,λk h1 h2=>hF.block k (by have:=K2.out.size;omega) h2⟩;have HF:=aA hF';clear z0 z1 z2 z3 z4 z5 z6 z7 f0 f1 f2 f3 f4 f5 f6 f7 c2;rcases hc with⟨hne,rfl⟩|⟨rfl,rfl,hbx⟩;·unfold aK;exact⟨rfl,by rw[eX hne];rfl,HF.out.size,λk h1 h2 _=>HF.out.block k h1 h2,HF.out.os,HF.out.tape,HF.out.output,λh=>absurd h hne⟩
  ·have q5:w5.heap[B+5]?=_:=(HF.out.block (B+5) (by omega) (by omega)).trans X5.out;have Q5:=aA q5;have HBX:=aA hbx;have c0:=yB q5 0;simp at c0;have f0:=pA q5 0;clear q5 hbx hF hF' hdo;go_wp2_with fail;go_end0;have hT5:=uF w5 (B+5) 0 (.int .i64 N);refine⟨by rw[dV];rfl,vA HF.out.size hT5.size,λk h1 h2 h3=>(hT5.block k (by have:=HF.out.size;omega) h3).trans (HF.out.block k h1 h2),HF.out.os,HF.out.tape,HF.out.output,⟨w2.heap.size,K2.out.size,?_⟩,?_⟩;·obtain⟨e1,e2,e3,i1,j1,i2,j2,i3,j3,hh,ho⟩:=HBX.out;exact⟨e1,e2,e3,i1,j1,i2,j2,i3,j3,(hT5.block _ (bE hh) (by omega)).trans hh,ho.bF Q5.out (by decide) hT5⟩
   ·exact bG Q5.out (j:=0) (.int .i64 N)
 ·have HZ:=aA hz;have hE:E=E0:=by rw[HEE.out (by rw[<-HE0.out];exact hz),HE0.out]
  go_wp2_with(go_at_call 69;refine(qV E0 _ _ (rM _ _ _) (by simp) HZ.out).mono ?_;rintro e w2⟨rfl,hB2⟩);have k2:=k1'.trans (hB2.mono s1');subst hE;exact⟨rfl,by rw[eX HZ.out];rfl,k2.size,λk h1 _ _=>k2.block k h1,k2.os,k2.tape,k2.output,λh=>absurd h HZ.out⟩
theorem tR:∀(os:List Obj)(w:World),(os.foldl World.alloc w).heap.size=w.heap.size+os.length/\(∀i o,os[i]?=some o->(os.foldl World.alloc w).heap[w.heap.size+i]?=some o)/\Below w.heap.size w (os.foldl World.alloc w)
 |[],w=>⟨by simp,λi o h=>by simp at h,dA _ _⟩
 |x::r,w=>by
   obtain⟨h1,h2,h3⟩:=tR r (w.alloc x);rw[List.foldl_cons];have hb:Below w.heap.size w (w.alloc x):=(dA _ _).alloc (eA _) _;refine⟨by rw[h1,pC,List.length_cons];omega,λi o ho=>?_,hb.trans (h3.mono (by simp))⟩;cases i with
   |zero=>
     simp at ho;subst ho;rw[Nat.add_zero,h3.block _ (by simp)];exact jA w _
   |succ i=>
     have:=h2 i o (by simpa using ho);rw[pC]at this;rw[show w.heap.size+(i+1)=w.heap.size+1+i by omega];exact this
theorem DC(p:lD)(a1 a2 a3:Option Addr)(n1 c1 n2 c2 n3 c3:Nat)(s:yC)(b1 b2 b3:Option Addr)(m1 d1 m2 d2 m3 d3:Nat)(f:FuncId)(hf:bS f)(cap:Array Value)(E N:Int)(S':yC)(w:World)(hp:sG w a1 a2 a3 n1 n2 n3 p)(hs:gK w b1 b2 b3 m1 m2 m3 s)(hn2:b2=none->d2=0)(hn3:b3=none->d3=0)(hE0:zG p s≠0->E=zG p s)(hdo:zG p s=0->nU f cap w s E N S'):
 Calls Tryz.prog 128 #[.agg #[.slice a1 n1 c1,.slice a2 n2 c2,.slice a3 n3 c3],.agg #[.slice b1 m1 d1,.slice b2 m2 d2,.slice b3 m3 d3,.int .i64 s.gA,.int .i64 s.fA,.int .i64 s.nB,.int .i64 s.uA,.int .i64 s.iA],.func (.func f) #[] cap] w λe w'=>∃v,e=.returned (.tuple #[v,.int .i64 (if E=0 then N else 0),.int .i64 E])/\kK w' w.heap.size v E S'/\Below w.heap.size w w':=by
 obtain⟨hz6,hg6,hB6⟩:=tR [.cells #[.slice a1 n1 c1,.slice a2 n2 c2,.slice a3 n3 c3] 26,.cells #[.slice b1 m1 d1,.slice b2 m2 d2,.slice b3 m3 d3,.int .i64 s.gA,.int .i64 s.fA,.int .i64 s.nB,.int .i64 s.uA,.int .i64 s.iA] 39,.cells #[.func (.func f) #[] cap] 160,.cells #[.slice none 0 0,.slice none 0 0,.slice none 0 0,.int .i64 0,.int .i64 0,.int .i64 0,.int .i64 0,.int .i64 0] 39,.cells #[.slice none 0 0,.slice none 0 0,.slice none 0 0,.int .i64 0,.int .i64 0,.int .i64 0,.int .i64 0,.int .i64 0] 39,.cells #[.int .i64 0] 3] w;obtain⟨W6,hW6⟩:∃W6,W6=List.foldl World.alloc w [.cells #[.slice a1 n1 c1,.slice a2 n2 c2,.slice a3 n3 c3] 26,.cells #[.slice b1 m1 d1,.slice b2 m2 d2,.slice b3 m3 d3,.int .i64 s.gA,.int .i64 s.fA,.int .i64 s.nB,.int .i64 s.uA,.int .i64 s.iA] 39,.cells #[.func (.func f) #[] cap] 160,.cells #[.slice none 0 0,.slice none 0 0,.slice none 0 0,.int .i64 0,.int .i64 0,.int .i64 0,.int .i64 0,.int .i64 0] 39,.cells #[.slice none 0 0,.slice none 0 0,.slice none 0 0,.int .i64 0,.int .i64 0,.int .i64 0,.int .i64 0,.int .i64 0] 39,.cells #[.int .i64 0] 3]:=⟨_,rfl⟩;rw[<-hW6]at hz6 hg6 hB6;have x0:=hg6 0 _ rfl;have x1:=hg6 1 _ rfl;have x2:=hg6 2 _ rfl;have x3:=hg6 3 _ rfl;have x4:=hg6 4 _ rfl;have x5:=hg6 5 _ rfl;have hz6':W6.heap.size=w.heap.size+6:=by rw[hz6];rfl
 have l7:Below W6.heap.size W6 (W6.alloc (.cells #[.int .i64 0] 27)):=(dA _ _).alloc (eA _) _;have x6:=jA W6 (.cells #[.int .i64 0] 27);have T1:=R1 p a1 a2 a3 n1 c1 n2 c2 n3 c3 s b1 b2 b3 m1 d1 m2 d2 m3 d3 f hf cap w E N S' hE0 hdo w.heap.size (eA _) (W6.alloc (.cells #[.int .i64 0] 27)) (hB6.trans (l7.mono hB6.size)) (by rw[pC];omega) ((hp.sA hB6).sA l7) ((hs.sA hB6).sA l7) hn2 hn3 (pB x0 l7) (pB x1 l7) (pB x2 l7) (pB x4 l7) (pB x5 l7);have TR:=JP 172 (λ_ _=>rfl) #[.pointer (some ⟨w.heap.size,0,none⟩),.pointer (some ⟨w.heap.size+1,0,none⟩),.pointer (some ⟨w.heap.size+4,0,none⟩),.pointer (some ⟨w.heap.size+2,0,none⟩),.pointer (some ⟨w.heap.size+5,0,none⟩)]
  (λD w1=>D=E/\W6.heap.size+1<=w1.heap.size/\(∀k,k<W6.heap.size+1->k≠w.heap.size+4->k≠w.heap.size+5->w1.heap[k]?=(W6.alloc (.cells #[.int .i64 0] 27)).heap[k]?)/\w1.os=w.os/\w1.tape=w.tape/\w1.output=w.output/\(E=0->(∃n,W6.heap.size+1<=n/\mE w1 n (w.heap.size+4) S')/\w1.heap[w.heap.size+5]?=some (.cells #[.int .i64 N] 3 (0,0)))) W6
  (T1.mono (by
   rintro e w'⟨rfl,g1,g2,g3,g4,g5,g6⟩;rw[pC]at g1 g2 g6;exact⟨E,rfl,⟨rfl,g1,g2,g3.trans hB6.os,g4.trans hB6.tape,g5.trans hB6.output,g6⟩,(g2 _ (Nat.lt_succ_self _) (by omega) (by omega)).trans x6⟩));have HW6:Hid (W6=((((((w.alloc (.cells #[.slice a1 n1 c1,.slice a2 n2 c2,.slice a3 n3 c3] 26)).alloc (.cells #[.slice b1 m1 d1,.slice b2 m2 d2,.slice b3 m3 d3,.int .i64 s.gA,.int .i64 s.fA,.int .i64 s.nB,.int .i64 s.uA,.int .i64 s.iA] 39)).alloc (.cells #[.func (.func f) #[] cap] 160)).alloc (.cells #[.slice none 0 0,.slice none 0 0,.slice none 0 0,.int .i64 0,.int .i64 0,.int .i64 0,.int .i64 0,.int .i64 0] 39)).alloc (.cells #[.slice none 0 0,.slice none 0 0,.slice none 0 0,.int .i64 0,.int .i64 0,.int .i64 0,.int .i64 0,.int .i64 0] 39)).alloc (.cells #[.int .i64 0] 3))):=hW6;have HTR:=aA TR;have HB6:=aA hB6;have X3:=aA x3;have HZ6:=aA hz6';have hmf:∀(fn:Fn)(first cap:Array Value)(w:World),(Instr.makeFunc fn first cap).run Tryz.prog w=.ok (.func fn first cap) w:=λ_ _ _ _=>rfl;clear T1 TR hW6 hz6 hz6' hg6 hB6 x0 x1 x2 x3 x4 x5 x6 l7 hE0 hdo hf hp hs hn2 hn3;go_enter Tryz.func128,Tryz.ntmps128;go_wp2_with fail;rw[<-HW6.out];refine HTR.out.mono ?_;rintro e w7⟨D,w1,rfl,⟨rfl,g1,g2,g3,g4,g5,g6⟩,hb,rfl⟩;have r1:w1.heap[w.heap.size+3]?=_:=(g2 _ (by have:=HZ6.out;omega) (by omega) (by omega)).trans (((dA W6.heap.size W6).alloc (eA _) (.cells #[.int .i64 0] 27)).block _ (by have:=HZ6.out;omega)|>.trans X3.out);have t7:=uF w1 W6.heap.size 0 (.int .i64 D);have r7:=(t7.block _ (bE r1) (by have:=HZ6.out;omega)).trans r1;generalize hw7:w1.setCell ⟨W6.heap.size,0,none⟩ (.int .i64 D)=w7 at t7 r7;have hB7:Below w.heap.size w w7:=by
  refine⟨t7.os.trans g3,t7.tape.trans g4,t7.output.trans g5,?_,λk hk=>?_⟩;·have:=t7.size;have:=HZ6.out;omega
  ·rw[t7.block k (by have:=HZ6.out;omega) (by have:=HZ6.out;omega),g2 k (by have:=HZ6.out;omega) (by omega) (by omega),lE _ _ _ (by have:=HZ6.out;omega),HB6.out.block k hk]
 have HB7:=aA hB7;have R7:=aA r7;obtain⟨x0,x1,x2,x3,x4,x5,x6,x7⟩:=gD r7;have e0:=pA r7 0;have e1:=pA r7 1;have e2:=pA r7 2;have e3:=pA r7 3;have e4:=pA r7 4;have e5:=pA r7 5;have e6:=pA r7 6;have e7:=pA r7 7;by_cases hD:D=0;·subst hD;obtain⟨⟨n,hn,g1',g2',g3',l1,r1',l2,r2,l3,r3,hbx,ho⟩,hnb⟩:=g6 rfl;have hbx7:=(t7.block _ (bE hbx) (by have:=HZ6.out;omega)).trans hbx;have hnb7:=(t7.block _ (bE hnb) (by have:=HZ6.out;omega)).trans hnb;have ho7:=ho.bF hb (by decide) t7;have HO7:=aA ho7;obtain⟨y0,y1,y2,y3,y4,y5,y6,y7⟩:=gD hbx7;have cn:=yB hnb7 0;simp at cn;have HN:=aA hn;clear g1 g2 g3 g4 g5 g6 hb r1 t7 r7 hw7 hB7 hbx hnb ho hbx7 hnb7 ho7 hn;go_wp2_with fail;go_region;generalize hW4:World.setCell (World.setCell (World.setCell (World.setCell (World.setCell (World.setCell (World.setCell (World.setCell _ _ _) _ _) _ _) _ _) _ _) _ _) _ _) _ _=W4;obtain⟨b4,t4⟩:=eD R7.out hW4;obtain⟨z0,z1,z2,z3,z4,z5,z6,z7⟩:=gD b4;go_wp2_with fail;exact dB (v:=.tuple #[.agg #[.slice g1' l1 r1',.slice g2' l2 r2,.slice g3' l3 r3,.int .i64 S'.gA,.int .i64 S'.fA,.int .i64 S'.nB,.int .i64 S'.uA,.int .i64 S'.iA],.int .i64 N,.int .i64 0]) (by simp[results,Tryz.results128,go_sem,z0,z1,z2,z3,z4,z5,z6,z7]) rfl ⟨_,by first|rfl|rw[qA rfl],⟨λ_=>⟨_,_,_,_,_,_,_,_,_,rfl,((HO7.out.bF R7.out (by decide) t4).lower (by have:=HN.out;have:=HZ6.out;omega)).sA (dA _ _).drew⟩,λh=>absurd rfl h⟩,HB7.out.trans (t4.below (by have:=HB7.out.size;omega) (by omega)).drew⟩
 ·have hD':(D !=0)=true:=kD.2 hD;have HDN:=aA hD;clear g1 g2 g3 g4 g5 g6 hb r1 t7 r7 hw7 hB7 hD;go_wp2_with fail;generalize hW4:World.setCell (World.setCell (World.setCell (World.setCell (World.setCell (World.setCell (World.setCell (World.setCell w7 _ _) _ _) _ _) _ _) _ _) _ _) _ _) _ _=W4;obtain⟨b4,t4⟩:=eD R7.out hW4;obtain⟨z0,z1,z2,z3,z4,z5,z6,z7⟩:=gD b4;exact dB (v:=.tuple #[iG,.int .i64 0,.int .i64 D]) (by simp[results,Tryz.results128,go_sem,z0,z1,z2,z3,z4,z5,z6,z7,iG]) rfl ⟨iG,by first|rfl|rw[kA HDN.out],⟨λh=>absurd h HDN.out,λ_=>rfl⟩,HB7.out.trans (t4.below (by have:=HB7.out.size;omega) (by omega))⟩
def kH.val(x:kH):Value:=.agg #[.int .i64 x.queue,.int .i64 x.nD]
def eF.val(o:eF):Value:=.agg #[.int .i64 o.tag,.int .i64 o.fE,.int .i64 o.queue,.int .i64 o.item.seq,.string o.item.key,.string o.item.body,.bool o.item.again,.int .i64 o.item.fC]
def yE{α:Type}(P:α->Bool)(xs:List α):Int:=if xs.findIdx P<xs.length then(xs.findIdx P:Int)else-1
theorem yX{α:Type}{P:α->Bool}{xs:List α}{k:Nat}(hk:k<xs.length)(ha:∀x∈xs.take k,P x=false)(hx:P xs[k]=true):yE P xs=k:=by
 have e:xs.findIdx P=k:=by
  rw[List.findIdx_eq hk];exact⟨hx,λj hj=>ha _ (by rw[iO];exact⟨j,by omega,rfl⟩)⟩
 unfold yE;rw[e,qA hk]
theorem yZ{α:Type}{P:α->Bool}{xs:List α}(ha:∀x∈xs,P x=false):yE P xs=-1:=by
 have e:xs.findIdx P=xs.length:=List.findIdx_eq_length.2 ha;unfold yE;rw[e,kA (yL _)]
theorem WM(f:FuncId)(hf:bS f)(cap:Array Value)(P:kH->Bool)(xs:List kH)(a:Option Addr)(n c:Nat)(w:World)(hn:xs.length=n)(hm:n<=100000000)(hp:xX w a xs)
 (hcl:∀(x:kH)(W:World),Below w.heap.size w W->Calls Tryz.prog f (#[x.val]++cap) W λe w'=>e=.returned (.bool (P x))/\Below W.heap.size W w'):
 Calls Tryz.prog 136 #[.slice a n c,.func (.func f) #[] cap] w λe w'=>e=.returned (.int .i64 (yE P xs))/\Below w.heap.size w w':=by
 have HN:=aA hn;have HP:=aA hp;have HCL:=aA hcl;have hf':∀(args:Array Value)(w:World),Sem.run Tryz.prog (callFunc f args) w=.ok (.enter f args) w:=hf;clear hn hp hcl hf;go_enter Tryz.func136,Tryz.ntmps136;go_wp2;go_loopw[8](λi wr=>∃(k:Nat),k<=n/\i=.int .i64 k/\(∀x∈xs.take k,P x=false)/\Below w.heap.size w wr)(λi _=>n-(intOf i).toNat);case atStart=>exact⟨0,zA _,rfl,by simp,dA _ _⟩
 case round=>
  obtain⟨k,hk,rfl,ha,hBl⟩:=hrel;have HA:=aA ha;have hBs:=hBl.size;clear ha;by_cases hlt:k<n
  ·have hkl:k<xs.length:=by rw[HN.out];exact hlt
   obtain⟨g,o,rfl,hg,hc⟩:=(HP.out.sA hBl).get hkl;have HX:Hid (P xs[k]=true->yE P xs=k):=λh=>yX hkl HA.out h;have HT:Hid (P xs[k]=false->∀x∈xs.take (k+1),P x=false):=λh x hx=>by
    rw[rA hkl,oC,tC]at hx;rcases hx with hx|rfl;·exact HA.out x hx
    ·exact h
   have HCX:=aA (HCL.out xs[k] wr hBl);obtain⟨x,hxx⟩:∃x,x=xs[k]:=⟨_,rfl⟩;rw[<-hxx]at hc HX HT HCX;obtain⟨y,hy⟩:∃y,y=P x:=⟨_,rfl⟩;rw[<-hy]at HX HT HCX;clear hxx hy HA;obtain⟨c0,c1⟩:=hc;have j1:(0:Int)<=(k:Int):=by omega
   have j2:(k:Int)<n:=by omega
   cases y with
   |true=>
     go_wp2_with fail;refine HCX.out.mono ?_;rintro e w2⟨rfl,hB2⟩;go_wp2_with fail;go_ret;exact⟨tJ (HX.out (by first|rfl|trivial)).symm,hBl.trans (hB2.mono hBs)⟩
   |false=>
     go_wp2_with fail;refine HCX.out.mono ?_;rintro e w2⟨rfl,hB2⟩;go_wp2_with fail;go_roundw;case rel=>exact⟨k+1,by omega,by go_num,HT.out (by first|rfl|trivial),hBl.trans (hB2.mono hBs)⟩
     case measure=>simp[intOf];omega
  ·have HF:Hid (yE P xs=-1):=yZ (λx hx=>HA.out x (by rw[iB (by rw[HN.out];omega)];exact hx));go_wp2;go_ret;exact⟨tJ HF.out.symm,hBl⟩
theorem NE(f:FuncId)(hf:bS f)(cap:Array Value)(P:eF->Bool)(xs:List eF)(a:Option Addr)(n c:Nat)(w:World)(hn:xs.length=n)(hm:n<=100000000)(hp:gY w a xs)
 (hcl:∀(x:eF)(W:World),Below w.heap.size w W->Calls Tryz.prog f (#[x.val]++cap) W λe w'=>e=.returned (.bool (P x))/\Below W.heap.size W w'):
 Calls Tryz.prog 109 #[.slice a n c,.func (.func f) #[] cap] w λe w'=>e=.returned (.int .i64 (yE P xs))/\Below w.heap.size w w':=by
 have HN:=aA hn;have HP:=aA hp;have HCL:=aA hcl;have hf':∀(args:Array Value)(w:World),Sem.run Tryz.prog (callFunc f args) w=.ok (.enter f args) w:=hf;clear hn hp hcl hf;go_enter Tryz.func109,Tryz.ntmps109;go_wp2;go_loopw[8](λi wr=>∃(k:Nat),k<=n/\i=.int .i64 k/\(∀x∈xs.take k,P x=false)/\Below w.heap.size w wr)(λi _=>n-(intOf i).toNat);case atStart=>exact⟨0,zA _,rfl,by simp,dA _ _⟩
 case round=>
  obtain⟨k,hk,rfl,ha,hBl⟩:=hrel;have HA:=aA ha;have hBs:=hBl.size;clear ha;by_cases hlt:k<n
  ·have hkl:k<xs.length:=by rw[HN.out];exact hlt
   obtain⟨g,o,rfl,hg,hc⟩:=(HP.out.sA hBl).get hkl;have HX:Hid (P xs[k]=true->yE P xs=k):=λh=>yX hkl HA.out h;have HT:Hid (P xs[k]=false->∀x∈xs.take (k+1),P x=false):=λh x hx=>by
    rw[rA hkl,oC,tC]at hx;rcases hx with hx|rfl;·exact HA.out x hx
    ·exact h
   have HCX:=aA (HCL.out xs[k] wr hBl);obtain⟨x,hxx⟩:∃x,x=xs[k]:=⟨_,rfl⟩;rw[<-hxx]at hc HX HT HCX;obtain⟨y,hy⟩:∃y,y=P x:=⟨_,rfl⟩;rw[<-hy]at HX HT HCX;clear hxx hy HA;obtain⟨c0,c1,c2,c3,c4,c5,c6,c7⟩:=hc;have j1:(0:Int)<=(k:Int):=by omega
   have j2:(k:Int)<n:=by omega
   cases y with
   |true=>
     go_wp2_with fail;refine HCX.out.mono ?_;rintro e w2⟨rfl,hB2⟩;go_wp2_with fail;go_ret;exact⟨tJ (HX.out (by first|rfl|trivial)).symm,hBl.trans (hB2.mono hBs)⟩
   |false=>
     go_wp2_with fail;refine HCX.out.mono ?_;rintro e w2⟨rfl,hB2⟩;go_wp2_with fail;go_roundw;case rel=>exact⟨k+1,by omega,by go_num,HT.out (by first|rfl|trivial),hBl.trans (hB2.mono hBs)⟩
     case measure=>simp[intOf];omega
  ·have HF:Hid (yE P xs=-1):=yZ (λx hx=>HA.out x (by rw[iB (by rw[HN.out];omega)];exact hx));go_wp2;go_ret;exact⟨tJ HF.out.symm,hBl⟩
theorem ND(p:lD)(a1 a2 a3:Option Addr)(n1 c1 n2 c2 n3 c3:Nat)(q:Int)(w:World)(hp:sG w a1 a2 a3 n1 n2 n3 p):
 Calls Tryz.prog 135 #[.agg #[.slice a1 n1 c1,.slice a2 n2 c2,.slice a3 n3 c3],.int .i64 q] w λe w'=>e=zK (if tG q n2=false then 5 else 0)/\Below w.heap.size w w':=by
 obtain⟨E,hE⟩:∃E:Int,E=if tG q n2=false then 5 else 0:=⟨_,rfl⟩;rw[<-hE];obtain⟨W1,hW1,hBw,hs1,hbx⟩:=AC w (.slice a1 n1 c1) (.slice a2 n2 c2) (.slice a3 n3 c3) 26;have HW1:=aA hW1;have HE:=aA hE;have HS1:=aA hs1;have s0:=hBw.size;obtain⟨x0,x1,x2⟩:=hbx W1 (dA _ _);clear hW1 hbx hE hs1;go_enter Tryz.func135,Tryz.ntmps135;go_wp2_with fail;rw[<-HW1.out];by_cases h:0<=q/\q<n2
 ·have HE0:Hid (E=0):=by show E=0;rw[HE.out,kA (by rw[cP.2 h];decide)]
  refine(zM 5 [decide (q<0),decide ((n2:Int)<=q)] _ _ (by simp) (bI W1 _ HS1.out.symm) (by simp;omega)).mono ?_;rintro e w2⟨rfl,rfl⟩;go_wp2_with fail;go_end0;exact⟨by rw[HE0.out];rfl,hBw.trans ((dA _ _).alloc s0 _)⟩
 ·have HE0:Hid (E=5):=by show E=5;rw[HE.out,qA (BV.2 h)]
  refine(aN 5 [decide (q<0),decide ((n2:Int)<=q)] _ _ (by simp) (bI W1 _ HS1.out.symm) (by simp;omega)).mono ?_;rintro e w2⟨rfl,rfl⟩;exact⟨rfl,by rw[HE0.out];rfl,hBw.trans ((dA _ _).alloc s0 _)⟩
end Go.Proofs.YtedmnjimkhamaaaGreatDoor
