import Derived.Test.YtedmnjimkhamaaaGreatDoorDMz
import Derived.Test.YtedmnjimkhamaaaGreatDoorMvx
import Derived.Test.YtedmnjimkhamaaaGreatDoorDMw
namespace Go.Proofs.YtedmnjimkhamaaaGreatDoor
set_option linter.unusedVariables false
set_option maxRecDepth 100000
set_option maxHeartbeats 16000000
open Go.RowKit Go.Maps
theorem U8(p:lD)(a1 a2 a3:Option Addr)(n1 c1 n2 c2 n3 c3:Nat)(W0:World)(hp0:sG W0 a1 a2 a3 n1 n2 n3 p)(hm:n1<=100)(hm2:n2<=100)(hpow:rJ W0)(s:yC)(nm:ByteArray)(g c:Nat)(t:Nat)(w:World)(h0:Below W0.heap.size W0 w)(ht0:W0.heap.size<=t)(hb:zO a1 a2 a3 n1 c1 n2 c2 n3 c3 w W0.heap.size t s)
 (g0:w.cell? ⟨g,0,none⟩=some (.string ⟨#[110,101,120,116]⟩))(g1:w.cell? ⟨g,1,none⟩=some (.string nm))(hg:g<w.heap.size):
 Calls Tryz.prog 35 #[.pointer (some ⟨t,0,none⟩),.slice (some ⟨g,0,none⟩) 2 c] w λe w'=>oT a1 a2 a3 n1 c1 n2 c2 n3 c3 w w' W0.heap.size t e (oW p s nm) (rW s (yE (iK nm) p.jB)) s (lJ s (yE (iK nm) p.jB)):=by
 have CL:=aA (J1 p a1 a2 a3 n1 c1 n2 c2 n3 c3 W0 hp0 hm hm2 hpow s nm t w h0 ht0 hb);clear hp0 hpow hb h0;go_enter Tryz.func35,Tryz.ntmps35;go_wp2_with fail;refine CL.out.mono ?_;rintro e w3⟨F3,hx3⟩;rcases hx3 with⟨h1,rfl,CB⟩|⟨h1,rfl,CB⟩;·exact⟨rfl,F3,.inl ⟨h1,rfl,CB⟩⟩
 ·go_wp2_with fail;go_ret;exact⟨F3,.inr ⟨h1,rfl,CB⟩⟩
theorem oT.err{a1 a2 a3:Option Addr}{n1 c1 n2 c2 n3 c3:Nat}{W W':World}{n t:Nat}{e:Ending}{E:Int}{R R':ByteArray}{s S S':yC}(hE:E≠0)(h:oT a1 a2 a3 n1 c1 n2 c2 n3 c3 W W' n t e E R s S):oT a1 a2 a3 n1 c1 n2 c2 n3 c3 W W' n t e E R' s S':=
 ⟨h.1,.inl (h.2.resolve_right (λk=>hE k.1))⟩
theorem iS{W:World}{g:Nat}{xs:List ByteArray}(h:qM W g 0 xs){i:Nat}{x:ByteArray}(hx:xs[i]?=some x):W.cell? ⟨g,i,none⟩=some (.string x):=by
 obtain⟨hi,e⟩:=cH.1 hx;have:=h i hi;rw[uD,e]at this;exact this
theorem qd_(p:lD)(a1 a2 a3:Option Addr)(n1 c1 n2 c2 n3 c3:Nat)(W0:World)(hp0:sG W0 a1 a2 a3 n1 n2 n3 p)(hm:n1<=100)(hm2:n2<=100)(hpow:rJ W0)(s:yC)(hR:zG p s=0)(l:ByteArray)(hl:l.size<=1000000)(hok:vR l=true)(g c:Nat)(t:Nat)(w:World)(h0:Below W0.heap.size W0 w)(ht0:W0.heap.size<=t)(hb:zO a1 a2 a3 n1 c1 n2 c2 n3 c3 w W0.heap.size t s)(hx:qM w g 0 (wF 3 l))(hg:g<w.heap.size):
 Calls Tryz.prog 35 #[.pointer (some ⟨t,0,none⟩),.slice (some ⟨g,0,none⟩) (wF 3 l).length c] w λe w'=>oT a1 a2 a3 n1 c1 n2 c2 n3 c3 w w' W0.heap.size t e (zN p s (sJ l)) (wU p s (sJ l)) s (jV p s (sJ l)):=by
 have hsz:∀x,x∈wF 3 l->x.size<=1000000:=λx hx=>vA (RG hx) hl;cases VI l with
 |bad h e=>rw[hok]at h;cases h
 |lying h x e=>
   rw[x]at hx hsz;rw[x,e];exact M9 p a1 a2 a3 n1 c1 n2 c2 n3 c3 W0 hp0 hpow s hR g c t w h0 ht0 hb (iS hx rfl) hg
 |sums h x e=>
   rw[x]at hx hsz;rw[x,e];have hs:=LR hR;exact V0 p a1 a2 a3 n1 c1 n2 c2 n3 c3 W0 hpow s hR s.nB.toNat s.uA.toNat s.iA.toNat (by omega) (by omega) (by omega) (by omega) g c t w h0 ht0 hb (iS hx rfl) hg
 |send h a k b x e=>
   rw[x]at hx hsz;rw[x,e];exact U9 p a1 a2 a3 n1 c1 n2 c2 n3 c3 W0 hp0 hm hm2 hpow s a k b g c t w h0 ht0 hb (iS hx rfl) (iS hx rfl) (iS hx rfl) (iS hx rfl) hg
 |join h a m x e=>
   rw[x]at hx hsz;rw[x,e];have hj:=U7 p a1 a2 a3 n1 c1 n2 c2 n3 c3 W0 hp0 hm hm2 hpow s a m (hsz m (by simp)) g c t w h0 ht0 hb (iS hx rfl) (iS hx rfl) (iS hx rfl) hg;cases hn:vM m.data.toList with
   |false=>
     have e1:bW p s a m=1:=by unfold bW;rw[qA hn]
     rw[fU hn];rw[e1]at hj;exact hj.mono λe w' h=>h.err (show(1:Int)≠0 by decide)
   |true=>
     have e1:bW p s a m=zN p s (.join a m):=by unfold bW;rw[kA (by rw[hn];decide)];rfl
     have e2:gI (.join a) m=.join a m:=by unfold gI;rw[hn];rfl
     rw[e2];rw[e1]at hj;exact hj
 |next h a x e=>
   rw[x]at hx hsz;rw[x,e];exact U8 p a1 a2 a3 n1 c1 n2 c2 n3 c3 W0 hp0 hm hm2 hpow s a g c t w h0 ht0 hb (iS hx rfl) (iS hx rfl) hg
 |leave h a x e=>
   rw[x]at hx hsz;rw[x,e];exact GK p a1 a2 a3 n1 c1 n2 c2 n3 c3 W0 hp0 s .leave a (hsz a (by simp)) g c t w h0 ht0 hb (iS hx rfl) (iS hx rfl) hg
 |ack h a x e=>
   rw[x]at hx hsz;rw[x,e];exact GK p a1 a2 a3 n1 c1 n2 c2 n3 c3 W0 hp0 s .ack a (hsz a (by simp)) g c t w h0 ht0 hb (iS hx rfl) (iS hx rfl) hg
 |back h a x e=>
   rw[x]at hx hsz;rw[x,e];exact GK p a1 a2 a3 n1 c1 n2 c2 n3 c3 W0 hp0 s .back a (hsz a (by simp)) g c t w h0 ht0 hb (iS hx rfl) (iS hx rfl) hg
 |drop h a x e=>
   rw[x]at hx hsz;rw[x,e];exact GK p a1 a2 a3 n1 c1 n2 c2 n3 c3 W0 hp0 s .drop a (hsz a (by simp)) g c t w h0 ht0 hb (iS hx rfl) (iS hx rfl) hg
def bM(x:Int):Prop:=0<=x/\x<=100
theorem bM.ite{c:Prop}[Decidable c]{x y:Int}(h1:bM x)(h2:bM y):bM (if c then x else y):=by
 by_cases h:c;·rw[qA h];exact h1
 ·rw[kA h];exact h2
theorem dQ:bM 0:=by unfold bM;omega
theorem tW:bM 1:=by unfold bM;omega
theorem uT:bM 2:=by unfold bM;omega
theorem AR:bM 3:=by unfold bM;omega
theorem rR:bM 5:=by unfold bM;omega
theorem TM(f:List UInt8->Bool)(l:List UInt8):bM (nJ f l):=.ite uT (.ite dQ tW)
theorem O1(l:List UInt8):bM (kG l):=TM _ l
theorem PP:∀(bs:List qS),bM (kM bs)
 |[]=>dQ
 |b::r=>.ite (PP r) (TM _ _)
theorem TL(p:lD):bM (iF p):=by
 unfold iF;exact .ite uT (.ite (by unfold bM;omega) (.ite (by unfold bM;omega) (.ite (by unfold bM;omega) (.ite AR (PP _)))))
theorem BW(p:lD)(s:yC):bM (zG p s):=by
 unfold zG;exact .ite (TL p) (.ite uT (.ite tW (.ite AR (.ite (by unfold bM;omega) dQ))))
theorem TJ(p:lD)(s:yC)(t:Int):bM (sK p s t):=.ite (BW p s) (.ite rR dQ)
theorem KT(p:lD)(s:yC)(t:Int):bM (cL p s t):=.ite (TJ p s t) (.ite uT dQ)
theorem IW(p:lD)(t:Int):∀(r:List eF)(s:yC),bM (iR p t r s)
 |[],_=>dQ
 |o::r,s=>by
   unfold iR;exact .ite (.ite (KT p s o.tag) (IW p t r _)) (IW p t r s)
theorem O0(p:lD)(s:yC)(q:Int):bM (mK p s q):=by
 have h:bM (fR p s q):=.ite (BW p s) (.ite rR (.ite (by unfold bM;omega) (.ite (by unfold bM;omega) dQ)));exact .ite h (.ite uT dQ)
theorem O2(p:lD)(s:yC)(q:Int)(k b:ByteArray):bM (pL p s q k b):=by
 refine .ite (BW p s) (.ite ?_ (.ite tW (.ite (BW p s) (.ite uT (.ite rR (.ite tW (.ite uT dQ)))))));exact .ite (.ite (O1 _) rR) (TL p)
theorem DJ(p:lD)(s:yC)(a:dW):bM (zN p s a):=by
 cases a with
 |bad=>exact tW
 |lying=>exact dQ
 |sums=>exact dQ
 |send a k b=>exact .ite rR (O2 p s _ k b)
 |join a m=>exact .ite rR (.ite (BW p s) (.ite rR (.ite AR (.ite uT dQ))))
 |next a=>exact .ite rR (O0 p s _)
 |leave a=>exact .ite (BW p s) (.ite rR (.ite rR (IW p _ _ s)))
 |ack a=>exact TJ p s _
 |back a=>exact KT p s _
 |drop a=>exact KT p s _
theorem u_{n m:Nat}{w w':World}(h:Below m w.drew w')(hn:n<=w.heap.size)(hm:m=w.drew.heap.size:=by rfl):Below n w w':=((dA n w).drew).trans (h.mono (by rw[hm];exact hn))
theorem P1{l:ByteArray}(h:vR l=false):sJ l=.bad:=by
 cases VI l<;>simp_all
theorem zO.bF{a1 a2 a3:Option Addr}{n1 c1 n2 c2 n3 c3:Nat}{W W':World}{n t B:Nat}{s:yC}{cur:Array Value}{T:TypeId}(h:zO a1 a2 a3 n1 c1 n2 c2 n3 c3 W n t s)(hB:W.heap[B]?=some (.cells cur T (0,0)))(hT:T≠86/\T≠88/\T≠121/\T≠110)(hne:t≠B)(k:vJ B W W'):zO a1 a2 a3 n1 c1 n2 c2 n3 c3 W' n t s:=by
 obtain⟨b1,b2,b3,m1,d1,m2,d2,m3,d3,hh,ho⟩:=h;exact⟨b1,b2,b3,m1,d1,m2,d2,m3,d3,(k.block t (bE hh) hne).trans hh,ho.bF hB hT k⟩
structure DR(w w':World)(t A:Nat):Prop where
 os:w'.os=w.os
 tape:w'.tape=w.tape
 output:w'.output=w.output
 size:w.heap.size<=w'.heap.size
 block:∀k,k<w.heap.size->k≠t->k≠A->w'.heap[k]?=w.heap[k]?
theorem A4(p:lD)(a1 a2 a3:Option Addr)(n1 c1 n2 c2 n3 c3:Nat)(W0:World)(hp0:sG W0 a1 a2 a3 n1 n2 n3 p)(hm:n1<=100)(hm2:n2<=100)(hpow:rJ W0)(s:yC)(hR:zG p s=0)(l:ByteArray)(hl:l.size<=1000000)(t C L A:Nat)(w:World)(h0:Below W0.heap.size W0 w)(ht0:W0.heap.size<=t)(hb:zO a1 a2 a3 n1 c1 n2 c2 n3 c3 w W0.heap.size t s)
 (xC:w.heap[C]?=some (.cells #[.pointer (some ⟨t,0,none⟩)] 67 (0,0)))(xL:w.heap[L]?=some (.cells #[.string l] 9 (0,0)))(xA:w.heap[A]?=some (.cells #[.string ⟨#[]⟩] 9 (0,0)))(hCL:C≠A/\L≠A/\C≠t/\L≠t/\A≠t):
 Calls Tryz.prog 34 #[.pointer (some ⟨C,0,none⟩),.pointer (some ⟨L,0,none⟩),.pointer (some ⟨A,0,none⟩)] w λe w'=>e=zK (zN p s (sJ l))/\DR w w' t A/\zO a1 a2 a3 n1 c1 n2 c2 n3 c3 w' W0.heap.size t (yR p s l)/\(zN p s (sJ l)=0->w'.heap[A]?=some (.cells #[.string (wU p s (sJ l))] 9 (0,0))):=by
 obtain⟨hCA,hLA,hCt,hLt,hAt⟩:=hCL;have ht:t<w.heap.size:=by
  obtain⟨b1,b2,b3,m1,d1,m2,d2,m3,d3,hh,ho⟩:=hb;exact bE hh
 have lC:=bE xC;have lL:=bE xL;have lA:=bE xA;have HB:=aA hb;have SP:=aA (λW=>K_ l W hl);have DO:Hid (∀W,Below w.heap.size w W->vR l=true->∀g c,qM W g 0 (wF 3 l)->g<W.heap.size->Calls Tryz.prog 35 #[.pointer (some ⟨t,0,none⟩),.slice (some ⟨g,0,none⟩) (wF 3 l).length c] W λe w'=>oT a1 a2 a3 n1 c1 n2 c2 n3 c3 W w' W0.heap.size t e (zN p s (sJ l)) (wU p s (sJ l)) s (jV p s (sJ l))):=λW hW hok g c hx hg=>
  qd_ p a1 a2 a3 n1 c1 n2 c2 n3 c3 W0 hp0 hm hm2 hpow s hR l hl hok g c t W (h0.trans (hW.mono h0.size)) ht0 (hb.sA hW) hx hg;have HSQ:Hid (∀W',qE w.heap.size t w W'->W'.cell? ⟨C,0,none⟩=some (.pointer (some ⟨t,0,none⟩))/\W'.cell? ⟨L,0,none⟩=some (.string l)):=λW' hW=>⟨eU ((hW.block C lC hCt).trans xC),eU ((hW.block L lL hLt).trans xL)⟩;have HA:Hid (∀W',qE w.heap.size t w W'->W'.heap[A]?=some (.cells #[.string ⟨#[]⟩] 9 (0,0))):=λW' hW=>(hW.block A lA hAt).trans xA;have HX:=aA (And.intro xC xL);clear hp0 hpow hb h0 xC xL xA;go_enter Tryz.func34,Tryz.ntmps34;refine zB (S:=λW'=>W'.cell? ⟨C,0,none⟩=some (.pointer (some ⟨t,0,none⟩))/\W'.cell? ⟨L,0,none⟩=some (.string l)) (by kernel_rfl) (HSQ.out _ (qE.kB ((dA w.heap.size w).drew) (eA _))) (λhHeld=>?_);refine tk 0 ?_;refine tk 1 ?_;refine pG 2 (λK hK=>?_);go_simp;refine(SP.out _).mono ?_;rintro e w2⟨k2',h⟩;have k2:Below w.heap.size w w2:=u_ k2' (eA _);have z2:=k2.size;rcases h with⟨hno,rfl⟩|⟨hok,g,c,rfl,hx,hg⟩
 ·have e0:=P1 hno;have e1:zN p s (sJ l)=1:=by rw[e0];rfl
  have e3:yR p s l=s:=by unfold yR;rw[kA (by rw[e1];decide)]
  rw[e3,e1];exact⟨rfl,rfl,⟨k2.os,k2.tape,k2.output,k2.size,λk h1 _ _=>k2.block k h1⟩,HB.out.sA k2,λh=>(nomatch h)⟩
 ·refine hK.out _ _ (HSQ.out _ (qE.kB k2 (eA _))) (λhH=>?_);clear hK K;refine hG ?_;refine pG 3 (λK hK=>?_);go_simp;refine(DO.out w2 k2 hok g c hx hg).mono ?_;rintro e w3⟨F3',hx3⟩;have F3:qE w.heap.size t w w3:=(qE.kB k2 (eA _)).trans ⟨F3'.os,F3'.tape,F3'.output,F3'.size,λk h1 h2=>F3'.block k (by omega) h2⟩;have HF3:=aA F3;rcases hx3 with⟨h1,rfl,CB⟩|⟨h1,rfl,CB⟩
  ·have e3:yR p s l=s:=by unfold yR;rw[kA h1]
   rw[e3,eX h1];exact⟨rfl,rfl,⟨F3.os,F3.tape,F3.output,F3.size,λk h1 h2 _=>F3.block k h1 h2⟩,CB,λh=>absurd h h1⟩
  ·have e3:yR p s l=jV p s (sJ l):=by unfold yR;rw[qA h1]
   refine hK.out _ _ (HSQ.out _ F3) (λhH=>?_);clear hK K;refine hG ?_;refine pG 4 (λK hK=>?_);have xa:=HA.out _ F3;have a0:=eU xa;have f0:=gG xa 0;go_simp;have t4:=uF w3 A 0 (.string (wU p s (sJ l)));have hs3:=F3.size;refine hK.out _ _ ⟨eU ((t4.block C (by omega) hCA).trans ((F3.block C lC hCt).trans HX.out.1)),eU ((t4.block L (by omega) hLA).trans ((F3.block L lL hLt).trans HX.out.2))⟩ (λhH=>?_);refine gC (by kernel_rfl) ?_ _;have RES:=aA (And.intro (bG xa (j:=0) (.string (wU p s (sJ l)))) (CB.bF xa (by decide) (Ne.symm hAt) t4));have FIN:Hid (DR w (w3.setCell ⟨A,0,none⟩ (.string (wU p s (sJ l)))) t A):=⟨t4.os.trans F3.os,t4.tape.trans F3.tape,t4.output.trans F3.output,vA F3.size t4.size,λk h1 h2 h3=>(t4.block k (by omega) h3).trans (F3.block k h1 h2)⟩;clear t4 a0 f0 xa CB F3 F3' hK K hH;go_wp2_with fail;go_end0;exact⟨by rw[h1,dV];rfl,FIN.out,by rw[e3];exact RES.out.2,λ_=>RES.out.1⟩
theorem A6(p:lD)(a1 a2 a3:Option Addr)(n1 c1 n2 c2 n3 c3:Nat)(W0:World)(hp0:sG W0 a1 a2 a3 n1 n2 n3 p)(hm:n1<=100)(hm2:n2<=100)(hpow:rJ W0)(s:yC)(hR:zG p s=0)(l:ByteArray)(hl:l.size<=1000000)(t:Nat)(w:World)(h0:Below W0.heap.size W0 w)(ht0:W0.heap.size<=t)(hb:zO a1 a2 a3 n1 c1 n2 c2 n3 c3 w W0.heap.size t s):
 Calls Tryz.prog 12 #[.pointer (some ⟨t,0,none⟩),.string l] w λe w'=>e=.returned (.string (xW p s l))/\qE w.heap.size t w w'/\zO a1 a2 a3 n1 c1 n2 c2 n3 c3 w' W0.heap.size t (yR p s l):=by
 have ht:t<w.heap.size:=by
  obtain⟨b1,b2,b3,m1,d1,m2,d2,m3,d3,hh,ho⟩:=hb;exact bE hh
 obtain⟨hz5,hg5,hB5⟩:=tR [.cells #[.pointer (some ⟨t,0,none⟩)] 67,.cells #[.string l] 9,.cells #[.string ⟨#[]⟩] 9] w;obtain⟨W5,hW5⟩:∃W5,W5=List.foldl World.alloc w [.cells #[.pointer (some ⟨t,0,none⟩)] 67,.cells #[.string l] 9,.cells #[.string ⟨#[]⟩] 9]:=⟨_,rfl⟩;rw[<-hW5]at hz5 hg5 hB5;have hz:W5.heap.size=w.heap.size+3:=hz5;have HW5:Hid (W5=((w.alloc (.cells #[.pointer (some ⟨t,0,none⟩)] 67)).alloc (.cells #[.string l] 9)).alloc (.cells #[.string ⟨#[]⟩] 9)):=hW5;obtain⟨W6,hW6⟩:∃W6,W6=W5.alloc (.cells #[.int .i64 0] 27):=⟨_,rfl⟩;have l6:Below W5.heap.size W5 W6:=by rw[hW6];exact(dA _ _).alloc (eA _) _
 have b6:W6.heap[W5.heap.size]?=some (.cells #[.int .i64 0] 27 (0,0)):=by rw[hW6];exact jA _ _
 have k6:Below w.heap.size w W6:=hB5.trans (l6.mono hB5.size);have z6:=l6.size;have l5t:=bE b6;obtain⟨E,hE⟩:∃E,E=zN p s (sJ l):=⟨_,rfl⟩;have SV:=A4 p a1 a2 a3 n1 c1 n2 c2 n3 c3 W0 hp0 hm hm2 hpow s hR l hl t w.heap.size (w.heap.size+1) (w.heap.size+2) W6 (h0.trans (k6.mono h0.size)) ht0 (hb.sA k6) (pB (hg5 0 _ rfl) l6) (pB (hg5 1 _ rfl) l6) (pB (hg5 2 _ rfl) l6) ⟨by omega,by omega,by omega,by omega,by omega⟩;have TR:=aA (JP 34 (rK Tryz.func34 (by kernel_rfl) rfl) #[.pointer (some ⟨w.heap.size,0,none⟩),.pointer (some ⟨w.heap.size+1,0,none⟩),.pointer (some ⟨w.heap.size+2,0,none⟩)] (λD w'=>D=E/\DR W6 w' t (w.heap.size+2)/\zO a1 a2 a3 n1 c1 n2 c2 n3 c3 w' W0.heap.size t (yR p s l)/\(E=0->w'.heap[w.heap.size+2]?=some (.cells #[.string (wU p s (sJ l))] 9 (0,0)))) W5 (by
  rw[<-hW6];refine SV.mono ?_;rintro e w'⟨rfl,hf,hc,ha⟩;exact⟨E,by rw[hE],⟨rfl,hf,hc,λh=>ha (by rw[<-hE];exact h)⟩,(hf.block _ l5t (by omega) (by omega)).trans b6⟩));obtain⟨Rl,hRl⟩:∃R:ByteArray,R=wU p s (sJ l):=⟨_,rfl⟩;have HSR:Hid (xW p s l=if E=0 then Rl else tV E):=by show _=_;rw[hE,hRl];rfl
 obtain⟨dn,hdn,hdb⟩:∃dn:Nat,E=(dn:Int)/\dn<=1000000000000000:=⟨E.toNat,by have:=DJ p s (sJ l);unfold bM at this;rw[<-hE]at this;omega,by have:=DJ p s (sJ l);unfold bM at this;rw[<-hE]at this;omega⟩;rw[<-hRl]at TR;have FR:Hid (∀w1,DR W6 w1 t (w.heap.size+2)->∀D,qE w.heap.size t w (w1.setCell ⟨W5.heap.size,0,none⟩ (.int .i64 D))):=λw1 h D=>
  have t4:=uF w1 W5.heap.size 0 (.int .i64 D);have hs:=h.size;⟨t4.os.trans (h.os.trans k6.os),t4.tape.trans (h.tape.trans k6.tape),t4.output.trans (h.output.trans k6.output),vA k6.size (vA h.size t4.size),λk h1 h2=>(t4.block k (by omega) (by omega)).trans ((h.block k (by omega) h2 (by omega)).trans (k6.block k h1))⟩;have HPW:=aA hpow;have H0:=aA h0;have HDN:=aA hdn;have HZ:=aA hz;clear hp0 hpow hb h0 hz5 hg5 hB5 hW5 hW6 l6 b6 k6 z6 l5t hE SV hRl hz hdn;go_enter Tryz.func12,Tryz.ntmps12;go_wp2_with fail;rw[<-HW5.out];refine TR.out.mono ?_;rintro e w7⟨D,w1,rfl,⟨rfl,hsv,hcb,hal⟩,hbe,hw7⟩;have F7:=FR.out w1 hsv D;have CB7:=hcb.bF hbe (by decide) (by have:=HZ.out;omega) (uF w1 W5.heap.size 0 (.int .i64 D));rw[<-hw7]at F7 CB7;by_cases h0:D=0
 ·have xa:w7.heap[w.heap.size+2]?=some (.cells #[.string Rl] 9 (0,0)):=by
   rw[hw7];exact((uF w1 W5.heap.size 0 (.int .i64 D)).block _ (bE (hal h0)) (by have:=HZ.out;omega)).trans (hal h0)
  have a0:=eU xa;subst h0;have RES:=aA (And.intro F7 CB7);clear hw7 F7 CB7 hsv hcb hal hbe xa TR FR HDN;go_wp2_with fail;go_ret;exact⟨by rw[HSR.out,qA trivial];rfl,RES.out.1,RES.out.2⟩
 ·have IT:=aA (TP dn hdb w7 (HPW.out.sA (H0.out.trans (F7.below H0.out.size ht0))));have hd:=HDN.out;subst hd;obtain⟨Dg,hDg⟩:∃Dg:ByteArray,Dg=⟨(Lib.decDigits dn).toArray⟩:=⟨_,rfl⟩;rw[<-hDg]at IT;have hs1:Dg.size<=21:=by rw[hDg,sz];exact wZ dn hdb
  have HDG:=aA hDg;have hb1:(⟨#[101,114,114,111,114,32]⟩:ByteArray).size+Dg.size<=9223372036854775807:=by show 6+Dg.size<=_;omega
  have RES:=aA (And.intro F7 CB7);have h0':¬dn=0:=λe=>h0 (by rw[e];rfl);clear hw7 F7 CB7 hsv hcb hal hbe TR FR HDN hDg;go_wp2_with fail;refine IT.out.mono ?_;rintro e w8⟨rfl,k8⟩;go_wp2_with fail;go_ret;refine⟨?_,RES.out.1.trans (qE.kB k8 RES.out.1.size),RES.out.2.sA k8⟩;rw[HSR.out,kA h0,HDG.out];unfold tV;congr 2
theorem p_(s:ByteArray)(w:World):
 Calls Tryz.prog 8 #[.string s,.string ⟨#[10]⟩] w λe w'=>e=.returned (.int .i64 (Lib.countByte s.data.toList 10))/\w'=w:=by
 go_enter Tryz.func8,Tryz.ntmps8;go_wp2;rw[aU Tryz.func29 (by kernel_rfl) (by kernel_rfl) (by kernel_rfl) (e:=Extern.BytealgCount.count) (by kernel_rfl),Lib.run_countString];simp only[Result.andThen];rw[Oper.upon_value];go_wp2;go_ret;exact⟨rfl,rfl⟩
theorem B_(s:ByteArray)(w:World):
 Calls Tryz.prog 58 #[.string s,.string ⟨#[10]⟩] w λe w'=>e=.returned (.int .i64 (Lib.indexByte s.data.toList 10))/\w'=w:=by
 go_enter Tryz.func58,Tryz.ntmps58;go_wp2_with(go_at_call 92;refine(GZ _ _ _).mono ?_;rintro e w'⟨rfl,rfl⟩)
 ·have h:([10]==s.toList)=true:=by assumption
  go_ret;refine⟨?_,rfl⟩;have e:s.data.toList=[10]:=by rw[<-zC];exact(mQ.1 h).symm
  rw[e];simp[Lib.indexByte]
 ·go_ret;exact⟨rfl,rfl⟩
theorem r_(s:ByteArray)(i:Nat)(w:World)(h:Lib.indexByte s.data.toList 10=i)(hi:i<s.size)(hs:s.size<=maxLen):
 Calls Tryz.prog 32 #[.string s,.string ⟨#[10]⟩] w λe w'=>e=.returned (.tuple #[.string (s.extract 0 i),.string (s.extract (i+1) s.size),.bool true])/\w'=w.drewN 1:=by
 unfold maxLen at hs;have c1:(0:Int)<=↑i:=by omega
 have c2:(↑i:Int)<=↑s.size:=by omega
 have c3:(0:Int)<=↑i+1:=by omega
 have c4:(↑i+1:Int)<=↑s.size:=by omega
 go_enter Tryz.func32,Tryz.ntmps32;go_wp2_with(go_at_call 58;refine(B_ _ _).mono ?_;rintro e w'⟨rfl,rfl⟩;rw[h]);go_region;go_wp2;go_ret3;exact⟨rfl,rfl⟩
theorem Y_(s:ByteArray)(i:Nat)(w:World)(h:Lib.indexByte s.data.toList 10=i)(hi:i<s.size)(hs:s.size<=maxLen):
 Calls Tryz.prog 11 #[.string s,.string ⟨#[10]⟩] w λe w'=>e=.returned (.tuple #[.string (s.extract 0 i),.string (s.extract (i+1) s.size),.bool true])/\w'=w.drewN 1:=by
 go_enter Tryz.func11,Tryz.ntmps11;go_wp2_with(go_at_call 32;refine(r_ _ i _ h hi hs).mono ?_;rintro e w'⟨rfl,rfl⟩);go_ret3;exact⟨rfl,rfl⟩
theorem U3{t:ByteArray}(h:0<t.size):(t.extract (t.size-1) t.size).toList=[t[t.size-1]'(by omega)]:=by
 rw[zC];apply nG;·simp;omega
 ·intro i h1 h2;simp at h2;subst h2;simp;rfl
theorem M_(t:ByteArray)(w:World)(h:0<t.size)(hs:t.size<=1000000):
 Calls Tryz.prog 31 #[.string t,.string ⟨#[10]⟩] w λe w'=>e=.returned (.bool (decide (t[t.size-1]'(by omega)=10)))/\w'=w:=by
 obtain⟨c,hc⟩:∃c,c=t[t.size-1]'(by omega):=⟨_,rfl⟩;have hl:=U3 h;rw[<-hc]at hl⊢;obtain⟨n,hn⟩:∃n:Nat,t.size=n+1:=⟨t.size-1,by omega⟩;go_enter Tryz.func31,Tryz.ntmps31;go_wp2_with fail;go_ret;refine⟨?_,rfl⟩;have e:((t.extract n (n+1)).toList==[10])=decide (c=10):=by
  rw[show n=t.size-1 by omega,show t.size-1+1=t.size by omega,hl];by_cases h:c=10;·rw[h];rfl
  ·rw[vD h];simp[h]
 rw[<-e];rfl
theorem NO(t:ByteArray)(w:World)(h:0<t.size)(hs:t.size<=1000000):
 Calls Tryz.prog 9 #[.string t,.string ⟨#[10]⟩] w λe w'=>e=.returned (.bool (decide (t[t.size-1]'(by omega)=10)))/\w'=w:=by
 have H:=aA (M_ t w h hs);generalize decide (t[t.size-1]'(by omega)=10)=b at*;go_enter Tryz.func9,Tryz.ntmps9;go_wp2_with fail;refine H.out.mono ?_;rintro e w2⟨rfl,rfl⟩;go_wp2_with fail;go_ret;exact⟨rfl,rfl⟩
theorem RZ{W:World}{base g n:Nat}(h:W.ownsRow base 110 1 (.slice (some ⟨g,0,none⟩) n n) n (List.replicate n (.slice none 0 0))):fI W base (some ⟨g,0,none⟩) none none n n 0 0 0 0 (iN n):=by
 refine⟨by simp[iN],rfl,rfl,by omega,⟨_,h,⟨by simp[iN],λi hi=>?_⟩⟩,?_,?_⟩
 ·have hi':i<n:=by simpa[iN]using hi
  refine⟨.slice none 0 0,none,0,by rw[List.getElem?_replicate,qA hi'],?_⟩;have e:(iN n).yA[i]=[]:=by simp[iN]
  rw[e];exact⟨rfl,eA _,by unfold maxLen;omega,λ_=>rfl,.inl rfl,.inl rfl⟩
 ·exact jC W base _ _
 ·exact jC W base _ _
theorem l_(p:lD)(a1 a2 a3:Option Addr)(n1 c1 n2 c2 n3 c3:Nat)(w:World)(hp:sG w a1 a2 a3 n1 n2 n3 p):
 Calls Tryz.prog 10 #[.agg #[.slice a1 n1 c1,.slice a2 n2 c2,.slice a3 n3 c3]] w λe w'=>(iF p=0->∃g,e=.returned (.tuple #[.agg #[.slice (some ⟨g,0,none⟩) n2 n2,.slice none 0 0,.slice none 0 0,.int .i64 0,.int .i64 0,.int .i64 0,.int .i64 0,.int .i64 0],.int .i64 0])/\fI w' w.heap.size (some ⟨g,0,none⟩) none none n2 n2 0 0 0 0 (iN n2))/\(iF p≠0->e=.returned (.tuple #[.agg #[.slice none 0 0,.slice none 0 0,.slice none 0 0,.int .i64 0,.int .i64 0,.int .i64 0,.int .i64 0,.int .i64 0],.int .i64 (iF p)]))/\Below w.heap.size w w':=by
 obtain⟨i0,hi,hz0,hz1,hz2⟩:=qF Tryz.infoLine;obtain⟨W2,hW2,hBw,hs2,hbx⟩:=mV w #[.slice a1 n1 c1,.slice a2 n2 c2,.slice a3 n3 c3] #[.slice none 0 0,.slice none 0 0,.slice none 0 0,.int .i64 0,.int .i64 0,.int .i64 0,.int .i64 0,.int .i64 0];have HW2:=aA hW2;have BX:=aA hbx;have HP:=aA (hp.sA hBw);have s0:=hBw.size;have HL2:Hid (p.jB.length=n2):=hp.l2;obtain⟨D,hD⟩:∃D:Int,D=iF p:=⟨_,rfl⟩;rw[<-hD];have HD:=aA hD;obtain⟨x0,x1,x2⟩:=xH (hbx W2 (dA _ _)).1;have HS2:Hid (W2.heap.size=w.heap.size+2):=hs2;clear hW2 hbx hs2 hp hD;go_enter Tryz.func10,Tryz.ntmps10;go_wp2_with fail;rw[<-HW2.out];refine(cX p _ _ _ _ _ _ _ _ _ _ HP.out.l1 HP.out.l2 HP.out.l3 HP.out.sz HP.out.p1 HP.out.p2 HP.out.p3).mono ?_;rintro e w1⟨rfl,k1⟩;rw[<-HD.out];have s1:=k1.size;clear x0 x1 x2;obtain⟨p0,q0⟩:=BX.out w1 k1;obtain⟨x0,x1,x2⟩:=xH p0;obtain⟨y0,y1,y2,y3,y4,y5,y6,y7⟩:=gD q0;have f0:=pA q0 0;have f1:=pA q0 1;have f2:=pA q0 2;have f3:=pA q0 3;have f4:=pA q0 4;have f5:=pA q0 5;have f6:=pA q0 6;have f7:=pA q0 7;have HQ0:=aA q0;clear p0 q0;by_cases h0:D=0
 ·subst h0;have hn4:n2<=4:=by have:=(gS HD.out.symm).few.2.1;rw[HL2.out]at this;exact this
  go_wp2_with(at_make;refine cK _ rfl _ _ 35 rfl W2.heap.size 110 i0 (.slice none 0 0) 1 Tryz.underlying35 hi hz0 hz1 _ _ _ _ n2 rfl rfl rfl rfl (by rw[hz2];omega) (by unfold maxLen;omega) s1 ?_;intro w3 hown3 hgrow3;have q3:=(hgrow3.block (w.heap.size+1) (by have:=HS2.out;omega) (by simp)).trans HQ0.out;clear y0 y1 y2 y3 y4 y5 y6 y7 f0 f1 f2 f3 f4 f5 f6 f7;obtain⟨y0,y1,y2,y3,y4,y5,y6,y7⟩:=gD q3;have f0:=pA q3 0;have f1:=pA q3 1;have f2:=pA q3 2;have f3:=pA q3 3;have f4:=pA q3 4;have f5:=pA q3 5;have f6:=pA q3 6;have f7:=pA q3 7;have HQ3:=aA q3;clear q3);generalize hW4:World.setCell (World.setCell (World.setCell (World.setCell (World.setCell (World.setCell (World.setCell (World.setCell w3 _ _) _ _) _ _) _ _) _ _) _ _) _ _) _ _=W4;obtain⟨b4,t4⟩:=eD HQ3.out hW4;obtain⟨z0,z1,z2,z3,z4,z5,z6,z7⟩:=gD b4;have l3:Below W2.heap.size W2 w3:=k1.grown hgrow3 s1 (λk e=>by cases e);have hlt3:w1.heap.size<w3.heap.size:=(hown3.lt _ rfl).2;have l4:Below w.heap.size w W4:=(hBw.trans (l3.mono s0)).trans (t4.below (by have:=l3.size;omega) (by omega));exact dB (v:=.tuple #[.agg #[.slice (some ⟨w1.heap.size,0,none⟩) n2 n2,.slice none 0 0,.slice none 0 0,.int .i64 0,.int .i64 0,.int .i64 0,.int .i64 0,.int .i64 0],.int .i64 0]) (by simp[results,Tryz.results10,go_sem,z0,z1,z2,z3,z4,z5,z6,z7]) rfl ⟨⟨w1.heap.size,rfl,((RZ (by rw[<-JF];exact hown3)).bF HQ3.out (by decide) t4).lower s0⟩,l4⟩
 ·have h0':(D !=0)=true:=kD.2 h0;have H0:=aA h0;clear h0;go_wp2_with fail;generalize hW4:World.setCell (World.setCell (World.setCell (World.setCell (World.setCell (World.setCell (World.setCell (World.setCell w1 _ _) _ _) _ _) _ _) _ _) _ _) _ _) _ _=W4;obtain⟨b4,t4⟩:=eD HQ0.out hW4;obtain⟨z0,z1,z2,z3,z4,z5,z6,z7⟩:=gD b4;have l4:Below w.heap.size w W4:=(hBw.trans (k1.mono s0)).trans (t4.below (by omega) (by omega));exact dB (v:=.tuple #[.agg #[.slice none 0 0,.slice none 0 0,.slice none 0 0,.int .i64 0,.int .i64 0,.int .i64 0,.int .i64 0,.int .i64 0],.int .i64 D]) (by simp[results,Tryz.results10,go_sem,z0,z1,z2,z3,z4,z5,z6,z7]) rfl ⟨λh=>absurd h H0.out,λ_=>rfl,l4⟩
theorem WW(p:lD)(a1 a2 a3:Option Addr)(n1 c1 n2 c2 n3 c3:Nat)(w:World)(hp:sG w a1 a2 a3 n1 n2 n3 p)(hn4:n2<=4):
 Calls Tryz.prog 14 #[.agg #[.slice a1 n1 c1,.slice a2 n2 c2,.slice a3 n3 c3]] w λe w'=>∃g,e=.returned (.agg #[.slice (some ⟨g,0,none⟩) n2 n2,.slice none 0 0,.slice none 0 0,.int .i64 0,.int .i64 0,.int .i64 0,.int .i64 0,.int .i64 0])/\fI w' w.heap.size (some ⟨g,0,none⟩) none none n2 n2 0 0 0 0 (iN n2)/\Below w.heap.size w w':=by
 obtain⟨i0,hi,hz0,hz1,hz2⟩:=qF Tryz.infoLine;obtain⟨W2,hW2,hBw,hs2,hbx⟩:=mV w #[.slice a1 n1 c1,.slice a2 n2 c2,.slice a3 n3 c3] #[.slice none 0 0,.slice none 0 0,.slice none 0 0,.int .i64 0,.int .i64 0,.int .i64 0,.int .i64 0,.int .i64 0];have HW2:=aA hW2;have s0:=hBw.size;obtain⟨p0,q0⟩:=hbx W2 (dA _ _);obtain⟨x0,x1,x2⟩:=xH p0;obtain⟨y0,y1,y2,y3,y4,y5,y6,y7⟩:=gD q0;have f0:=pA q0 0;have f1:=pA q0 1;have f2:=pA q0 2;have f3:=pA q0 3;have f4:=pA q0 4;have f5:=pA q0 5;have f6:=pA q0 6;have f7:=pA q0 7;have HQ0:=aA q0;have HS2:Hid (W2.heap.size=w.heap.size+2):=hs2;clear hW2 hbx hs2 hp p0 q0;go_enter Tryz.func14,Tryz.ntmps14;go_wp2_with(at_make;rw[<-HW2.out];refine cK _ rfl _ _ 35 rfl W2.heap.size 110 i0 (.slice none 0 0) 1 Tryz.underlying35 hi hz0 hz1 _ _ _ _ n2 rfl rfl rfl rfl (by rw[hz2];omega) (by unfold maxLen;omega) (eA _) ?_;intro w3 hown3 hgrow3;have q3:=(hgrow3.block (w.heap.size+1) (by have:=HS2.out;omega) (by simp)).trans HQ0.out;clear y0 y1 y2 y3 y4 y5 y6 y7 f0 f1 f2 f3 f4 f5 f6 f7;obtain⟨y0,y1,y2,y3,y4,y5,y6,y7⟩:=gD q3;have f0:=pA q3 0;have f1:=pA q3 1;have f2:=pA q3 2;have f3:=pA q3 3;have f4:=pA q3 4;have f5:=pA q3 5;have f6:=pA q3 6;have f7:=pA q3 7;have HQ3:=aA q3;clear q3);generalize hW4:World.setCell (World.setCell (World.setCell (World.setCell (World.setCell (World.setCell (World.setCell (World.setCell w3 _ _) _ _) _ _) _ _) _ _) _ _) _ _) _ _=W4;obtain⟨b4,t4⟩:=eD HQ3.out hW4;obtain⟨z0,z1,z2,z3,z4,z5,z6,z7⟩:=gD b4;have l3:Below W2.heap.size W2 w3:=(dA _ _).grown hgrow3 (eA _) (λk e=>by cases e);have hlt3:W2.heap.size<w3.heap.size:=(hown3.lt _ rfl).2;have l4:Below w.heap.size w W4:=(hBw.trans (l3.mono s0)).trans (t4.below (by have:=l3.size;omega) (by omega));exact dB (v:=.agg #[.slice (some ⟨W2.heap.size,0,none⟩) n2 n2,.slice none 0 0,.slice none 0 0,.int .i64 0,.int .i64 0,.int .i64 0,.int .i64 0,.int .i64 0]) (by simp[results,Tryz.results14,go_sem,z0,z1,z2,z3,z4,z5,z6,z7]) rfl ⟨W2.heap.size,rfl,((RZ (by rw[<-JF];exact hown3)).bF HQ3.out (by decide) t4).lower s0,l4⟩
theorem OH{p:lD}(h:iF p=0):zG p (iN p.jB.length)=0:=by
 have hr:=gS h;refine mH.ok ⟨h,zA _,by simp[iN],λl hl=>?_,λt ht=>(nomatch ht),rfl,⟨zI _,by show(0:Int)<=_;omega⟩,⟨zI _,by show(0:Int)<=_;omega⟩,zI _,zI _,?_,?_,λq hq=>?_,λk hk=>absurd hk (jI _),?_,rfl⟩
 ·have:l=[]:=by simp[iN]at hl;exact hl.2
  rw[this];rfl
 ·have e:kI (iN p.jB.length)=[]:=by unfold kI iN;simp
  rw[e];exact dS
 ·have e:kI (iN p.jB.length)=[]:=by unfold kI iN;simp
  rw[e];intro z hz;cases hz
 ·have hq':q<p.jB.length:=by simpa[iN]using hq
  have e:oF (iN p.jB.length) q=[]:=by unfold oF iN;simp[List.getD_eq_getElem?_getD,hq']
  rw[e,iZ hq'];have:=(hr.jB _ (qB hq')).1;simp;omega
 ·have e:kI (iN p.jB.length)=[]:=by unfold kI iN;simp
  rw[e];simp[iN]
def pZ(l:List UInt8):Prop:=l≠[]->l.getLast?=some 10
theorem N5{l:List UInt8}(h:pZ l)(hn:l≠[]):mG l 10<l.length:=by
 have h1:=h hn;have hm:(10:UInt8)∈l:=List.mem_of_getLast? h1;unfold mG;exact List.findIdx_lt_length_of_exists ⟨10,hm,by simp⟩
theorem D_{l:List UInt8}(h:pZ l)(k:Nat):pZ (l.drop k):=by
 intro hn;have hl:l≠[]:=λe=>hn (by rw[e];simp);have hk:k<l.length:=by
  apply yF;intro hk;exact hn (List.drop_of_length_le (by omega))
 rw[List.getLast?_drop,kA (by omega)];exact h hl
def MP:Value->Nat
 |.string b=>b.size
 |_=>0
def qN(p:lD)(t:ByteArray):Int:=if iF p≠0 then iF p else if 4096<t.size\/60<Lib.countByte t.data.toList 10 then 2 else if t.data.toList≠[]/\t.data.toList.getLast?≠some 10 then 1 else 0
def bQ(p:lD)(t:ByteArray):ByteArray:=if qN p t=0 then⟨(pR p (iN p.jB.length) [] t.data.toList).toArray⟩else⟨#[]⟩
theorem SY{p:lD}{s:yC}(l:ByteArray)(hR:zG p s=0):(xW p s l).size<=3000:=by
 unfold xW;by_cases h:zN p s (sJ l)=0;·rw[qA h];exact P6 hR h
 ·rw[kA h];unfold tV;rw[sz];have:=DJ p s (sJ l);unfold bM at this;have:=wZ (zN p s (sJ l)).toNat (by omega);simp;omega
theorem V5(s:ByteArray)(i:Nat):s.extract 0 i=⟨(s.data.toList.take i).toArray⟩:=by
 apply uH;apply Array.toList_inj.1;simp[ByteArray.data_extract]
theorem UC(s:ByteArray)(i:Nat):(s.extract i s.size).data.toList=s.data.toList.drop i:=by
 simp[ByteArray.data_extract];rw[iB];simp
theorem FY{t:ByteArray}(h:0<t.size):t.data.toList.getLast?=some (t[t.size-1]'(by omega)):=by
 rw[List.getLast?_eq_getElem?];have h1:t.size-1<t.data.size:=by have:t.data.size=t.size:=rfl;omega
 simp;rw[Array.getElem?_eq_getElem h1];rfl
theorem gX{t:ByteArray}:t.data.toList=[]↔t.size=0:=by
 rw[<-kC,Array.length_toList];rfl
theorem TY(p:lD)(a1 a2 a3:Option Addr)(n1 c1 n2 c2 n3 c3:Nat)(t:ByteArray)(w:World)(hp:sG w a1 a2 a3 n1 n2 n3 p)(hpow:rJ w):
 Calls Tryz.prog 4 #[.agg #[.slice a1 n1 c1,.slice a2 n2 c2,.slice a3 n3 c3],.string t] w λe w'=>e=.returned (.tuple #[.string (bQ p t),.int .i64 (qN p t)])/\Below w.heap.size w w':=by
 obtain⟨W1,hW1⟩:∃W1,W1=w.alloc (.cells #[.slice a1 n1 c1,.slice a2 n2 c2,.slice a3 n3 c3] 26):=⟨_,rfl⟩;have l1:Below w.heap.size w W1:=by rw[hW1];exact(dA _ _).alloc (eA _) _
 have x1:W1.heap[w.heap.size]?=some (.cells #[.slice a1 n1 c1,.slice a2 n2 c2,.slice a3 n3 c3] 26 (0,0)):=by rw[hW1];exact jA _ _
 obtain⟨p0,p1,p2⟩:=xH x1;have HW1:=aA hW1;have L1:=aA l1;have X1:=aA x1;have hp1:=hp.sA l1;have CK:=aA (cX p a1 a2 a3 n1 c1 n2 c2 n3 c3 W1 hp1.l1 hp1.l2 hp1.l3 hp1.sz hp1.p1 hp1.p2 hp1.p3);have HP:=aA hp;have HPW:=aA hpow;obtain⟨D,hD⟩:∃D,D=iF p:=⟨_,rfl⟩;rw[<-hD]at CK;have HD:=aA hD;clear hW1 l1 x1 hp1 hpow hp hD;by_cases hc:D=0;rotate_left
 ·have e0:Hid (qN p t=D/\bQ p t=⟨#[]⟩):=by
   have e:qN p t=D:=by unfold qN;rw[<-HD.out,qA hc]
   exact⟨e,by unfold bQ;rw[e,kA hc]⟩
  rw[e0.out.1,e0.out.2];have h0':(D !=0)=true:=kD.2 hc;have HC:=aA hc;clear hc;go_enter Tryz.func4,Tryz.ntmps4;go_wp2_with fail;rw[<-HW1.out];refine CK.out.mono ?_;rintro e w2⟨rfl,k2⟩;go_wp2_with fail;go_ret2;exact⟨rfl,L1.out.trans (k2.mono L1.out.size)⟩
 subst hc;have hcp:iF p=0:=HD.out.symm;have hfew:=(gS hcp).few;have HM:Hid (n1<=100/\n2<=100):=by have h1:=HP.out.l1;have h2:=HP.out.l2;exact⟨by omega,by omega⟩
 obtain⟨N,hN⟩:∃N:Nat,N=Lib.countByte t.data.toList 10:=⟨_,rfl⟩;have CN:=aA (λW=>p_ t W);rw[<-hN]at CN;by_cases hbig:4096<t.size
 ·have e:Hid (qN p t=2/\bQ p t=⟨#[]⟩):=by
   have e:qN p t=2:=by unfold qN;rw[kA (by rw[hcp];decide),qA (.inl hbig)]
   exact⟨e,by unfold bQ;rw[e];rfl⟩
  rw[e.out.1,e.out.2];have hb':(4096:Int)<(t.size:Int):=by omega
  clear hcp hfew hN;go_enter Tryz.func4,Tryz.ntmps4;go_wp2_with fail;rw[<-HW1.out];refine CK.out.mono ?_;rintro e w2⟨rfl,k2⟩;go_wp2_with fail;go_ret2;exact⟨rfl,L1.out.trans (k2.mono L1.out.size)⟩
 have hb':¬(4096:Int)<(t.size:Int):=by omega
 by_cases hmany:60<N
 ·have e:Hid (qN p t=2/\bQ p t=⟨#[]⟩):=by
   have e:qN p t=2:=by unfold qN;rw[kA (by rw[hcp];decide),qA (.inr (by rw[<-hN];exact hmany))]
   exact⟨e,by unfold bQ;rw[e];rfl⟩
  rw[e.out.1,e.out.2];have hm':(60:Int)<(N:Int):=by omega
  clear hcp hfew hN;go_enter Tryz.func4,Tryz.ntmps4;go_wp2_with fail;rw[<-HW1.out];refine CK.out.mono ?_;rintro e w2⟨rfl,k2⟩;go_wp2_with fail;refine(CN.out _).mono ?_;rintro e w3⟨rfl,hw3⟩;rw[hw3];clear hw3;go_wp2_with fail;go_ret2;exact⟨rfl,L1.out.trans (k2.mono L1.out.size)⟩
 have hm':¬(60:Int)<(N:Int):=by omega
 have hno:¬(4096<t.size\/60<Lib.countByte t.data.toList 10):=by rw[<-hN];omega
 by_cases hend:t.data.toList≠[]/\t.data.toList.getLast?≠some 10
 ·have e:Hid (qN p t=1/\bQ p t=⟨#[]⟩):=by
   have e:qN p t=1:=by unfold qN;rw[kA (by rw[hcp];decide),kA hno,qA hend]
   exact⟨e,by unfold bQ;rw[e];rfl⟩
  rw[e.out.1,e.out.2];have hs0:0<t.size:=by have:=mt gX.2 hend.1;omega
  have HS:=aA (λW=>NO t W hs0 (by omega));have hlast:decide (t[t.size-1]'(by omega)=10)=false:=vD (λh=>hend.2 (by rw[FY hs0,h]));rw[hlast]at HS;have e3:(t.toList==([]:List UInt8))=false:=by rw[zC];simpa using hend.1
  clear hcp hfew hN hlast hend hno hbig hmany;go_enter Tryz.func4,Tryz.ntmps4;go_wp2_with fail;rw[<-HW1.out];refine CK.out.mono ?_;rintro e w2⟨rfl,k2⟩;go_wp2_with fail;refine(CN.out _).mono ?_;rintro e w3⟨rfl,hw3⟩;rw[hw3];clear hw3;go_wp2_with fail;refine(HS.out _).mono ?_;rintro e w4⟨rfl,hw4⟩;rw[hw4];clear hw4;go_wp2_with fail;go_ret2;exact⟨rfl,L1.out.trans (k2.mono L1.out.size)⟩
 have hE:qN p t=0:=by unfold qN;rw[kA (by rw[hcp];decide),kA hno,kA hend]
 have HE:=aA hE;have HEN:Hid (pZ t.data.toList):=λh=>yF (λh'=>hend ⟨h,h'⟩);have BG:Hid (∀W,Below w.heap.size w W->Calls Tryz.prog 10 #[.agg #[.slice a1 n1 c1,.slice a2 n2 c2,.slice a3 n3 c3]] W λe w'=>∃g,e=.returned (.tuple #[.agg #[.slice (some ⟨g,0,none⟩) n2 n2,.slice none 0 0,.slice none 0 0,.int .i64 0,.int .i64 0,.int .i64 0,.int .i64 0,.int .i64 0],.int .i64 0])/\fI w' w.heap.size (some ⟨g,0,none⟩) none none n2 n2 0 0 0 0 (iN n2)/\Below W.heap.size W w'):=λW hW=>by
  refine(l_ p a1 a2 a3 n1 c1 n2 c2 n3 c3 W (HP.out.sA hW)).mono ?_;rintro e w'⟨h1,-,h3⟩;obtain⟨g,h4,h5⟩:=h1 hcp;exact⟨g,h4,h5.lower hW.size,h3⟩
 have HR0:Hid (zG p (iN n2)=0):=by have:=OH hcp;rw[HP.out.l2]at this;exact this
 have HTOT:Hid (bQ p t=⟨(pR p (iN n2) [] t.data.toList).toArray⟩):=by show _=_;unfold bQ;rw[qA hE,HP.out.l2]
 rw[HE.out];have HSZ:Hid (t.size<=4096):=by show _<=_;omega
 have hcase:t.size=0\/0<t.size/\decide (t.data.toList.getLast?=some 10)=true:=by
  rcases cJ t.size with h|h;·exact .inl h
  ·exact .inr ⟨h,eC (HEN.out (mt gX.1 (by omega)))⟩
 clear hcp hfew hN hE hno hmany hend;have PRE:∀(e3:Bool),(t.toList==([]:List UInt8))=e3->(e3=false->∀W,Calls Tryz.prog 9 #[.string t,.string ⟨#[10]⟩] W λe w'=>e=.returned (.bool true)/\w'=W)->Calls Tryz.prog 4 #[.agg #[.slice a1 n1 c1,.slice a2 n2 c2,.slice a3 n3 c3],.string t] w λe w'=>e=.returned (.tuple #[.string (bQ p t),.int .i64 0])/\Below w.heap.size w w':=by
  intro e3 he3 HS;have HSU:=aA HS;clear HS;go_enter Tryz.func4,Tryz.ntmps4;go_wp2_with fail;rw[<-HW1.out];refine CK.out.mono ?_;rintro e w2⟨rfl,k2⟩;go_wp2_with fail;refine(CN.out _).mono ?_;rintro e w3⟨rfl,hw3⟩;rw[hw3];clear hw3 w3;clear p0 p1 p2;have K2:=aA (L1.out.trans (k2.mono L1.out.size));have X2:=aA (pB X1.out k2);obtain⟨p0,p1,p2⟩:=xH X2.out;clear k2;go_upto_region 6 with fail;go_cut[33](λs33 wx=>s33=.bool false/\wx=w2);case first=>
   cases e3 with
   |true=>
     go_wp2_with fail;go_meet;case rel=>exact⟨rfl,rfl⟩
   |false=>
     go_wp2_with fail;refine(HSU.out (by first|rfl|trivial) _).mono ?_;rintro e w4⟨rfl,hw4⟩;rw[hw4];clear hw4 w4;go_wp2_with fail;go_meet;case rel=>exact⟨rfl,rfl⟩
  case rest=>
   obtain⟨rfl,rfl⟩:=hcut;clear he3 HSU;go_wp2_with fail;refine(BG.out _ K2.out).mono ?_;rintro e w5⟨g,rfl,ho5,k5⟩;have K5:=aA (K2.out.trans (k5.mono K2.out.size));have x5:=pB X2.out k5;have lw5:=bE x5;clear p0 p1 p2;obtain⟨p0,p1,p2⟩:=xH x5;obtain⟨hz6,hg6,hB6⟩:=tR [.cells #[.slice (some ⟨g,0,none⟩) n2 n2,.slice none 0 0,.slice none 0 0,.int .i64 0,.int .i64 0,.int .i64 0,.int .i64 0,.int .i64 0] 39,.cells #[.slice a1 n1 c1,.slice a2 n2 c2,.slice a3 n3 c3,.slice (some ⟨g,0,none⟩) n2 n2,.slice none 0 0,.slice none 0 0,.int .i64 0,.int .i64 0,.int .i64 0,.int .i64 0,.int .i64 0] 43] w5;obtain⟨W6,hW6⟩:∃W6,W6=List.foldl World.alloc w5 [.cells #[.slice (some ⟨g,0,none⟩) n2 n2,.slice none 0 0,.slice none 0 0,.int .i64 0,.int .i64 0,.int .i64 0,.int .i64 0,.int .i64 0] 39,.cells #[.slice a1 n1 c1,.slice a2 n2 c2,.slice a3 n3 c3,.slice (some ⟨g,0,none⟩) n2 n2,.slice none 0 0,.slice none 0 0,.int .i64 0,.int .i64 0,.int .i64 0,.int .i64 0,.int .i64 0] 43]:=⟨_,rfl⟩;rw[<-hW6]at hz6 hg6 hB6;have HW6:Hid (W6=(w5.alloc (.cells #[.slice (some ⟨g,0,none⟩) n2 n2,.slice none 0 0,.slice none 0 0,.int .i64 0,.int .i64 0,.int .i64 0,.int .i64 0,.int .i64 0] 39)).alloc (.cells #[.slice a1 n1 c1,.slice a2 n2 c2,.slice a3 n3 c3,.slice (some ⟨g,0,none⟩) n2 n2,.slice none 0 0,.slice none 0 0,.int .i64 0,.int .i64 0,.int .i64 0,.int .i64 0,.int .i64 0] 43)):=hW6;have CB:Hid (zO a1 a2 a3 n1 c1 n2 c2 n3 c3 W6 w.heap.size (w5.heap.size+1) (iN n2)):=⟨some ⟨g,0,none⟩,none,none,n2,n2,0,0,0,0,hg6 1 _ rfl,ho5.sA hB6⟩;have K6:=aA (K5.out.trans (hB6.mono K5.out.size));have HB6:=aA hB6;have hz5:=K5.out.size;clear hW6 hz6 hg6 hB6 ho5 k5 x5;go_wp2_with fail;rw[<-HW6.out];obtain⟨TOT,hTOT⟩:∃TOT,TOT=pR p (iN n2) [] t.data.toList:=⟨_,rfl⟩;rw[<-hTOT]at HTOT;have HT0:=aA hTOT;clear hTOT p0 p1 p2 hb' hm';go_loopw[1,10](λs1 s10 wr=>∃(tc out:ByteArray)(s:yC),s1=.string tc/\s10=.string out/\zG p s=0/\zO a1 a2 a3 n1 c1 n2 c2 n3 c3 wr w.heap.size (w5.heap.size+1) s/\qE W6.heap.size (w5.heap.size+1) W6 wr/\pZ tc.data.toList/\out.size+4000*tc.size<=16384000/\out.data.toList++pR p s [] tc.data.toList=TOT)(λs1 _ _=>MP s1);case atStart=>exact⟨t,⟨#[]⟩,iN n2,rfl,rfl,HR0.out,CB.out,qE.refl _ _ _,HEN.out,by have:=HSZ.out;show 0+4000*t.size<=_;omega,by rw[HT0.out];rfl⟩
   case round=>
    obtain⟨tc,out,s,rfl,rfl,hR,hcb,hfr,hen,hsz,htot⟩:=hrel;have HRr:=aA hR;have HCB:=aA hcb;have HFR:=aA hfr;have HEn:=aA hen;have HTt:=aA htot;have KW:Hid (Below w.heap.size w wr):=K6.out.trans (hfr.below (by have:=K6.out.size;omega) (by omega));clear hR hcb hfr hen htot;by_cases hn:tc.size=0
    ·have e3:(tc.toList==([]:List UInt8))=true:=by rw[zC,gX.2 hn];rfl
     have HOUT:Hid (out=bQ p t):=by
      show _=_;have h:=HTt.out;rw[gX.2 hn]at h;rw[HTOT.out,<-h];apply uH;simp[pR]
     go_wp2_with fail;go_ret2;exact⟨by rw[HOUT.out];rfl,KW.out⟩
    ·have e3:(tc.toList==([]:List UInt8))=false:=by
      rw[zC,xD];exact mt gX.1 hn
     have hne:=mt gX.1 hn;have hpos:=N5 HEn.out hne;have hlen:tc.data.toList.length=tc.size:=by rw[Array.length_toList];rfl
     rw[hlen]at hpos;obtain⟨i,hi⟩:∃i:Nat,i=mG tc.data.toList 10:=⟨_,rfl⟩;have CU:=aA (λW=>Y_ tc i W (by rw[HU,hlen,qA hpos,hi]) (by omega) (by unfold maxLen;omega));have HCUT:=aA (RX p s tc.data.toList [] (by rw[hlen];exact hpos));rw[<-hi,List.nil_append,<-V5,<-UC]at HCUT;have hlt:i<tc.size:=by omega
     obtain⟨ln,hln⟩:∃ln,ln=tc.extract 0 i:=⟨_,rfl⟩;obtain⟨rs,hrs⟩:∃rs,rs=tc.extract (i+1) tc.size:=⟨_,rfl⟩;have hlsz:ln.size<=1000000:=by rw[hln,ByteArray.size_extract];omega
     have hrsz:rs.size+1<=tc.size:=by rw[hrs,ByteArray.size_extract];omega
     have HEn2:Hid (pZ rs.data.toList):=by show pZ _;rw[hrs,UC];exact D_ HEn.out _
     rw[<-hln,<-hrs]at CU HCUT;have hsv:=SY ln HRr.out;obtain⟨Rv,hRv⟩:∃Rv,Rv=xW p s ln:=⟨_,rfl⟩;have SV:Hid (∀W,Below wr.heap.size wr W->Calls Tryz.prog 12 #[.pointer (some ⟨w5.heap.size+1,0,none⟩),.string ln] W λe w'=>e=.returned (.string Rv)/\qE W.heap.size (w5.heap.size+1) W w'/\zO a1 a2 a3 n1 c1 n2 c2 n3 c3 w' w.heap.size (w5.heap.size+1) (yR p s ln)):=λW hW=>by
      rw[hRv];exact A6 p a1 a2 a3 n1 c1 n2 c2 n3 c3 w HP.out HM.out.1 HM.out.2 HPW.out s HRr.out ln hlsz (w5.heap.size+1) W (KW.out.trans (hW.mono KW.out.size)) (by omega) (HCB.out.sA hW)
     rw[<-hRv]at hsv HCUT;have hb1:Rv.size+(⟨#[10]⟩:ByteArray).size<=9223372036854775807:=by show Rv.size+1<=_;omega
     have hb2:out.size+(Rv++(⟨#[10]⟩:ByteArray)).size<=9223372036854775807:=by rw[aD];show out.size+(Rv.size+1)<=_;omega
     have HNX:Hid ((out++(Rv++(⟨#[10]⟩:ByteArray))).data.toList++pR p (yR p s ln) [] rs.data.toList=TOT):=by
      show _=_;rw[<-HTt.out,HCUT.out];simp
     have HSZ2:Hid ((out++(Rv++(⟨#[10]⟩:ByteArray))).size+4000*rs.size<=16384000):=by
      show _<=_;rw[aD,aD];show out.size+(Rv.size+1)+_<=_;omega
     have HSV2:=aA (SW ln HRr.out);have hm1:MP (.string rs)<MP (.string tc):=by show rs.size<tc.size;omega
     have HM1:=aA hm1;clear hn hne hlen hpos hi hln hrs hRv hlsz hlt hm1;go_wp2_with fail;refine(CU.out _).mono ?_;rintro e w2⟨rfl,hw2⟩;have k2:Below wr.heap.size wr w2:=by rw[hw2];exact DW _ _
     clear hw2;go_wp2_with fail;refine(SV.out w2 k2).mono ?_;rintro e w3⟨rfl,hf3,hc3⟩;have RES:Hid (qE W6.heap.size (w5.heap.size+1) W6 w3):=HFR.out.trans ((qE.kB k2 HFR.out.size).trans ⟨hf3.os,hf3.tape,hf3.output,hf3.size,λk h1 h2=>hf3.block k (by have:=HFR.out.size;have:=k2.size;omega) h2⟩);have HC3:=aA hc3;clear hf3 hc3 k2;go_wp2_with fail;go_roundw;case rel=>exact⟨rs,out++(Rv++(⟨#[10]⟩:ByteArray)),yR p s ln,rfl,rfl,HSV2.out,HC3.out,RES.out,HEn2.out,HSZ2.out,HNX.out⟩
     case measure=>exact HM1.out
 rcases hcase with h|⟨h,hl⟩;·exact PRE true (by rw[zC,gX.2 h];rfl) (λh=>(nomatch h))
 ·refine PRE false (by rw[zC,xD];exact mt gX.1 (by omega)) (λ_ W=>?_);have:=NO t W h (by have:=HSZ.out;omega);have e:=qJ hl;rw[FY h]at e;rw[eC (yG e)]at this;exact this
end Go.Proofs.YtedmnjimkhamaaaGreatDoor
