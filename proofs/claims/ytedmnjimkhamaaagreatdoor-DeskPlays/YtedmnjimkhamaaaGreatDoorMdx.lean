import Derived.Test.YtedmnjimkhamaaaGreatDoorMcx
import Derived.Lib.Join
namespace Go.Proofs.YtedmnjimkhamaaaGreatDoor
set_option linter.unusedVariables false
set_option maxRecDepth 100000
set_option maxHeartbeats 2000000
open Go.RowKit Go.Shelf Go.Maps
attribute[local go_sem]qH
def zL(p:lD)(key:ByteArray)(n:Nat):Option (Nat×Nat):=if n<p.qC.length/\nI p n key=true/\(oH p n).xF=true then some ((oH p n).src.toNat,(oH p n).dst.toNat)else none
theorem kZ{p:lD}{key:ByteArray}:∀m q,zL p key m=some q->m<p.qC.length:=by
 intro m q h;unfold zL at h;split at h;·rename_i h1;exact h1.1
 ·cases h
def cI(p:lD)(t:List Nat)(L:pE)(n:Nat):pE:=if(oH p n).xF=true/\(oH p n).dst.toNat∉L.map Prod.fst then L++[((oH p n).dst.toNat,t++[n])]else L
theorem w_{p:lD}{key:ByteArray}(hr:nP p)(u:Nat)(t:List Nat)(L:pE):(yQ p key (u:Int)).foldl (cI p t) L=dO (zL p key) p.qC.length (u,t) L:=by
 unfold yQ mO dO;rw[List.foldl_filter];have:∀(l:List Nat)(L:pE),(∀n∈l,n<p.qC.length)->l.foldl (λx y=>if rT p key (u:Int) y=true then cI p t x y else x) L=l.foldl (uQ (zL p key) u t) L:=by
  intro l;induction l with
  |nil=>intro L _;rfl
  |cons n r ih=>
    intro L hl;rw[List.foldl_cons,List.foldl_cons];have hn:n<p.qC.length:=hl n (by simp);have e:(if rT p key (u:Int) n=true then cI p t L n else L)=uQ (zL p key) u t L n:=by
     have hs:0<=(oH p n).src:=by rw[jX hn];exact(hr.src _ (qB hn)).1
     have h3':(oH p n).src.toNat=u↔(oH p n).src=(u:Int):=by omega
     unfold uQ;by_cases h1:nI p n key=true/\(oH p n).xF=true
     ·have ea:zL p key n=some ((oH p n).src.toNat,(oH p n).dst.toNat):=by unfold zL;rw[qA ⟨hn,h1⟩]
      rw[ea];dsimp only;by_cases h3:(oH p n).src=(u:Int)
      ·rw[qA (by unfold rT;simp[h3,h1.1])];unfold cI;by_cases hm:(oH p n).dst.toNat∈L.map Prod.fst;·rw[kA (λh=>h.2 hm),kA (λh=>h.2 hm)]
       ·rw[qA ⟨h1.2,hm⟩,qA ⟨h3'.2 h3,hm⟩]
      ·rw[kA (by unfold rT;simp[h3]),kA (λh=>h3 (h3'.1 h.1))]
     ·have ea:zL p key n=none:=by unfold zL;rw[kA (λh=>h1 h.2)]
      rw[ea];dsimp only;by_cases hg:rT p key (u:Int) n=true
      ·rw[qA hg];have hf:nI p n key=true:=by unfold rT at hg;simp at hg;exact hg.2
       unfold cI;rw[kA (λh=>h1 ⟨hf,h.1⟩)]
      ·rw[kA hg]
    rw[e];exact ih _ (λm hm=>hl m (by simp[hm]))
 exact this _ L (λn hn=>by simpa using hn)
theorem Tryz.infoInt:(Tryz.prog.info? 3).map (λi=>(i.zero,i.size,i.bytes))=some (some (.int .i64 0),1,8):=by kernel_rfl
theorem yW(w:World):(zeroValue 3).run Tryz.prog w=.ok (.int .i64 0) w:=by kernel_rfl
theorem qv_{p:lD}{y:Nat}(h:(oH p y).xF=true):y<p.qC.length:=by
 by_cases hx:y<p.qC.length;·exact hx
 ·have:oH p y=⟨0,false,0,⟨#[]⟩⟩:=by unfold oH;simp[List.getD,tF (Nat.not_lt.1 hx)]
  rw[this]at h;cases h
theorem mY:Keyed Tryz.prog 3:=int_keyed Tryz.underlying3
theorem QE(g o j:Nat):(⟨g,o,none⟩:Addr).add j=⟨g,o+j,none⟩:=by unfold Addr.add;split<;>simp_all
def AD(Q:Exit->Act->World->Prop):Exit->Act->World->Prop
 |.panic _,_,_=>False
 |e,a,w=>Q e a w
theorem PD{Q:Exit->Act->World->Prop}:∀e a w,AD Q e a w->Q e a w:=λe a w h=>by cases e<;>first|exact h|exact h.elim
theorem C5{W:World}{base base':Nat}{e:TypeId}{size:Nat}{v:Value}{n:Nat}{xs:List Value}(h:W.ownsRow base e size v n xs)(hb:base'<=base):W.ownsRow base' e size v n xs:=by
 refine⟨h.1,?_⟩;rcases h.2 with h|⟨g,cap,cur,h1,h2,h3⟩;·exact .inl h
 ·exact .inr ⟨g,cap,cur,h1,vA hb h2,h3⟩
abbrev ints(L:pE):List Value:=L.map (λx=>.int .i64 (x.1:Nat))
structure jO(w:World)(pv:Array Value)(b4:Nat)(u:Value)(L:pE)(Ds:List Nat)(W:World):Prop where
 below:Below w.heap.size w W
 pbox:W.heap[w.heap.size]?=some (.cells pv 26 (0,0))
 lbox:Boxed W (w.heap.size+1+1) 77 u
 row:W.ownsRow (w.heap.size+1) 3 1 u L.length (ints L)
 map:W.ownsMap Tryz.prog 3 (plainElem Tryz.prog 3) (w.heap.size+1+1+1) L.length (yS L)
 mbox:Boxed W b4 198 (.map (some (w.heap.size+1+1+1)))
 b4:w.heap.size+1+1+1<b4
 marks:pM (w.heap.size+1) Ds W
theorem jO.mapAt{w:World}{pv:Array Value}{b4:Nat}{u:Value}{L:pE}{Ds:List Nat}{W:World}(h:jO w pv b4 u L Ds W):∃es cl,W.heap[w.heap.size+1+1+1]?=some (.map es cl):=by
 obtain⟨es,cl,h1,_⟩:=h.map;exact⟨es,cl,h1⟩
theorem jO.rowAt{w:World}{pv:Array Value}{b4:Nat}{u:Value}{L:pE}{Ds:List Nat}{W:World}(h:jO w pv b4 u L Ds W){g:Nat}(hg:u.ownBlock=some g):w.heap.size+1<=g/\(∃cur,W.heap[g]?=some (.cells cur 3 (0,0))):=by
 rcases h.row.2 with⟨rfl,_⟩|⟨g',cap,cur,rfl,h2,h3,_⟩;·simp[Value.ownBlock]at hg
 ·simp only[Value.ownBlock,oJ]at hg;subst hg;exact⟨h2,cur,h3⟩
theorem jO.row_ne{w:World}{pv:Array Value}{b4:Nat}{u:Value}{L:pE}{Ds:List Nat}{W:World}(h:jO w pv b4 u L Ds W){g:Nat}(hg:u.ownBlock=some g):g≠w.heap.size/\g≠w.heap.size+1+1/\g≠w.heap.size+1+1+1/\g≠b4/\g∉Ds:=by
 obtain⟨h1,cur,h2⟩:=h.rowAt hg;refine⟨by omega,λe=>?_,λe=>?_,λe=>?_,λe=>?_⟩;·have:=h.lbox;unfold Boxed at this;rw[<-e,h2]at this;simp at this
 ·obtain⟨es,cl,h3⟩:=h.mapAt;rw[<-e,h2]at h3;simp at h3
 ·have:=h.mbox;unfold Boxed at this;rw[<-e,h2]at this;simp at this
 ·have:=(h.marks.there g e).2;rw[h2]at this;simp at this
theorem jO.mark_ne{w:World}{pv:Array Value}{b4:Nat}{u:Value}{L:pE}{Ds:List Nat}{W:World}(h:jO w pv b4 u L Ds W){D:Nat}(hD:D∈Ds):D≠w.heap.size/\D≠w.heap.size+1+1/\D≠w.heap.size+1+1+1/\D≠b4:=by
 obtain⟨h1,h2⟩:=h.marks.there D hD;refine⟨by omega,λe=>?_,λe=>?_,λe=>?_⟩;·have:=h.lbox;unfold Boxed at this;rw[<-e,h2]at this;simp at this
 ·obtain⟨es,cl,h3⟩:=h.mapAt;rw[<-e,h2]at h3;simp at h3
 ·have:=h.mbox;unfold Boxed at this;rw[<-e,h2]at this;simp at this
theorem jO.bF{w:World}{pv:Array Value}{b4:Nat}{u:Value}{L:pE}{Ds:List Nat}{W W':World}{X:Nat->Prop}(h:jO w pv b4 u L Ds W)(t:aF X W W')(hx:∀k,X k->w.heap.size<=k)
 (h0:¬X w.heap.size)(h2:¬X (w.heap.size+1+1))(h3:¬X (w.heap.size+1+1+1))(h4:¬X b4)(hg:∀g,u.ownBlock=some g->¬X g)(hD:∀D∈Ds,¬X D):jO w pv b4 u L Ds W':=
 ⟨h.below.trans (t.below h.below.size hx),(t.block _ (iC.1 h.pbox).1 h0).trans h.pbox,t.boxed h.lbox h2,t.row h.row hg,t.map h.map h3,t.boxed h.mbox h4,h.b4,h.marks.bF t hD⟩
theorem jO.sA{w:World}{pv:Array Value}{b4:Nat}{u:Value}{L:pE}{Ds:List Nat}{W W':World}(h:jO w pv b4 u L Ds W)(hB:Below W.heap.size W W'):jO w pv b4 u L Ds W':=
 h.bF (X:=λ_=>False) (aF.kB _ hB) (λ_ e=>e.elim) id id id id (λ_ _=>id) (λ_ _=>id)
theorem jO.other{w:World}{pv:Array Value}{b4:Nat}{u:Value}{L:pE}{Ds:List Nat}{W W':World}{row:Option Nat}{S:Nat}(h:jO w pv b4 u L Ds W)(hg:W.grownBy W' row)(hr:∀r,row=some r->S<=r/\∃o:Obj,W.heap[r]?=some o/\o.isCells=false)
 (hS:b4<S)(hDs:∀D∈Ds,D<S):jO w pv b4 u L Ds W':=by
 have hb4:=h.b4;refine h.bF (X:=λk=>row=some k) (aF.of_grown hg (λr e=>e)) (λk e=>by have:=(hr k e).1;omega) (λe=>by have:=(hr _ e).1;omega) (λe=>by have:=(hr _ e).1;omega) (λe=>by have:=(hr _ e).1;omega) (λe=>by have:=(hr _ e).1;omega) (λg hg' e=>?_) (λD hD e=>by have:=(hr _ e).1;have:=hDs D hD;omega);obtain⟨_,cur,h2⟩:=h.rowAt hg';obtain⟨_,o,h3,h4⟩:=hr g e;rw[h2]at h3;cases h3;cases h4
theorem jO.push{w:World}{pv:Array Value}{b4:Nat}{u u':Value}{L:pE}{Ds:List Nat}{W Wa Wc:World}{x:Nat×List Nat}{tmp:Obj}(h:jO w pv b4 u L Ds W)
 (ha:W.grownBy Wa (some (w.heap.size+1+1+1)))(hm:Wa.ownsMap Tryz.prog 3 (plainElem Tryz.prog 3) (w.heap.size+1+1+1) (L.length+1) (yS (L++[x])))
 (hc:(Wa.alloc tmp).grownBy Wc u.ownBlock)(hr:Wc.ownsRow (w.heap.size+1) 3 1 u' (L.length+1) (ints L++[.int .i64 (x.1:Nat)]))(hl:u'.ownBlock=u.ownBlock\/u'.ownBlock=some (Wa.alloc tmp).heap.size):
 Boxed Wc (w.heap.size+1+1) 77 u/\jO w pv b4 u' (L++[x]) Ds (Wc.setCell ⟨w.heap.size+1+1,0,none⟩ u')/\aF (λk=>k=w.heap.size+1+1\/k=w.heap.size+1+1+1\/u.ownBlock=some k) W (Wc.setCell ⟨w.heap.size+1+1,0,none⟩ u'):=by
 have hb4:=h.b4;have t1:aF (λk=>k=w.heap.size+1+1+1) W Wa:=aF.of_grown ha (λr e=>by cases e;rfl);have t2:aF (λ_=>False) Wa (Wa.alloc tmp):=aF.of_grown (fK Wa tmp none) (λr e=>by cases e);have t3:aF (λk=>u.ownBlock=some k) (Wa.alloc tmp) Wc:=aF.of_grown hc (λr e=>e);have t4:aF (λk=>k=w.heap.size+1+1) Wc (Wc.setCell ⟨w.heap.size+1+1,0,none⟩ u'):=aF.of_grown (cQ Wc _ u') (λr e=>by cases e;rfl);have t12:aF (λk=>k=w.heap.size+1+1+1) W (Wa.alloc tmp):=t1.trans t2 (λ_ _ e=>e.elim);have t13:aF (λk=>k=w.heap.size+1+1+1\/u.ownBlock=some k) W Wc:=(t12.mono (λ_ _ e=>.inl e)).trans t3 (λ_ _ e=>.inr e);have t14:aF (λk=>k=w.heap.size+1+1\/k=w.heap.size+1+1+1\/u.ownBlock=some k) W (Wc.setCell ⟨w.heap.size+1+1,0,none⟩ u'):=(t13.mono (λ_ _ e=>.inr e)).trans t4 (λ_ _ e=>.inl e);have hlb:Boxed Wc (w.heap.size+1+1) 77 u:=t13.boxed h.lbox (λe=>by
  rcases e with e|e;·omega
  ·exact(h.row_ne e).2.1 rfl);have hsz:W.heap.size<=(Wa.alloc tmp).heap.size:=t12.size;have hlW:w.heap.size+1+1<W.heap.size:=h.lbox.lt;have hu':∀g,u'.ownBlock=some g->g≠w.heap.size+1+1:=λg hg e=>by
  rcases hl with h1|h1;·rw[h1]at hg;exact(h.row_ne hg).2.1 e
  ·rw[h1]at hg;simp only[oJ]at hg;omega
 refine⟨hlb,⟨h.below.trans (t14.below h.below.size (λk e=>?_)),?_,?_,?_,?_,?_,h.b4,?_⟩,t14⟩
 ·rcases e with rfl|rfl|e;·omega
  ·omega
  ·have:=(h.rowAt e).1;omega
 ·refine(t14.block _ (by omega) (λe=>?_)).trans h.pbox;rcases e with e|e|e;·omega
  ·omega
  ·exact(h.row_ne e).1 rfl
 ·exact hlb.set u'
 ·have:=t4.row hr (λg hg=>hu' g hg);simpa[ints]using this
 ·have h3:Wc.ownsMap Tryz.prog 3 (plainElem Tryz.prog 3) (w.heap.size+1+1+1) (L.length+1) (yS (L++[x])):=t3.map (t2.map hm id) (λe=>(h.row_ne e).2.2.1 rfl);have:=t4.map h3 (by omega);simpa using this
 ·refine t14.boxed h.mbox (λe=>?_);rcases e with e|e|e;·omega
  ·omega
  ·exact(h.row_ne e).2.2.2.1 rfl
 ·refine h.marks.bF t14 (λD hD e=>?_);rcases e with e|e|e;·exact(h.mark_ne hD).2.1 e
  ·exact(h.mark_ne hD).2.2.1 e
  ·exact(h.row_ne e).2.2.2.2 hD
theorem ER{p:lD}{key:ByteArray}(hr:nP p){v:Nat}(hv:v<p.nC.length){L:pE}{i:Nat}(h:aH (zL p key) p.qC.length v L i):(∀x∈L,x.1<p.nC.length)/\L.length<=p.nC.length/\i<=L.length:=by
 have hc:=h.nB kZ;have hm:∀x∈L,x.1<p.nC.length:=by
  intro x hx;rcases(hc.1.path x hx).inv with⟨_,e⟩|⟨s,u,n,_,_,e⟩;·omega
  ·unfold zL at e;split at e;·rename_i h1;simp at e;have hd:=hr.dst _ (qB h1.1);rw[<-jX h1.1,h1.2.2]at hd;simp only[if_true]at hd;omega
   ·cases e
 exact⟨hm,by have:=GA p.nC.length (L.map Prod.fst) hc.1.once (λy hy=>by obtain⟨x,hx,rfl⟩:=jD.1 hy;exact hm x hx);simpa using this,hc.2⟩
theorem yT(w W4 W5:World)(pv:Array Value)(v:Nat)(hW4:W4=(((w.alloc (.cells pv 26)).alloc (.cells #[.int .i64 (v:Nat)] 3)).alloc (.cells #[.slice (some ⟨w.heap.size+1,0,none⟩) 1 1] 77)).alloc (.map #[] 0))
 (hown:W5.ownsMap Tryz.prog 3 (plainElem Tryz.prog 3) (w.heap.size+1+1+1) 1 (yS [(v,[])]))(hg:W4.grownBy W5 (some (w.heap.size+1+1+1))):
 jO w pv W5.heap.size (.slice (some ⟨w.heap.size+1,0,none⟩) 1 1) [(v,[])] [] (W5.alloc (.cells #[.map (some (w.heap.size+1+1+1))] 198)):=by
 have hs:W4.heap.size=w.heap.size+1+1+1+1:=by rw[hW4];simp
 have q0:W4.heap[w.heap.size]?=some (.cells pv 26 (0,0)):=by
  rw[hW4,lE _ _ _ (by simp;omega),lE _ _ _ (by simp;omega),lE _ _ _ (by simp)];exact jA w _
 have q1:W4.heap[w.heap.size+1]?=some (.cells #[.int .i64 (v:Nat)] 3 (0,0)):=by
  rw[hW4,lE _ _ _ (by simp),lE _ _ _ (by simp)];have:=jA (w.alloc (.cells pv 26)) (.cells #[.int .i64 (v:Nat)] 3);rw[pC]at this;exact this
 have q2:W4.heap[w.heap.size+1+1]?=some (.cells #[.slice (some ⟨w.heap.size+1,0,none⟩) 1 1] 77 (0,0)):=by
  rw[hW4,lE _ _ _ (by simp)];have:=jA ((w.alloc (.cells pv 26)).alloc (.cells #[.int .i64 (v:Nat)] 3)) (.cells #[.slice (some ⟨w.heap.size+1,0,none⟩) 1 1] 77);rw[pC,pC]at this;exact this
 have hB4:Below w.heap.size w W4:=by
  rw[hW4];exact((((dA _ _).alloc (eA _) _).alloc (by simp) _).alloc (by simp;omega) _).alloc (by simp;omega) _
 have t5:aF (λk=>k=w.heap.size+1+1+1) W4 W5:=aF.of_grown hg (λr e=>by cases e;rfl);have t6:aF (λ_=>False) W5 (W5.alloc (.cells #[.map (some (w.heap.size+1+1+1))] 198)):=aF.of_grown (fK W5 _ none) (λr e=>by cases e);have t:aF (λk=>k=w.heap.size+1+1+1) W4 (W5.alloc (.cells #[.map (some (w.heap.size+1+1+1))] 198)):=t5.trans t6 (λ_ _ e=>e.elim);have s5:=t5.size;refine⟨hB4.trans (t.below (by omega) (λk e=>by omega)),(t.block _ (by omega) (by omega)).trans q0,(t.block _ (by omega) (by omega)).trans q2,?_,t6.map hown id,uS W5 _ _,by omega,⟨dS,λD hD=>by simp at hD⟩⟩;refine⟨rfl,.inr ⟨w.heap.size+1,1,#[.int .i64 (v:Nat)],rfl,eA _,(t.block _ (by omega) (by omega)).trans q1,eA _,by unfold maxLen;omega,rfl,rfl⟩⟩
theorem ML{n:Nat}(h:n<=9223372036854775807):(Lit.int .i64 (n:Int)).wf=true:=by simp[Lit.wf,IntKind.min,IntKind.max,IntKind.bits,IntKind.signed];omega
theorem GL{p:lD}(hr:nP p)(x:Nat)(h:(oH p x).xF=true):0<=(oH p x).dst/\(oH p x).dst<p.nC.length:=by
 by_cases hx:x<p.qC.length;·have hd:=hr.dst _ (qB hx);rw[<-jX hx,h]at hd;simpa using hd
 ·have:oH p x=⟨0,false,0,⟨#[]⟩⟩:=by unfold oH;simp[List.getD,tF (Nat.not_lt.1 hx)]
  rw[this]at h;cases h
theorem QK(p:lD)(t:List Nat):∀(pre:List Nat)(L:pE),(pre.foldl (cI p t) L).length<=L.length+pre.length
 |[],L=>by simp
 |x::r,L=>by
   have:=QK p t r (cI p t L x);have h2:(cI p t L x).length<=L.length+1:=by unfold cI;split<;>simp
   rw[List.foldl_cons];simp only[List.length_cons];omega
theorem PH{p:lD}{key:ByteArray}{v:Int}(h:p.qC.length<=10):(yQ p key v).length<=10:=by
 unfold yQ mO;have:=sL (rT p key v) (List.range p.qC.length);simp at this;omega
theorem f_{w:World}{pv:Array Value}{b4 B:Nat}{u:Value}{L:pE}{Ds:List Nat}{W W':World}(h:jO w pv b4 u L Ds W)(t:aF (λk=>k=w.heap.size+1+1\/k=w.heap.size+1+1+1\/u.ownBlock=some k) W W')
 (hB:b4<B)(hW:B+3<=W.heap.size)(hg:∀g,u.ownBlock=some g->g<B\/B+3<=g):xP w.heap.size B W W':=by
 have hb4:=h.b4;refine⟨t.below h.below.size (λk e=>?_),λj hj=>t.block _ (by omega) (λe=>?_)⟩
 ·rcases e with rfl|rfl|e;·omega
  ·omega
  ·have:=(h.rowAt e).1;omega
 ·rcases e with e|e|e;·omega
  ·omega
  ·have:=hg _ e;omega
theorem WP{w:World}{pv:Array Value}{b4 S:Nat}{u:Value}{L:pE}{Ds:List Nat}{W W':World}(h:jO w pv b4 u L Ds W)(t:aF (λk=>k=w.heap.size+1+1\/k=w.heap.size+1+1+1\/u.ownBlock=some k) W W')
 (hS:b4<S):KeepsFrom S W W':=by
 have hb4:=h.b4;refine⟨t.size,λk o hk ho hc=>(t.block k (iC.1 ho).1 (λe=>?_)).trans ho⟩;rcases e with e|e|e;·omega
 ·omega
 ·obtain⟨_,cur,h2⟩:=h.rowAt e;rw[h2]at ho;cases ho;cases hc
theorem M3(p:lD)(a1 a2 a3:Option Addr)(n1 c1 n2 c2 n3 c3:Nat)(v:Nat)(key:ByteArray)(w:World)(hc:iF p=0)(hk:kG key.data.toList=0)(hv:v<n1)(hp:sG w a1 a2 a3 n1 n2 n3 p):
 CallsIn Fence.wide 6 Tryz.prog 175 #[.agg #[.slice a1 n1 c1,.slice a2 n2 c2,.slice a3 n3 c3],.int .i64 (v:Nat),.string key] w λe w'=>∃u b L i,e=.returned (.tuple #[u,.map (some b)])/\aH (zL p key) p.qC.length v L i/\¬i<L.length/\w'.ownsRow w.heap.size 3 1 u L.length (ints L)/\w'.ownsMap Tryz.prog 3 (plainElem Tryz.prog 3) b L.length (yS L)/\w.heap.size<=b/\Below w.heap.size w w':=by
 have hr:=gS hc;have h4:n1<=4:=by have:=hr.few.1;rw[hp.l1]at this;exact this
 have HR:Hid (∀{L:pE}{i:Nat},aH (zL p key) p.qC.length v L i->(∀x∈L,x.1<n1)/\L.length<=n1/\i<=L.length):=λh=>by
  have:=ER hr (by rw[hp.l1];exact hv) h;rw[hp.l1]at this;exact this
 have HRP:Hid (nP p):=hr;have HP:Hid (sG w a1 a2 a3 n1 n2 n3 p):=hp;have HCK:Hid (iF p=0/\kG key.data.toList=0):=⟨hc,hk⟩;obtain⟨W4,hW4⟩:∃W4,W4=(((w.alloc (.cells #[.slice a1 n1 c1,.slice a2 n2 c2,.slice a3 n3 c3] 26)).alloc (.cells #[.int .i64 (v:Nat)] 3)).alloc (.cells #[.slice (some ⟨w.heap.size+1,0,none⟩) 1 1] 77)).alloc (.map #[] 0):=⟨_,rfl⟩;have hmade:W4.ownsMap Tryz.prog 3 (plainElem (H:=Unit) Tryz.prog 3) (w.heap.size+1+1+1) 0 (.map []):=by
  have:=vN (H:=Unit) ((((w.alloc (.cells #[.slice a1 n1 c1,.slice a2 n2 c2,.slice a3 n3 c3] 26)).alloc (.cells #[.int .i64 (v:Nat)] 3)).alloc (.cells #[.slice (some ⟨w.heap.size+1,0,none⟩) 1 1] 77))) Tryz.prog 3 (plainElem Tryz.prog 3);rw[hW4];simpa using this
 obtain⟨W5,hrun,hown5,hgrow5⟩:=hmade.update mY Tryz.underlying198 (by unfold maxLen;omega) (keyOf_int_mk Tryz.underlying3 (ML (n:=v) (by omega))) (uG (a:=-1) Tryz.underlying3 (by decide));have hst := yT w W4 W5 _ v hW4 (by have e:yS [(v,[])]=(DataW.map []).put (.int .i64 (v:Nat)) (.lit (.int .i64 (-1))):=rfl;rw[e];exact hown5) hgrow5;have HW4:Hid (W4=_):=hW4;have HRUN:=xI hrun;have hmm:=@run_makeMap Tryz.prog;clear hW4 hmade hrun hown5 hgrow5 hp hc hk hr;refine rI Tryz.func175 rfl trivial (Go.wpIn_mono ?_ PD) rfl;simp only[Tryz.ntmps175,dG,List.length_cons,List.length_nil,Nat.reduceAdd,Nat.reduceSub,nF,Array.replicate_zero,cG,sF,List.nil_append,List.cons_append];gi_wp2_with fail;rw[<-HW4.out,HRUN.out];clear hmm;gi_wp2_with fail;obtain⟨W6,hW6⟩:∃W6,W6=W5.alloc (.cells #[.map (some (w.heap.size+1+1+1))] 198):=⟨_,rfl⟩;rw[<-hW6]at hst⊢;clear hW6;refine wpIn_loop (λa W=>∃(i:Nat)(L:pE)(Ds:List Nat)(u u11 u12 u13 u14 u20 u21 u22 u23 u24 u25 u26 u27 u28 u29 u30 u31 u32 u33 u34 u35 u36 u37 u38 u39 u40 u41 u42 u43 u44 u45 u46 u47 u48 u49 u50 u51 u52 u53 u54 u55:Value),a={tmps:=#[.agg #[.slice a1 n1 c1,.slice a2 n2 c2,.slice a3 n3 c3],.int .i64 (v:Nat),.string key,.pointer (some ⟨w.heap.size,0,none⟩),undef,undef,.slice none 0 0,.map none,.pointer (some ⟨w.heap.size+1+1,0,none⟩),.pointer (some ⟨W5.heap.size,0,none⟩),(.int .i64 (i:Nat)),u11,u12,u13,u14,.int .i64 (v:Nat),.slice (some ⟨w.heap.size+1,0,none⟩) 1 1,.map (some (w.heap.size+1+1+1)),.int .i64 (v:Nat),.map (some (w.heap.size+1+1+1)),u20,u21,u22,u23,u24,u25,u26,u27,u28,u29,u30,u31,u32,u33,u34,u35,u36,u37,u38,u39,u40,u41,u42,u43,u44,u45,u46,u47,u48,u49,u50,u51,u52,u53,u54,u55,undef,undef],defers:=Ds.map MH}/\aH (zL p key) p.qC.length v L i/\jO w #[.slice a1 n1 c1,.slice a2 n2 c2,.slice a3 n3 c3] W5.heap.size u L Ds W) (λa _=>5-(intOf (a.tmps.getD 10 undef)).toNat) ⟨0,_,[],_,_,_,_,_,_,_,_,_,_,_,_,_,_,_,_,_,_,_,_,_,_,_,_,_,_,_,_,_,_,_,_,_,_,_,_,_,_,_,_,_,rfl,.start,hst⟩ ?_;rintro a W⟨i,L,Ds,u,u11,u12,u13,u14,u20,u21,u22,u23,u24,u25,u26,u27,u28,u29,u30,u31,u32,u33,u34,u35,u36,u37,u38,u39,u40,u41,u42,u43,u44,u45,u46,u47,u48,u49,u50,u51,u52,u53,u54,u55,rfl,hre,hs⟩;obtain⟨hL1,hL2,hL3⟩:=HR.out hre;have lc:=hs.lbox.cell;obtain⟨au,cu,rfl,hcu,hau⟩:∃au cu,u=.slice au L.length cu/\L.length<=cu/\(L.length=0\/∃g,au=some ⟨g,0,none⟩):=by
  rcases hs.row.2 with⟨rfl,h0⟩|⟨g,cap,cur,rfl,_,_,h1,_⟩;·exact⟨none,0,by rw[h0],by omega,.inl h0⟩
  ·exact⟨_,cap,rfl,h1,.inr ⟨g,rfl⟩⟩
 by_cases hlt:i<L.length
 ·obtain⟨g,rfl⟩:∃g,au=some ⟨g,0,none⟩:=by
   rcases hau with h|h;·omega
   ·exact h
  have e0:=xO hs.pbox 0;have e1:=xO hs.pbox 1;have e2:=xO hs.pbox 2;simp at e0 e1 e2;obtain⟨x,t,hxt⟩:∃x t,L[i]=(x,t):=⟨_,_,rfl⟩;have hxi:(ints L)[i]?=some (.int .i64 (x:Nat)):=by simp[ints,hlt,hxt]
  have e3:W.cell? ⟨g,i,none⟩=some (.int .i64 (x:Nat)):=by
   have:=hs.row.cells (g:=g) rfl i _ hxi;simpa[QE]using this
  have j1:(0:Int)<=(i:Int):=by omega
  have j2:(i:Int)<(L.length:Int):=by omega
  clear hxi hau;obtain⟨Wf0,hWf0,fb0,hBf0,hsf0⟩:=NM W a1 a2 a3 n1 c1 n2 c2 n3 c3 (x:Nat) key;have HWF0:Hid (Wf0=_):=hWf0;obtain⟨Wf,hWf⟩:∃Wf,Wf=Wf0.drew:=⟨_,rfl⟩;have HWF:Hid (Wf=Wf0.drew):=hWf;have fb:aZ Wf W.heap.size a1 a2 a3 n1 c1 n2 c2 n3 c3 (x:Nat) key:=by rw[hWf];exact⟨fb0.p,fb0.v,fb0.k⟩
  have hsW:Wf.heap.size=W.heap.size+3:=by rw[hWf];exact hsf0
  have hBW:Below W.heap.size W Wf:=by rw[hWf];exact hBf0.drew
  clear hWf0 hWf fb0 hBf0 hsf0;have hsF:jO w #[.slice a1 n1 c1,.slice a2 n2 c2,.slice a3 n3 c3] W5.heap.size (.slice (some ⟨g,0,none⟩) L.length cu) L Ds Wf:=hs.sA hBW;have hb4:=hs.b4;have hb4W:=hs.mbox.lt;have hgW:g<W.heap.size:=(hs.row.lt g rfl).2;have hDW:=hs.marks.lt;have HX:Hid (L[i]=(x,t)):=hxt;clear hxt;gi_wp2_with fail;gi_region_with(refine⟨trivial,?_⟩;gi_at_call 176;refine(PJ _ _ _ _ _ _ _).mono ?_;rintro e w'⟨rfl,rfl⟩);all_goals
   clear e0 e1 e2 e3 lc;gi_wp2_with fail;rw[<-HWF0.out,<-HWF.out];refine wpIn_rangeFunc_ownH rfl (by omega) (gf:=203) (lb:=#[.pointer (some ⟨W.heap.size,0,none⟩),.pointer (some ⟨W.heap.size+1,0,none⟩),.pointer (some ⟨W.heap.size+1+1,0,none⟩)]) rfl trivial (rK Tryz.func203 (by kernel_rfl) rfl)
    (QR 5 (by omega) W.heap.size p a1 a2 a3 n1 c1 n2 c2 n3 c3 (x:Nat) key w Wf HCK.out.1 HCK.out.2 HP.out hs.below.size (by omega) hsF.below fb) (λh k=>h.trans k) (λW' l o o' hl ho _ _=>US (by have:=hs.below.size;omega) (by omega) W' l o o' hl ho) (dA _ _) (λ_=>rfl)
    (λpre W'=>∃u',jO w #[.slice a1 n1 c1,.slice a2 n2 c2,.slice a3 n3 c3] W5.heap.size u' (pre.foldl (cI p t) L) Ds W'/\(∀g',u'.ownBlock=some g'->g'<W.heap.size\/W.heap.size+3<=g')/\Wf.heap.size<=W'.heap.size)
    (λ_ _ _=>False)
    (λpre W' W'' row hI hg hr=>by
     obtain⟨u',h1,h2,h3⟩:=hI;exact⟨u',h1.other hg hr (by omega) (λD hD=>by have:=hDW D hD;omega),h2,vA h3 hg.size⟩)
    (λ_ _ _ _ _ h _ _=>h)
    ⟨_,hsF,λg' e=>by simp only[Value.ownBlock,oJ]at e;left;omega,eA _⟩
    (λy a' W'=>∃Bx,W.heap.size+3<=Bx/\W'.heap[Bx]?=some (.cells #[.int .i64 (oH p y).src,.bool (oH p y).xF,.int .i64 (oH p y).dst,.string (oH p y).pat] 74 (0,0))/\a'={tmps:=#[.agg #[.slice a1 n1 c1,.slice a2 n2 c2,.slice a3 n3 c3],.int .i64 (v:Nat),.string key,.pointer (some ⟨w.heap.size,0,none⟩),undef,undef,.slice none 0 0,.map none,.pointer (some ⟨w.heap.size+1+1,0,none⟩),.pointer (some ⟨W5.heap.size,0,none⟩),.int .i64 (i:Nat),.int .i64 (y:Nat),.pointer (some ⟨Bx,0,none⟩),u13,u14,.int .i64 (v:Nat),.slice (some ⟨w.heap.size+1,0,none⟩) 1 1,.map (some (w.heap.size+1+1+1)),.int .i64 (v:Nat),.map (some (w.heap.size+1+1+1)),.int .i64 (i:Nat),.slice (some ⟨g,0,none⟩) L.length cu,.int .i64 (L.length:Nat),.bool true,u24,u25,.agg #[.slice a1 n1 c1,.slice a2 n2 c2,.slice a3 n3 c3],.slice (some ⟨g,0,none⟩) L.length cu,.int .i64 (i:Nat),.pointer (some ⟨g,i,none⟩),.int .i64 (x:Nat),.string key,.func (.func 203) #[] #[.pointer (some ⟨W.heap.size,0,none⟩),.pointer (some ⟨W.heap.size+1,0,none⟩),.pointer (some ⟨W.heap.size+1+1,0,none⟩)],.int .i64 (y:Nat),(oH p y).val,u35,u36,u37,u38,u39,u40,u41,u42,u43,u44,u45,u46,u47,u48,u49,u50,u51,u52,u53,u54,u55,undef,undef],defers:=[]})
    (λy a' _ W' W'' row hA hg hr=>by
     obtain⟨Bx,h1,h2,h3⟩:=hA;refine⟨Bx,h1,(hg.block Bx (iC.1 h2).1 (λe=>?_)).trans h2,h3⟩;obtain⟨_,o,h4,h5⟩:=hr Bx e.symm;rw[h2]at h4;cases h4;cases h5)
    ?assign ?body ?done ?stop;case stop=>rintro D c pre W' _ _ h _;exact h.elim
   case assign=>
    rintro l pre y W' K⟨u',h1,h2,h3⟩hK;dsimp only[qS.val];gi_wp2;have hBa:Below W'.heap.size W' (W'.alloc (.cells #[.int .i64 (oH p y).src,.bool (oH p y).xF,.int .i64 (oH p y).dst,.string (oH p y).pat] 74)):=(dA _ _).alloc (eA _) _;exact hK _ _ ((KeepsOthers.alloc _ _).from _) (xP.kB hBa h1.below.size (by omega)) ⟨u',h1.sA hBa,h2,vA h3 hBa.size⟩ ⟨W'.heap.size,by omega,jA W' _,rfl⟩
   case body=>
    rintro l pre y a' W' hl _⟨u',h1,h2,h3⟩⟨Bx,hBx,hcell,rfl⟩hlen;have hfold:(pre++[y]).foldl (cI p t) L=cI p t (pre.foldl (cI p t) L) y:=by rw[tO];rfl
    have hL':=QK p t pre L;have h10:=PH (p:=p) (key:=key) (v:=(x:Nat)) HRP.out.few.2.2;obtain⟨L',hLe⟩:∃L',L'=pre.foldl (cI p t) L:=⟨_,rfl⟩;rw[<-hLe]at h1 hL' hfold;have HFO:Hid ((pre++[y]).foldl (cI p t) L=cI p t L' y):=hfold;have hL'':L'.length<=20:=by omega
    have m0:=xO hcell 0;have m1:=xO hcell 1;have m2:=xO hcell 2;have m3:=xO hcell 3;simp at m0 m1 m2 m3;have lc':=h1.lbox.cell;have mc':=h1.mbox.cell;have HDO:=xI (GL HRP.out y);clear hfold hLe hL';cases htp:(oH p y).xF with
    |false=>
      have HC:Hid (cI p t L' y=L'):=by show cI p t L' y=L';unfold cI;rw[htp];simp
      rw[htp]at m1;gi_wp2;exact⟨KeepsFrom.refl _ _,xP.refl _ _ _,u',by rw[HFO.out,HC.out];exact h1,h2,h3⟩
    |true=>
      rw[htp]at m1;obtain⟨hd0,hd1⟩:=HDO.out htp;obtain⟨z,hz⟩:=oE hd0;have hz':Hid ((oH p y).dst=(z:Nat)):=hz;rw[hz]at m2 hd1;have hz4:z<=1000:=by have:=HRP.out.few.1;omega
      have hkey:keyOf Tryz.prog 3 (.int .i64 (z:Nat))=some (.int .i64 (z:Nat)):=keyOf_int_mk Tryz.underlying3 (ML (by omega));have hhas:=U5 L' z;have hy10:y<1000:=by have:=qv_ htp;have:=HRP.out.few.2.2;omega
      have HZ:Hid ((oH p y).dst.toNat=z):=by show(oH p y).dst.toNat=z;omega
      by_cases hin:z∈L'.map Prod.fst
      ·have hh:has (yS L') (.int .i64 (z:Nat))=true:=by rw[hhas];simpa using hin
       have HC:Hid (cI p t L' y=L'):=by show cI p t L' y=L';unfold cI;rw[kA (λh=>h.2 (by rw[HZ.out];exact hin))]
       clear hhas hin htp hz;gi_wp2_with(gi_at_lookup;refine wpListIn_lookup_own_ok_int _ rfl _ _ 198 rfl 3 3 .i64 mY Tryz.underlying198 Tryz.underlying3 (yW _) (w.heap.size+1+1+1) _ _ rfl h1.map _ _ rfl hkey ?_;intro c hat hwc;rw[hh]);exact⟨KeepsFrom.refl _ _,xP.refl _ _ _,u',by rw[HFO.out,HC.out];exact h1,h2,h3⟩
      ·have hh:has (yS L') (.int .i64 (z:Nat))=false:=by rw[hhas];simpa using hin
       have HC:Hid (cI p t L' y=L'++[(z,t++[y])]):=by show cI p t L' y=_;unfold cI;rw[qA ⟨htp,by rw[HZ.out];exact hin⟩,HZ.out]
       have HPUT:Hid ((yS L').put (.int .i64 (z:Nat)) (.lit (.int .i64 (y:Nat)))=yS (L'++[(z,t++[y])])):=by show _=_;rw[SE,ZR]
       obtain⟨i0,hi0,hz0,hz1,hz2⟩:=qF Tryz.infoInt;have hB4:=h1.b4;have hsz':=h1.mbox.lt;have hBxne:Bx≠w.heap.size+1+1+1:=by omega
       clear hhas hin htp hz;gi_wp2_with(first
        |(gi_at_lookup;refine wpListIn_lookup_own_ok_int _ rfl _ _ 198 rfl 3 3 .i64 mY Tryz.underlying198 Tryz.underlying3 (yW _) (w.heap.size+1+1+1) _ _ rfl h1.map _ _ rfl hkey ?_;intro c hat hwc;rw[hh])
        |(gi_at_mapUpdate;refine wpListIn_mapUpdate_own _ rfl _ _ _ 198 rfl 3 3 mY Tryz.underlying198 (plainElem Tryz.prog 3) (w.heap.size+1+1+1) L'.length (yS L') rfl h1.map (by unfold maxLen;omega) _ _ _ rfl rfl hkey _ [] (uG Tryz.underlying3 (ML (n:=y) (by omega))) ?_;intro wa hma hga;have t1:aF (λk=>k=w.heap.size+1+1+1) W' wa:=aF.of_grown hga (λr e=>by cases e;rfl);have lca:=(t1.boxed h1.lbox (by omega)).cell;have hca:=(t1.block Bx (iC.1 hcell).1 hBxne).trans hcell;have m2a:=xO hca 2;rw[hz'.out]at m2a;have hra:=t1.row h1.row (λg' e h=>(h1.row_ne e).2.2.1 h);have hsa:=t1.size)
        |(gi_at_builtin;refine wpListIn_append_own_at _ rfl _ _ 77 rfl (w.heap.size+1) 3 i0 (.int .i64 0) 1 8 Tryz.underlying77 hi0 hz0 hz1 hz2 rfl (by decide) _ _ _ rfl (hra.alloc _) ⟨wa.heap.size,0,none⟩ 1 1 [.int .i64 (z:Nat)] rfl rfl (tH _ _ _) (by simp[Value.oneCell']) (by unfold maxLen;omega) (by omega) (by simp;omega) ?_;intro v' wc hown' hgrow _ hat';obtain⟨gn,capn,rfl⟩:=ownsRow_succ hown';rw[HPUT.out]at hma;obtain⟨hbx',hst',hturn⟩:=h1.push hga hma hgrow (by simpa using hown') hat';have hc1:=hbx'.cell;have hf1:=hbx'.frozen));exact⟨WP h1 hturn (by omega),f_ h1 hturn (by omega) (by omega) h2,_,by rw[HFO.out,HC.out];exact hst',λg' e=>by
        rcases(show Value.ownBlock (.slice (some ⟨gn,0,none⟩) (L'.length+1) capn)=u'.ownBlock\/Value.ownBlock (.slice (some ⟨gn,0,none⟩) (L'.length+1) capn)=some (wa.alloc _).heap.size from hat')with e2|e2;·exact h2 g' (e2.symm.trans e)
        ·rw[e2]at e;simp only[oJ,pC]at e;omega,vA h3 hturn.size⟩
   case done=>
    rintro D ys W' hD hys⟨u',h1,h2,h3⟩hmark;rw[hys,w_ HRP.out]at h1;have hre':=aH.next hre hlt;rw[HX.out]at hre';have h1':jO w #[.slice a1 n1 c1,.slice a2 n2 c2,.slice a3 n3 c3] W5.heap.size u' (dO (zL p key) p.qC.length (x,t) L) (D::Ds) W':=⟨h1.below,h1.pbox,h1.lbox,h1.row,h1.map,h1.mbox,h1.b4,h1.marks.cons (λh=>by have:=hDW D h;omega) (by omega) hmark⟩;clear h1 hys;gi_wp2_with fail;exact⟨⟨i+1,_,D::Ds,u',_,_,_,_,_,_,_,_,_,_,_,_,_,_,_,_,_,_,_,_,_,_,_,_,_,_,_,_,_,_,_,_,_,_,_,_,_,_,_,_,rfl,hre',h1'⟩,by simp[intOf];omega⟩
 ·have mc:=hs.mbox.cell;gi_wp2_with fail;gi_quiet(fail);gi_wp2_with fail;refine DZ (n0:=w.heap.size+1) (Ds:=Ds) ⟨hs.marks.once,hs.marks.there⟩ (λW' hW'=>?_);have hs':jO w #[.slice a1 n1 c1,.slice a2 n2 c2,.slice a3 n3 c3] W5.heap.size (.slice au L.length cu) L [] W':=jO.bF (W:=W) (X:=λk=>k∈Ds) ⟨hs.below,hs.pbox,hs.lbox,hs.row,hs.map,hs.mbox,hs.b4,⟨dS,λD hD=>by simp at hD⟩⟩ ⟨hW'.os,hW'.tape,hW'.output,hW'.size,hW'.block⟩ (λk h=>by have:=(hs.marks.there k h).1;omega) (λh=>(hs.mark_ne h).1 rfl) (λh=>(hs.mark_ne h).2.1 rfl) (λh=>(hs.mark_ne h).2.2.1 rfl) (λh=>(hs.mark_ne h).2.2.2 rfl) (λg' e h=>(hs.row_ne e).2.2.2.2 h) (λD hD=>by simp at hD);exact⟨_,tQ rfl _ _ _,_,_,L,i,rfl,hre,hlt,C5 hs'.row (by omega),hs'.map,by omega,hs'.below⟩
end Go.Proofs.YtedmnjimkhamaaaGreatDoor
namespace Go.Proofs.YtedmnjimkhamaaaGreatDoor
set_option linter.unusedVariables false
set_option maxRecDepth 100000
set_option maxHeartbeats 4000000
open Go.RowKit
def xK(W:World)(g:Nat)(zs:List Int):Prop:=∃cur,W.heap[g]?=some (.cells cur 3 (0,0))/\∀i(h:i<zs.length),cur[i]?=some (.int .i64 zs[i])
theorem xK.lt{W:World}{g:Nat}{zs:List Int}(h:xK W g zs):g<W.heap.size:=by obtain⟨cur,h1,_⟩:=h;exact(iC.1 h1).1
theorem xK.cell{W:World}{g:Nat}{zs:List Int}(h:xK W g zs){i:Nat}(hi:i<zs.length):W.cell? ⟨g,i,none⟩=some (.int .i64 zs[i]):=by
 obtain⟨cur,h1,h2⟩:=h;rw[xO h1,h2 i hi]
theorem xK.free{W:World}{g:Nat}{zs:List Int}(h:xK W g zs)(i:Nat):W.frozen? ⟨g,i,none⟩=false:=by
 obtain⟨cur,h1,_⟩:=h;simp[World.frozen?,h1]
theorem xK.sA{W W':World}{g:Nat}{zs:List Int}(h:xK W g zs)(e:W'.heap[g]?=W.heap[g]?):xK W' g zs:=by
 obtain⟨cur,h1,h2⟩:=h;exact⟨cur,e.trans h1,h2⟩
theorem xK.set{W:World}{g:Nat}{zs:List Int}(h:xK W g zs){i:Nat}(hi:i<zs.length)(x:Int):xK (W.setCell ⟨g,i,none⟩ (.int .i64 x)) g (zs.set i x):=by
 obtain⟨cur,h1,h2⟩:=h;refine⟨_,heap_setCell_same W g i cur 3 _ h1,λj hj=>?_⟩;rw[kF]at hj;by_cases e:i=j;·subst e;have hc:=h2 i hi;have hlt:=(iC.1 hc).1;simp[hlt]
 ·rw[Array.getElem?_setIfInBounds_ne e,h2 j hj,yM e]
theorem CG(W:World)(g i:Nat)(v:Value):aF (λk=>k=g) W (W.setCell ⟨g,i,none⟩ v):=
 ⟨rfl,rfl,rfl,by simp[World.setCell],λk _ hk=>rN _ _ _ _ (λe=>hk (by first|exact e|exact e.symm))⟩
theorem G7(x:Int)(w:World):Calls Tryz.prog 232 #[.int .i64 x] w λe w'=>e=.returned (.bool false)/\w'=w:=by
 go_enter Tryz.func232,Tryz.ntmps232;go_wp2;go_ret;exact⟨rfl,rfl⟩
theorem KY(x y:Int)(w:World):Calls Tryz.prog 222 #[.int .i64 x,.int .i64 y] w λe w'=>e=.returned (.bool (decide (x<y)))/\w'=w:=by
 go_enter Tryz.func222,Tryz.ntmps222;go_wp2_with(go_at_call 232;refine(G7 _ _).mono ?_;rintro e w'⟨rfl,rfl⟩);go_ret;exact⟨rfl,rfl⟩
def jW(ys:List Int)(k:Nat):Prop:=∀a b(hab:a<b)(hb:b<ys.length),b<k->ys[a]'(Nat.lt_trans hab hb)<=ys[b]
structure mW(ys:List Int)(j k:Nat):Prop where
 rise:∀a b(hab:a<b)(hb:b<ys.length),b<=k->a≠j->b≠j->ys[a]'(Nat.lt_trans hab hb)<=ys[b]
 least:∀b(hjb:j<b)(hb:b<ys.length),b<=k->ys[j]'(Nat.lt_trans hjb hb)<=ys[b]
theorem mW.start{ys:List Int}{k:Nat}(h:jW ys k):mW ys k k:=⟨λa b hab hb hk ha hb'=>h a b hab hb (by omega),λb h1 hb h2=>by omega⟩
theorem mW.done{ys:List Int}{j k:Nat}(h:mW ys j k)(hj:∀(h0:0<j)(h1:j<ys.length),ys[j-1]'(by omega)<=ys[j]):jW ys (k+1):=by
 intro a b hab hb hk;by_cases ha:a=j;·subst ha;exact h.least b hab hb (by omega)
 ·by_cases hb':b=j
  ·subst hb';have h1:=hj (by omega) hb;by_cases e:a=b-1;·subst e;exact h1
   ·exact Int.le_trans (h.rise a (b-1) (by omega) (by omega) (by omega) ha (by omega)) h1
  ·exact h.rise a b hab hb (by omega) ha hb'
def pW(ys:List Int)(j:Nat)(h:j+1<ys.length):List Int:=(ys.set (j+1) ys[j]).set j ys[j+1]
theorem JO(ys:List Int)(j:Nat)(h:j+1<ys.length):(pW ys j h).length=ys.length:=by simp[pW]
theorem N_(ys:List Int)(j:Nat)(h:j+1<ys.length):(pW ys j h).Perm ys:=by
 have h1:=Array.swap_perm (xs:=ys.toArray) (i:=j+1) (j:=j) (by simpa using h) (by simp;omega);have h2:=h1.toList;rw[Array.toList_swap]at h2;simpa[pW]using h2
theorem FM(ys:List Int)(j:Nat)(h:j+1<ys.length)(a:Nat)(ha:a<ys.length):(pW ys j h)[a]'(by rw[JO];exact ha)=if a=j then ys[j+1]else if a=j+1 then ys[j]else ys[a]:=by
 unfold pW;by_cases e:j=a;·subst e;simp
 ·by_cases e2:j+1=a;·subst e2;simp
  ·have e':¬a=j:=λh=>e h.symm;have e2':¬a=j+1:=λh=>e2 h.symm;simp[e,e2,e',e2']
theorem mW.swap{ys:List Int}{j k:Nat}(h:mW ys (j+1) k)(hj:j+1<ys.length)(hk:j+1<=k)(hlt:ys[j+1]<ys[j]):mW (pW ys j hj) j k:=by
 constructor
 ·intro a b hab hb hbk ha hb';have hb2:b<ys.length:=by rw[JO]at hb;exact hb
  rw[FM ys j hj a (by omega),FM ys j hj b hb2,kA ha,kA hb'];by_cases e1:a=j+1;·rw[qA e1,kA (by omega)];exact h.rise j b (by omega) hb2 hbk (by omega) (by omega)
  ·rw[kA e1];by_cases e2:b=j+1;·rw[qA e2];exact h.rise a j (by omega) (by omega) (by omega) e1 (by omega)
   ·rw[kA e2];exact h.rise a b hab hb2 hbk e1 e2
 ·intro b hjb hb hbk;have hb2:b<ys.length:=by rw[JO]at hb;exact hb
  rw[FM ys j hj j (by omega),FM ys j hj b hb2,qA rfl,kA (by omega)];by_cases e2:b=j+1;·rw[qA e2];omega
  ·rw[kA e2];exact h.least b (by omega) hb2 hbk
theorem Y0(zs:List Int)(g n c:Nat)(w:World)(hn:zs.length=n)(h12:n<=12)(hrow:xK w g zs):
 Calls Tryz.prog 216 #[.slice (some ⟨g,0,none⟩) n c,.int .i64 0,.int .i64 n] w λe w'=>(∃v,e=.returned v)/\∃ys,ys.Perm zs/\jW ys n/\xK w' g ys/\aF (λk=>k=g) w w':=by
 have HN:Hid (zs.length=n):=hn;clear hn;go_enter Tryz.func216,Tryz.ntmps216;go_wp2;go_loopw[6,7](λi _ wr=>∃(k:Nat)(ys:List Int),1<=k/\(k<=n\/k=1)/\i=.int .i64 k/\ys.Perm zs/\jW ys k/\xK wr g ys/\aF (λk=>k=g) w wr)(λi _ _=>n-(intOf i).toNat);case atStart=>exact⟨1,zs,by omega,.inr rfl,rfl,List.Perm.refl _,λa b h1 hb h2=>by omega,hrow,aF.refl _ _⟩
 case round=>
  obtain⟨k,ys,hk1,hk2,rfl,hpm,hso,hrw,htn⟩:=hrel;have hyl:ys.length=n:=by rw[hpm.length_eq,HN.out]
  have HPS:Hid (ys.Perm zs/\jW ys k/\ys.length=n):=⟨hpm,hso,hyl⟩;clear hpm hso hyl;by_cases hlt:k<n
  ·go_wp2;go_loopw[7](λjv wr2=>∃(j:Nat)(ys:List Int),j<=k/\jv=.int .i64 j/\ys.Perm zs/\mW ys j k/\xK wr2 g ys/\aF (λk=>k=g) w wr2)(λjv _=>(intOf jv).toNat);case atStart=>exact⟨k,ys,eA _,rfl,HPS.out.1,mW.start HPS.out.2.1,hrw,htn⟩
   case round=>
    clear hrw htn HPS ys;obtain⟨j,ys,hjk,rfl,hpm,hbo,hrw,htn⟩:=hrel;have hyl:ys.length=n:=by rw[hpm.length_eq,HN.out]
    have HPS:Hid (ys.Perm zs/\mW ys j k/\ys.length=n):=⟨hpm,hbo,hyl⟩;rcases cJ j with hj0|hj0
    ·subst hj0;have HF:Hid (jW ys (k+1)):=hbo.done (λh _=>by omega);clear hpm hbo hyl;go_wp2;go_quiet((go_at_call 222;exact fT (KY _ _ _)));go_wp2;go_roundw;case rel=>exact⟨k+1,ys,by omega,.inl (by omega),by go_num,HPS.out.1,HF.out,hrw.sA rfl,⟨htn.os,htn.tape,htn.output,htn.size,htn.block⟩⟩
     case measure=>simp[intOf];omega
    ·obtain⟨j',rfl⟩:∃j',j=j'+1:=⟨j-1,by omega⟩;have hjl:j'+1<ys.length:=by omega
     have c1:=hrw.cell hjl;have c0:=hrw.cell (show j'<ys.length by omega);have f1:=hrw.free (j'+1);have f0:=hrw.free j';obtain⟨x1,hx1⟩:∃x,x=ys[j'+1]:=⟨_,rfl⟩;obtain⟨x0,hx0⟩:∃x,x=ys[j']:=⟨_,rfl⟩;rw[<-hx1]at c1;rw[<-hx0]at c0;have HX:Hid (x1=ys[j'+1]/\x0=ys[j']):=⟨hx1,hx0⟩;have j1:(j':Int)+1<n:=by omega
     have j0:(j':Int)<n:=by omega
     have jz:(0:Int)<(j':Int)+1:=by omega
     have jz2:(0:Int)<=(j':Int)+1:=by omega
     have jw:IntKind.i64.wrap ((j':Int)+1-1)=(j':Int):=by rw[uB];omega
     have jw2:IntKind.i64.wrap (j':Int)=(j':Int):=by rw[uB];omega
     by_cases hless:x1<x0
     ·have hd:decide (x1<x0)=true:=by simpa using hless
      have HB:Hid (mW (pW ys j' hjl) j' k):=hbo.swap hjl hjk (by rw[<-hx1,<-hx0];exact hless);clear hpm hbo hyl hx1 hx0 hless;go_wp2;go_quiet((go_at_call 222;exact fT (KY _ _ _)));go_wp2_with fail;go_region;go_wp2;have hrw2:xK (((wr.drewN (nq+1)).setCell ⟨g,j'+1,none⟩ (.int .i64 x0)).setCell ⟨g,j',none⟩ (.int .i64 x1)) g (pW ys j' hjl):=by
       have hr1:xK (wr.drewN (nq+1)) g ys:=hrw.sA rfl;have hr2:=hr1.set hjl x0;have hr3:=hr2.set (i:=j') (by rw[kF];omega) x1;unfold pW;rw[<-HX.out.1,<-HX.out.2];exact hr3
      have htn2:aF (λk=>k=g) w (((wr.drewN (nq+1)).setCell ⟨g,j'+1,none⟩ (.int .i64 x0)).setCell ⟨g,j',none⟩ (.int .i64 x1)):=by
       have t0:aF (λk=>k=g) w (wr.drewN (nq+1)):=⟨htn.os,htn.tape,htn.output,htn.size,htn.block⟩;exact(t0.trans (CG _ _ _ _) (λ_ _ e=>e)).trans (CG _ _ _ _) (λ_ _ e=>e)
      go_roundw;case rel=>exact⟨j',pW ys j' hjl,by omega,by go_num,(N_ ys j' hjl).trans HPS.out.1,HB.out,hrw2,htn2⟩
      case measure=>simp[intOf]
     ·have hd:decide (x1<x0)=false:=by simpa using hless
      have HF:Hid (jW ys (k+1)):=hbo.done (λ_ _=>by simp only[zH];rw[<-hx1,<-hx0];omega);clear hpm hbo hyl hx1 hx0 hless;go_wp2;go_quiet((go_at_call 222;exact fT (KY _ _ _)));go_wp2;go_roundw;case rel=>exact⟨k+1,ys,by omega,.inl (by omega),by go_num,HPS.out.1,HF.out,hrw.sA rfl,⟨htn.os,htn.tape,htn.output,htn.size,htn.block⟩⟩
      case measure=>simp[intOf];omega
  ·go_wp2;go_end0;exact⟨⟨_,rfl⟩,ys,HPS.out.1,λa b h1 hb h2=>HPS.out.2.1 a b h1 hb (by have:=HPS.out.2.2;omega),hrw,htn⟩
theorem I1(n:Nat)(w:World)(h12:n<=12):Calls Tryz.prog 194 #[.int .u64 n] w λe w'=>(∃k:Int,e=.returned (.int .i64 k))/\w'=w:=by
 have h:n=0\/n=1\/n=2\/n=3\/n=4\/n=5\/n=6\/n=7\/n=8\/n=9\/n=10\/n=11\/n=12:=by omega
 rcases h with rfl|rfl|rfl|rfl|rfl|rfl|rfl|rfl|rfl|rfl|rfl|rfl|rfl;all_goals
  go_enter Tryz.func194,Tryz.ntmps194;go_wp2;go_ret;exact⟨⟨_,rfl⟩,rfl⟩
theorem UT(n:Nat)(w:World)(h12:n<=12):Calls Tryz.prog 206 #[.int .u64 n] w λe w'=>(∃k:Int,e=.returned (.int .i64 k))/\w'=w:=by
 go_enter Tryz.func206,Tryz.ntmps206;go_wp2_with(go_at_call 194;refine(I1 _ _ h12).mono ?_;rintro e w'⟨⟨k,rfl⟩,rfl⟩);go_ret;exact⟨⟨_,rfl⟩,rfl⟩
theorem S8(zs:List Int)(g n c:Nat)(k:Int)(w:World)(hn:zs.length=n)(h12:n<=12)(hrow:xK w g zs):
 Calls Tryz.prog 205 #[.slice (some ⟨g,0,none⟩) n c,.int .i64 0,.int .i64 n,.int .i64 k] w λe w'=>(∃v,e=.returned v)/\∃ys,ys.Perm zs/\jW ys n/\xK w' g ys/\aF (λk=>k=g) w w':=by
 have HI:=xI (Y0 zs g n c w hn h12 hrow);have h12':(n:Int)<=12:=by omega
 have hw:IntKind.i64.wrap ((n:Int)-0)=(n:Int):=by rw[uB];omega
 clear hn hrow h12;go_enter Tryz.func205,Tryz.ntmps205;go_wp2_with fail;go_loopw[1,2](λx y wr=>x=.int .i64 0/\y=.int .i64 n/\wr=w)(λ_ _ _=>0);case atStart=>exact⟨rfl,rfl,rfl⟩
 case round=>
  obtain⟨rfl,rfl,rfl⟩:=hrel;go_wp2_with fail;refine HI.out.mono ?_;rintro e w2⟨⟨u,rfl⟩,hr⟩;go_wp2_with fail;refine dB (sQ rfl _ _ _) rfl ?_;exact⟨⟨_,rfl⟩,hr⟩
theorem Z7(zs:List Int)(g n c:Nat)(w:World)(hn:zs.length=n)(h12:n<=12)(hrow:xK w g zs):
 Calls Tryz.prog 177 #[.slice (some ⟨g,0,none⟩) n c] w λe w'=>(∃v,e=.returned v)/\∃ys,ys.Perm zs/\jW ys n/\xK w' g ys/\aF (λk=>k=g) w w':=by
 have HI:=xI (λk=>S8 zs g n c k w hn h12 hrow);have hw:IntKind.u64.wrap (n:Int)=(n:Int):=by rw[IntKind.wrap_u64];omega
 clear hn hrow;go_enter Tryz.func177,Tryz.ntmps177;go_wp2_with fail;refine(UT n _ h12).mono ?_;rintro e w2⟨⟨k,rfl⟩,rfl⟩;go_wp2_with fail;refine(HI.out _).mono ?_;rintro e w3⟨⟨u,rfl⟩,hr⟩;go_wp2_with fail;go_end0;exact⟨⟨_,rfl⟩,hr⟩
theorem ME{a:Option Addr}{m n c:Nat}(h:m=n):Ending.returned (.slice a m c)=.returned (.slice a n c):=by rw[h]
theorem xK.out{W:World}{g:Nat}{zs:List Int}(h:xK W g zs){i:Nat}(hi:zs.length<=i)(v:Value):xK (W.setCell ⟨g,i,none⟩ v) g zs:=by
 obtain⟨cur,h1,h2⟩:=h;refine⟨_,heap_setCell_same W g i cur 3 _ h1,λj hj=>?_⟩;rw[Array.getElem?_setIfInBounds_ne (by omega),h2 j hj]
theorem xK.xB{g:Nat}{zs:List Int}:∀(vs:List Value)(o:Nat){W:World},xK W g zs->zs.length<=o->xK (W.setCells g o vs) g zs
 |[],_,_,h,_=>h
 |v::r,o,W,h,ho=>by unfold World.setCells;exact xK.xB r (o+1) (h.out ho v) (by omega)
theorem NP(g:Nat):∀(vs:List Value)(o:Nat)(W:World),aF (λk=>k=g) W (W.setCells g o vs)
 |[],_,_=>aF.refl _ _
 |v::r,o,W=>by unfold World.setCells;exact(CG W g o v).trans (NP g r (o+1) _) (λ_ _ e=>e)
theorem xK.take{W:World}{g:Nat}{zs:List Int}(h:xK W g zs)(k:Nat):xK W g (zs.take k):=by
 obtain⟨cur,h1,h2⟩:=h;exact⟨cur,h1,λi hi=>by rw[iD]at hi;rw[h2 i (by omega),wG]⟩
structure gO(zs ys:List Int)(k q:Nat):Prop where
 len:ys.length=zs.length
 k0:1<=k
 kq:k<=q-1
 qn:q<=zs.length
 same:∀i(h:i<zs.length),q-1<=i->ys[i]'(by omega)=zs[i]
 rise:(ys.take k).Pairwise (·<·)
 mem:∀z,z∈ys.take k↔z∈zs.take q
 last:∀(h:k-1<ys.length)(h2:q-1<zs.length),ys[k-1]=zs[q-1]
theorem gO.skip{zs ys:List Int}{k q:Nat}(h:gO zs ys k q)(hq:q<zs.length)(e:zs[q]=zs[q-1]'(by omega)):gO zs ys k (q+1):=by
 have hk:=h.k0;have hkq:=h.kq;refine⟨h.len,h.k0,by omega,by omega,λi hi h1=>h.same i hi (by omega),h.rise,λz=>?_,λh1 h2=>?_⟩
 ·rw[h.mem,rA hq,oC];constructor;·exact .inl
  ·rintro(h1|h1);·exact h1
   ·rw[tC]at h1;subst h1;rw[e];have:zs[q-1]'(by omega)=(zs.take q)[q-1]'(by rw[iD];omega):=by rw[wG]
    rw[this];exact qB _
 ·have:=h.last h1 (by omega);simp only[zH];rw[e];exact this
theorem UY{ys:List Int}{k:Nat}(h:(ys.take k).Pairwise (·<·))(hk:1<=k)(hl:k<=ys.length):∀a∈ys.take k,a<=ys[k-1]'(by omega):=by
 intro a ha;obtain⟨i,hi,rfl⟩:=oG.1 ha;rw[iD]at hi;rw[wG];by_cases e:i=k-1;·subst e;exact zI _
 ·have:=dH.1 h i (k-1) (by rw[iD];omega) (by rw[iD];omega) (by omega);rw[wG,wG]at this;omega
theorem gO.take{zs ys:List Int}{k q:Nat}(h:gO zs ys k q)(hq:q<zs.length)(e:zs[q-1]'(by omega)<zs[q]):gO zs (ys.set k zs[q]) (k+1) (q+1):=by
 have hk:=h.k0;have hkq:=h.kq;have hl:=h.len;have ht:(ys.set k zs[q]).take (k+1)=ys.take k++[zs[q]]:=by
  rw[rA (by simp;omega),List.take_set_of_le (by omega)];simp
 refine⟨by simp[hl],by omega,by omega,by omega,λi hi h1=>?_,?_,λz=>?_,λh1 h2=>?_⟩;·rw[yM (by omega)];exact h.same i hi (by omega)
 ·rw[ht,uJ];refine⟨h.rise,by simp,λa ha b hb=>?_⟩;rw[tC]at hb;subst hb;have h3:=UY h.rise hk (by omega) a ha;have h4:=h.last (by omega) (by omega);omega
 ·rw[ht,oC,h.mem,rA hq,oC]
 ·simp
theorem gO.first{zs:List Int}{k:Nat}(hk:1<=k)(hl:k<zs.length)(hr:(zs.take k).Pairwise (·<·))(e:zs[k]=zs[k-1]'(by omega)):gO zs zs k (k+1):=by
 refine⟨rfl,hk,by omega,by omega,λ_ _ _=>rfl,hr,λz=>?_,λh1 h2=>?_⟩
 ·rw[rA hl,oC];constructor;·exact .inl
  ·rintro(h1|h1);·exact h1
   ·rw[tC]at h1;subst h1;rw[e];have:zs[k-1]'(by omega)=(zs.take k)[k-1]'(by rw[iD];omega):=by rw[wG]
    rw[this];exact qB _
 ·simp only[zH];exact e.symm
theorem XP(zs:List Int)(g n c:Nat)(w:World)(hn:zs.length=n)(h12:n<=12)(hnc:n<=c)(hso:jW zs n)(hrow:xK w g zs):
 Calls Tryz.prog 178 #[.slice (some ⟨g,0,none⟩) n c] w λe w'=>∃ys:List Int,∃c',e=.returned (.slice (some ⟨g,0,none⟩) ys.length c')/\ys.length<=12/\ys.Pairwise (·<·)/\(∀z,z∈ys↔z∈zs)/\xK w' g ys/\aF (λk=>k=g) w w':=by
 have HN:Hid (zs.length=n):=hn;have HSO:Hid (jW zs n):=hso;by_cases h2:(n:Int)<2
 ·have hp:zs.Pairwise (·<·):=by
   match zs,hn with
   |[],_=>simp
   |[x],_=>simp
   |x::y::r,h=>simp at h;omega
  have HP:Hid (zs.Pairwise (·<·)):=hp;clear hn hso hp;go_enter Tryz.func178,Tryz.ntmps178;go_wp2;go_ret;exact⟨zs,c,ME HN.out.symm,by have:=HN.out;omega,HP.out,λz=>Iff.rfl,hrow,aF.refl _ _⟩
 ·clear hn hso;go_enter Tryz.func178,Tryz.ntmps178;go_wp2;go_loopw[3](λi wr=>∃(k:Nat),1<=k/\k<=n/\i=.int .i64 k/\(zs.take k).Pairwise (·<·)/\xK wr g zs/\aF (λk=>k=g) w wr)(λi _=>n-(intOf i).toNat);case atStart=>exact⟨1,by omega,by omega,rfl,by match zs with|[]=>simp|x::r=>simp,hrow,aF.refl _ _⟩
  case round=>
   clear hrow;obtain⟨k,hk1,hk2,rfl,hri,hrw,htn⟩:=hrel;have HRI:Hid ((zs.take k).Pairwise (·<·)):=hri;clear hri;by_cases hlt:k<n
   ·obtain⟨k',rfl⟩:∃k',k=k'+1:=⟨k-1,by omega⟩;have hkl:k'+1<zs.length:=by rw[HN.out];exact hlt
    have cc1:=hrw.cell hkl;have cc0:=hrw.cell (show k'<zs.length by omega);obtain⟨x1,hx1⟩:∃x,x=zs[k'+1]:=⟨_,rfl⟩;obtain⟨x0,hx0⟩:∃x,x=zs[k']:=⟨_,rfl⟩;rw[<-hx1]at cc1;rw[<-hx0]at cc0;have HX:Hid (x1=zs[k'+1]/\x0=zs[k']):=⟨hx1,hx0⟩;have hle:x0<=x1:=by rw[hx0,hx1];exact HSO.out k' (k'+1) (by omega) hkl (by omega)
    have j1:(k':Int)+1<n:=by omega
    have j0:(k':Int)<n:=by omega
    have jz:(0:Int)<=(k':Int)+1:=by omega
    have jw2:IntKind.i64.wrap (k':Int)=(k':Int):=by rw[uB];omega
    by_cases he:x1=x0
    ·have hd:(x1==x0)=true:=by simpa using he
     have HCo:Hid (gO zs zs (k'+1) (k'+1+1)):=gO.first (by omega) hkl HRI.out (by simp only[zH];rw[<-hx1,<-hx0];exact he);have hck:¬c=k'+1:=by omega
     have jc:(k':Int)+1<=n:=by omega
     have jn:(n:Int)<=c:=by omega
     clear hx1 hx0 he hle;go_wp2;go_quiet(fail);go_wp2_with fail;go_loopw[3,5](λkv qv wr2=>∃(k q:Nat)(ys:List Int),1<=q/\q<=n-(k'+1)/\kv=.int .i64 k/\qv=.int .i64 q/\gO zs ys k (k'+1+q)/\xK wr2 g ys/\aF (λk=>k=g) w wr2)(λ_ qv _=>n-(intOf qv).toNat);case atStart=>exact⟨k'+1,1,zs,by omega,by omega,rfl,rfl,HCo.out,hrw.sA rfl,⟨htn.os,htn.tape,htn.output,htn.size,htn.block⟩⟩
     case round=>
      clear hrw htn HCo HX cc0 cc1;obtain⟨k,q,ys,hq1,hq2,rfl,rfl,hco,hrw,htn⟩:=hrel;have HCo:Hid (gO zs ys k (k'+1+q)):=hco;have hk0:=hco.k0;have hkq:=hco.kq;have hyl:ys.length=n:=by rw[hco.len,HN.out]
      have HYL:Hid (ys.length=n):=hyl;by_cases hql:q<n-(k'+1)
      ·obtain⟨q',rfl⟩:∃q',q=q'+1:=⟨q-1,by omega⟩;have hzl:k'+1+(q'+1)<zs.length:=by rw[HN.out];omega
       have e1:=hco.same (k'+1+(q'+1)) hzl (by omega);have e0:=hco.same (k'+1+q') (by omega) (by omega);have cc1:=hrw.cell (show k'+1+(q'+1)<ys.length by omega);have cc0:=hrw.cell (show k'+1+q'<ys.length by omega);rw[e1]at cc1;rw[e0]at cc0;have ff:=hrw.free k;have ck:=hrw.cell (show k<ys.length by omega);obtain⟨x1,hx1⟩:∃x,x=zs[k'+1+(q'+1)]:=⟨_,rfl⟩;obtain⟨x0,hx0⟩:∃x,x=zs[k'+1+q']:=⟨_,rfl⟩;rw[<-hx1]at cc1;rw[<-hx0]at cc0;obtain⟨xk,hxk⟩:∃x,x=ys[k]:=⟨_,rfl⟩;rw[<-hxk]at ck;have hle:x0<=x1:=by rw[hx0,hx1];exact HSO.out _ _ (by omega) hzl (by omega)
       have i1:(q':Int)+1<((n-(k'+1):Nat):Int):=by omega
       have i2:(q':Int)<((n-(k'+1):Nat):Int):=by omega
       have i3:(0:Int)<=(q':Int)+1:=by omega
       have i4:IntKind.i64.wrap (q':Int)=(q':Int):=by rw[uB];omega
       have i5:(k:Int)<n:=by omega
       have i6:(0:Int)<=(k:Int):=by omega
       by_cases he:x1=x0
       ·have hd:(x1 !=x0)=false:=by simpa using he
        have HS:Hid (gO zs ys k (k'+1+(q'+1+1))):=hco.skip hzl (by simp only[<-gH,zH];simp only[<-gH]at hx1;rw[<-hx1,<-hx0];exact he);clear hx1 hx0 hxk he hle hco e1 e0 hyl;go_wp2;go_quiet(fail);go_wp2;go_roundw;case rel=>exact⟨k,q'+1+1,ys,by omega,by omega,rfl,by go_num,HS.out,hrw.sA rfl,⟨htn.os,htn.tape,htn.output,htn.size,htn.block⟩⟩
        case measure=>simp[intOf];omega
       ·have hd:(x1 !=x0)=true:=by simpa using he
        have HS:Hid (gO zs (ys.set k x1) (k+1) (k'+1+(q'+1+1))):=by
         have:=hco.take hzl (by simp only[<-gH,zH];simp only[<-gH]at hx1;rw[<-hx1,<-hx0];omega);rw[<-hx1]at this;exact this
        clear hx1 hx0 hxk he hle hco e1 e0 hyl;go_wp2;go_quiet(fail);go_wp2;have hr2:xK ((wr.drewN nq).setCell ⟨g,k,none⟩ (.int .i64 x1)) g (ys.set k x1):=xK.set (W:=wr.drewN nq) (hrw.sA rfl) (by have:=HYL.out;omega) x1;have ht2:aF (λk=>k=g) w ((wr.drewN nq).setCell ⟨g,k,none⟩ (.int .i64 x1)):=aF.trans (B:=wr.drewN nq) ⟨htn.os,htn.tape,htn.output,htn.size,htn.block⟩ (CG _ _ _ _) (λ_ _ e=>e);go_roundw;case rel=>exact⟨k+1,q'+1+1,ys.set k x1,by omega,by omega,by go_num,by go_num,HS.out,hr2,ht2⟩
        case measure=>simp[intOf];omega
      ·have hqe:k'+1+q=n:=by omega
       have hclear:∀ty,(Builtin.clear_ #[77] ty #[.slice (some ⟨g,k,none⟩) (n-k) (c-k)]).run Tryz.prog wr=.ok (.tuple #[]) (wr.setCells g k (List.replicate (n-k) (.int .i64 0))):=λty=>
        Lib.run_clear_slice wr 77 3 ty (.int .i64 0) Tryz.underlying77 yW rfl rfl g k (n-k) (c-k) (by omega) (λj hj=>by rw[hrw.cell (show k+j<ys.length by omega)];rfl) (λj hj=>hrw.free _);have hck2:¬c=k:=by omega
       have i5:(k:Int)<=n:=by omega
       have i6:(0:Int)<=(k:Int):=by omega
       have i7:(k:Int)<=c:=by omega
       have hr2:xK (wr.setCells g k (List.replicate (n-k) (.int .i64 0))) g (ys.take k):=xK.xB _ k (hrw.take k) (by rw[iD];omega);have ht2:aF (λk=>k=g) w (wr.setCells g k (List.replicate (n-k) (.int .i64 0))):=htn.trans (NP g _ _ _) (λ_ _ e=>e);have HR2:=xI (And.intro hr2 ht2);clear hr2 ht2 hco hyl;go_wp2;go_ret;have hco:=HCo.out;exact⟨ys.take k,c,ME (by rw[iD,HYL.out];omega),by rw[iD,HYL.out];omega,hco.rise,λz=>by rw[hco.mem,iB (by rw[HN.out];omega)],HR2.out.1,HR2.out.2⟩
    ·have hd:(x1==x0)=false:=by simpa using he
     have HNx:Hid ((zs.take (k'+1+1)).Pairwise (·<·)):=by
      show(zs.take (k'+1+1)).Pairwise (·<·);rw[rA hkl,uJ];refine⟨HRI.out,by simp,λa ha b hb=>?_⟩;rw[tC]at hb;subst hb;have h3:=UY HRI.out (by omega) (by omega) a ha;simp only[zH]at h3;rw[<-hx0]at h3;rw[<-hx1];omega
     clear hx1 hx0 he hle;go_wp2;go_quiet(fail);go_wp2;go_roundw;case rel=>exact⟨k'+1+1,by omega,by omega,by go_num,HNx.out,hrw.sA rfl,⟨htn.os,htn.tape,htn.output,htn.size,htn.block⟩⟩
     case measure=>simp[intOf];omega
   ·have hkn:k=n:=by omega
    have HP:Hid (zs.Pairwise (·<·)):=by have:=HRI.out;rw[iB (by rw[HN.out];omega)]at this;exact this
    go_wp2;go_ret;exact⟨zs,c,ME HN.out.symm,by have:=HN.out;omega,HP.out,λz=>Iff.rfl,hrw,htn⟩
theorem O4(a:Option Addr)(c:Nat)(w:World):Calls Tryz.prog 216 #[.slice a 0 c,.int .i64 0,.int .i64 0] w λe w'=>(∃v,e=.returned v)/\w'=w:=by
 go_enter Tryz.func216,Tryz.ntmps216;go_wp2;go_loopw[6,7](λi _ wr=>i=.int .i64 1/\wr=w)(λ_ _ _=>0);case atStart=>exact⟨rfl,rfl⟩
 case round=>
  obtain⟨rfl,rfl⟩:=hrel;go_wp2;go_end0;exact⟨⟨_,rfl⟩,rfl⟩
theorem K0(a:Option Addr)(c:Nat)(k:Int)(w:World):Calls Tryz.prog 205 #[.slice a 0 c,.int .i64 0,.int .i64 0,.int .i64 k] w λe w'=>(∃v,e=.returned v)/\w'=w:=by
 go_enter Tryz.func205,Tryz.ntmps205;go_wp2_with fail;go_loopw[1,2](λx y wr=>x=.int .i64 0/\y=.int .i64 0/\wr=w)(λ_ _ _=>0);case atStart=>exact⟨rfl,rfl,rfl⟩
 case round=>
  obtain⟨rfl,rfl,rfl⟩:=hrel;go_wp2_with fail;refine(O4 _ _ _).mono ?_;rintro e w2⟨⟨u,rfl⟩,rfl⟩;go_wp2_with fail;refine dB (sQ rfl _ _ _) rfl ?_;exact⟨⟨_,rfl⟩,rfl⟩
theorem Q8(a:Option Addr)(c:Nat)(w:World):Calls Tryz.prog 177 #[.slice a 0 c] w λe w'=>(∃v,e=.returned v)/\w'=w:=by
 go_enter Tryz.func177,Tryz.ntmps177;go_wp2_with fail;refine(UT 0 _ (by omega)).mono ?_;rintro e w2⟨⟨k,rfl⟩,rfl⟩;go_wp2_with fail;refine(K0 _ _ _ _).mono ?_;rintro e w3⟨⟨u,rfl⟩,rfl⟩;go_wp2_with fail;go_end0;exact⟨⟨_,rfl⟩,rfl⟩
theorem XA(a:Option Addr)(c:Nat)(w:World):Calls Tryz.prog 178 #[.slice a 0 c] w λe w'=>e=.returned (.slice a 0 c)/\w'=w:=by
 go_enter Tryz.func178,Tryz.ntmps178;go_wp2;go_ret;exact⟨rfl,rfl⟩
open Go.Maps
def zS(W:World)(a:Option Addr)(zs:List Int):Prop:=zs=[]\/∃g,a=some ⟨g,0,none⟩/\g<W.heap.size/\∀i(h:i<zs.length),W.cell? ⟨g,i,none⟩=some (.int .i64 zs[i])
theorem zS.sA{W W':World}{a:Option Addr}{zs:List Int}(h:zS W a zs)(hB:Below W.heap.size W W'):zS W' a zs:=by
 rcases h with h|⟨g,ha,hg,h⟩;·exact .inl h
 ·exact .inr ⟨g,ha,uC hg hB.size,λi hi=>(hB.cell (p:=⟨g,i,none⟩) hg).trans (h i hi)⟩
theorem xK.ints{W:World}{g:Nat}{zs:List Int}(h:xK W g zs):zS W (some ⟨g,0,none⟩) zs:=.inr ⟨g,rfl,h.lt,λi hi=>h.cell hi⟩
theorem LD{W:World}{base:Nat}{u:Value}{zs:List Int}{n:Nat}(h:W.ownsRow base 3 1 u n (zs.map (Value.int .i64)))(hne:zs≠[]):∃g c,u=.slice (some ⟨g,0,none⟩) zs.length c/\base<=g/\zs.length<=c/\c<=maxLen/\xK W g zs:=by
 have hn:n=zs.length:=by have:=h.1;simp at this;omega
 subst hn;rcases h.2 with⟨rfl,h0⟩|⟨g,cap,cur,rfl,hb,hg,h1,h2,_⟩;·exact absurd (kC.1 h0) hne
 ·refine⟨g,cap,rfl,hb,h1,h2,cur,hg,λi hi=>?_⟩;have hc:=h.cells (g:=g) rfl i (.int .i64 zs[i]) (by simp[hi]);rw[QE,uD,xO hg]at hc;exact hc
structure GG(p:lD)(key:ByteArray)(v:Nat)(zs:List Int):Prop where
 rise:zs.Pairwise (·<·)
 mem:∀z,z∈zs↔∃x:Nat,z=x/\∃s,eK (zL p key) v s x
theorem A9{xs ys:List Int}(hx:xs.Pairwise (·<·))(hy:ys.Pairwise (·<·))(h:∀z,z∈xs↔z∈ys):xs=ys:=by
 have nx:xs.Nodup:=hx.imp (λh=>by omega);have ny:ys.Nodup:=hy.imp (λh=>by omega);exact((List.perm_ext_iff_of_nodup nx ny).2 h).eq_of_pairwise (le:=(·<·)) (λa b _ _ h1 h2=>by omega) hx hy
def fV(L:pE):List Int:=L.map (λx=>(x.1:Int))
theorem Y2(L:pE):ints L=(fV L).map (Value.int .i64):=by simp[ints,fV]
theorem T7{p:lD}{v:Int}{key:ByteArray}(h:fO p v key=0):iF p=0/\kG key.data.toList=0/\0<=v/\v<p.nC.length:=by
 unfold fO at h;by_cases h1:iF p=0
 ·rw[qA h1]at h;by_cases h2:tG v p.nC.length=true;·rw[qA h2]at h;have:=cP.1 h2;exact⟨h1,h,this⟩
  ·rw[kA h2]at h;cases h
 ·rw[kA h1]at h;exact absurd h h1
theorem RK(sep:List UInt8):∀(xs:List (List UInt8))(x:List UInt8),xs≠[]->Lib.join (xs++[x]) sep=Lib.join xs sep++sep++x
 |[],x,h=>absurd rfl h
 |[a],x,_=>by simp[Lib.join,List.intercalate]
 |a::b::r,x,_=>by
   have ih:=RK sep (b::r) x (by simp);have e:∀(c:List UInt8)(t:List (List UInt8)),Lib.join (a::c::t) sep=a++sep++Lib.join (c::t) sep:=λc t=>by simp[Lib.join,List.intercalate,List.intersperse]
   show Lib.join (a::b::(r++[x])) sep=_;rw[e b (r++[x]),e b r];have ih':Lib.join (b::(r++[x])) sep=_:=ih;rw[ih'];simp only[gE]
def aL(zs:List Nat):List UInt8:=Lib.join (zs.map Lib.decDigits) [32]
theorem CS(z:Nat):aL [z]=Lib.decDigits z:=by unfold aL;simp[Lib.join_one]
theorem IZ{zs:List Nat}(z:Nat)(h:zs≠[]):aL (zs++[z])=aL zs++[32]++Lib.decDigits z:=by
 unfold aL;rw[oD,fH,fN,RK _ _ _ (by simpa using h)]
theorem QA:∀(n:Nat)(zs:List Nat),zs.length=n->(∀z∈zs,z<=1000000000000000)->(aL zs).length<=n*1000000000000002
 |0,zs,h,_=>by
   have:zs=[]:=kC.1 h;subst this;simp[aL,Lib.join]
 |n+1,zs,h,hb=>by
   rcases gR zs with h0|⟨l,z,h0⟩;·subst h0;simp at h
   ·have h':zs=l++[z]:=by rw[h0];simp
    subst h';have hl:l.length=n:=by simpa using h
    have ih:=QA n l hl (λx hx=>hb x (by simp[hx]));have hz:=hb z (by simp);have hd:=GY z;by_cases he:l=[];·subst he;rw[List.nil_append,CS];omega
    ·rw[IZ z he];simp only[dC,List.length_singleton];omega
theorem OO(zs:List Nat)(a:Option Addr)(n c:Nat)(w:World)(hn:zs.length=n)(hm:n<=100)(hz:∀z∈zs,z<=1000000000000000)(ha:zS w a (zs.map (λ(z:Nat)=>(z:Int)))):
 Calls Tryz.prog 42 #[.slice a n c] w λe w'=>e=.returned (.string ⟨(aL zs).toArray⟩)/\Below w.heap.size w w':=by
 have HN:=aA hn;have HA:=aA ha;have HZ:=aA hz;clear hn ha hz;go_enter Tryz.func42,Tryz.ntmps42;go_wp2_with fail;go_loopw[3,4](λs i wr=>∃(k:Nat)(t:ByteArray),k<=n/\i=.int .i64 k/\s=.string t/\t=⟨(aL (zs.take k)).toArray⟩/\Below w.heap.size w wr)(λ_ i _=>n-(intOf i).toNat);case atStart=>exact⟨0,⟨#[]⟩,zA _,rfl,rfl,rfl,dA _ _⟩
 case round=>
  obtain⟨k,t,hk,rfl,rfl,ht,hB⟩:=hrel;have HT:=aA ht;have HB:=aA hB;have hlt':t.size<=100*1000000000000002:=by
   have h1:=QA (zs.take k).length (zs.take k) rfl (λz hz'=>HZ.out z (List.mem_of_mem_take hz'));have h2:t.size=(aL (zs.take k)).length:=by rw[ht];simp[ByteArray.size]
   have h3:(zs.take k).length<=100:=by rw[iD];omega
   have h4:(zs.take k).length*1000000000000002<=100*1000000000000002:=fS _ h3;omega
  clear ht hB;by_cases hlt:k<n
  ·have hkl:k<zs.length:=by rw[HN.out];exact hlt
   rcases HA.out.sA HB.out with h0|⟨g,hg1,hg2,hg3⟩;·have:=congrArg List.length h0;simp at this;rw[this]at hkl;simp at hkl
   subst hg1;have hcell:=hg3 k (by simpa using hkl);rw[uL]at hcell;obtain⟨z,hzz⟩:∃z,z=zs[k]'hkl:=⟨_,rfl⟩;rw[<-hzz]at hcell;have hzb:z<=1000000000000000:=by rw[hzz];exact HZ.out _ (qB hkl)
   have hdf:=GY z;have HTK:Hid (zs.take (k+1)=zs.take k++[z]):=by show _=_;rw[rA hkl,hzz]
   have HLT:=aA hlt;have j1:(0:Int)<=(k:Int):=by omega
   have j2:(k:Int)<n:=by omega
   obtain⟨D,hD⟩:∃D:ByteArray,D=⟨(Lib.decDigits z).toArray⟩:=⟨_,rfl⟩;have hDs:D.size<=1000000000000001:=by rw[hD];show(Lib.decDigits z).toArray.size<=_;simp;omega
   have HD:=aA hD;have DG:=aA (λW=>AA z W hzb);rw[<-hD]at DG;clear hzz hdf hD hg3;by_cases h0:k=0
   ·subst h0;have HNX:Hid (t++D=⟨(aL (zs.take (0+1))).toArray⟩):=by
     show _=_;rw[HTK.out,HT.out,HD.out,List.take_zero,List.nil_append,CS];apply uH;simp[aL,Lib.join]
    have hb1:t.size+D.size<=9223372036854775807:=by omega
    go_wp2_with fail;refine(DG.out _).mono ?_;rintro e w2⟨rfl,k2⟩;go_wp2_with fail;go_roundw;case rel=>exact⟨0+1,t++D,HLT.out,by go_num,rfl,HNX.out,HB.out.trans (k2.mono HB.out.size)⟩
    case measure=>have:=HLT.out;simp[intOf];omega
   ·have hk0:0<k:=by omega
    have hk1:(0:Int)<(k:Int):=by omega
    have HNX:Hid (t++(⟨#[32]⟩:ByteArray)++D=⟨(aL (zs.take (k+1))).toArray⟩):=by
     show _=_;rw[HTK.out,HT.out,HD.out,IZ z (by
      intro e;have:=congrArg List.length e;rw[iD,List.length_nil]at this;omega)];apply uH;simp
    obtain⟨T1,hT1⟩:∃T1:ByteArray,T1=t++(⟨#[32]⟩:ByteArray):=⟨_,rfl⟩;have hT1s:T1.size<=t.size+1:=by rw[hT1,aD];exact eA _
    have HT1:=aA hT1;have hb0:t.size+(⟨#[32]⟩:ByteArray).size<=9223372036854775807:=by show t.size+1<=_;omega
    have hb1:T1.size+D.size<=9223372036854775807:=by omega
    rw[<-hT1]at HNX;clear hT1 h0;go_wp2_with fail;rw[<-HT1.out];refine(DG.out _).mono ?_;rintro e w2⟨rfl,k2⟩;go_wp2_with fail;go_roundw;case rel=>exact⟨k+1,T1++D,HLT.out,by have:=HLT.out;go_num,rfl,HNX.out,HB.out.trans (k2.mono HB.out.size)⟩
    case measure=>have:=HLT.out;simp[intOf];omega
  ·have HE:Hid (t=⟨(aL zs).toArray⟩):=by show t=_;rw[HT.out,iB (by rw[HN.out];omega)]
   go_wp2_with fail;go_ret;exact⟨by rw[HE.out];rfl,HB.out⟩
def mG(l:List UInt8)(c:UInt8):Nat:=l.findIdx (·==c)
theorem L0{s:ByteArray}{c:UInt8}{k:Nat}(hk:k<s.size)(hle:k<=mG s.data.toList c)(hc:s[k]=c):mG s.data.toList c=k:=by
 have hl:k<s.data.toList.length:=by simpa using hk
 have h1:s.data.toList[k]=c:=by have h:s.data[k]=c:=hc;simpa using h
 have h2:mG s.data.toList c<=k:=by
  unfold mG;rcases xG k (s.data.toList.findIdx (·==c))with h|h;·have:=List.not_of_lt_findIdx h;simp at this;exact absurd (by simpa using h1) this
  ·exact h
 omega
theorem C8{s:ByteArray}{c:UInt8}{k:Nat}(hk:k<s.size)(hle:k<=mG s.data.toList c)(hc:s[k]≠c):k+1<=mG s.data.toList c:=by
 have hl:k<s.data.toList.length:=by simpa using hk
 have h1:s.data.toList[k]≠c:=λh=>hc (by show s.data[k]=c;simpa using h);rcases xG k (mG s.data.toList c)with h|h;·exact h
 ·have he:mG s.data.toList c=k:=by omega
  have hlt:s.data.toList.findIdx (·==c)<s.data.toList.length:=by unfold mG at he;omega
  have h2:=cM (w:=hlt);have e2:s.data.toList.findIdx (·==c)=k:=he;simp only[e2]at h2;exact absurd (by simpa using h2) h1
def tZ(s:ByteArray):Value:=if mG s.data.toList 32<s.size then .tuple #[.string (s.extract 0 (mG s.data.toList 32)),.string (s.extract (mG s.data.toList 32+1) s.size),.bool true]else .tuple #[.string s,.string ⟨#[]⟩,.bool false]
theorem PC(s:ByteArray)(w:World)(hs:s.size<=1000000):
 Calls Tryz.prog 44 #[.string s] w λe w'=>e=.returned (tZ s)/\Below w.heap.size w w':=by
 obtain⟨k0,hk0⟩:∃k0,k0=mG s.data.toList 32:=⟨_,rfl⟩;have HK:=aA hk0;obtain⟨V,hV⟩:∃V,V=tZ s:=⟨_,rfl⟩;rw[<-hV];have HV:=aA hV;clear hk0 hV;go_enter Tryz.func44,Tryz.ntmps44;go_wp2_with fail;go_loopw[5](λi wr=>∃k:Nat,k<=s.size/\i=.int .i64 k/\k<=k0/\wr=w)(λi _=>s.size-(intOf i).toNat);case atStart=>exact⟨0,zA _,rfl,zA _,rfl⟩
 case round=>
  obtain⟨k,hk,rfl,hkk,rfl⟩:=hrel;have HKK:=aA hkk;clear hkk;by_cases hlt:k<s.size
  ·have j1:(0:Int)<=(k:Int):=by omega
   have j2:(k:Int)<s.size:=by omega
   by_cases hc:s[k]=32
   ·have n2:((s[k].toNat:Int)==32)=true:=by rw[hc];rfl
    have HH:Hid (mG s.data.toList 32=k):=L0 hlt (by rw[<-HK.out];exact HKK.out) hc;have HLT:=aA hlt;have q1:IntKind.i64.wrap ((k:Int)+1)=((k+1:Nat):Int):=by rw[uB];omega
    have q2:(k:Int)<=s.size:=by omega
    have q3:((k+1:Nat):Int)<=s.size:=by omega
    have q4:(0:Int)<=((k+1:Nat):Int):=by omega
    clear hc;go_wp2_with fail;go_quiet(fail);go_wp2_with fail;exact dB (v:=.tuple #[.string (s.extract 0 k),.string (s.extract (k+1) s.size),.bool true]) (by simp[results,Tryz.results44,go_sem]) rfl ⟨by rw[HV.out];unfold tZ;rw[HH.out,qA HLT.out],⟨rfl,rfl,rfl,eA _,λ_ _=>rfl⟩⟩
   ·have n2:((s[k].toNat:Int)==32)=false:=by
     rw[xD];intro h;exact hc (iJ.1 (by simpa using wL h))
    have HN:Hid (k+1<=k0):=by show k+1<=k0;rw[HK.out];exact C8 hlt (by rw[<-HK.out];exact HKK.out) hc
    have HLT:=aA hlt;clear hc;go_wp2_with fail;go_roundw;case rel=>exact⟨k+1,HLT.out,by have:=HLT.out;go_num,HN.out,trivial⟩
    case measure=>have:=HLT.out;simp[intOf];omega
  ·have HVV:Hid (V=.tuple #[.string s,.string ⟨#[]⟩,.bool false]):=by
    show V=_;rw[HV.out];unfold tZ;rw[kA (by have h1:=HKK.out;rw[HK.out]at h1;omega)]
   go_wp2_with fail;exact dB (v:=.tuple #[.string s,.string ⟨#[]⟩,.bool false]) (by simp[results,Tryz.results44,go_sem]) rfl ⟨by rw[HVV.out],dA _ _⟩
def oV(s:yC):List Int:=[s.gA,s.fA,s.nB,s.uA,s.iA]
theorem XS(s:yC):lS s=(oV s).all eP:=by simp[lS,oV,Bool.and_assoc]
theorem WG(s:yC)(b1 b2 b3:Option Addr)(m1 d1 m2 d2 m3 d3:Nat)(w:World):
 Calls Tryz.prog 158 #[.agg #[.slice b1 m1 d1,.slice b2 m2 d2,.slice b3 m3 d3,.int .i64 s.gA,.int .i64 s.fA,.int .i64 s.nB,.int .i64 s.uA,.int .i64 s.iA]] w λe w'=>e=zK (if lS s=true then 0 else 1)/\Below w.heap.size w w':=by
 rw[XS];obtain⟨D,hD⟩:∃D:Int,D=if(oV s).all eP=true then 0 else 1:=⟨_,rfl⟩;rw[<-hD];have HD:=aA hD;clear hD;obtain⟨W1,hW1,hBw,hs1,hbx⟩:=jZ w #[.slice b1 m1 d1,.slice b2 m2 d2,.slice b3 m3 d3,.int .i64 s.gA,.int .i64 s.fA,.int .i64 s.nB,.int .i64 s.uA,.int .i64 s.iA];have HW1:=aA hW1;have HS1:Hid (w.heap.size+1=W1.heap.size):=hs1.symm;have s0:=hBw.size;obtain⟨y0,y1,y2,y3,y4,y5,y6,y7⟩:=gD (hbx W1 (dA _ _));obtain⟨W2,hW2⟩:∃W2,W2=W1.alloc (.cells #[.int .i64 s.gA,.int .i64 s.fA,.int .i64 s.nB,.int .i64 s.uA,.int .i64 s.iA] 3):=⟨_,rfl⟩;have hB2:Below W1.heap.size W1 W2:=by rw[hW2];exact(dA _ _).alloc (eA _) _
 have hb2:W2.heap[W1.heap.size]?=some (.cells #[.int .i64 s.gA,.int .i64 s.fA,.int .i64 s.nB,.int .i64 s.uA,.int .i64 s.iA] 3 (0,0)):=by rw[hW2];exact jA W1 _
 have HC:Hid (∀W,Below W2.heap.size W2 W->∀k(hk:k<5),W.cell? ⟨w.heap.size+1,k,none⟩=some (.int .i64 ((oV s)[k]'(by simpa[oV]using hk)))):=λW hW k hk=>by
  rw[HS1.out];have:=(hW.block _ (bE hb2)).trans hb2;match k,hk with
  |0,_=>exact yB this 0
  |1,_=>exact yB this 1
  |2,_=>exact yB this 2
  |3,_=>exact yB this 3
  |4,_=>exact yB this 4
 have HW2:=aA hW2;have k02:Below w.heap.size w W2:=hBw.trans (hB2.mono s0);have s02:=k02.size;have HLL:Hid ((oV s).length=5):=rfl;clear hW1 hbx hs1 hW2 hB2 hb2;go_enter Tryz.func158,Tryz.ntmps158;go_wp2_with fail;rw[<-HW1.out,<-HW2.out];go_loopw[3,16](λ_ i wr=>∃k:Nat,k<=5/\i=.int .i64 k/\(∀x∈(oV s).take k,eP x=true)/\Below W2.heap.size W2 wr)(λ_ i _=>5-(intOf i).toNat);case atStart=>exact⟨0,zA _,rfl,by simp,dA _ _⟩
 case round=>
  obtain⟨k,hk,rfl,ha,hB⟩:=hrel;have HA:=aA ha;have hBs:=hB.size;clear ha;by_cases hlt:k<5
  ·have hkl:k<(oV s).length:=hlt;have e1:=HC.out wr hB k hlt;have HTK:=aA (λh1 h2=>cU (p:=eP) (xs:=oV s) (k:=k) hkl h1 h2);have HNOT:=aA (λh2=>mL (p:=eP) (xs:=oV s) (k:=k) hkl h2);obtain⟨x,hx⟩:∃x,x=(oV s)[k]:=⟨_,rfl⟩;rw[<-hx]at HTK HNOT e1;have j1:(0:Int)<=(k:Int):=by omega
   have j2:(k:Int)<5:=by omega
   clear hx;go_wp2_with fail;by_cases hm1:x<0\/1048576<x;·have HNO:Hid ((oV s).all eP=false):=HNOT.out (by unfold eP;simp;omega);refine(aN 1 [decide (x<0),decide (1048576<x)] _ _ (by simp) (bI wr _ rfl) (by simp;omega)).mono ?_;rintro e w5⟨rfl,hw5⟩;exact⟨rfl,by rw[HD.out,HNO.out];rfl,by rw[hw5];exact k02.trans ((hB.alloc hBs _).mono s02)⟩
   ·have HOK:Hid (eP x=true):=by show eP x=true;unfold eP;simp;omega
    refine(zM 1 [decide (x<0),decide (1048576<x)] _ _ (by simp) (bI wr _ rfl) (by simp;omega)).mono ?_;rintro e w5⟨rfl,hw5⟩;have k5:Below W2.heap.size W2 w5:=by rw[hw5];exact hB.alloc hBs _
    clear hw5;go_wp2_with fail;go_roundw;case rel=>exact⟨k+1,by omega,by go_num,HTK.out HA.out HOK.out,k5⟩
    case measure=>simp[intOf];omega
  ·have hke:k=5:=by omega
   subst hke;have HYES:Hid ((oV s).all eP=true):=nV HLL.out (yL _) HA.out;go_wp2_with fail;go_end0;exact⟨by rw[HD.out,HYES.out];rfl,k02.trans (hB.mono s02)⟩
theorem pB{W W':World}{b:Nat}{cs:Array Value}{t:TypeId}(h:W.heap[b]?=some (.cells cs t (0,0)))(hB:Below W.heap.size W W'):W'.heap[b]?=some (.cells cs t (0,0)):=(hB.block b (bE h)).trans h
theorem gY.get{W:World}{a:Option Addr}{xs:List eF}(h:gY W a xs){k:Nat}(hk:k<xs.length):∃g o,a=some ⟨g,o,none⟩/\g<W.heap.size/\W.cell? ⟨g,o+k*8,none⟩=some (.int .i64 xs[k].tag)/\W.cell? ⟨g,o+k*8+1,none⟩=some (.int .i64 xs[k].fE)/\W.cell? ⟨g,o+k*8+2,none⟩=some (.int .i64 xs[k].queue)/\jS W g (o+k*8+3) xs[k].item:=by
 rcases h with h|⟨g,o,ha,hg,h⟩;·rw[h]at hk;simp at hk
 ·exact⟨g,o,ha,hg,h k hk⟩
theorem d7(x:zD):tI [x]=nH x:=by
 unfold tI lP lP;have h:nH x=true->-1<x.seq:=λh=>by unfold nH bV at h;simp at h;omega
 cases hi:nH x with
 |false=>simp
 |true=>simp[h hi]
theorem H4(w:World)(x:zD):qI (w.alloc (.cells #[.int .i64 x.seq,.string x.key,.string x.body,.bool x.again,.int .i64 x.fC] 86)) (some ⟨w.heap.size,0,none⟩) [x]:=by
 have h:=jA w (.cells #[.int .i64 x.seq,.string x.key,.string x.body,.bool x.again,.int .i64 x.fC] 86);refine .inr ⟨w.heap.size,0,rfl,by simp,λi hi=>?_⟩;have e:i=0:=by simp at hi;omega
 subst e;exact⟨yB h 0,yB h 1,yB h 2,yB h 3,yB h 4⟩
theorem YA(s:yC)(b1 b2 b3:Option Addr)(m1 d1 m2 d2 m3 d3:Nat)(w:World)(hs:gK w b1 b2 b3 m1 m2 m3 s):
 Calls Tryz.prog 157 #[.agg #[.slice b1 m1 d1,.slice b2 m2 d2,.slice b3 m3 d3,.int .i64 s.gA,.int .i64 s.fA,.int .i64 s.nB,.int .i64 s.uA,.int .i64 s.iA]] w λe w'=>e=zK (if oK s.nA s.fA (-1) s.xB=true then 0 else 1)/\Below w.heap.size w w':=by
 obtain⟨D,hD⟩:∃D:Int,D=if oK s.nA s.fA (-1) s.xB=true then 0 else 1:=⟨_,rfl⟩;rw[<-hD];have HD:=aA hD;clear hD;obtain⟨W1,hW1,hBw,hs1,hbx⟩:=jZ w #[.slice b1 m1 d1,.slice b2 m2 d2,.slice b3 m3 d3,.int .i64 s.gA,.int .i64 s.fA,.int .i64 s.nB,.int .i64 s.uA,.int .i64 s.iA];have HW1:=aA hW1;have BX:=aA hbx;have HS:=aA (hs.sA hBw);have HM2:Hid (s.xB.length=m2):=hs.l2;have HM3:Hid (s.nA.length=m3):=hs.l3;have hx2:=hs.x2;have s0:=hBw.size;have hs1':w.heap.size<W1.heap.size:=by omega
 obtain⟨y0,y1,y2,y3,y4,y5,y6,y7⟩:=gD (hbx W1 (dA _ _));clear hW1 hbx hs1 hs;go_enter Tryz.func157,Tryz.ntmps157;go_wp2_with fail;rw[<-HW1.out];go_loopw[2,4,5,9](λla _ _ i wr=>∃(k:Nat)(l:Int),k<=m2/\i=.int .i64 k/\la=.int .i64 l/\oK s.nA s.fA (-1) s.xB=oK s.nA s.fA l (s.xB.drop k)/\Below W1.heap.size W1 wr)(λ_ _ _ i _=>m2-(intOf i).toNat);case atStart=>exact⟨0,-1,zA _,rfl,rfl,by simp,dA _ _⟩
 case round=>
  obtain⟨k,l,hk,rfl,rfl,ha,hB⟩:=hrel;have HA:=aA ha;have hBs:=hB.size;clear ha y0 y1 y2 y3 y4 y5 y6 y7;by_cases hlt:k<m2
  ·have hkl:k<s.xB.length:=by rw[HM2.out];exact hlt
   obtain⟨g,o,ha,hg,e1,e2,e3,e4⟩:=(HS.out.q2.sA hB).get hkl;have hdr:s.xB.drop k=s.xB[k]::s.xB.drop (k+1):=vC hkl;subst ha;obtain⟨x,hx⟩:∃x,x=s.xB[k]:=⟨_,rfl⟩;rw[<-hx]at e1 e2 e3 e4 hdr;have HDR:=aA hdr;have HSTEP:Hid (oK s.nA s.fA (-1) s.xB=(aQ s.nA s.fA l x&&oK s.nA s.fA x.tag (s.xB.drop (k+1)))):=by
    show oK s.nA s.fA (-1) s.xB=_;rw[HA.out,HDR.out];rfl
   obtain⟨tg,tk,qu,it⟩:=x;obtain⟨sq,ky,bo,ag,de⟩:=it;dsimp only at e1 e2 e3 e4 HSTEP;obtain⟨f0,f1,f2,f3,f4⟩:=e4;dsimp only at f0 f1 f2 f3 f4;have j1:(0:Int)<=(k:Int):=by omega
   have j2:(k:Int)<m2:=by omega
   have sk:w.heap.size<wr.heap.size:=by omega
   obtain⟨y0,y1,y2,y3,y4,y5,y6,y7⟩:=gD (BX.out wr hB);obtain⟨W3,hW3⟩:∃W3,W3=wr.alloc (.cells #[.int .i64 tg,.int .i64 tk,.int .i64 qu,.int .i64 sq,.string ky,.string bo,.bool ag,.int .i64 de] 88):=⟨_,rfl⟩;have HW3:=aA hW3;have k3:Below W1.heap.size W1 W3:=by rw[hW3];exact hB.alloc hBs _
   have b3':W3.heap[wr.heap.size]?=some (.cells #[.int .i64 tg,.int .i64 tk,.int .i64 qu,.int .i64 sq,.string ky,.string bo,.bool ag,.int .i64 de] 88 (0,0)):=by rw[hW3];exact jA wr _
   have HZ3:Hid (wr.heap.size+1=W3.heap.size):=by show wr.heap.size+1=W3.heap.size;rw[hW3];simp
   have HB3:=aA b3';clear hx hdr hW3 b3';go_wp2_with fail;rw[<-HW3.out];by_cases hc1:tg<=l\/s.fA<=tg\/tk<0\/(m3:Int)<=tk
   ·have HNO:Hid (oK s.nA s.fA (-1) s.xB=false):=by
     show oK s.nA s.fA (-1) s.xB=false;rw[HSTEP.out];unfold aQ tG;rw[HM3.out];dsimp only;have:(decide (l<tg)&&decide (tg<s.fA)&&decide (0<=tk/\tk<(m3:Int)))=false:=by simp;omega
     rw[this];rfl
    refine(aN 1 [decide (tg<=l),decide (s.fA<=tg),decide (tk<0),decide ((m3:Int)<=tk)] _ _ (by simp) (bI W3 _ HZ3.out) (by simp;omega)).mono ?_;rintro e w4⟨rfl,hw4⟩;exact⟨rfl,by rw[HD.out,HNO.out];rfl,by rw[hw4];exact hBw.trans ((k3.alloc k3.size _).mono s0)⟩
   ·refine(zM 1 [decide (tg<=l),decide (s.fA<=tg),decide (tk<0),decide ((m3:Int)<=tk)] _ _ (by simp) (bI W3 _ HZ3.out) (by simp;omega)).mono ?_;rintro e w4⟨rfl,hw4⟩;have l4:Below W3.heap.size W3 w4:=by rw[hw4];exact(dA _ _).alloc (eA _) _
    have k4:Below W1.heap.size W1 w4:=k3.trans (l4.mono k3.size);have s4:=k4.size;have b4:=(l4.block wr.heap.size (by have:=HZ3.out;omega)).trans HB3.out;have HB4:=aA b4;have g0:=yB b4 0;have g1:=yB b4 1;have g2:=yB b4 2;simp at g0 g1 g2;have hw4s:wr.heap.size<w4.heap.size:=bE b4;obtain⟨tn,htn⟩:=oE (show 0<=tk by omega);subst htn;have htl:tn<s.nA.length:=by rw[HM3.out];omega
    obtain⟨gt,ot,hat,hgt,u1,u2⟩:=(HS.out.q3.sA k4).get htl;have HOUT:Hid (aQ s.nA s.fA l ⟨tg,(tn:Int),qu,⟨sq,ky,bo,ag,de⟩⟩=(decide (s.nA[tn].queue≠-1)&&decide (s.nA[tn].queue=qu)&&nH ⟨sq,ky,bo,ag,de⟩)):=by
     show aQ s.nA s.fA l ⟨tg,(tn:Int),qu,⟨sq,ky,bo,ag,de⟩⟩=_;unfold aQ tG;rw[HM3.out];dsimp only;rw[show decide (l<tg)=true from eC (by omega),show decide (tg<s.fA)=true from eC (by omega),show decide (0<=(tn:Int)/\(tn:Int)<(m3:Int))=true from eC (by omega),Int.toNat_natCast,tA htl];simp
    obtain⟨t,ht⟩:∃t,t=s.nA[tn]:=⟨_,rfl⟩;rw[<-ht]at u1 u2 HOUT;obtain⟨tq,tm⟩:=t;dsimp only at u1 u2 HOUT;subst hat;obtain⟨z0,z1,z2,z3,z4,z5,z6,z7⟩:=gD (BX.out w4 k4);have i1:(0:Int)<=(tn:Int):=by omega
    have i2:(tn:Int)<m3:=by omega
    obtain⟨W5,hW5⟩:∃W5,W5=w4.alloc (.cells #[.int .i64 tq,.int .i64 tm] 121):=⟨_,rfl⟩;have HW5:=aA hW5;have l5:Below w4.heap.size w4 W5:=by rw[hW5];exact(dA _ _).alloc (eA _) _
    have k5:Below W1.heap.size W1 W5:=k4.trans (l5.mono s4);have HZ5:Hid (w4.heap.size+1=W5.heap.size):=by show w4.heap.size+1=W5.heap.size;rw[hW5];simp
    have HB5:=aA ((l5.block wr.heap.size hw4s).trans HB4.out);clear hW5 ht b4 hw4 l4 y0 y1 y2 y3 y4 y5 y6 y7 e1 e2 e3 f0 f1 f2 f3 f4 htl hc1;go_wp2_with fail;rw[<-HW5.out];by_cases hc2:tq=-1\/tq≠qu
    ·have HNO:Hid (oK s.nA s.fA (-1) s.xB=false):=by
      show oK s.nA s.fA (-1) s.xB=false;rw[HSTEP.out,HOUT.out];have:(decide (tq≠-1)&&decide (tq=qu))=false:=by simp;omega
      rw[this];rfl
     refine(aN 1 [(tq==-1),(tq !=qu)] _ _ (by simp) (bI W5 _ HZ5.out) (by simp;omega)).mono ?_;rintro e w6⟨rfl,hw6⟩;exact⟨rfl,by rw[HD.out,HNO.out];rfl,by rw[hw6];exact hBw.trans ((k5.alloc k5.size _).mono s0)⟩
    ·refine(zM 1 [(tq==-1),(tq !=qu)] _ _ (by simp) (bI W5 _ HZ5.out) (by simp;omega)).mono ?_;rintro e w6⟨rfl,hw6⟩;have l6:Below W5.heap.size W5 w6:=by rw[hw6];exact(dA _ _).alloc (eA _) _
     have k6:Below W1.heap.size W1 w6:=k5.trans (l6.mono k5.size);have s6:=k6.size;have b6:=(l6.block wr.heap.size (bE HB5.out)).trans HB5.out;have HB6:=aA b6;have HO2:Hid (oK s.nA s.fA (-1) s.xB=(nH ⟨sq,ky,bo,ag,de⟩&&oK s.nA s.fA tg (s.xB.drop (k+1)))):=by
      show oK s.nA s.fA (-1) s.xB=_;rw[HSTEP.out,HOUT.out];have:(decide (tq≠-1)&&decide (tq=qu))=true:=by simp;omega
      rw[this];rfl
     have g3:=yB b6 3;have g4:=yB b6 4;have g5:=yB b6 5;have g6:=yB b6 6;have g7:=yB b6 7;simp at g3 g4 g5 g6 g7;obtain⟨W7,hW7⟩:∃W7,W7=w6.alloc (.cells #[.int .i64 sq,.string ky,.string bo,.bool ag,.int .i64 de] 86):=⟨_,rfl⟩;have HW7:=aA hW7;have l7:Below w6.heap.size w6 W7:=by rw[hW7];exact(dA _ _).alloc (eA _) _
     have k7:Below W1.heap.size W1 W7:=k6.trans (l7.mono s6);have HI7:Hid (qI W7 (some ⟨w6.heap.size,0,none⟩) [⟨sq,ky,bo,ag,de⟩]):=by show qI W7 _ _;rw[hW7];exact H4 w6 ⟨sq,ky,bo,ag,de⟩
     have HB7:=aA (pB HB6.out l7);clear hW7 hw6 b6 g0 g1 g2 z0 z1 z2 z3 z4 z5 z6 z7 u1 u2 hc2;go_wp2_with fail;rw[<-HW7.out];refine(gW [⟨sq,ky,bo,ag,de⟩] _ _ _ _ rfl (by unfold maxLen;simp) HI7.out).mono ?_;rintro e w8⟨rfl,hB8⟩;have k8:Below W1.heap.size W1 w8:=k7.trans (hB8.mono k7.size);have s8:=k8.size;have HB8:=aA (pB HB7.out hB8);have k9:=k8.alloc s8 (.cells #[.int .i64 (tL [⟨sq,ky,bo,ag,de⟩])] 27);obtain⟨ok,hok⟩:∃ok,ok=nH ⟨sq,ky,bo,ag,de⟩:=⟨_,rfl⟩;rw[<-hok]at HO2;unfold tL at k9⊢;rw[d7,<-hok]at k9⊢;clear hok hB8 g3 g4 g5 g6 g7;cases ok with
     |true=>
       simp only[if_true]at k9⊢;go_wp2_with(go_at_call 69;refine(rS _ _ (rM _ _ _) (by simp)).mono ?_;rintro e w9⟨rfl,hB9⟩;have b9:=pB (pB HB8.out ((dA _ _).alloc (eA _) _)) hB9;have g0:=yB b9 0;simp at g0);go_roundw;case rel=>exact⟨k+1,tg,by omega,by go_num,rfl,by rw[HO2.out];rfl,k9.trans (hB9.mono k9.size)⟩
       case measure=>simp[intOf];omega
     |false=>
       simp only[sN,if_false]at k9⊢;go_wp2_with(go_at_call 69;refine(qV 1 _ _ (rM _ _ _) (by simp) (by decide)).mono ?_;rintro e w9⟨rfl,hB9⟩);exact⟨rfl,by rw[HD.out,HO2.out];rfl,hBw.trans ((k9.trans (hB9.mono k9.size)).mono s0)⟩
  ·have hke:k=m2:=by omega
   subst hke;have HYES:Hid (oK s.nA s.fA (-1) s.xB=true):=by
    show oK s.nA s.fA (-1) s.xB=true;rw[HA.out,mD (by rw[HM2.out];exact eA _)];rfl
   clear hlt hk;go_wp2_with fail;go_end0;exact⟨by rw[HD.out,HYES.out];rfl,hBw.trans (hB.mono s0)⟩
theorem Tryz.infoNum:(Tryz.prog.info? 3).map (λi=>(i.zero,i.size,i.bytes))=some (some (.int .i64 0),1,8):=by kernel_rfl
def mZ(W:World)(a:Option Addr)(zs:List Int):Prop:=zs=[]\/∃g,a=some ⟨g,0,none⟩/\g<W.heap.size/\∀i(h:i<zs.length),W.cell? ⟨g,i,none⟩=some (.int .i64 zs[i])
theorem mZ.sA{W W':World}{a:Option Addr}{zs:List Int}(h:mZ W a zs)(hB:Below W.heap.size W W'):mZ W' a zs:=by
 rcases h with h|⟨g,ha,hg,h⟩;·exact .inl h
 ·exact .inr ⟨g,ha,uC hg hB.size,λi hi=>(hB.cell (p:=⟨g,i,none⟩) hg).trans (h i hi)⟩
theorem TT{W:World}{base:Nat}{u:Value}{zs:List Int}{n:Nat}(h:W.ownsRow base 3 1 u n (zs.map (Value.int .i64))):∃a c,u=.slice a zs.length c/\mZ W a zs:=by
 have hn:n=zs.length:=by have:=h.1;simp at this;omega
 subst hn;rcases h.2 with⟨rfl,h0⟩|⟨g,cap,cur,rfl,hb,hg,h1,h2,_⟩;·have e:=kC.1 h0;exact⟨none,0,by rw[h0],.inl e⟩
 ·refine⟨_,cap,rfl,.inr ⟨g,rfl,bE hg,λi hi=>?_⟩⟩;have:=h.cellAt i (by omega);rw[this,List.getElem?_map,tA hi];rfl
theorem n5{W W':World}{a:Option Addr}{zs:List Int}{row:Option Nat}(h:mZ W a zs)(hg:W.grownBy W' row)(hr:∀g,a=some ⟨g,0,none⟩->¬some g=row):mZ W' a zs:=by
 rcases h with h|⟨g,ha,hlt,h⟩;·exact .inl h
 ·have hb:=hg.block g hlt (hr g ha);refine .inr ⟨g,ha,uC hlt hg.size,λi hi=>?_⟩;rw[<-h i hi];unfold World.cell?;simp only[hb]
theorem FS(w:World)(v:Value)(t:TypeId):∀j u,([v]:List Value)[j]?=some u->(w.alloc (.cells #[v] t)).cell? ((⟨w.heap.size,0,none⟩:Addr).add j)=some u:=by
 intro j u hj;match j,hj with
 |0,hj=>
   simp at hj;subst hj;have:(⟨w.heap.size,0,none⟩:Addr).add 0=⟨w.heap.size,0,none⟩:=by unfold Addr.add;split<;>simp_all
   rw[this];exact rM w _ t
 |j+1,hj=>simp at hj
theorem QG(w:World)(A:Obj)(v:Value)(t:TypeId):∀j u,([v]:List Value)[j]?=some u->((w.alloc A).alloc (.cells #[v] t)).cell? ((⟨w.heap.size+1,0,none⟩:Addr).add j)=some u:=by
 have:=FS (w.alloc A) v t;rw[pC]at this;exact this
theorem SO(s:yC)(b1 b2 b3:Option Addr)(m1 d1 m2 d2 m3 d3:Nat)(w:World)(hs:gK w b1 b2 b3 m1 m2 m3 s)(hb:(kI s).length<=100000000):
 Calls Tryz.prog 190 #[.agg #[.slice b1 m1 d1,.slice b2 m2 d2,.slice b3 m3 d3,.int .i64 s.gA,.int .i64 s.fA,.int .i64 s.nB,.int .i64 s.uA,.int .i64 s.iA]] w λe w'=>∃a c,e=.returned (.slice a (kI s).length c)/\mZ w' a (kI s)/\(∀g,a=some ⟨g,0,none⟩->w.heap.size<=g)/\Below w.heap.size w w':=by
 obtain⟨i3,hi3,hy0,hy1,hy2⟩:=qF Tryz.infoNum;obtain⟨W1,hW1,hBw,hs1,hbx⟩:=jZ w #[.slice b1 m1 d1,.slice b2 m2 d2,.slice b3 m3 d3,.int .i64 s.gA,.int .i64 s.fA,.int .i64 s.nB,.int .i64 s.uA,.int .i64 s.iA];have HW1:=aA hW1;have BX:=aA hbx;have HS:=aA (hs.sA hBw);have HM1:Hid (s.yA.length=m1):=hs.l1;have HM2:Hid (s.xB.length=m2):=hs.l2;have hx1:=hs.x1;have hx2:=hs.x2;have HBD:=aA hb;unfold maxLen at hx1;have s0:=hBw.size;have hs1':w.heap.size<W1.heap.size:=by omega
 obtain⟨y0,y1,y2,y3,y4,y5,y6,y7⟩:=gD (hbx W1 (dA _ _));obtain⟨Q,hQ⟩:∃Q,Q=kI s:=⟨_,rfl⟩;obtain⟨O,hO⟩:∃O,O=s.xB.map (λo=>o.item.seq):=⟨_,rfl⟩;have HQO:Hid (Q=s.yA.flatMap (λl=>l.map zD.seq)++O):=by show Q=_;rw[hQ,hO];rfl
 rw[<-hQ]at HBD⊢;have HO:=aA hO;clear hW1 hbx hs1 hs hb hQ hO;go_enter Tryz.func190,Tryz.ntmps190;go_wp2_with fail;rw[<-HW1.out];go_loopw[3,5,7,13,19](λu _ _ i _ wr=>∃(k:Nat)(L:List Int),k<=m1/\i=.int .i64 k/\wr.ownsRow W1.heap.size 3 1 u L.length (L.map (Value.int .i64))/\L++((s.yA.drop k).flatMap (λl=>l.map zD.seq)++O)=Q/\Below W1.heap.size W1 wr)(λ_ _ _ i _ _=>m1-(intOf i).toNat);case atStart=>exact⟨0,[],zA _,rfl,jC _ _ _ _,by rw[HQO.out];rfl,dA _ _⟩
 case round=>
  obtain⟨k,L,hk,rfl,hrow,hL,hB⟩:=hrel;have HL:=aA hL;have hBs:=hB.size;clear hL y0 y1 y2 y3 y4 y5 y6 y7;obtain⟨y0,y1,y2,y3,y4,y5,y6,y7⟩:=gD (BX.out wr hB);by_cases hlt:k<m1
  ·have HLT:=aA hlt;have hkl:k<s.yA.length:=by rw[HM1.out];exact hlt
   obtain⟨g,o,b,c,ha,hg,hl⟩:=HS.out.q1.get hkl;have hdr:s.yA.drop k=s.yA[k]::s.yA.drop (k+1):=vC hkl;subst ha;have e1:=(hl.sA hg hB).cell;have HLI:=aA hl;obtain⟨xs,hxs⟩:∃xs,xs=s.yA[k]:=⟨_,rfl⟩;rw[<-hxs]at HLI e1 hdr;obtain⟨R,hR⟩:∃R,R=(s.yA.drop (k+1)).flatMap (λl=>l.map zD.seq)++O:=⟨_,rfl⟩;have HL2:Hid (L++(xs.map zD.seq++R)=Q):=by
    show L++(xs.map zD.seq++R)=Q;rw[<-HL.out,hdr,hR,mF,gE]
   have HR:=aA hR;obtain⟨n,hn⟩:∃n,n=xs.length:=⟨_,rfl⟩;rw[<-hn]at e1;have HN:=aA hn;have hnm:n<=9223372036854775807:=by have h1:=HLI.out.le;have h2:=HLI.out.cm;unfold maxLen at h2;omega
   have j1:(0:Int)<=(k:Int):=by omega
   have j2:(k:Int)<m1:=by omega
   clear hl hxs hn hdr hR;go_wp2_with fail;go_loopw[3,7,19](λu _ i wr=>∃(j:Nat)(L:List Int),j<=n/\i=.int .i64 j/\wr.ownsRow W1.heap.size 3 1 u L.length (L.map (Value.int .i64))/\L++((xs.drop j).map zD.seq++R)=Q/\Below W1.heap.size W1 wr)(λ_ _ i _=>n-(intOf i).toNat);case atStart=>exact⟨0,L,zA _,rfl,hrow,HL2.out,hB⟩
   case round=>
    clear HL2 HL hrow;obtain⟨j,L,hj,rfl,hrow,hL,hBj⟩:=hrel;have HL:=aA hL;have s7:=hBj.size;clear hL;by_cases hjl:j<n
    ·have HJL:=aA hjl;have hjx:j<xs.length:=by rw[<-HN.out];exact hjl
     have hdr:xs.drop j=xs[j]::xs.drop (j+1):=vC hjx;rcases HLI.out.it.sA hBj with h|⟨gx,ox,hax,hgx,hxx⟩;·rw[h]at hjx;simp at hjx
     obtain⟨f0,f1,f2,f3,f4⟩:=hxx j hjx;subst hax;obtain⟨x,hx⟩:∃x,x=xs[j]:=⟨_,rfl⟩;rw[<-hx]at f0 f1 f2 f3 f4 hdr;obtain⟨sq,ky,bo,ag,de⟩:=x;dsimp only at f0 f1 f2 f3 f4;have HL3:Hid ((L++[sq])++((xs.drop (j+1)).map zD.seq++R)=Q):=by
      show(L++[sq])++((xs.drop (j+1)).map zD.seq++R)=Q;rw[<-HL.out,hdr];simp
     have hLn:L.length+1<=100000000:=by
      have:=HBD.out;rw[<-HL3.out]at this;simp at this;omega
     obtain⟨m,hm⟩:∃m,m=L.length:=⟨_,rfl⟩;rw[<-hm]at hrow hLn;have HM:=aA hm;have i1:(0:Int)<=(j:Int):=by omega
     have i2:(j:Int)<n:=by omega
     clear hx hdr hxx hm;go_wp2_with(at_builtin;refine vE _ rfl _ _ 77 rfl W1.heap.size 3 i3 (.int .i64 0) 1 8 Tryz.underlying77 hi3 hy0 hy1 hy2 rfl (by decide) _ _ _ rfl ((hrow.alloc _).alloc _) ⟨wr.heap.size+1,0,none⟩ 1 1 [.int .i64 sq] rfl rfl (QG _ _ _ _) (by simp[Value.oneCell']) (by unfold maxLen;omega) (by omega) (by simp;omega) ?_;intro v' w9 hown' hgrow _;have hB9:Below W1.heap.size W1 w9:=((hBj.alloc s7 _).alloc (by simp;omega) _).grown hgrow (by simp;omega) (nS hrow));go_roundw;case rel=>exact⟨j+1,L++[sq],HJL.out,by have:=HJL.out;go_num,by rw[dC,oD,<-HM.out];exact hown',HL3.out,hB9⟩
     case measure=>have:=HJL.out;simp[intOf];omega
    ·have hje:j=n:=by omega
     subst hje;have HL3:Hid (L++((s.yA.drop (k+1)).flatMap (λl=>l.map zD.seq)++O)=Q):=by
      show L++_=Q;have:=HL.out;rw[mD (by rw[<-HN.out];exact eA _),HR.out]at this;exact this
     clear hjl hj;go_wp2_with fail;go_roundw;case rel=>exact⟨k+1,L,HLT.out,by have:=HLT.out;go_num,hrow,HL3.out,hBj⟩
     case measure=>have:=HLT.out;simp[intOf];omega
  ·have hke:k=m1:=by omega
   subst hke;have HL3:Hid (L++O=Q):=by
    show L++O=Q;have:=HL.out;rw[mD (by rw[HM1.out];exact eA _)]at this;exact this
   clear hlt hk HL;go_wp2_with fail;go_loopw[3,9,33](λu _ i wr=>∃(j:Nat)(L:List Int),j<=m2/\i=.int .i64 j/\wr.ownsRow W1.heap.size 3 1 u L.length (L.map (Value.int .i64))/\L++(s.xB.drop j).map (λo=>o.item.seq)=Q/\Below W1.heap.size W1 wr)(λ_ _ i _=>m2-(intOf i).toNat);case atStart=>exact⟨0,L,zA _,rfl,hrow,by rw[<-HL3.out,HO.out];rfl,hB⟩
   case round=>
    clear HL3 hrow y0 y1 y2 y3 y4 y5 y6 y7;obtain⟨j,L,hj,rfl,hrow,hL,hBj⟩:=hrel;have HL:=aA hL;have s7:=hBj.size;clear hL;by_cases hjl:j<m2
    ·have HJL:=aA hjl;have hjx:j<s.xB.length:=by rw[HM2.out];exact hjl
     have hdr:s.xB.drop j=s.xB[j]::s.xB.drop (j+1):=vC hjx;obtain⟨gx,ox,hax,hgx,e1,e2,e3,e4⟩:=(HS.out.q2.sA hBj).get hjx;subst hax;obtain⟨x,hx⟩:∃x,x=s.xB[j]:=⟨_,rfl⟩;rw[<-hx]at e1 e2 e3 e4 hdr;obtain⟨tg,tk,qu,it⟩:=x;obtain⟨sq,ky,bo,ag,de⟩:=it;obtain⟨f0,f1,f2,f3,f4⟩:=e4;dsimp only at e1 e2 e3 f0 f1 f2 f3 f4;have HL3:Hid ((L++[sq])++(s.xB.drop (j+1)).map (λo=>o.item.seq)=Q):=by
      show(L++[sq])++_=Q;rw[<-HL.out,hdr];simp
     have hLn:L.length+1<=100000000:=by
      have:=HBD.out;rw[<-HL3.out]at this;simp at this;omega
     obtain⟨m,hm⟩:∃m,m=L.length:=⟨_,rfl⟩;rw[<-hm]at hrow hLn;have HM:=aA hm;have i1:(0:Int)<=(j:Int):=by omega
     have i2:(j:Int)<m2:=by omega
     clear hx hdr hm;go_wp2_with(at_builtin;refine vE _ rfl _ _ 77 rfl W1.heap.size 3 i3 (.int .i64 0) 1 8 Tryz.underlying77 hi3 hy0 hy1 hy2 rfl (by decide) _ _ _ rfl ((hrow.alloc _).alloc _) ⟨wr.heap.size+1,0,none⟩ 1 1 [.int .i64 sq] rfl rfl (QG _ _ _ _) (by simp[Value.oneCell']) (by unfold maxLen;omega) (by omega) (by simp;omega) ?_;intro v' w9 hown' hgrow _;have hB9:Below W1.heap.size W1 w9:=((hBj.alloc s7 _).alloc (by simp;omega) _).grown hgrow (by simp;omega) (nS hrow));go_roundw;case rel=>exact⟨j+1,L++[sq],HJL.out,by have:=HJL.out;go_num,by rw[dC,oD,<-HM.out];exact hown',HL3.out,hB9⟩
     case measure=>have:=HJL.out;simp[intOf];omega
    ·have hje:j=m2:=by omega
     subst hje;have HL3:L=Q:=by
      have:=HL.out;rw[mD (by rw[HM2.out];exact eA _)]at this;simpa using this
     subst HL3;obtain⟨a,c,rfl,hI⟩:=TT hrow;have HI:=aA hI;have HGE:Hid (∀g,a=some ⟨g,0,none⟩->w.heap.size<=g):=λg e=>by subst e;exact vA s0 (nS hrow g rfl)
     clear hrow hI hjl hj HL;go_wp2_with fail;go_ret;exact⟨a,c,rfl,HI.out,HGE.out,hBw.trans (hBj.mono s0)⟩
theorem PV(xs:List eF)(t:Int){k:Nat}(h:k<xs.length):((xs.take (k+1)).filter (λo=>decide (o.fE=t))).length=((xs.take k).filter (λo=>decide (o.fE=t))).length+(if xs[k].fE=t then 1 else 0):=by
 rw[rA h,yH,dC];by_cases e:xs[k].fE=t<;>simp[e]
theorem TI(s:yC)(b1 b2 b3:Option Addr)(m1 d1 m2 d2 m3 d3:Nat)(t:Int)(w:World)(hs:gK w b1 b2 b3 m1 m2 m3 s):
 Calls Tryz.prog 191 #[.agg #[.slice b1 m1 d1,.slice b2 m2 d2,.slice b3 m3 d3,.int .i64 s.gA,.int .i64 s.fA,.int .i64 s.nB,.int .i64 s.uA,.int .i64 s.iA],.int .i64 t] w λe w'=>e=.returned (.int .i64 (xE s t))/\Below w.heap.size w w':=by
 obtain⟨W1,hW1,hBw,hs1,hbx⟩:=jZ w #[.slice b1 m1 d1,.slice b2 m2 d2,.slice b3 m3 d3,.int .i64 s.gA,.int .i64 s.fA,.int .i64 s.nB,.int .i64 s.uA,.int .i64 s.iA];have HW1:=aA hW1;have BX:=aA hbx;have HS:=aA (hs.sA hBw);have HM2:Hid (s.xB.length=m2):=hs.l2;have hx2:=hs.x2;have s0:=hBw.size;obtain⟨y0,y1,y2,y3,y4,y5,y6,y7⟩:=gD (hbx W1 (dA _ _));clear hW1 hbx hs1 hs;go_enter Tryz.func191,Tryz.ntmps191;go_wp2_with fail;rw[<-HW1.out];go_loopw[5,7,11](λu _ i wr=>∃(k n:Nat),k<=m2/\i=.int .i64 k/\u=.int .i64 n/\n<=k/\n=((s.xB.take k).filter (λo=>decide (o.fE=t))).length/\Below W1.heap.size W1 wr)(λ_ _ i _=>m2-(intOf i).toNat);case atStart=>exact⟨0,0,zA _,rfl,rfl,eA _,rfl,dA _ _⟩
 case round=>
  obtain⟨k,n,hk,rfl,rfl,hnk,hn,hB⟩:=hrel;have HN:=aA hn;have hBs:=hB.size;clear hn y0 y1 y2 y3 y4 y5 y6 y7;by_cases hlt:k<m2
  ·have HLT:=aA hlt;have hkl:k<s.xB.length:=by rw[HM2.out];exact hlt
   obtain⟨g,o,ha,hg,e1,e2,e3,e4⟩:=(HS.out.q2.sA hB).get hkl;subst ha;have HST:=aA (PV s.xB t hkl);obtain⟨x,hx⟩:∃x,x=s.xB[k]:=⟨_,rfl⟩;rw[<-hx]at e1 e2 e3 e4 HST;obtain⟨tg,tk,qu,it⟩:=x;obtain⟨sq,ky,bo,ag,de⟩:=it;obtain⟨f0,f1,f2,f3,f4⟩:=e4;dsimp only at e1 e2 e3 f0 f1 f2 f3 f4 HST;rw[<-HN.out]at HST;have j1:(0:Int)<=(k:Int):=by omega
   have j2:(k:Int)<m2:=by omega
   clear hx;by_cases htk:tk=t
   ·have hb:(tk==t)=true:=by simpa using htk
    rw[qA htk]at HST;clear htk;go_wp2_with fail;go_roundw;case rel=>exact⟨k+1,n+1,HLT.out,by have:=HLT.out;go_num,by have:=HLT.out;go_num,by omega,HST.out.symm,hB.alloc hBs _⟩
    case measure=>have:=HLT.out;simp[intOf];omega
   ·have hb:(tk==t)=false:=by simpa using htk
    rw[kA htk]at HST;clear htk;go_wp2_with fail;go_roundw;case rel=>exact⟨k+1,n,HLT.out,by have:=HLT.out;go_num,rfl,by omega,HST.out.symm,hB.alloc hBs _⟩
    case measure=>have:=HLT.out;simp[intOf];omega
  ·have hke:k=m2:=by omega
   subst hke;clear hlt hk;go_wp2_with fail;go_ret;refine⟨?_,hBw.trans (hB.mono s0)⟩;have:n=xE s t:=by
    have:=HN.out;rw[iB (by rw[HM2.out];exact eA _)]at this;exact this
   show Ending.returned (Value.int .i64 (n:Nat))=_;rw[this]
theorem vW:Keyed Tryz.prog 3:=int_keyed Tryz.underlying3
theorem qw_(w:World):(zeroValue 93).run Tryz.prog w=.ok (.agg #[]) w:=by kernel_rfl
def tS(zs:List Int)(k:Nat):DataW Unit:=setOf (.agg []) ((zs.take k).map (λz=>Lit.int .i64 z))
theorem P9(zs:List Int):tS zs 0=.map []:=by simp[tS,setOf]
theorem P8(zs:List Int){k:Nat}(h:k<zs.length):tS zs (k+1)=(tS zs k).put (.int .i64 zs[k]) (.agg []):=by
 unfold tS;rw[rA h,oD,fH,fN,setOf_snoc]
theorem N9(zs:List Int)(k:Nat)(z:Int):Maps.has (tS zs k) (.int .i64 z)=decide (z∈zs.take k):=by
 unfold tS;rw[has_setOf _ _ _ (by intro y hy;obtain⟨_,_,rfl⟩:=jD.1 hy;trivial),jF,aE,mC];constructor;·rintro⟨y,hy,h⟩;obtain⟨x,hx,rfl⟩:=jD.1 hy;simp[Lit.sameKey]at h;rw[<-h];exact hx
 ·intro h;exact⟨_,jD.2 ⟨z,h,rfl⟩,by simp[Lit.sameKey]⟩
theorem qp_{z:Int}(h:0<=z/\z<1048576):(Lit.int .i64 z).wf=true:=by simp[Lit.wf,IntKind.min,IntKind.max,IntKind.bits,IntKind.signed];omega
def nX(zs:List Int)(n:Int)(k:Nat):Prop:=(zs.take k).Nodup/\∀z∈zs.take k,z<n
theorem nX.succ{zs:List Int}{n:Int}{k:Nat}(h:nX zs n k)(hk:k<zs.length)(h1:zs[k]∉zs.take k)(h2:zs[k]<n):nX zs n (k+1):=by
 unfold nX;rw[rA hk];refine⟨uO.2 ⟨h.1,by simp,λa ha b hb e=>?_⟩,λz hz=>?_⟩;·simp at hb;subst hb;subst e;exact h1 ha
 ·rcases oC.1 hz with hz|hz;·exact h.2 z hz
  ·simp at hz;subst hz;exact h2
theorem OU{s:yC}(h:nX (kI s) s.gA (kI s).length):oS s=true:=by
 unfold nX at h;rw[tP]at h;unfold oS;rw[eC h.1,Bool.true_and,qD];exact λz hz=>eC (h.2 z hz)
theorem RE{s:yC}{k:Nat}(hk:k<(kI s).length)(h:(kI s)[k]∈(kI s).take k\/s.gA<=(kI s)[k]):oS s=false:=by
 unfold oS;rcases h with h|h
 ·have:¬(kI s).Nodup:=λhn=>by
   rw[<-gF k (kI s),uO]at hn;refine hn.2.2 _ h _ ?_ rfl;rw[vC hk];exact jE
  rw[vD this];rfl
 ·rw[Bool.and_eq_false_iff];refine .inr (vG.2 ⟨_,qB hk,?_⟩);simp;exact h
theorem YD(s:yC)(b1 b2 b3:Option Addr)(m1 d1 m2 d2 m3 d3:Nat)(w:World)(hs:gK w b1 b2 b3 m1 m2 m3 s)(hb:(kI s).length<=100000000)(hq:∀z∈kI s,0<=z/\z<1048576):
 Calls Tryz.prog 159 #[.agg #[.slice b1 m1 d1,.slice b2 m2 d2,.slice b3 m3 d3,.int .i64 s.gA,.int .i64 s.fA,.int .i64 s.nB,.int .i64 s.uA,.int .i64 s.iA]] w λe w'=>e=zK (if oS s=true then 0 else 1)/\Below w.heap.size w w':=by
 obtain⟨D,hD⟩:∃D:Int,D=if oS s=true then 0 else 1:=⟨_,rfl⟩;rw[<-hD];have HD:=aA hD;clear hD;have hmm:=@run_makeMap Tryz.prog;obtain⟨W1,hW1,hBw,hs1,hbx⟩:=jZ w #[.slice b1 m1 d1,.slice b2 m2 d2,.slice b3 m3 d3,.int .i64 s.gA,.int .i64 s.fA,.int .i64 s.nB,.int .i64 s.uA,.int .i64 s.iA];have HW1:=aA hW1;have s0:=hBw.size;obtain⟨W2,hW2⟩:∃W2,W2=W1.alloc (.map #[] 0):=⟨_,rfl⟩;have hB2:Below W1.heap.size W1 W2:=by rw[hW2];exact(dA _ _).alloc (eA _) _
 have HW2:=aA hW2;have HS:=aA ((hs.sA hBw).sA hB2);have HQ:=aA hq;have HBD:=aA hb;have BX:=aA hbx;have HS1:Hid (w.heap.size+1=W1.heap.size):=hs1.symm;obtain⟨y0,y1,y2,y3,y4,y5,y6,y7⟩:=gD (hbx W2 hB2);have k02:=hBw.trans (hB2.mono s0);have s02:=k02.size;have hown0:W2.ownsMap Tryz.prog 3 unitElem W1.heap.size 0 (.map []:DataW Unit):=by rw[hW2];exact vN _ _ _ _
 have HO0:=aA hown0;clear hW1 hbx hs1 hs hb hq hW2 hown0;go_enter Tryz.func159,Tryz.ntmps159;go_wp2_with fail;rw[<-HW1.out,<-HW2.out,HS1.out];refine(SO s _ _ _ _ _ _ _ _ _ _ HS.out HBD.out).mono ?_;rintro e w3⟨a,c,rfl,hI,hge,hB3⟩;obtain⟨Z,hZ⟩:∃Z,Z=kI s:=⟨_,rfl⟩;have HZ:=aA hZ;rw[<-hZ]at hI HBD HQ⊢;obtain⟨n,hn⟩:∃n,n=Z.length:=⟨_,rfl⟩;rw[<-hn]at HBD⊢;have HN:=aA hn;have hn8:=HBD.out;have HI:=aA hI;have hwm:W1.heap.size<W2.heap.size:=by rw[HW2.out];simp
 have hmap:w3.ownsMap Tryz.prog 3 unitElem W1.heap.size 0 (.map []:DataW Unit):=by
  obtain⟨es,cl,h1,h2⟩:=HO0.out;exact⟨es,cl,(hB3.block _ hwm).trans h1,h2⟩
 have k3:Below W1.heap.size W1 w3:=hB2.trans (hB3.mono hB2.size);have HM3:=aA hmap;have HGN:Hid (∀g,a=some ⟨g,0,none⟩->¬some g=some W1.heap.size):=λg e h=>by have:=hge g e;cases h;omega
 have hs3:=hB3.size;clear hI hZ hn hmap hB3 hge y0 y1 y2 y3 y4 y5 y6 y7;go_wp2_with fail;go_loopw[4,5,6,11](λ_ _ _ i wr=>∃k:Nat,k<=n/\i=.int .i64 k/\wr.ownsMap Tryz.prog 3 unitElem W1.heap.size k (tS Z k)/\nX Z s.gA k/\Below W1.heap.size W1 wr/\mZ wr a Z/\w3.heap.size<=wr.heap.size)(λ_ _ _ i _=>n-(intOf i).toNat);case atStart=>exact⟨0,zA _,rfl,by rw[P9];exact HM3.out,⟨by simp,by simp⟩,k3,HI.out,eA _⟩
 case round=>
  obtain⟨k,hk,rfl,hown,hst,hB,hnums,hws⟩:=hrel;have HST:=aA hst;have hBs:=hB.size;have HNU:=aA hnums;clear hst hnums;by_cases hlt:k<n
  ·have HLT:=aA hlt;have hkl:k<Z.length:=by rw[<-HN.out];exact hlt
   rcases HNU.out with h|⟨g,hag,hg,hx⟩;·rw[h]at hkl;simp at hkl
   subst hag;have c1:=hx k hkl;have HSU:=aA (P8 Z hkl);have HSN:=aA (λh1 h2=>HST.out.succ hkl h1 h2);have HNO:=aA (λ(h:Z[k]∈Z.take k\/s.gA<=Z[k])=>RE (s:=s) (k:=k) (by rw[<-HZ.out];exact hkl) (by simp only[<-HZ.out];exact h));have hzr:=HQ.out _ (qB hkl);obtain⟨z,hz⟩:∃z,z=Z[k]:=⟨_,rfl⟩;rw[<-hz]at c1 HSU HSN HNO hzr;have hkey:keyOf Tryz.prog 3 (.int .i64 z)=some (.int .i64 z):=keyOf_int_mk Tryz.underlying3 (qp_ hzr);have HHAS:=aA (N9 Z k z);obtain⟨Dk,hDk⟩:∃Dk,Dk=tS Z k:=⟨_,rfl⟩;rw[<-hDk]at hown HSU HHAS;obtain⟨y0,y1,y2,y3,y4,y5,y6,y7⟩:=gD (BX.out wr hB);have j1:(0:Int)<=(k:Int):=by omega
   have j2:(k:Int)<n:=by omega
   have sk:w.heap.size<wr.heap.size:=by have:=HS1.out;omega
   have hmb:W1.heap.size<wr.heap.size:=by omega
   obtain⟨there,hth⟩:∃there,there=decide (z∈Z.take k):=⟨_,rfl⟩;have hh:Maps.has Dk (.int .i64 z)=there:=by rw[HHAS.out,hth]
   have HTH:=aA hth;clear hx hz hDk hth;go_wp2_with(at_lookup;refine vQ _ rfl _ _ 214 rfl 3 93 vW Tryz.underlying214 (qw_ _) W1.heap.size k Dk rfl hown _ _ rfl hkey ?_);by_cases hbad:there=true\/s.gA<=z;·have HN1:Hid (oS s=false):=HNO.out (hbad.imp (λh=>qJ (by rw[<-HTH.out];exact h)) id);refine(aN 1 [there,decide (s.gA<=z)] _ _ (by simp) (bI _ _ (pC _ _).symm) (by rcases hbad with h|h;exact h▸jE;rw[eC h];simp)).mono ?_;rintro e w4⟨rfl,hw4⟩;exact⟨rfl,by rw[HD.out,HN1.out];rfl,by rw[hw4];exact hBw.trans (((hB.alloc hBs _).alloc (by simp;omega) _).mono s0)⟩
   ·have hth:there=false:=by cases there with|false=>rfl|true=>exact absurd (.inl rfl) hbad
    have HS2:Hid (nX Z s.gA (k+1)):=HSN.out (of_decide_eq_false (by rw[<-HTH.out];exact hth)) (by omega);subst hth;refine(zM 1 [false,decide (s.gA<=z)] _ _ (by simp) (bI _ _ (pC _ _).symm) (by simp;omega)).mono ?_;rintro e w4⟨rfl,hw4⟩;have hown4:w4.ownsMap Tryz.prog 3 unitElem W1.heap.size k Dk:=by rw[hw4];exact(hown.alloc _).alloc _
    have l4:Below wr.heap.size wr w4:=by rw[hw4];exact((dA _ _).alloc (eA _) _).alloc (by simp) _
    have k4:Below W1.heap.size W1 w4:=hB.trans (l4.mono hBs);have s4:=l4.size;have HN4:=aA (HNU.out.sA l4);clear hw4 hbad y0 y1 y2 y3 y4 y5 y6 y7 c1 hown;go_wp2_with(at_mapUpdate;refine wpList_mapUpdate_own _ rfl _ _ _ 214 rfl 3 93 vW Tryz.underlying214 (unitElem (H:=Unit)) W1.heap.size k _ rfl hown4 (by unfold maxLen;omega) _ _ _ rfl rfl hkey _ [] unitElem_mk ?_;intro w5 hown5 hgrow5);have s5:=hgrow5.size;go_roundw;case rel=>exact⟨k+1,HLT.out,by have:=HLT.out;go_num,by rw[HSU.out];exact hown5,HS2.out,k4.grown hgrow5 (by omega) (λj hj=>by cases hj;exact eA _),n5 HN4.out hgrow5 HGN.out,by omega⟩
    case measure=>have:=HLT.out;simp[intOf];omega
  ·have hke:k=n:=by omega
   subst hke;have HYES:Hid (oS s=true):=by
    have:=HST.out;rw[HN.out,HZ.out]at this;exact OU this
   clear hlt hk;go_wp2_with fail;go_end0;exact⟨by rw[HD.out,HYES.out];rfl,hBw.trans (hB.mono s0)⟩
theorem XO(s:yC)(b1 b2 b3:Option Addr)(m1 d1 m2 d2 m3 d3:Nat)(w:World)(hs:gK w b1 b2 b3 m1 m2 m3 s)(hb:(kI s).length<=100000000)(hc:lS s=true):
 Calls Tryz.prog 161 #[.agg #[.slice b1 m1 d1,.slice b2 m2 d2,.slice b3 m3 d3,.int .i64 s.gA,.int .i64 s.fA,.int .i64 s.nB,.int .i64 s.uA,.int .i64 s.iA]] w λe w'=>e=zK (if pS s=true then 0 else 10)/\Below w.heap.size w w':=by
 obtain⟨D,hD⟩:∃D:Int,D=if pS s=true then 0 else 10:=⟨_,rfl⟩;rw[<-hD];have HD:=aA hD;obtain⟨W1,hW1,hBw,hs1,hbx⟩:=jZ w #[.slice b1 m1 d1,.slice b2 m2 d2,.slice b3 m3 d3,.int .i64 s.gA,.int .i64 s.fA,.int .i64 s.nB,.int .i64 s.uA,.int .i64 s.iA];have HW1:=aA hW1;have BX:=aA hbx;have HS:=aA (hs.sA hBw);have HBD:=aA hb;have s0:=hBw.size;obtain⟨y0,y1,y2,y3,y4,y5,y6,y7⟩:=gD (hbx W1 (dA _ _));unfold lS eP at hc;simp only[aC,mC]at hc;have HC:=aA hc;clear hW1 hbx hs1 hs hb hD hc;go_enter Tryz.func161,Tryz.ntmps161;go_wp2_with fail;rw[<-HW1.out];refine(SO s _ _ _ _ _ _ _ _ _ _ HS.out HBD.out).mono ?_;rintro e w3⟨a,c,rfl,-,-,hB3⟩;obtain⟨n,hn⟩:∃n,n=(kI s).length:=⟨_,rfl⟩;rw[<-hn]at HBD⊢;have hw1:IntKind.i64.wrap ((n:Int)+s.uA)=(n:Int)+s.uA:=by have h1:=HBD.out;have h2:=HC.out;rw[uB];omega
 have hw2:IntKind.i64.wrap ((n:Int)+s.uA+s.iA)=(n:Int)+s.uA+s.iA:=by have h1:=HBD.out;have h2:=HC.out;rw[uB];omega
 have HSM:Hid (pS s=(decide (s.nB=(n:Int)+s.uA+s.iA)&&decide (s.nB=s.gA))):=by show pS s=_;unfold pS;rw[hn]
 have s3:=hB3.size;clear y0 y1 y2 y3 y4 y5 y6 y7 hn;obtain⟨y0,y1,y2,y3,y4,y5,y6,y7⟩:=gD (BX.out w3 hB3);go_wp2_with fail;by_cases hbad:s.nB≠(n:Int)+s.uA+s.iA\/s.nB≠s.gA;·refine(aN 10 [(s.nB !=(n:Int)+s.uA+s.iA),(s.nB !=s.gA)] _ _ (by simp) (bI w3 _ rfl) (by simp;omega)).mono ?_;rintro e w4⟨rfl,hw4⟩;refine⟨rfl,?_,by rw[hw4];exact hBw.trans ((hB3.alloc s3 _).mono s0)⟩;rw[HD.out,HSM.out,show(decide (s.nB=(n:Int)+s.uA+s.iA)&&decide (s.nB=s.gA))=false by simp;omega];rfl
 ·refine(zM 10 [(s.nB !=(n:Int)+s.uA+s.iA),(s.nB !=s.gA)] _ _ (by simp) (bI w3 _ rfl) (by simp;omega)).mono ?_;rintro e w4⟨rfl,hw4⟩;have k4:Below W1.heap.size W1 w4:=by rw[hw4];exact hB3.alloc s3 _
  clear hw4;go_wp2_with fail;go_end0;refine⟨?_,hBw.trans (k4.mono s0)⟩;rw[HD.out,HSM.out,show(decide (s.nB=(n:Int)+s.uA+s.iA)&&decide (s.nB=s.gA))=true by simp;omega];rfl
theorem kR.get{W:World}{a:Option Addr}{xs:List kL}(h:kR W a xs){k:Nat}(hk:k<xs.length):∃g o,a=some ⟨g,o,none⟩/\g<W.heap.size/\W.cell? ⟨g,o+k*3,none⟩=some (.string xs[k].name)/\W.cell? ⟨g,o+k*3+1,none⟩=some (.int .i64 xs[k].yD)/\W.cell? ⟨g,o+k*3+2,none⟩=some (.int .i64 xs[k].dead):=by
 rcases h with h|⟨g,o,ha,hg,h⟩;·rw[h]at hk;simp at hk
 ·exact⟨g,o,ha,hg,h k hk⟩
def iU(p:lD)(s:yC)(q:Nat):Bool:=decide (((s.yA.getD q []).length:Int)<=(p.jB.getD q ⟨⟨#[]⟩,0,0⟩).yD)
def jU(s:yC)(k:Nat):Bool:=decide ((xE s k:Int)<=(s.nA.getD k ⟨0,0⟩).nD)
theorem DS{f:Nat->Bool}{n:Nat}(h:∀i,i<n->f i=true):(List.range n).all f=true:=by
 rw[qD];intro i hi;exact h i (fG.1 hi)
theorem EG{f:Nat->Bool}{n k:Nat}(hk:k<n)(h:f k=false):(List.range n).all f=false:=
 vG.2 ⟨k,fG.2 hk,by simp[h]⟩
theorem YC(p:lD)(a1 a2 a3:Option Addr)(n1 c1 n2 c2 n3 c3:Nat)(s:yC)(b1 b2 b3:Option Addr)(m1 d1 m2 d2 m3 d3:Nat)(w:World)(hp:sG w a1 a2 a3 n1 n2 n3 p)(hs:gK w b1 b2 b3 m1 m2 m3 s)(hm:m1=n2):
 Calls Tryz.prog 160 #[.agg #[.slice a1 n1 c1,.slice a2 n2 c2,.slice a3 n3 c3],.agg #[.slice b1 m1 d1,.slice b2 m2 d2,.slice b3 m3 d3,.int .i64 s.gA,.int .i64 s.fA,.int .i64 s.nB,.int .i64 s.uA,.int .i64 s.iA]] w λe w'=>e=zK (if(dT p s&&eT s)=true then 0 else 3)/\Below w.heap.size w w':=by
 obtain⟨D,hD⟩:∃D:Int,D=if(dT p s&&eT s)=true then 0 else 3:=⟨_,rfl⟩;rw[<-hD];have HD:=aA hD;obtain⟨W2,hW2,hBw,hs2,hbx⟩:=mV w #[.slice a1 n1 c1,.slice a2 n2 c2,.slice a3 n3 c3] #[.slice b1 m1 d1,.slice b2 m2 d2,.slice b3 m3 d3,.int .i64 s.gA,.int .i64 s.fA,.int .i64 s.nB,.int .i64 s.uA,.int .i64 s.iA];have HW2:=aA hW2;have BX:=aA hbx;have HS:=aA (hs.sA hBw);have HP:=aA (hp.sA hBw);have HM1:Hid (s.yA.length=m1):=hs.l1;have HM3:Hid (s.nA.length=m3):=hs.l3;have HN2:Hid (p.jB.length=n2):=hp.l2;have hx1:=hs.x1;have hx3:=hs.x3;have HMN:=aA hm;have s0:=hBw.size;have hs2':w.heap.size+1<W2.heap.size:=by omega
 unfold maxLen at hx1 hx3;clear hW2 hbx hs hp hs2 hD hm;obtain⟨p0,q0⟩:=BX.out W2 (dA _ _);obtain⟨x0,x1,x2⟩:=xH p0;obtain⟨y0,y1,y2,y3,y4,y5,y6,y7⟩:=gD q0;clear p0 q0;go_enter Tryz.func160,Tryz.ntmps160;go_wp2_with fail;rw[<-HW2.out];go_loopw[4,5,11](λ_ _ i wr=>∃k:Nat,k<=m1/\i=.int .i64 k/\(∀q,q<k->iU p s q=true)/\Below W2.heap.size W2 wr)(λ_ _ i _=>m1-(intOf i).toNat);case atStart=>exact⟨0,zA _,rfl,λq hq=>absurd hq (jI _),dA _ _⟩
 case round=>
  obtain⟨k,hk,rfl,ha,hB⟩:=hrel;have HA:=aA ha;have hBs:=hB.size;clear ha x0 x1 x2 y0 y1 y2 y3 y4 y5 y6 y7;obtain⟨p0,q0⟩:=BX.out wr hB;obtain⟨x0,x1,x2⟩:=xH p0;obtain⟨y0,y1,y2,y3,y4,y5,y6,y7⟩:=gD q0;clear p0 q0;by_cases hlt:k<m1
  ·have HLT:=aA hlt;have hkl:k<s.yA.length:=by rw[HM1.out];exact hlt
   have hkq:k<p.jB.length:=by rw[HN2.out,<-HMN.out];exact hlt
   obtain⟨g,o,b,c,ha,hg,hl⟩:=(HS.out.q1.sA hB).get hkl;obtain⟨g',o',ha',hg',e1,e2,e3⟩:=(HP.out.p2.sA hB).get hkq;subst ha ha';have c1:=hl.cell;have HRK:Hid (iU p s k=decide ((s.yA[k].length:Int)<=p.jB[k].yD)):=by
    show iU p s k=_;unfold iU;rw[tB,tB,tA hkl,tA hkq];rfl
   obtain⟨n,hn⟩:∃n,n=s.yA[k].length:=⟨_,rfl⟩;obtain⟨lim,hlim⟩:∃lim,lim=p.jB[k].yD:=⟨_,rfl⟩;rw[<-hn]at c1 HRK;rw[<-hlim]at e2 HRK;have j1:(0:Int)<=(k:Int):=by omega
   have j2:(k:Int)<m1:=by omega
   have j3:(k:Int)<n2:=by have:=HMN.out;omega
   clear hl hn hlim e1 e3 hkl hkq;go_wp2_with fail;by_cases hbad:lim<(n:Int)
   ·have HNO:Hid ((dT p s&&eT s)=false):=by
     show(dT p s&&eT s)=false;rw[show dT p s=false from EG (f:=iU p s) (by rw[HM1.out];exact hlt) (by rw[HRK.out];exact vD (by omega))];rfl
    refine(aN 3 [decide (lim<(n:Int))] _ _ (by simp) (bI wr _ rfl) (by simp;omega)).mono ?_;rintro e w5⟨rfl,hw5⟩;exact⟨rfl,by rw[HD.out,HNO.out];rfl,by rw[hw5];exact hBw.trans ((hB.alloc hBs _).mono s0)⟩
   ·refine(zM 3 [decide (lim<(n:Int))] _ _ (by simp) (bI wr _ rfl) (by simp;omega)).mono ?_;rintro e w5⟨rfl,hw5⟩;have k5:Below W2.heap.size W2 w5:=by rw[hw5];exact hB.alloc hBs _
    have HYK:Hid (iU p s k=true):=by show iU p s k=true;rw[HRK.out];exact eC (by omega)
    clear hw5;go_wp2_with fail;go_roundw;case rel=>exact⟨k+1,HLT.out,by have:=HLT.out;go_num,λq hq=>by
     by_cases e:q=k;·rw[e];exact HYK.out
     ·exact HA.out q (by omega),k5⟩
    case measure=>have:=HLT.out;simp[intOf];omega
  ·have hke:k=m1:=by omega
   subst hke;have HRL:Hid (dT p s=true):=by
    show(List.range s.yA.length).all (iU p s)=true;exact DS (λi hi=>HA.out i (by rw[HM1.out]at hi;exact hi))
   clear hlt hk HA;go_wp2_with fail;go_loopw[6,7,31](λ_ _ i wr=>∃k:Nat,k<=m3/\i=.int .i64 k/\(∀q,q<k->jU s q=true)/\Below W2.heap.size W2 wr)(λ_ _ i _=>m3-(intOf i).toNat);case atStart=>exact⟨0,zA _,rfl,λq hq=>absurd hq (jI _),hB⟩
   case round=>
    clear x0 x1 x2 y0 y1 y2 y3 y4 y5 y6 y7 hB hBs;obtain⟨j,hj,rfl,ha,hB⟩:=hrel;have HA:=aA ha;have hBs:=hB.size;clear ha;by_cases hlt:j<m3
    ·have HLT:=aA hlt;have hkl:j<s.nA.length:=by rw[HM3.out];exact hlt
     obtain⟨g,o,ha,hg,e1,e2⟩:=(HS.out.q3.sA hB).get hkl;subst ha;have HRK:Hid (jU s j=decide ((xE s j:Int)<=s.nA[j].nD)):=by
      show jU s j=_;unfold jU;rw[tB,tA hkl];rfl
     obtain⟨t,ht⟩:∃t,t=s.nA[j]:=⟨_,rfl⟩;rw[<-ht]at e1 e2 HRK;obtain⟨tq,tm⟩:=t;dsimp only at e1 e2 HRK;obtain⟨p0,q0⟩:=BX.out wr hB;obtain⟨y0,y1,y2,y3,y4,y5,y6,y7⟩:=gD q0;have j1:(0:Int)<=(j:Int):=by omega
     have j2:(j:Int)<m3:=by omega
     have sk:w.heap.size+1<wr.heap.size:=by omega
     obtain⟨W3,hW3⟩:∃W3,W3=wr.alloc (.cells #[.int .i64 tq,.int .i64 tm] 121):=⟨_,rfl⟩;have HW3:=aA hW3;have k3:Below W2.heap.size W2 W3:=by rw[hW3];exact hB.alloc hBs _
     have b3':W3.heap[wr.heap.size]?=some (.cells #[.int .i64 tq,.int .i64 tm] 121 (0,0)):=by rw[hW3];exact jA wr _
     have HB3:=aA b3';have s3:=k3.size;clear ht p0 q0 hW3 b3';go_wp2_with fail;rw[<-HW3.out];have SS:Hid (∀W,Below W3.heap.size W3 W->W.cell? ⟨w.heap.size+1,0,none⟩=some (.slice b1 k d1)/\W.cell? ⟨w.heap.size+1,1,none⟩=some (.slice b2 m2 d2)/\W.cell? ⟨w.heap.size+1,2,none⟩=some (.slice (some ⟨g,o,none⟩) m3 d3)/\W.cell? ⟨w.heap.size+1,3,none⟩=some (.int .i64 s.gA)/\W.cell? ⟨w.heap.size+1,4,none⟩=some (.int .i64 s.fA)/\W.cell? ⟨w.heap.size+1,5,none⟩=some (.int .i64 s.nB)/\W.cell? ⟨w.heap.size+1,6,none⟩=some (.int .i64 s.uA)/\W.cell? ⟨w.heap.size+1,7,none⟩=some (.int .i64 s.iA)/\W.cell? ⟨wr.heap.size,1,none⟩=some (.int .i64 tm)):=λW hW=>by
      have x:=gD (BX.out W (k3.trans (hW.mono s3))).2;exact⟨x.1,x.2.1,x.2.2.1,x.2.2.2.1,x.2.2.2.2.1,x.2.2.2.2.2.1,x.2.2.2.2.2.2.1,x.2.2.2.2.2.2.2,yB (pB HB3.out hW) 1⟩
     refine zB (S:=λW=>W.cell? ⟨w.heap.size+1,0,none⟩=some (.slice b1 k d1)/\W.cell? ⟨w.heap.size+1,1,none⟩=some (.slice b2 m2 d2)/\W.cell? ⟨w.heap.size+1,2,none⟩=some (.slice (some ⟨g,o,none⟩) m3 d3)/\W.cell? ⟨w.heap.size+1,3,none⟩=some (.int .i64 s.gA)/\W.cell? ⟨w.heap.size+1,4,none⟩=some (.int .i64 s.fA)/\W.cell? ⟨w.heap.size+1,5,none⟩=some (.int .i64 s.nB)/\W.cell? ⟨w.heap.size+1,6,none⟩=some (.int .i64 s.uA)/\W.cell? ⟨w.heap.size+1,7,none⟩=some (.int .i64 s.iA)/\W.cell? ⟨wr.heap.size,1,none⟩=some (.int .i64 tm)) (by kernel_rfl) (SS.out _ (dA _ _).drew) (λhHeld=>?_);obtain⟨W4,hW4⟩:∃W4,W4=W3.drew:=⟨_,rfl⟩;have KK:Hid (∀W,Below W4.heap.size W4 W->Below W3.heap.size W3 W):=λW hW=>by rw[hW4]at hW;exact⟨hW.os,hW.tape,hW.output,hW.size,hW.block⟩
     rw[<-hW4]at hHeld⊢;clear hW4 y0 y1 y2 y3 y4 y5 y6 y7 e1 e2;refine tk 0 ?_;refine tk 1 ?_;refine tk 3 ?_;refine tk 4 ?_;refine pG 2 (λK hK=>?_);go_simp;refine(TI s _ _ _ _ _ _ _ _ _ (j:Int) _ (HS.out.sA (k3.trans ((KK.out _ (dA _ _)).mono s3)))).mono ?_;rintro e w5⟨rfl,hB5⟩;obtain⟨hn,hhn⟩:∃hn,hn=xE s j:=⟨_,rfl⟩;rw[<-hhn]at HRK⊢;refine hK.out _ _ (SS.out _ (KK.out _ hB5)) (λhH5=>?_);clear hK K hhn;try refine hG ?_
     refine tk 5 ?_;refine pG 6 (λK hK=>?_);go_simp;have HIS:=aA (fQ w5 [decide (tm<(hn:Int))]);obtain⟨w6,hw6⟩:∃w6,w6=w5.alloc (.cells #[.bool (decide (tm<(hn:Int)))] 4):=⟨_,rfl⟩;have l6:Below W3.heap.size W3 w6:=by rw[hw6];exact(KK.out _ hB5).alloc (KK.out _ hB5).size _
     have HI6:Hid (lO w6 w5.heap.size 0 [decide (tm<(hn:Int))]):=by show lO w6 _ _ _;rw[hw6];exact HIS.out
     rw[<-hw6];refine hK.out _ _ (SS.out _ l6) (λhH6=>?_);clear hK K hw6;try refine hG ?_
     have k6:Below W2.heap.size W2 w6:=k3.trans (l6.mono s3);refine pG 7 (λK hK=>?_);go_simp;by_cases hbad:tm<(hn:Int)
     ·have HNO:Hid ((dT p s&&eT s)=false):=by
       show(dT p s&&eT s)=false;rw[show eT s=false from EG (f:=jU s) (by rw[HM3.out];exact hlt) (by rw[HRK.out];exact vD (by omega))];simp
      refine(aN 3 [decide (tm<(hn:Int))] _ _ (by simp) HI6.out (by simp;omega)).mono ?_;rintro e w7⟨rfl,hw7⟩;have k7:Below W2.heap.size W2 w7:=by rw[hw7];exact k6
      exact⟨rfl,by rw[HD.out,HNO.out];rfl,hBw.trans (k7.mono s0)⟩
     ·have HYK:Hid (jU s j=true):=by show jU s j=true;rw[HRK.out];exact eC (by omega)
      refine(zM 3 [decide (tm<(hn:Int))] _ _ (by simp) HI6.out (by simp;omega)).mono ?_;rintro e w7⟨rfl,hw7⟩;have k7:Below W2.heap.size W2 w7:=by rw[hw7];exact k6
      refine hK.out _ _ (SS.out _ (by rw[hw7];exact l6)) (λhH7=>?_);clear hK K hw7;refine gC (by kernel_rfl) ?_ _;go_wp2_with fail;go_roundw;case rel=>exact⟨j+1,HLT.out,by have:=HLT.out;go_num,λq hq=>by
       by_cases e:q=j;·rw[e];exact HYK.out
       ·exact HA.out q (by omega),k7⟩
      case measure=>have:=HLT.out;simp[intOf];omega
    ·have hke:j=m3:=by omega
     subst hke;have HRT:Hid (eT s=true):=by
      show(List.range s.nA.length).all (jU s)=true;exact DS (λi hi=>HA.out i (by rw[HM3.out]at hi;exact hi))
     clear hlt hj;go_wp2_with fail;go_end0;exact⟨by rw[HD.out,HRL.out,HRT.out];rfl,hBw.trans (hB.mono s0)⟩
end Go.Proofs.YtedmnjimkhamaaaGreatDoor
