import Derived.Test.YtedmnjimkhamaaaGreatDoorMgx
namespace Go.Proofs.YtedmnjimkhamaaaGreatDoor
set_option linter.unusedVariables false
set_option maxRecDepth 100000
open Go.RowKit Go.Maps
structure jH(T:TypeId)(W W':World):Prop where
 size:W.heap.size<=W'.heap.size
 block:∀(k:Nat)(cur:Array Value)(T':TypeId),W.heap[k]?=some (Obj.cells cur T' (0,0))->T'≠T->W'.heap[k]?=W.heap[k]?
theorem jH.kB{T:TypeId}{W W':World}(h:Below W.heap.size W W'):jH T W W':=⟨h.size,λk cur T' hk _=>h.block k (bE hk)⟩
theorem jH.trans{T:TypeId}{A B C:World}(h:jH T A B)(k:jH T B C):jH T A C:=⟨vA h.size k.size,λi cur T' hi hT=>(k.block i cur T' ((h.block i cur T' hi hT).trans hi) hT).trans (h.block i cur T' hi hT)⟩
theorem jH.setCell{T:TypeId}{W:World}{B i:Nat}{cur:Array Value}(hB:W.heap[B]?=some (.cells cur T (0,0)))(u:Value):jH T W (W.setCell ⟨B,i,none⟩ u):=
 ⟨by simp[World.setCell],λk cur' T' hk hT=>jG _ _ _ _ (λe=>by
  have e':k=B:=e;rw[e',hB]at hk;cases hk;exact hT rfl)⟩
theorem jH.grown{T:TypeId}{W W':World}{base size n:Nat}{v:Value}{cs:List Value}(h:W.ownsRow base T size v n cs)(hg:W.grownBy W' v.ownBlock):jH T W W':=
 ⟨hg.size,λk cur' T' hk hT=>hg.block k (bE hk) (λe=>FJ h hk (λe=>hT e.symm) e.symm)⟩
theorem jH.row{T T':TypeId}{W W':World}{base size n:Nat}{v:Value}{cs:List Value}(k:jH T W W')(h:W.ownsRow base T' size v n cs)(hT:T'≠T):W'.ownsRow base T' size v n cs:=by
 refine⟨h.1,?_⟩;rcases h.2 with h|⟨g,cap,cur,h1,h2,h3,h4⟩;·exact .inl h
 ·exact .inr ⟨g,cap,cur,h1,h2,(k.block g cur T' h3 hT).trans h3,h4⟩
theorem jH.keepI{T:TypeId}{n:Nat}{W W':World}(k:jH T W W')(hT:86≠T):pT n W W':=⟨k.size,λg cur _ hg=>k.block g cur _ hg hT⟩
theorem fI.typeT{T:TypeId}{W W':World}{n:Nat}{b1 b2 b3:Option Addr}{m1 d1 m2 d2 m3 d3:Nat}{s:yC}(h:fI W n b1 b2 b3 m1 d1 m2 d2 m3 d3 s)(k:jH T W W')(hT:86≠T/\88≠T/\121≠T/\110≠T):fI W' n b1 b2 b3 m1 d1 m2 d2 m3 d3 s:=by
 obtain⟨vs,h1,h2⟩:=h.r1;exact⟨h.l1,h.l2,h.l3,h.x2,⟨vs,k.row h1 hT.2.2.2,h2.eG (k.keepI hT.1)⟩,k.row h.r2 hT.2.1,k.row h.r3 hT.2.2.1⟩
theorem BF(xs:List kH):(rH xs).length=xs.length*2:=AE (f:=kH.cells) (λ_=>rfl) xs
theorem zU(xs:List eF):(dJ xs).length=xs.length*8:=AE (f:=eF.cells) (λ_=>rfl) xs
theorem MR(xs ys:List kH):rH (xs++ys)=rH xs++rH ys:=by unfold rH;rw[zF]
theorem rX(xs ys:List eF):dJ (xs++ys)=dJ xs++dJ ys:=by unfold dJ;rw[zF]
theorem fI.nA{W W':World}{n:Nat}{b1 b2 b3 b3':Option Addr}{m1 d1 m2 d2 m3 d3 m3' d3':Nat}{s:yC}{ts:List kH}(h:fI W n b1 b2 b3 m1 d1 m2 d2 m3 d3 s)(k:jH 121 W W')(r:W'.ownsRow n 121 2 (.slice b3' m3' d3') m3' (rH ts)):fI W' n b1 b2 b3' m1 d1 m2 d2 m3' d3' {s with nA:=ts}:=by
 obtain⟨vs,h1,h2⟩:=h.r1;refine⟨h.l1,h.l2,?_,h.x2,⟨vs,k.row h1 (by decide),h2.eG (k.keepI (by decide))⟩,k.row h.r2 (by decide),r⟩;have:=r.1;rw[BF]at this;show ts.length=m3';omega
theorem fI.xB{W W':World}{n:Nat}{b1 b2 b3 b2':Option Addr}{m1 d1 m2 d2 m3 d3 m2' d2':Nat}{s:yC}{os:List eF}(h:fI W n b1 b2 b3 m1 d1 m2 d2 m3 d3 s)(k:jH 88 W W')(hx:m2'<=100000000)(r:W'.ownsRow n 88 8 (.slice b2' m2' d2') m2' (dJ os)):fI W' n b1 b2' b3 m1 d1 m2' d2' m3 d3 {s with xB:=os}:=by
 obtain⟨vs,h1,h2⟩:=h.r1;refine⟨h.l1,?_,h.l3,hx,⟨vs,k.row h1 (by decide),h2.eG (k.keepI (by decide))⟩,r,k.row h.r3 (by decide)⟩;have:=r.1;rw[zU]at this;show os.length=m2';omega
theorem fI.line{W W':World}{n g:Nat}{b2 b3:Option Addr}{m1 d1 m2 d2 m3 d3:Nat}{s:yC}(h:fI W n (some ⟨g,0,none⟩) b2 b3 m1 d1 m2 d2 m3 d3 s){q:Nat}(hq:q<s.yA.length){xs:List zD}{v:Value}{b:Option Addr}{c:Nat}(hv:yP W n xs v b c)(hW:W'=W.setCell ⟨g,q,none⟩ v):fI W' n (some ⟨g,0,none⟩) b2 b3 m1 d1 m2 d2 m3 d3 {s with yA:=s.yA.set q xs}:=by
 obtain⟨vs,h1,h2⟩:=h.r1;obtain⟨_,cur,hg⟩:=mT h1;have k:jH 110 W W':=by rw[hW];exact jH.setCell hg v
 have hs:=h1.stored q v;have ki:pT n W W':=k.keepI (by decide);refine⟨by show(s.yA.set q xs).length=m1;rw[kF];exact h.l1,h.l2,h.l3,h.x2,⟨vs.set q v,by rw[hW];exact hs.1,?_⟩,k.row h.r2 (by decide),k.row h.r3 (by decide)⟩;refine⟨by show(vs.set q v).length=(s.yA.set q xs).length;rw[kF,kF];exact h2.len,λi hi=>?_⟩;have hi':i<s.yA.length:=by simpa using hi
 by_cases e:i=q;·subst e;refine⟨v,b,c,by rw[rE,qA rfl,qA (by rw[h2.len];exact hi')],?_⟩;have:(s.yA.set i xs)[i]'hi=xs:=List.getElem_set_self _;rw[this];exact hv.eG ki
 ·obtain⟨u,b',c',e1,e2⟩:=h2.get i hi';refine⟨u,b',c',by rw[rE,kA (λe'=>e e'.symm)];exact e1,?_⟩;have:(s.yA.set q xs)[i]'hi=s.yA[i]:=yM (λe'=>e e'.symm) _;rw[this];exact e2.eG ki
theorem MZ{xs:List kH}{k:Nat}(hk:k<xs.length)(x:kH):((rH xs).set (k*2) (.int .i64 x.queue)).set (k*2+1) (.int .i64 x.nD)=rH (xs.set k x):=by
 apply List.ext_getElem?;intro j;rw[rE,rE];rcases xG j (xs.length*2)with h|h
 ·obtain⟨h1,h2,h3⟩:=TF (k:=2) (by omega) h;have e1:=dU (f:=kH.cells) (k:=2) (λ_=>rfl) xs _ h1 _ h2;have e2:=dU (f:=kH.cells) (k:=2) (λ_=>rfl) (xs.set k x) (j/2) (by rw[kF];exact h1) _ h2;rw[h3]at e1 e2;have e3:(rH (xs.set k x))[j]?=_:=e2;have e4:(rH xs)[j]?=_:=e1;have hl:j<(rH xs).length:=by rw[BF];exact h
  have hl2:j<((rH xs).set (k*2) (.int .i64 x.queue)).length:=by rw[kF];exact hl
  rw[e3,e4];by_cases c1:k*2+1=j
  ·have a1:j/2=k:=by omega
   have a2:j%2=1:=by omega
   rw[qA c1,qA (by rw[c1];exact hl2)];simp[a1,a2,kH.cells]
  ·rw[kA c1];by_cases c2:k*2=j
   ·have a1:j/2=k:=by omega
    have a2:j%2=0:=by omega
    rw[qA c2,qA (by rw[c2];exact hl)];simp[a1,a2,kH.cells]
   ·rw[kA c2];have a1:j/2≠k:=by omega
    rw[yM (λe=>a1 e.symm)]
 ·have hl:(rH xs).length<=j:=by rw[BF];exact h
  rw[kA (by omega),kA (by omega),tF hl,tF (by rw[BF,kF];exact h)]
theorem fI.fE{W W':World}{n g:Nat}{b1 b2:Option Addr}{m1 d1 m2 d2 m3 d3:Nat}{s:yC}(h:fI W n b1 b2 (some ⟨g,0,none⟩) m1 d1 m2 d2 m3 d3 s){k:Nat}(hk:k<s.nA.length)(x:kH)(hW:W'=(W.setCell ⟨g,k*2,none⟩ (.int .i64 x.queue)).setCell ⟨g,k*2+1,none⟩ (.int .i64 x.nD)):fI W' n b1 b2 (some ⟨g,0,none⟩) m1 d1 m2 d2 m3 d3 {s with nA:=s.nA.set k x}/\jH 121 W W'/\n<=g:=by
 obtain⟨hn,cur,hg⟩:=mT h.r3;have s1:=h.r3.stored (k*2) (.int .i64 x.queue);obtain⟨_,cur1,hg1⟩:=mT s1.1;have s2:=s1.1.stored (k*2+1) (.int .i64 x.nD);have kt:jH 121 W W':=by rw[hW];exact(jH.setCell hg _).trans (jH.setCell hg1 _)
 refine⟨h.nA kt ?_,kt,hn⟩;rw[hW,<-MZ hk];exact s2.1
theorem mE.sA{W W':World}{n t:Nat}{s:yC}(h:mE W n t s)(hB:Below W.heap.size W W'):mE W' n t s:=by
 obtain⟨b1,b2,b3,m1,d1,m2,d2,m3,d3,h1,h2⟩:=h;exact⟨b1,b2,b3,m1,d1,m2,d2,m3,d3,pB h1 hB,h2.sA hB⟩
theorem mE.drew{W:World}{n t:Nat}{s:yC}(h:mE W n t s):mE W.drew n t s:=h.sA (dA _ _).drew
theorem qE.drew{n t:Nat}{A B:World}(h:qE n t A B):qE n t A B.drew:=⟨h.os,h.tape,h.output,h.size,h.block⟩
theorem qE.typeSet{n t:Nat}{A B:World}(h:qE n t A B){g i:Nat}(hg:n<=g)(u:Value):qE n t A (B.setCell ⟨g,i,none⟩ u):=h.setCell (p:=⟨g,i,none⟩) (.inl hg) u
theorem kK.bF{W W':World}{n t:Nat}{v:Value}{E:Int}{s:yC}{cur:Array Value}(h:kK W n v E s)(ht:W.heap[t]?=some (.cells cur 39 (0,0)))(k:vJ t W W'):kK W' n v E s:=by
 refine⟨λe=>?_,h.2⟩;obtain⟨b1,b2,b3,m1,d1,m2,d2,m3,d3,h1,h2⟩:=h.1 e;exact⟨b1,b2,b3,m1,d1,m2,d2,m3,d3,h1,h2.bF ht (by decide) k⟩
theorem kK.shape{W:World}{n:Nat}{v:Value}{E:Int}{s:yC}(h:kK W n v E s):∃(x1 x2 x3:Option Addr)(k1 e1 k2 e2 k3 e3:Nat)(i1 i2 i3 i4 i5:Int),v=.agg #[.slice x1 k1 e1,.slice x2 k2 e2,.slice x3 k3 e3,.int .i64 i1,.int .i64 i2,.int .i64 i3,.int .i64 i4,.int .i64 i5]:=by
 by_cases hE:E=0;·obtain⟨_,_,_,_,_,_,_,_,_,rfl,_⟩:=h.1 hE;exact⟨_,_,_,_,_,_,_,_,_,_,_,_,_,_,rfl⟩
 ·rw[h.2 hE];exact⟨_,_,_,_,_,_,_,_,_,_,_,_,_,_,rfl⟩
theorem fI.same{W:World}{n:Nat}{b1 b2 b3:Option Addr}{m1 d1 m2 d2 m3 d3:Nat}{s s':yC}(h:fI W n b1 b2 b3 m1 d1 m2 d2 m3 d3 s)(h1:s'.yA=s.yA)(h2:s'.xB=s.xB)(h3:s'.nA=s.nA):fI W n b1 b2 b3 m1 d1 m2 d2 m3 d3 s':=by
 refine⟨by rw[h1];exact h.l1,by rw[h2];exact h.l2,by rw[h3];exact h.l3,h.x2,by rw[h1];exact h.r1,by rw[h2];exact h.r2,by rw[h3];exact h.r3⟩
end Go.Proofs.YtedmnjimkhamaaaGreatDoor
