import Derived.Test.YtlbnkpicnokgoaaGreatUex
import Derived.Test.YtlbnkpicnokgoaaGreatUcx
import Derived.Deep.RegionHeld3
import Derived.BigQuiet
import Derived.Test.YtlbnkpicnokgoaaGreatUax
import Derived.Lib.AppendStr
import Derived.Laws.BytesArg
namespace Go.Proofs.YtlbnkpicnokgoaaGreat
open Go.RowKit Go.Maps
set_option linter.unusedVariables false
set_option maxRecDepth 100000
structure av_ (T:TypeId) (W W':World):Prop where
 size:W.heap.size≤W'.heap.size
 block:∀ (k:Nat) (cur:Array Value) (T':TypeId),W.heap[k]? = some (Obj.cells cur T' (0,0))→T'≠T→W'.heap[k]? = W.heap[k]?
theorem av_.of_below {T:TypeId} {W W':World} (h:Below W.heap.size W W'):av_ T W W':=⟨h.size,fun k cur T' hk _=>h.block k (lth_ hk)⟩
theorem av_.trans {T:TypeId} {A B C:World} (h:av_ T A B) (k:av_ T B C):av_ T A C:=⟨Nat.le_trans h.size k.size,fun i cur T' hi hT=>(k.block i cur T' ((h.block i cur T' hi hT).trans hi) hT).trans (h.block i cur T' hi hT)⟩
theorem av_.setCell {T:TypeId} {W:World} {B i:Nat} {cur:Array Value} (hB:W.heap[B]? = some (.cells cur T (0,0))) (u:Value):av_ T W (W.setCell ⟨B,i,none⟩ u):=
 ⟨by simp [World.setCell],fun k cur' T' hk hT=>heap_setCell_other _ _ _ _ (fun e=>by
  have e':k = B:=e;rw [e',hB] at hk;cases hk;exact hT rfl)⟩
theorem av_.grown {T:TypeId} {W W':World} {base size n:Nat} {v:Value} {cs:List Value} (h:W.ownsRow base T size v n cs) (hg:W.grownBy W' v.ownBlock):av_ T W W':=
 ⟨hg.size,fun k cur' T' hk hT=>hg.block k (lth_ hk) (fun e=>eP_ h hk (fun e=>hT e.symm) e.symm)⟩
theorem av_.row {T T':TypeId} {W W':World} {base size n:Nat} {v:Value} {cs:List Value} (k:av_ T W W') (h:W.ownsRow base T' size v n cs) (hT:T'≠T):W'.ownsRow base T' size v n cs:=by
 refine ⟨h.1,?_⟩;rcases h.2 with h | ⟨g,cap,cur,h1,h2,h3,h4⟩
 ·exact .inl h
 ·exact .inr ⟨g,cap,cur,h1,h2,(k.block g cur T' h3 hT).trans h3,h4⟩
theorem av_.keepI {T:TypeId} {n:Nat} {W W':World} (k:av_ T W W') (hT:48≠T):dI_ n W W':=⟨k.size,fun g cur _ hg=>k.block g cur _ hg hT⟩
theorem aM_.typeT {T:TypeId} {W W':World} {n:Nat} {b1 b2 b3:Option Addr} {m1 d1 m2 d2 m3 d3:Nat} {s:ab_} (h:aM_ W n b1 b2 b3 m1 d1 m2 d2 m3 d3 s) (k:av_ T W W') (hT:48≠T∧67≠T∧69≠T∧46≠T):aM_ W' n b1 b2 b3 m1 d1 m2 d2 m3 d3 s:=by
 obtain ⟨vs,h1,h2⟩:=h.r1;exact ⟨h.l1,h.l2,h.l3,h.x2,⟨vs,k.row h1 hT.2.2.2,h2.keepT (k.keepI hT.1)⟩,k.row h.r2 hT.2.1,k.row h.r3 hT.2.2.1⟩
theorem bq_ (xs:List aj_):(tkC_ xs).length = xs.length * 2:=bK_ (f:=aj_.cells) (fun _=>rfl) xs
theorem aG_ (xs:List OutD):(ah_ xs).length = xs.length * 8:=bK_ (f:=OutD.cells) (fun _=>rfl) xs
theorem dj_ (xs ys:List aj_):tkC_ (xs ++ ys) = tkC_ xs ++ tkC_ ys:=by unfold tkC_;rw [List.flatMap_append]
theorem aS_ (xs ys:List OutD):ah_ (xs ++ ys) = ah_ xs ++ ah_ ys:=by unfold ah_;rw [List.flatMap_append]
theorem aM_.takers {W W':World} {n:Nat} {b1 b2 b3 b3':Option Addr} {m1 d1 m2 d2 m3 d3 m3' d3':Nat} {s:ab_} {ts:List aj_} (h:aM_ W n b1 b2 b3 m1 d1 m2 d2 m3 d3 s) (k:av_ 69 W W') (r:W'.ownsRow n 69 2 (.slice b3' m3' d3') m3' (tkC_ ts)):aM_ W' n b1 b2 b3' m1 d1 m2 d2 m3' d3' { s with takers:=ts }:=by
 obtain ⟨vs,h1,h2⟩:=h.r1;refine ⟨h.l1,h.l2,?_,h.x2,⟨vs,k.row h1 (by decide),h2.keepT (k.keepI (by decide))⟩,k.row h.r2 (by decide),r⟩;have:=r.1;rw [bq_] at this;show ts.length = m3';omega
theorem aM_.outs {W W':World} {n:Nat} {b1 b2 b3 b2':Option Addr} {m1 d1 m2 d2 m3 d3 m2' d2':Nat} {s:ab_} {os:List OutD} (h:aM_ W n b1 b2 b3 m1 d1 m2 d2 m3 d3 s) (k:av_ 67 W W') (hx:m2'≤100000000) (r:W'.ownsRow n 67 8 (.slice b2' m2' d2') m2' (ah_ os)):aM_ W' n b1 b2' b3 m1 d1 m2' d2' m3 d3 { s with outs:=os }:=by
 obtain ⟨vs,h1,h2⟩:=h.r1;refine ⟨h.l1,?_,h.l3,hx,⟨vs,k.row h1 (by decide),h2.keepT (k.keepI (by decide))⟩,r,k.row h.r3 (by decide)⟩;have:=r.1;rw [aG_] at this;show os.length = m2';omega
theorem aM_.line {W W':World} {n g:Nat} {b2 b3:Option Addr} {m1 d1 m2 d2 m3 d3:Nat} {s:ab_} (h:aM_ W n (some ⟨g,0,none⟩) b2 b3 m1 d1 m2 d2 m3 d3 s) {q:Nat} (hq:q < s.ready.length) {xs:List ae_} {v:Value} {b:Option Addr} {c:Nat} (hv:cG_ W n xs v b c) (hW:W' = W.setCell ⟨g,q,none⟩ v):aM_ W' n (some ⟨g,0,none⟩) b2 b3 m1 d1 m2 d2 m3 d3 { s with ready:=s.ready.set q xs }:=by
 obtain ⟨vs,h1,h2⟩:=h.r1;obtain ⟨_,cur,hg⟩:=aT_ h1;have k:av_ 46 W W':=by rw [hW];exact av_.setCell hg v
 have hs:=h1.stored q v;have ki:dI_ n W W':=k.keepI (by decide);refine ⟨by show (s.ready.set q xs).length = m1;rw [List.length_set];exact h.l1,h.l2,h.l3,h.x2,⟨vs.set q v,by rw [hW];exact hs.1,?_⟩,k.row h.r2 (by decide),k.row h.r3 (by decide)⟩;refine ⟨by show (vs.set q v).length = (s.ready.set q xs).length;rw [List.length_set,List.length_set];exact h2.len,fun i hi=>?_⟩;have hi':i < s.ready.length:=by simpa using hi
 by_cases e:i = q
 ·subst e;refine ⟨v,b,c,by rw [List.getElem?_set,if_pos rfl,if_pos (by rw [h2.len];exact hi')],?_⟩;have:(s.ready.set i xs)[i]'hi = xs:=List.getElem_set_self _;rw [this];exact hv.keepT ki
 ·obtain ⟨u,b',c',e1,e2⟩:=h2.get i hi';refine ⟨u,b',c',by rw [List.getElem?_set,if_neg (fun e'=>e e'.symm)];exact e1,?_⟩;have:(s.ready.set q xs)[i]'hi = s.ready[i]:=List.getElem_set_ne (fun e'=>e e'.symm) _;rw [this];exact e2.keepT ki
theorem el_ {xs:List aj_} {k:Nat} (hk:k < xs.length) (x:aj_):((tkC_ xs).set (k * 2) (.int .i64 x.queue)).set (k * 2+1) (.int .i64 x.most) = tkC_ (xs.set k x):=by
 apply List.ext_getElem?
 intro j;rw [List.getElem?_set,List.getElem?_set];rcases Nat.lt_or_ge j (xs.length * 2) with h | h
 ·obtain ⟨h1,h2,h3⟩:=jM_ (k:=2) (by omega) h;have e1:=bJ_ (f:=aj_.cells) (k:=2) (fun _=>rfl) xs _ h1 _ h2;have e2:=bJ_ (f:=aj_.cells) (k:=2) (fun _=>rfl) (xs.set k x) (j / 2) (by rw [List.length_set];exact h1) _ h2;rw [h3] at e1 e2;have e3:(tkC_ (xs.set k x))[j]? = _:=e2;have e4:(tkC_ xs)[j]? = _:=e1;have hl:j < (tkC_ xs).length:=by rw [bq_];exact h
  have hl2:j < ((tkC_ xs).set (k * 2) (.int .i64 x.queue)).length:=by rw [List.length_set];exact hl
  rw [e3,e4];by_cases c1:k * 2+1 = j
  ·have a1:j / 2 = k:=by omega
   have a2:j % 2 = 1:=by omega
   rw [if_pos c1,if_pos (by rw [c1];exact hl2)];simp [a1,a2,aj_.cells]
  ·rw [if_neg c1];by_cases c2:k * 2 = j
   ·have a1:j / 2 = k:=by omega
    have a2:j % 2 = 0:=by omega
    rw [if_pos c2,if_pos (by rw [c2];exact hl)];simp [a1,a2,aj_.cells]
   ·rw [if_neg c2];have a1:j / 2≠k:=by omega
    rw [List.getElem_set_ne (fun e=>a1 e.symm)]
 ·have hl:(tkC_ xs).length≤j:=by rw [bq_];exact h
  rw [if_neg (by omega),if_neg (by omega),List.getElem?_eq_none hl,List.getElem?_eq_none (by rw [bq_,List.length_set];exact h)]
theorem aM_.taker {W W':World} {n g:Nat} {b1 b2:Option Addr} {m1 d1 m2 d2 m3 d3:Nat} {s:ab_} (h:aM_ W n b1 b2 (some ⟨g,0,none⟩) m1 d1 m2 d2 m3 d3 s) {k:Nat} (hk:k < s.takers.length) (x:aj_) (hW:W' = (W.setCell ⟨g,k * 2,none⟩ (.int .i64 x.queue)).setCell ⟨g,k * 2+1,none⟩ (.int .i64 x.most)):aM_ W' n b1 b2 (some ⟨g,0,none⟩) m1 d1 m2 d2 m3 d3 { s with takers:=s.takers.set k x }∧av_ 69 W W'∧n≤g:=by
 obtain ⟨hn,cur,hg⟩:=aT_ h.r3;have s1:=h.r3.stored (k * 2) (.int .i64 x.queue);obtain ⟨_,cur1,hg1⟩:=aT_ s1.1;have s2:=s1.1.stored (k * 2+1) (.int .i64 x.most);have kt:av_ 69 W W':=by rw [hW];exact (av_.setCell hg _).trans (av_.setCell hg1 _)
 refine ⟨h.takers kt ?_,kt,hn⟩;rw [hW,← el_ hk];exact s2.1
theorem StBox.keep {W W':World} {n t:Nat} {s:ab_} (h:StBox W n t s) (hB:Below W.heap.size W W'):StBox W' n t s:=by
 obtain ⟨b1,b2,b3,m1,d1,m2,d2,m3,d3,h1,h2⟩:=h;exact ⟨b1,b2,b3,m1,d1,m2,d2,m3,d3,pkp_ h1 hB,h2.keep hB⟩
theorem StBox.drew {W:World} {n t:Nat} {s:ab_} (h:StBox W n t s):StBox W.drew n t s:=h.keep (Below.refl _ _).drew
theorem ac_.drew {n t:Nat} {A B:World} (h:ac_ n t A B):ac_ n t A B.drew:=⟨h.os,h.tape,h.output,h.size,h.block⟩
theorem ac_.typeSet {n t:Nat} {A B:World} (h:ac_ n t A B) {g i:Nat} (hg:n≤g) (u:Value):ac_ n t A (B.setCell ⟨g,i,none⟩ u):=h.setCell (p:=⟨g,i,none⟩) (.inl hg) u
theorem bn_.turn {W W':World} {n t:Nat} {v:Value} {E:Int} {s:ab_} {cur:Array Value} (h:bn_ W n v E s) (ht:W.heap[t]? = some (.cells cur 31 (0,0))) (k:aZ_ t W W'):bn_ W' n v E s:=by
 refine ⟨fun e=>?_,h.2⟩;obtain ⟨b1,b2,b3,m1,d1,m2,d2,m3,d3,h1,h2⟩:=h.1 e;exact ⟨b1,b2,b3,m1,d1,m2,d2,m3,d3,h1,h2.turn ht (by decide) k⟩
theorem bn_.shape {W:World} {n:Nat} {v:Value} {E:Int} {s:ab_} (h:bn_ W n v E s):∃ (x1 x2 x3:Option Addr) (k1 e1 k2 e2 k3 e3:Nat) (i1 i2 i3 i4 i5:Int),v = .agg #[.slice x1 k1 e1,.slice x2 k2 e2,.slice x3 k3 e3,.int .i64 i1,.int .i64 i2,.int .i64 i3,.int .i64 i4,.int .i64 i5]:=by
 by_cases hE:E = 0
 ·obtain ⟨_,_,_,_,_,_,_,_,_,rfl,_⟩:=h.1 hE;exact ⟨_,_,_,_,_,_,_,_,_,_,_,_,_,_,rfl⟩
 ·rw [h.2 hE];exact ⟨_,_,_,_,_,_,_,_,_,_,_,_,_,_,rfl⟩
theorem aM_.same {W:World} {n:Nat} {b1 b2 b3:Option Addr} {m1 d1 m2 d2 m3 d3:Nat} {s s':ab_} (h:aM_ W n b1 b2 b3 m1 d1 m2 d2 m3 d3 s) (h1:s'.ready = s.ready) (h2:s'.outs = s.outs) (h3:s'.takers = s.takers):aM_ W n b1 b2 b3 m1 d1 m2 d2 m3 d3 s':=by
 refine ⟨by rw [h1];exact h.l1,by rw [h2];exact h.l2,by rw [h3];exact h.l3,h.x2,by rw [h1];exact h.r1,by rw [h2];exact h.r2,by rw [h3];exact h.r3⟩
def Blk (W:World) (n g:Nat) (T:TypeId) (z:Nat):Prop:=n≤g∧∃ cur,W.heap[g]? = some (.cells cur T (0,0))∧z≤cur.size
theorem Blk.set {W:World} {n g h i z:Nat} {T:TypeId} (hb:Blk W n g T z) (u:Value):Blk (W.setCell ⟨h,i,none⟩ u) n g T z:=by
 obtain ⟨h1,cur,h2,h3⟩:=hb;by_cases e:h = g
 ·subst e;exact ⟨h1,_,scb_ h2 u,by rw [Array.size_setIfInBounds];exact h3⟩
 ·exact ⟨h1,cur,(heap_setCell_other W ⟨h,i,none⟩ g u (fun e'=>e e'.symm)).trans h2,h3⟩
theorem Blk.cell {W:World} {n g z:Nat} {T:TypeId} (hb:Blk W n g T z) {i:Nat} (hi:i < z):(∃ u,W.cell? ⟨g,i,none⟩ = some u)∧W.frozen? ⟨g,i,none⟩ = false:=by
 obtain ⟨h1,cur,h2,h3⟩:=hb;exact ⟨⟨cur[i]'(by omega),by rw [coc_ h2,Array.getElem?_eq_getElem (by omega)]⟩,foc_ h2 i⟩
theorem Blk.ne {W:World} {n g z h:Nat} {T T':TypeId} {cur:Array Value} (hb:Blk W n g T z) (hh:W.heap[h]? = some (.cells cur T' (0,0))) (hT:T'≠T):g≠h:=fun e=>by
 obtain ⟨_,cur',h2,_⟩:=hb;rw [e,hh] at h2;cases h2;exact hT rfl
def SpB (W:World) (n:Nat) (b:Option Addr) (m:Nat) (T:TypeId) (z:Nat):Prop:=m = 0∨∃ g,b = some ⟨g,0,none⟩∧Blk W n g T (m * z)
theorem SpB.set {W:World} {n m z h i:Nat} {b:Option Addr} {T:TypeId} (hb:SpB W n b m T z) (u:Value):SpB (W.setCell ⟨h,i,none⟩ u) n b m T z:=by
 rcases hb with hb | ⟨g,h1,h2⟩
 ·exact .inl hb
 ·exact .inr ⟨g,h1,h2.set u⟩
def SpL (W:World) (n:Nat) (v:Value):Prop:=∃ b L c,v = .slice b L c∧L≤100∧(L = 0∨∃ g o,b = some ⟨g,o,none⟩∧Blk W n g 48 (o+L * 5))
theorem SpL.set {W:World} {n h i:Nat} {v:Value} (hb:SpL W n v) (u:Value):SpL (W.setCell ⟨h,i,none⟩ u) n v:=by
 obtain ⟨b,L,c,h1,h2,h3⟩:=hb;refine ⟨b,L,c,h1,h2,?_⟩;rcases h3 with h3 | ⟨g,o,h4,h5⟩
 ·exact .inl h3
 ·exact .inr ⟨g,o,h4,h5.set u⟩
def SpR (W:World) (n:Nat) (b:Option Addr) (m:Nat):Prop:=m = 0∨∃ g cur,b = some ⟨g,0,none⟩∧n≤g∧W.heap[g]? = some (.cells cur 46 (0,0))∧∀ q,q < m→∃ v,cur[q]? = some v∧SpL W n v
theorem SpR.set {W:World} {n h i z m:Nat} {b:Option Addr} {T:TypeId} (hb:SpR W n b m) (hh:Blk W n h T z) (hT:46≠T) (u:Value):SpR (W.setCell ⟨h,i,none⟩ u) n b m:=by
 rcases hb with hb | ⟨g,cur,h1,h2,h3,h4⟩
 ·exact .inl hb
 ·refine .inr ⟨g,cur,h1,h2,(heap_setCell_other W ⟨h,i,none⟩ g u (fun e=>hh.ne h3 hT e.symm)).trans h3,fun q hq=>?_⟩;obtain ⟨v,h5,h6⟩:=h4 q hq;exact ⟨v,h5,h6.set u⟩
structure SpA (W0 W:World) (B:Nat) (u:Array Value) (b1 b2 b3:Option Addr) (m1 m2 m3:Nat):Prop where
 box:W.heap[B]? = some (.cells u 31 (0,0))
 rd:SpR W W0.heap.size b1 m1
 ou:SpB W W0.heap.size b2 m2 67 8
 tk:SpB W W0.heap.size b3 m3 69 2
 bel:Below W0.heap.size W0 W
theorem SpA.set {W0 W:World} {B:Nat} {u:Array Value} {b1 b2 b3:Option Addr} {m1 m2 m3 h i z:Nat} {T:TypeId} (H:SpA W0 W B u b1 b2 b3 m1 m2 m3) (hh:Blk W W0.heap.size h T z) (hT:46≠T∧31≠T) (x:Value):SpA W0 (W.setCell ⟨h,i,none⟩ x) B u b1 b2 b3 m1 m2 m3:=
 ⟨(heap_setCell_other W ⟨h,i,none⟩ B x (fun e=>hh.ne H.box hT.2 e.symm)).trans H.box,H.rd.set hh hT.1 x,H.ou.set x,H.tk.set x,H.bel.setCell (p:=⟨h,i,none⟩) hh.1 x⟩
theorem SpA.nil {W0 W:World} {B:Nat} {u:Array Value} {b2 b3:Option Addr} {m1 m2 m3 g q:Nat} (H:SpA W0 W B u (some ⟨g,0,none⟩) b2 b3 m1 m2 m3) (hq:q < m1):SpA W0 (W.setCell ⟨g,q,none⟩ (.slice none 0 0)) B u (some ⟨g,0,none⟩) b2 b3 m1 m2 m3:=by
 rcases H.rd with h | ⟨g',cur,e,h2,h3,h4⟩
 ·omega
 ·cases e;have hne:g≠B:=fun e=>by have:=H.box;rw [← e,h3] at this;cases this
  refine ⟨(heap_setCell_other W ⟨g,q,none⟩ B _ (fun e=>hne e.symm)).trans H.box,.inr ⟨g,_,rfl,h2,scb_ h3 _,fun k hk=>?_⟩,H.ou.set _,H.tk.set _,H.bel.setCell (p:=⟨g,q,none⟩) h2 _⟩;obtain ⟨v,h5,h6⟩:=h4 k hk;rw [Array.getElem?_setIfInBounds];by_cases e:q = k
  ·subst e;have hs:q < cur.size:=(Array.getElem?_eq_some_iff.1 h5).1;rw [if_pos rfl,if_pos hs];exact ⟨_,rfl,none,0,0,rfl,Nat.zero_le _,.inl rfl⟩
  ·rw [if_neg e];exact ⟨v,h5,h6.set _⟩
theorem SpA.line {W0 W:World} {B:Nat} {u:Array Value} {b1 b2 b3:Option Addr} {m1 m2 m3 q:Nat} (H:SpA W0 W B u b1 b2 b3 m1 m2 m3) (hq:q < m1):∃ g cur b L c,b1 = some ⟨g,0,none⟩∧W.heap[g]? = some (.cells cur 46 (0,0))∧cur[q]? = some (.slice b L c)∧L≤100∧(L = 0∨∃ g o,b = some ⟨g,o,none⟩∧Blk W W0.heap.size g 48 (o+L * 5)):=by
 rcases H.rd with h | ⟨g,cur,e,h2,h3,h4⟩
 ·omega
 ·obtain ⟨v,h5,b,L,c,rfl,h7,h8⟩:=h4 q hq;exact ⟨g,cur,b,L,c,e,h3,h5,h7,h8⟩
theorem l5_ {W:World} {n:Nat} {T:TypeId} {z:Nat} {b:Option Addr} {m c:Nat} {cs:List Value} (h:W.ownsRow n T z (.slice b m c) m cs) (hl:cs.length = m * z):SpB W n b m T z:=by
 rcases h.2 with ⟨e,e0⟩ | ⟨g,cap,cur,e,_⟩
 ·exact .inl e0
 ·cases e;obtain ⟨h1,cu,h2⟩:=aT_ h;refine .inr ⟨g,rfl,h1,cu,h2,?_⟩;rcases Nat.eq_zero_or_pos (m * z) with h0 | h0
  ·omega
  ·have h3:=h.cellAt (m * z - 1) (by omega);rw [coc_ h2,List.getElem?_eq_getElem (by omega)] at h3;have:=(Array.getElem?_eq_some_iff.1 h3).1;omega
theorem aM_.sp {W0 W:World} {B:Nat} {b1 b2 b3:Option Addr} {m1 d1 m2 d2 m3 d3:Nat} {s:ab_} {u:Array Value} (h:aM_ W W0.heap.size b1 b2 b3 m1 d1 m2 d2 m3 d3 s) (hl:∀ l ∈ s.ready,l.length≤100) (hb:W.heap[B]? = some (.cells u 31 (0,0))) (hB:Below W0.heap.size W0 W):SpA W0 W B u b1 b2 b3 m1 m2 m3:=by
 refine ⟨hb,?_,l5_ h.r2 (by rw [aG_,h.l2]),l5_ h.r3 (by rw [bq_,h.l3]),hB⟩;obtain ⟨vs,hr,hv⟩:=h.r1;rcases hr.2 with ⟨e,e0⟩ | ⟨g,cap,cur,e,_⟩
 ·exact .inl e0
 ·cases e;obtain ⟨h1,cu,h2⟩:=aT_ hr;refine .inr ⟨g,cu,rfl,h1,h2,fun q hq=>?_⟩;have hql:q < s.ready.length:=by rw [h.l1];exact hq
  obtain ⟨v,b,c,hq1,hlv⟩:=hv.get q hql;refine ⟨v,?_,b,_,c,hlv.v,hl _ (List.getElem_mem hql),?_⟩
  ·have:=hr.cellAt q (by omega);rw [coc_ h2,hq1] at this;exact this
  ·rcases hlv.it with h0 | ⟨g',o',e',hg',hc⟩
   ·exact .inl (by rw [h0];rfl)
   ·rcases hlv.own with h0 | ⟨g2,o2,cur2,e2,hn2,hh2⟩
    ·rw [h0] at e';cases e'
    ·rw [e'] at e2;cases e2;rcases Nat.eq_zero_or_pos (s.ready[q]'hql).length with h0 | h0
     ·exact .inl h0
     ·refine .inr ⟨g',o',e',hn2,cur2,hh2,?_⟩;have h4:=(hc ((s.ready[q]'hql).length - 1) (by omega)).2.2.2.2;rw [coc_ hh2] at h4;have:=(Array.getElem?_eq_some_iff.1 h4).1;omega
theorem ot_ {W0 W:World} {B:Nat} {u:Array Value} (hb:W.heap[B]? = some (.cells u 31 (0,0))) (hB:Below W0.heap.size W0 W):SpA W0 W B u none none none 0 0 0:=⟨hb,.inl rfl,.inl rfl,.inl rfl,hB⟩
structure SpK (W0 W:World) (B:Nat) (u:Array Value) (b1 b2 b3:Option Addr) (m1 m2 m3 h:Nat) (T:TypeId) (g:Nat) (o:Option Obj):Prop where
 a:SpA W0 W B u b1 b2 b3 m1 m2 m3
 b:Blk W W0.heap.size h T 0
 c:h≠g
 k:W.heap[g]? = o
theorem SpK.set {W0 W:World} {B:Nat} {u:Array Value} {b1 b2 b3:Option Addr} {m1 m2 m3 h i g:Nat} {T:TypeId} {o:Option Obj} {x:Value} (H:SpK W0 W B u b1 b2 b3 m1 m2 m3 h T g o) (hT:46≠T∧31≠T):SpK W0 (W.setCell ⟨h,i,none⟩ x) B u b1 b2 b3 m1 m2 m3 h T g o:=
 ⟨H.a.set H.b hT x,H.b.set x,H.c,(heap_setCell_other W ⟨h,i,none⟩ g x (fun e=>H.c e.symm)).trans H.k⟩
theorem Blk.any {W:World} {n g z:Nat} {T:TypeId} (h:Blk W n g T z):Blk W n g T 0:=⟨h.1,h.2.choose,h.2.choose_spec.1,Nat.zero_le _⟩
end Go.Proofs.YtlbnkpicnokgoaaGreat
namespace Go.Proofs.YtlbnkpicnokgoaaGreat
open Go.RowKit
set_option linter.unusedVariables false
set_option maxRecDepth 100000
def oct8 (n:Int):UInt8:=UInt8.ofNat (n % 256).toNat
theorem oH_ {n:Nat} (h:n < 256):(oct8 (n:Int)).toNat = n:=by unfold oct8;rw [UInt8.toNat_ofNat'];omega
theorem oQ_ {n:Int} (h0:0≤n) (h:n < 256):((oct8 n).toNat:Int) = n:=by unfold oct8;rw [UInt8.toNat_ofNat'];omega
theorem or_ (b:UInt8):oct8 (b.toNat:Int) = b:=by
 unfold oct8;have:=b.toNat_lt;apply UInt8.toNat_inj.1
 rw [UInt8.toNat_ofNat'];omega
def Has (s:ByteArray) (i:Nat) (l:List UInt8):Prop:=i≤s.size∧l <+: s.data.toList.drop i
theorem d2_ (s:ByteArray):s.data.toList.length = s.size:=Array.length_toList
theorem Has.le {s:ByteArray} {i:Nat} {l:List UInt8} (h:Has s i l):i+l.length≤s.size:=by
 have:=h.2.length_le;rw [List.length_drop,d2_] at this;have:=h.1;omega
theorem Has.one {s:ByteArray} {i:Nat} {b:UInt8}:Has s i [b]↔∃ h:i < s.size,s[i] = b:=by
 constructor
 ·intro h;have hle:=h.le;have hi:i < s.size:=Nat.lt_of_succ_le (by simpa using hle);refine ⟨hi,?_⟩;obtain ⟨t,ht⟩:=h.2;have hl:i < s.data.toList.length:=by rw [d2_];exact hi
  rw [List.drop_eq_getElem_cons hl] at ht;have e:=(List.cons.inj ht).1;rw [e];rfl
 ·rintro ⟨hi,rfl⟩;refine ⟨by omega,?_⟩;have hl:i < s.data.toList.length:=by rw [d2_];exact hi
  rw [List.drop_eq_getElem_cons hl];exact ⟨_,rfl⟩
theorem m4_ (s:ByteArray) (i j:Nat):(s.extract i j).data.toList = (s.data.toList.drop i).take (j - i):=by rw [Lib.extract_data]
theorem Has.of_ext {s:ByteArray} {i n:Nat} (h:i+n≤s.size):Has s i (s.extract i (i+n)).data.toList:=by
 refine ⟨by omega,?_⟩;rw [m4_,Nat.add_sub_cancel_left];exact List.take_prefix _ _
def rNum (s:ByteArray) (i:Nat):Option (Nat × Nat):=if h:i < s.size then some (s[i].toNat,i+1) else none
def rText (s:ByteArray) (i:Nat):Option (ByteArray × Nat):=
 match rNum s i with
 | none=>none
 | some (n,j)=>if n≤s.size - j then some (s.extract j (j+n),j+n) else none
def hI_ (t:ByteArray):List UInt8:=oct8 t.size :: t.data.toList
def cB_ (b:Bool):Int:=if b = true then 1 else 0
structure Reads {α:Type} (s:ByteArray) (one:Nat→Option (α × Nat)) (enc:α→List UInt8) (ok:α→Prop):Prop where
 fwd:∀ i x j,one i = some (x,j)→Has s i (enc x)∧j = i+(enc x).length∧ok x
 bwd:∀ i x,ok x→Has s i (enc x)→one i = some (x,i+(enc x).length)
theorem mn_ (s:ByteArray):Reads s (rNum s) (fun n=>[oct8 (n:Int)]) (fun n=>n < 256):=by
 constructor
 ·intro i x j h;unfold rNum at h;split at h
  ·rename_i hi;cases h;exact ⟨Has.one.2 ⟨hi,(or_ _).symm⟩,rfl,UInt8.toNat_lt _⟩
  ·cases h
 ·intro i x hx h;obtain ⟨hi,e⟩:=Has.one.1 h;unfold rNum;rw [dif_pos hi,e,oH_ hx];rfl
end Go.Proofs.YtlbnkpicnokgoaaGreat
namespace Go.Proofs.YtlbnkpicnokgoaaGreat
open Go.RowKit Go.Maps
set_option linter.unusedVariables false
set_option maxRecDepth 100000
set_option maxHeartbeats 2000000
def cR_ (W:World) (R:Nat) (s:ByteArray) (i:Nat):Prop:=W.heap[R]? = some (.cells #[.string s,.int .i64 i] 181 (0,0))
theorem cR_.cells {W:World} {R:Nat} {s:ByteArray} {i:Nat} (h:cR_ W R s i):W.cell? ⟨R,0,none⟩ = some (.string s)∧W.cell? ⟨R,1,none⟩ = some (.int .i64 i):=⟨coc_ h 0,coc_ h 1⟩
theorem cR_.keep {W W':World} {R:Nat} {s:ByteArray} {i:Nat} (h:cR_ W R s i) (hB:Below W.heap.size W W'):cR_ W' R s i:=pkp_ h hB
theorem cR_.set {W:World} {R:Nat} {s:ByteArray} {i:Nat} (h:cR_ W R s i) (j:Nat):cR_ (W.setCell ⟨R,1,none⟩ (.int .i64 j)) R s j:=scb_ h (j:=1) (.int .i64 j)
def ka_ {α:Type} (R:Nat) (s:ByteArray) (val:α→Value) (res:Option (α × Nat)) (e:Ending) (W:World):Prop:=
 match res with
 | none=>e = panE 1
 | some (x,j)=>e = .returned (val x)∧cR_ W R s j∧j≤s.size
def kW_ (s:ByteArray) (i n:Nat):Option (ByteArray × Nat):=if n≤s.size - i then some (s.extract i (i+n),i+n) else none
theorem j6_ (s:ByteArray) (i n R:Nat) (w:World) (hs:s.size≤1000000) (hi:i≤s.size) (hn:n≤1000000) (hR:cR_ w R s i) :
 Calls Tryz.prog 194 #[.pointer (some ⟨R,0,none⟩),.int .i64 n] w fun e w'=>ac_ w.heap.size R w w'∧ka_ R s Value.string (kW_ s i n) e w':=by
 have HR:=hidI hR;have hlt:=lth_ hR;obtain ⟨c0,c1⟩:=hR.cells;have j0:IntKind.i64.wrap ((s.size:Int) - (i:Int)) = ((s.size - i:Nat):Int):=by rw [IntKind.wrap_i64];omega
 obtain ⟨L,hL⟩:∃ L,L = s.size:=⟨_,rfl⟩
 have HL:=hidI hL;rw [← hL] at hs hi j0;obtain ⟨D,hD⟩:∃ D,D = L - i:=⟨_,rfl⟩
 rw [← hD] at j0;have HD:=hidI hD;have HC:Hid (∀ W',Below w.heap.size w W'→(W'.cell? ⟨R,0,none⟩ = some (.string s)∧W'.cell? ⟨R,1,none⟩ = some (.int .i64 i))):=fun W' h=>(HR.out.keep h).cells
 clear hR hL hD c0 c1;go_enter Tryz.func194,Tryz.ntmps194;go_wp2_with fail
 refine wp_region_held_drew (S:=fun W'=>W'.cell? ⟨R,0,none⟩ = some (.string s)∧W'.cell? ⟨R,1,none⟩ = some (.int .i64 i)) (by kernel_rfl) (HC.out _ (Below.refl _ _).drew) (fun hHeld=>?_);refine tk 0 ?_;refine tk 1 ?_;refine tk 2 ?_;refine tk 3 ?_;refine tk 4 ?_;refine tk 5 ?_;refine tk 6 ?_;refine tk 7 ?_;refine tk 8 ?_;refine tk 9 ?_;rw [← HL.out];refine tk 10 ?_;refine tk 11 ?_;refine rdy 12 (fun K hK=>?_);go_simp;refine hK.out _ _ (HC.out _ (by repeat (first | exact Below.refl _ _ | assumption | refine Below.drew ?_ | refine Below.alloc ?_ (by first | (simp;done) | (simp;omega) | omega) _ | refine Below.setCell ?_ (by first | (simp;done) | (simp;omega) | omega) _))) (fun hH1=>?_);clear hK K hHeld;try refine nrm ?_
 refine rdy 13 (fun K hK=>?_);go_simp;have hk0:Below w.heap.size w (w.alloc (Obj.cells #[Value.bool (decide (D < n))] 4)).drew:=(by repeat (first | exact Below.refl _ _ | assumption | refine Below.drew ?_ | refine Below.alloc ?_ (by first | (simp;done) | (simp;omega) | omega) _ | refine Below.setCell ?_ (by first | (simp;done) | (simp;omega) | omega) _));have hbn:be_ (w.alloc (Obj.cells #[Value.bool (decide (D < n))] 4)).drew w.heap.size 0 [decide (D < n)]:=bk_ w [decide (D < n)];by_cases hc:D < n
 ·refine (ax_ 1 [decide (D < n)] _ _ (by simp) hbn (by simp [hc])).mono ?_;rintro e w3 ⟨rfl,rfl⟩;refine ⟨rfl,ac_.of_below hk0 (Nat.le_refl _),?_⟩;unfold ka_ kW_;rw [if_neg (by have:=HD.out;have:=HL.out;omega)];rfl
 ·refine (aF_ 1 [decide (D < n)] _ _ (by simp) hbn (by simp;omega)).mono ?_;rintro e w3 ⟨rfl,hw3⟩;have k3:Below w.heap.size w w3:=by rw [hw3];exact hk0
  refine hK.out _ _ (HC.out _ k3) (fun hH2=>?_);clear hK K hH1;try refine nrm ?_
  refine wpAnyH_done (by kernel_rfl) ?_ _;have hR3:=HR.out.keep k3;have HR3:=hidI hR3;have K3:=hidI k3;obtain ⟨c0,c1⟩:=hR3.cells;have f1:=foc_ hR3 1;obtain ⟨M,hM⟩:∃ M,M = i+n:=⟨_,rfl⟩
  have HM:=hidI hM;have j1:IntKind.i64.wrap ((i:Int)+(n:Int)) = (M:Int):=by have:=HD.out;rw [IntKind.wrap_i64];omega
  have hle:M≤L:=by have:=HD.out;omega
  have HLE:=hidI hle;clear hw3 hbn hH2 hk0 hR3 k3;have i1:(i:Int)≤(M:Int):=by omega
  have i2:(M:Int)≤(s.size:Int):=by have:=HL.out;omega
  clear hM;go_wp2_with fail
  have hR4:=HR3.out.set M;obtain ⟨w4,hw4⟩:∃ w4,w4 = w3.setCell ⟨R,1,none⟩ (.int .i64 (M:Int)):=⟨_,rfl⟩
  rw [← hw4] at hR4;have HR4:=hidI hR4;have HF:Hid (ac_ w.heap.size R w w4):=by show ac_ w.heap.size R w w4;rw [hw4];exact (ac_.of_below K3.out (Nat.le_refl _)).setCell (p:=⟨R,1,none⟩) (.inr rfl) _
  rw [← hw4];clear c0 c1 f1 j0 j1;obtain ⟨c0,c1⟩:=hR4.cells;have i0:(0:Int)≤(i:Int):=by omega
  clear hR4 hw4 hle;go_quiet (fail)
  go_wp2_with fail
  go_ret
  refine ⟨HF.out.trans ⟨rfl,rfl,rfl,Nat.le_refl _,fun _ _ _=>rfl⟩,?_⟩;unfold ka_ kW_;rw [if_pos (by have:=HLE.out;have:=HL.out;have:=HM.out;omega),← HM.out];exact ⟨rfl,HR4.out,by have:=HLE.out;have:=HL.out;omega⟩
theorem dg_ {w:World} {cs:List Value} {T:TypeId}:aO_ (w.alloc (.cells cs.toArray T)) (some ⟨w.heap.size,0,none⟩) cs:=.inr ⟨_,0,rfl,by simp,fun j u hj=>by
 rw [coc_ (World.alloc_heap_new w _),Nat.zero_add];simpa using hj⟩
theorem ok_ {s:ByteArray} {i:Nat} (h:i < s.size):rNum s i = some (s[i].toNat,i+1):=dif_pos h
theorem oj_ {s:ByteArray} {i:Nat} (h:¬ i < s.size):rNum s i = none:=dif_neg h
theorem n3_ {s:ByteArray} {i:Nat} (h:i < s.size):∃ ht:0 < (s.extract i (i+1)).size,(s.extract i (i+1))[0] = s[i]:=by
 have hz:(s.extract i (i+1)).size = 1:=by rw [ByteArray.size_extract];omega
 refine ⟨by omega,?_⟩;have:=Has.of_ext (s:=s) (i:=i) (n:=1) (by omega);have hl:(s.extract i (i+1)).data.toList = [(s.extract i (i+1))[0]'(by omega)]:=by
  apply List.ext_getElem
  ·rw [d2_];exact hz
  ·intro k h1 h2;have:k = 0:=by simpa using h2
   subst this;rfl
 rw [hl] at this;obtain ⟨_,e⟩:=Has.one.1 this;exact e.symm
theorem d8_ (s:ByteArray) (i R:Nat) (w:World) (hs:s.size≤1000000) (hi:i≤s.size) (hR:cR_ w R s i) :
 Calls Tryz.prog 175 #[.pointer (some ⟨R,0,none⟩)] w fun e w'=>ac_ w.heap.size R w w'∧ka_ R s (fun n:Nat=>.int .i64 n) (rNum s i) e w':=by
 have HT:=hidI (j6_ s i 1 R w hs hi (by omega) hR);have HI:=hidI hi;by_cases hlt:i < s.size
 ·have HLT:=hidI hlt;obtain ⟨hz,h0⟩:=n3_ hlt;have e1:kW_ s i 1 = some (s.extract i (i+1),i+1):=if_pos (by omega);rw [ok_ hlt];obtain ⟨c,hc⟩:∃ c,c = s[i]'hlt:=⟨_,rfl⟩
  rw [← hc] at h0 ⊢;rw [e1] at HT;obtain ⟨t,ht⟩:∃ t,t = s.extract i (i+1):=⟨_,rfl⟩
  rw [← ht] at HT;have h0':∃ hz:0 < t.size,t[0] = c:=by rw [ht];exact ⟨hz,h0⟩
  clear ht h0 hz hc e1 hlt;obtain ⟨hz,h0⟩:=h0';have hz':(0:Int) < (t.size:Int):=by omega
  clear hi hR;go_enter Tryz.func175,Tryz.ntmps175;go_wp2_with fail
  refine HT.out.mono ?_;rintro e w1 ⟨hF,rfl,hb,hj⟩;go_wp2_with fail
  have hw:wrap64 (c.toNat:Int) = c.toNat:=by have:=UInt8.toNat_lt c;simp only [wrap64];omega
  rw [hw];go_ret
  exact ⟨hF,rfl,hb,hj⟩
 ·have e1:kW_ s i 1 = none:=if_neg (by omega);rw [oj_ hlt];rw [e1] at HT;go_enter Tryz.func175,Tryz.ntmps175;go_wp2_with fail
  refine HT.out.mono ?_;rintro e w1 ⟨hF,rfl⟩;exact ⟨rfl,hF,rfl⟩
theorem j7_ (s:ByteArray) (i R:Nat) (w:World) (hs:s.size≤1000000) (hi:i≤s.size) (hR:cR_ w R s i) :
 Calls Tryz.prog 176 #[.pointer (some ⟨R,0,none⟩)] w fun e w'=>ac_ w.heap.size R w w'∧ka_ R s Value.string (rText s i) e w':=by
 have HN:=hidI (d8_ s i R w hs hi hR);obtain ⟨res,hres⟩:∃ res,res = rText s i:=⟨_,rfl⟩
 rw [← hres];unfold rText at hres;have HLR:=hidI (lth_ hR);cases hr:rNum s i with
 | none =>
   rw [hr] at HN hres;have HRES:=hidI hres;clear hR hr hres;go_enter Tryz.func176,Tryz.ntmps176;go_wp2_with fail
   refine HN.out.mono ?_;rintro e w1 ⟨hF,rfl⟩;exact ⟨rfl,hF,by rw [HRES.out];rfl⟩
 | some q =>
   obtain ⟨n,j⟩:=q;rw [hr] at HN hres;have hn256:=((mn_ s).fwd _ _ _ hr).2.2;simp only at hres;have HRES:=hidI hres;clear hR hr hres;go_enter Tryz.func176,Tryz.ntmps176;go_wp2_with fail
   refine HN.out.mono ?_;rintro e w1 ⟨hF,rfl,hb,hj⟩;have HF:=hidI hF;have T:=j6_ s j n R w1 hs hj (by omega) hb;go_wp2_with fail
   refine T.mono ?_;rintro e w2 ⟨hF2,hr2⟩;have hF3:ac_ w.heap.size R w w2:=hF.trans ⟨hF2.os,hF2.tape,hF2.output,hF2.size,fun k h1 h2=>hF2.block k (by have:=HF.out.size;omega) h2⟩;unfold kW_ at hr2;by_cases hc:n≤s.size - j
   ·rw [if_pos hc] at hr2;obtain ⟨rfl,hb2,hj2⟩:=hr2;have HE:Hid (res = some (s.extract j (j+n),j+n)):=by show res = _;rw [HRES.out,if_pos hc]
    go_wp2_with fail
    go_ret
    exact ⟨hF3,by rw [HE.out];exact ⟨rfl,hb2,hj2⟩⟩
   ·rw [if_neg hc] at hr2;have e2:e = panE 1:=hr2;subst e2;exact ⟨rfl,hF3,by rw [HRES.out,if_neg hc];rfl⟩
theorem lt_ (w:World):Calls Tryz.prog 117 #[.bool true] w fun e w'=>e = .returned (.int .i64 1)∧w' = w:=by
 go_enter Tryz.func117,Tryz.ntmps117;go_wp2_with fail
 go_ret
 exact ⟨rfl,rfl⟩
theorem kk_ (w:World):Calls Tryz.prog 117 #[.bool false] w fun e w'=>e = .returned (.int .i64 0)∧w' = w:=by
 go_enter Tryz.func117,Tryz.ntmps117;go_wp2_with fail
 go_ret
 exact ⟨rfl,rfl⟩
theorem jL_ (b:Bool) (w:World):Calls Tryz.prog 117 #[.bool b] w fun e w'=>e = .returned (.int .i64 (cB_ b))∧w' = w:=by
 cases b with
 | true=>exact lt_ w
 | false=>exact kk_ w
inductive bi_ where
 | num (n:Int)
 | flag (b:Bool)
 | text (s:ByteArray)
def bi_.val:bi_→Value
 | .num n=>.iface 3 (.int .i64 n)
 | .flag b=>.iface 4 (.bool b)
 | .text s=>.iface 9 (.string s)
def bi_.bytes:bi_→List UInt8
 | .num n=>[oct8 n]
 | .flag b=>[oct8 (cB_ b)]
 | .text s=>hI_ s
def bi_.ok:bi_→Bool
 | .num n=>decide (0≤n∧n≤255)
 | .flag _=>true
 | .text s=>decide (s.size≤255)
def de_ (l:List bi_):List UInt8:=l.flatMap bi_.bytes
def putE (l:List bi_):Int:=if l.all bi_.ok = true then 0 else 3
def jx_ (W:World) (a:Option Addr) (l:List bi_):Prop:=aO_ W a (l.map bi_.val)
def byC_ (l:List UInt8):List Value:=l.map (fun b=>.int .u8 (b.toNat:Int))
theorem bca_ (a b:List UInt8):byC_ (a ++ b) = byC_ a ++ byC_ b:=List.map_append
theorem ez_ (l:List UInt8):(byC_ l).length = l.length:=List.length_map _
theorem bc1_ (l:List UInt8):∀ u ∈ byC_ l,u.oneCell' = true:=by
 intro u hu;obtain ⟨b,_,rfl⟩:=List.mem_map.1 hu;rfl
theorem di_ (s:ByteArray):Lib.strCells s = byC_ s.data.toList:=rfl
theorem Tryz.infoByte:(Tryz.prog.info? 5).map (fun i=>(i.zero,i.size,i.bytes)) = some (some (.int .u8 0),1,1):=by kernel_rfl
theorem cw_:eY_ 144 5 1 1:=dl_ Tryz.underlying144 Tryz.infoByte rfl (by omega)
theorem cU_ (n:Int) (w:World) (h:0≤n∧n≤255) :
 Calls Tryz.prog 116 #[.int .i64 n] w fun e w'=>e = .returned (.int .u8 ((oct8 n).toNat:Int))∧Below w.heap.size w w':=by
 have HU:Hid (((oct8 n).toNat:Int) = n):=oQ_ h.1 (by omega);have h1:¬ n < 0:=by omega
 have h2:¬ 255 < n:=by omega
 clear h;go_enter Tryz.func116,Tryz.ntmps116;go_wp2_with fail
 refine (aF_ 3 [false,false] _ _ (by simp) (bk_ w [false,false]) (by simp)).mono ?_;rintro e w2 ⟨rfl,hw2⟩;have k2:Below w.heap.size w w2:=by rw [hw2];exact (Below.refl _ _).alloc (Nat.le_refl _) _
 clear hw2;go_wp2_with fail
 go_ret
 exact ⟨by rw [HU.out];rfl,k2⟩
theorem fI_ (n:Int) (w:World) (h:¬ (0≤n∧n≤255)) :
 Calls Tryz.prog 116 #[.int .i64 n] w fun e w'=>e = panE 3∧Below w.heap.size w w':=by
 have HN:=hidI h;clear h;go_enter Tryz.func116,Tryz.ntmps116;go_wp2_with fail
 refine (ax_ 3 [decide (n < 0),decide (255 < n)] _ _ (by simp) (bk_ w [decide (n < 0),decide (255 < n)]) (by have:=HN.out;simp;omega)).mono ?_;rintro e w2 ⟨rfl,rfl⟩;exact ⟨rfl,rfl,(Below.refl _ _).alloc (Nat.le_refl _) _⟩
end Go.Proofs.YtlbnkpicnokgoaaGreat
