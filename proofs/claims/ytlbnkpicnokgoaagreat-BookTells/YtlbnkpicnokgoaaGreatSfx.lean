import Derived.Test.YtlbnkpicnokgoaaGreatSex
import Derived.RangeFuncNested
import Derived.RangeFuncBound
import Derived.RangeFuncCalls
import Derived.RangeFuncLeaves
import Derived.RangeFuncFrom
import Derived.Test.YtlbnkpicnokgoaaGreatScx
import Derived.RangeFuncWrites
import Derived.RangeFuncBox
import Derived.Maps.OwnIn
import Derived.Maps.AppendAt
import Derived.Stop.RegionWithIn
import Derived.Sort.QuietIn
namespace Go.Proofs.YtlbnkpicnokgoaaGreat
open Go.RowKit Go.Maps
set_option linter.unusedVariables false
set_option maxRecDepth 100000
set_option maxHeartbeats 4000000
structure ax_ (T:TypeId) (W W':World):Prop where
 size:W.heap.size≤W'.heap.size
 block:∀ (k:Nat) (cur:Array Value) (T':TypeId),W.heap[k]? = some (Obj.cells cur T' (0,0))→T'≠T→W'.heap[k]? = W.heap[k]?
theorem ax_.of_below {T:TypeId} {W W':World} (h:Below W.heap.size W W'):ax_ T W W':=⟨h.size,fun k cur T' hk _=>h.block k (lth_ hk)⟩
theorem ax_.trans {T:TypeId} {A B C:World} (h:ax_ T A B) (k:ax_ T B C):ax_ T A C:=⟨Nat.le_trans h.size k.size,fun i cur T' hi hT=>(k.block i cur T' ((h.block i cur T' hi hT).trans hi) hT).trans (h.block i cur T' hi hT)⟩
theorem ax_.setCell {T:TypeId} {W:World} {B i:Nat} {cur:Array Value} (hB:W.heap[B]? = some (.cells cur T (0,0))) (u:Value):ax_ T W (W.setCell ⟨B,i,none⟩ u):=
 ⟨by simp [World.setCell],fun k cur' T' hk hT=>heap_setCell_other _ _ _ _ (fun e=>by
  have e':k = B:=e;rw [e',hB] at hk;cases hk;exact hT rfl)⟩
theorem ax_.grown {T:TypeId} {W W':World} {base size n:Nat} {v:Value} {cs:List Value} (h:W.ownsRow base T size v n cs) (hg:W.grownBy W' v.ownBlock):ax_ T W W':=
 ⟨hg.size,fun k cur' T' hk hT=>hg.block k (lth_ hk) (fun e=>bl_ h hk (fun e=>hT e.symm) e.symm)⟩
theorem ax_.row {T T':TypeId} {W W':World} {base size n:Nat} {v:Value} {cs:List Value} (k:ax_ T W W') (h:W.ownsRow base T' size v n cs) (hT:T'≠T):W'.ownsRow base T' size v n cs:=by
 refine ⟨h.1,?_⟩;rcases h.2 with h | ⟨g,cap,cur,h1,h2,h3,h4⟩
 ·exact .inl h
 ·exact .inr ⟨g,cap,cur,h1,h2,(k.block g cur T' h3 hT).trans h3,h4⟩
theorem ax_.keepI {T:TypeId} {n:Nat} {W W':World} (k:ax_ T W W') (hT:48≠T):do_ n W W':=⟨k.size,fun g cur _ hg=>k.block g cur _ hg hT⟩
theorem aM_.typeT {T:TypeId} {W W':World} {n:Nat} {b1 b2 b3:Option Addr} {m1 d1 m2 d2 m3 d3:Nat} {s:ab_} (h:aM_ W n b1 b2 b3 m1 d1 m2 d2 m3 d3 s) (k:ax_ T W W') (hT:48≠T∧67≠T∧69≠T∧46≠T):aM_ W' n b1 b2 b3 m1 d1 m2 d2 m3 d3 s:=by
 obtain ⟨vs,h1,h2⟩:=h.r1;exact ⟨h.l1,h.l2,h.l3,h.x2,⟨vs,k.row h1 hT.2.2.2,h2.keepT (k.keepI hT.1)⟩,k.row h.r2 hT.2.1,k.row h.r3 hT.2.2.1⟩
theorem bt_ (xs:List aj_):(tkC_ xs).length = xs.length * 2:=bO_ (f:=aj_.cells) (fun _=>rfl) xs
theorem aG_ (xs:List OutD):(ah_ xs).length = xs.length * 8:=bO_ (f:=OutD.cells) (fun _=>rfl) xs
theorem c5_ (xs ys:List aj_):tkC_ (xs ++ ys) = tkC_ xs ++ tkC_ ys:=by unfold tkC_;rw [List.flatMap_append]
theorem aK_ (xs ys:List OutD):ah_ (xs ++ ys) = ah_ xs ++ ah_ ys:=by unfold ah_;rw [List.flatMap_append]
theorem aM_.takers {W W':World} {n:Nat} {b1 b2 b3 b3':Option Addr} {m1 d1 m2 d2 m3 d3 m3' d3':Nat} {s:ab_} {ts:List aj_} (h:aM_ W n b1 b2 b3 m1 d1 m2 d2 m3 d3 s) (k:ax_ 69 W W') (r:W'.ownsRow n 69 2 (.slice b3' m3' d3') m3' (tkC_ ts)):aM_ W' n b1 b2 b3' m1 d1 m2 d2 m3' d3' { s with takers:=ts }:=by
 obtain ⟨vs,h1,h2⟩:=h.r1;refine ⟨h.l1,h.l2,?_,h.x2,⟨vs,k.row h1 (by decide),h2.keepT (k.keepI (by decide))⟩,k.row h.r2 (by decide),r⟩;have:=r.1;rw [bt_] at this;show ts.length = m3';omega
theorem aM_.outs {W W':World} {n:Nat} {b1 b2 b3 b2':Option Addr} {m1 d1 m2 d2 m3 d3 m2' d2':Nat} {s:ab_} {os:List OutD} (h:aM_ W n b1 b2 b3 m1 d1 m2 d2 m3 d3 s) (k:ax_ 67 W W') (hx:m2'≤100000000) (r:W'.ownsRow n 67 8 (.slice b2' m2' d2') m2' (ah_ os)):aM_ W' n b1 b2' b3 m1 d1 m2' d2' m3 d3 { s with outs:=os }:=by
 obtain ⟨vs,h1,h2⟩:=h.r1;refine ⟨h.l1,?_,h.l3,hx,⟨vs,k.row h1 (by decide),h2.keepT (k.keepI (by decide))⟩,r,k.row h.r3 (by decide)⟩;have:=r.1;rw [aG_] at this;show os.length = m2';omega
theorem aM_.line {W W':World} {n g:Nat} {b2 b3:Option Addr} {m1 d1 m2 d2 m3 d3:Nat} {s:ab_} (h:aM_ W n (some ⟨g,0,none⟩) b2 b3 m1 d1 m2 d2 m3 d3 s) {q:Nat} (hq:q < s.ready.length) {xs:List ae_} {v:Value} {b:Option Addr} {c:Nat} (hv:cm_ W n xs v b c) (hW:W' = W.setCell ⟨g,q,none⟩ v):aM_ W' n (some ⟨g,0,none⟩) b2 b3 m1 d1 m2 d2 m3 d3 { s with ready:=s.ready.set q xs }:=by
 obtain ⟨vs,h1,h2⟩:=h.r1;obtain ⟨_,cur,hg⟩:=bc_ h1;have k:ax_ 46 W W':=by rw [hW];exact ax_.setCell hg v
 have hs:=h1.stored q v;have ki:do_ n W W':=k.keepI (by decide);refine ⟨by show (s.ready.set q xs).length = m1;rw [List.length_set];exact h.l1,h.l2,h.l3,h.x2,⟨vs.set q v,by rw [hW];exact hs.1,?_⟩,k.row h.r2 (by decide),k.row h.r3 (by decide)⟩;refine ⟨by show (vs.set q v).length = (s.ready.set q xs).length;rw [List.length_set,List.length_set];exact h2.len,fun i hi=>?_⟩;have hi':i < s.ready.length:=by simpa using hi
 by_cases e:i = q
 ·subst e;refine ⟨v,b,c,by rw [List.getElem?_set,if_pos rfl,if_pos (by rw [h2.len];exact hi')],?_⟩;have:(s.ready.set i xs)[i]'hi = xs:=List.getElem_set_self _;rw [this];exact hv.keepT ki
 ·obtain ⟨u,b',c',e1,e2⟩:=h2.get i hi';refine ⟨u,b',c',by rw [List.getElem?_set,if_neg (fun e'=>e e'.symm)];exact e1,?_⟩;have:(s.ready.set q xs)[i]'hi = s.ready[i]:=List.getElem_set_ne (fun e'=>e e'.symm) _;rw [this];exact e2.keepT ki
theorem dU_ {xs:List aj_} {k:Nat} (hk:k < xs.length) (x:aj_):((tkC_ xs).set (k * 2) (.int .i64 x.queue)).set (k * 2+1) (.int .i64 x.most) = tkC_ (xs.set k x):=by
 apply List.ext_getElem?
 intro j;rw [List.getElem?_set,List.getElem?_set];rcases Nat.lt_or_ge j (xs.length * 2) with h | h
 ·obtain ⟨h1,h2,h3⟩:=je_ (k:=2) (by omega) h;have e1:=bK_ (f:=aj_.cells) (k:=2) (fun _=>rfl) xs _ h1 _ h2;have e2:=bK_ (f:=aj_.cells) (k:=2) (fun _=>rfl) (xs.set k x) (j / 2) (by rw [List.length_set];exact h1) _ h2;rw [h3] at e1 e2;have e3:(tkC_ (xs.set k x))[j]? = _:=e2;have e4:(tkC_ xs)[j]? = _:=e1;have hl:j < (tkC_ xs).length:=by rw [bt_];exact h
  have hl2:j < ((tkC_ xs).set (k * 2) (.int .i64 x.queue)).length:=by rw [List.length_set];exact hl
  rw [e3,e4];by_cases c1:k * 2+1 = j
  ·have a1:j / 2 = k:=by omega
   have a2:j % 2 = 1:=by omega
   rw [if_pos c1,if_pos (by rw [c1];exact hl2)];simp [a1,a2,aj_.cells]
  ·rw [if_neg c1];by_cases c2:k * 2 = j
   ·have a1:j / 2 = k:=by omega
    have a2:j % 2 = 0:=by omega
    rw [if_pos c2,if_pos (by rw [c2];exact hl)];simp [a1,a2,aj_.cells]
   ·rw [if_neg c2];have a1:j / 2≠k:=by omega
    rw [List.getElem_set_ne (fun e=>a1 e.symm)]
 ·have hl:(tkC_ xs).length≤j:=by rw [bt_];exact h
  rw [if_neg (by omega),if_neg (by omega),List.getElem?_eq_none hl,List.getElem?_eq_none (by rw [bt_,List.length_set];exact h)]
theorem aM_.taker {W W':World} {n g:Nat} {b1 b2:Option Addr} {m1 d1 m2 d2 m3 d3:Nat} {s:ab_} (h:aM_ W n b1 b2 (some ⟨g,0,none⟩) m1 d1 m2 d2 m3 d3 s) {k:Nat} (hk:k < s.takers.length) (x:aj_) (hW:W' = (W.setCell ⟨g,k * 2,none⟩ (.int .i64 x.queue)).setCell ⟨g,k * 2+1,none⟩ (.int .i64 x.most)):aM_ W' n b1 b2 (some ⟨g,0,none⟩) m1 d1 m2 d2 m3 d3 { s with takers:=s.takers.set k x }∧ax_ 69 W W'∧n≤g:=by
 obtain ⟨hn,cur,hg⟩:=bc_ h.r3;have s1:=h.r3.stored (k * 2) (.int .i64 x.queue);obtain ⟨_,cur1,hg1⟩:=bc_ s1.1;have s2:=s1.1.stored (k * 2+1) (.int .i64 x.most);have kt:ax_ 69 W W':=by rw [hW];exact (ax_.setCell hg _).trans (ax_.setCell hg1 _)
 refine ⟨h.takers kt ?_,kt,hn⟩;rw [hW,← dU_ hk];exact s2.1
theorem StBox.keep {W W':World} {n t:Nat} {s:ab_} (h:StBox W n t s) (hB:Below W.heap.size W W'):StBox W' n t s:=by
 obtain ⟨b1,b2,b3,m1,d1,m2,d2,m3,d3,h1,h2⟩:=h;exact ⟨b1,b2,b3,m1,d1,m2,d2,m3,d3,pkp_ h1 hB,h2.keep hB⟩
theorem StBox.drew {W:World} {n t:Nat} {s:ab_} (h:StBox W n t s):StBox W.drew n t s:=h.keep (Below.refl _ _).drew
theorem ac_.drew {n t:Nat} {A B:World} (h:ac_ n t A B):ac_ n t A B.drew:=⟨h.os,h.tape,h.output,h.size,h.block⟩
theorem ac_.typeSet {n t:Nat} {A B:World} (h:ac_ n t A B) {g i:Nat} (hg:n≤g) (u:Value):ac_ n t A (B.setCell ⟨g,i,none⟩ u):=h.setCell (p:=⟨g,i,none⟩) (.inl hg) u
theorem a4_.turn {W W':World} {n t:Nat} {v:Value} {E:Int} {s:ab_} {cur:Array Value} (h:a4_ W n v E s) (ht:W.heap[t]? = some (.cells cur 31 (0,0))) (k:bh_ t W W'):a4_ W' n v E s:=by
 refine ⟨fun e=>?_,h.2⟩;obtain ⟨b1,b2,b3,m1,d1,m2,d2,m3,d3,h1,h2⟩:=h.1 e;exact ⟨b1,b2,b3,m1,d1,m2,d2,m3,d3,h1,h2.turn ht (by decide) k⟩
theorem a4_.shape {W:World} {n:Nat} {v:Value} {E:Int} {s:ab_} (h:a4_ W n v E s):∃ (x1 x2 x3:Option Addr) (k1 e1 k2 e2 k3 e3:Nat) (i1 i2 i3 i4 i5:Int),v = .agg #[.slice x1 k1 e1,.slice x2 k2 e2,.slice x3 k3 e3,.int .i64 i1,.int .i64 i2,.int .i64 i3,.int .i64 i4,.int .i64 i5]:=by
 by_cases hE:E = 0
 ·obtain ⟨_,_,_,_,_,_,_,_,_,rfl,_⟩:=h.1 hE;exact ⟨_,_,_,_,_,_,_,_,_,_,_,_,_,_,rfl⟩
 ·rw [h.2 hE];exact ⟨_,_,_,_,_,_,_,_,_,_,_,_,_,_,rfl⟩
theorem aM_.same {W:World} {n:Nat} {b1 b2 b3:Option Addr} {m1 d1 m2 d2 m3 d3:Nat} {s s':ab_} (h:aM_ W n b1 b2 b3 m1 d1 m2 d2 m3 d3 s) (h1:s'.ready = s.ready) (h2:s'.outs = s.outs) (h3:s'.takers = s.takers):aM_ W n b1 b2 b3 m1 d1 m2 d2 m3 d3 s':=by
 refine ⟨by rw [h1];exact h.l1,by rw [h2];exact h.l2,by rw [h3];exact h.l3,h.x2,by rw [h1];exact h.r1,by rw [h2];exact h.r2,by rw [h3];exact h.r3⟩
def hk_ (f:FuncId) (cap:Array Value) (w:World) (s:ab_) (E:Int) (S':ab_):Prop:=
 ∀ (W : World) (n t : Nat), Below w.heap.size w W → w.heap.size ≤ t → t < n → n ≤ W.heap.size → StBox W n t s →
   Calls Tryz.prog f (#[.pointer (some ⟨t,0,none⟩)] ++ cap) W fun e W'=>ac_ n t W W'∧((E≠0∧e = panE E)∨(E = 0∧e = okE∧StBox W' n t S'))
theorem hk_.up {f:FuncId} {cap:Array Value} {w w':World} {s S':ab_} {E:Int} (h:hk_ f cap w s E S') (hB:Below w.heap.size w w'):hk_ f cap w' s E S':=
 fun W n t h1 h2 h3 h4 h5=>h W n t (hB.trans (h1.mono hB.size)) (Nat.le_trans hB.size h2) h3 h4 h5
theorem j2_ (f:FuncId) (hf:Goes f) (cap:Array Value) (w:World) (s:ab_) (E:Int) (S':ab_) (B:Nat) (x:w.heap[B]? = some (.cells #[.func (.func f) #[] cap] 77 (0,0))) (h:hk_ f cap w s E S'):Does 73 #[.pointer (some ⟨B,0,none⟩)] w s E 0 S':=by
 intro W n t hBW hwt htn hnW hbx;have HC:=hidI (h W n t hBW hwt htn hnW hbx);have hf':∀ (args:Array Value) (w:World),Sem.run Tryz.prog (callFunc f args) w = .ok (.enter f args) w:=hf
 have hap:(#[Value.pointer (some ⟨t,0,none⟩)] ++ #[Value.pointer (some ⟨B,0,none⟩)]:Array Value) = #[.pointer (some ⟨t,0,none⟩),.pointer (some ⟨B,0,none⟩)]:=rfl;rw [hap];have c0:=coc_ (pkp_ x hBW) 0;simp at c0;clear hap x h hbx hf;go_enter Tryz.func73,Tryz.ntmps73;go_wp2_with fail
 refine HC.out.mono ?_;rintro e w1 ⟨hF,hc⟩;have HF:=hidI hF;clear hF c0;rcases hc with ⟨hne,rfl⟩ | ⟨rfl,rfl,hb⟩
 ·unfold panE;exact ⟨rfl,HF.out,.inl ⟨hne,rfl⟩⟩
 ·have HB:=hidI hb;unfold okE;clear hb;go_wp2_with fail
  go_ret
  exact ⟨HF.out,rfl,HB.out⟩
theorem g9_ (p:ad_) (a1 a2 a3:Option Addr) (n1 c1 n2 c2 n3 c3:Nat) (s:ab_) (b1 b2 b3:Option Addr) (m1 d1 m2 d2 m3 d3:Nat) (f:FuncId) (hf:Goes f) (cap:Array Value) (E:Int) (S':ab_) (w:World) (hp:ap_ w a1 a2 a3 n1 n2 n3 p) (hs:al_ w b1 b2 b3 m1 m2 m3 s) (hn2:b2 = none→d2 = 0) (hn3:b3 = none→d3 = 0) (hE0:stE p s≠0→E = stE p s) (hdo:stE p s = 0→hk_ f cap w s E S') :
 Calls Tryz.prog 28 #[.agg #[.slice a1 n1 c1,.slice a2 n2 c2,.slice a3 n3 c3],.agg #[.slice b1 m1 d1,.slice b2 m2 d2,.slice b3 m3 d3,.int .i64 s.nextSeq,.int .i64 s.nextTag,.int .i64 s.came,.int .i64 s.acked,.int .i64 s.dropped],.func (.func f) #[] cap] w fun e w'=>∃ v,e = .returned (.tuple #[v,.int .i64 E])∧a4_ w' w.heap.size v E S'∧Below w.heap.size w w':=by
 obtain ⟨hz4,hg4,hB4⟩:=av_ [.cells #[.slice a1 n1 c1,.slice a2 n2 c2,.slice a3 n3 c3] 26,.cells #[.slice b1 m1 d1,.slice b2 m2 d2,.slice b3 m3 d3,.int .i64 s.nextSeq,.int .i64 s.nextTag,.int .i64 s.came,.int .i64 s.acked,.int .i64 s.dropped] 31,.cells #[.func (.func f) #[] cap] 77,.cells #[.slice none 0 0,.slice none 0 0,.slice none 0 0,.int .i64 0,.int .i64 0,.int .i64 0,.int .i64 0,.int .i64 0] 31] w;obtain ⟨W4,hW4⟩:∃ W4,W4 = List.foldl World.alloc w [.cells #[.slice a1 n1 c1,.slice a2 n2 c2,.slice a3 n3 c3] 26,.cells #[.slice b1 m1 d1,.slice b2 m2 d2,.slice b3 m3 d3,.int .i64 s.nextSeq,.int .i64 s.nextTag,.int .i64 s.came,.int .i64 s.acked,.int .i64 s.dropped] 31,.cells #[.func (.func f) #[] cap] 77,.cells #[.slice none 0 0,.slice none 0 0,.slice none 0 0,.int .i64 0,.int .i64 0,.int .i64 0,.int .i64 0,.int .i64 0] 31]:=⟨_,rfl⟩
 rw [← hW4] at hz4 hg4 hB4;have HW4:Hid (W4 = ((((w.alloc (.cells #[.slice a1 n1 c1,.slice a2 n2 c2,.slice a3 n3 c3] 26)).alloc (.cells #[.slice b1 m1 d1,.slice b2 m2 d2,.slice b3 m3 d3,.int .i64 s.nextSeq,.int .i64 s.nextTag,.int .i64 s.came,.int .i64 s.acked,.int .i64 s.dropped] 31)).alloc (.cells #[.func (.func f) #[] cap] 77)).alloc (.cells #[.slice none 0 0,.slice none 0 0,.slice none 0 0,.int .i64 0,.int .i64 0,.int .i64 0,.int .i64 0,.int .i64 0] 31))):=hW4;have hz4':W4.heap.size = w.heap.size+4:=by rw [hz4];rfl
 have x2:=hg4 2 _ rfl;have x3:=hg4 3 _ rfl;have T:=ew_ p a1 a2 a3 n1 c1 n2 c2 n3 c3 s b1 b2 b3 m1 d1 m2 d2 m3 d3 73 (fun _ _=>rfl) #[.pointer (some ⟨w.heap.size+2,0,none⟩)] E 0 S' W4 (hp.keep hB4) (hs.keep hB4) hn2 hn3 hE0 (fun h=>j2_ f hf cap W4 s E S' _ x2 ((hdo h).up hB4));rw [show (if E = 0 then (0:Int) else 0) = 0 by split <;> rfl] at T;have HT:=hidI T;have X3:=hidI x3;have HZ4:=hidI hz4';have HB4:=hidI hB4;have hmf:∀ (fn:Fn) (first cap:Array Value) (w:World),(Instr.makeFunc fn first cap).run Tryz.prog w = .ok (.func fn first cap) w:=fun _ _ _ _=>rfl
 clear T hW4 hz4 hz4' hg4 hB4 x2 x3 hp hs hn2 hn3 hE0 hdo hf;go_enter Tryz.func28,Tryz.ntmps28;go_wp2_with fail
 rw [← HW4.out];refine HT.out.mono ?_;rintro e w6 ⟨v,rfl,hres,hB6⟩;have x6:=pkp_ X3.out hB6;obtain ⟨y0,y1,y2,y3,y4,y5,y6,y7⟩:=aa_ x6;have f0:=foc_ x6 0;have f1:=foc_ x6 1;have f2:=foc_ x6 2;have f3:=foc_ x6 3;have f4:=foc_ x6 4;have f5:=foc_ x6 5;have f6:=foc_ x6 6;have f7:=foc_ x6 7;obtain ⟨x1,x2,x3,k1,e1,k2,e2,k3,e3,i1,i2,i3,i4,i5,rfl⟩:=hres.shape;have X6:=hidI x6;have HRES:=hidI hres;have HB6:=hidI hB6;have hlt:=lth_ x6;clear x6 hres hB6;go_wp2_with fail
 generalize hW7:World.setCell (World.setCell (World.setCell (World.setCell (World.setCell (World.setCell (World.setCell (World.setCell w6 _ _) _ _) _ _) _ _) _ _) _ _) _ _) _ _ = W7;obtain ⟨b7,t7⟩:=store8 X6.out hW7;have l8:Below W7.heap.size W7 (W7.alloc (.cells #[.slice x1 k1 e1,.slice x2 k2 e2,.slice x3 k3 e3,.int .i64 i1,.int .i64 i2,.int .i64 i3,.int .i64 i4,.int .i64 i5] 31)):=(Below.refl _ _).alloc (Nat.le_refl _) _;obtain ⟨z0,z1,z2,z3,z4,z5,z6,z7⟩:=aa_ (pkp_ b7 l8);have hB7:Below w.heap.size w W7:=HB4.out.trans ((HB6.out.mono HB4.out.size).trans (t7.below (by have:=HB6.out.size;have:=HZ4.out;omega) (by omega)));exact bodyPost_ret (v:=.tuple #[.agg #[.slice x1 k1 e1,.slice x2 k2 e2,.slice x3 k3 e3,.int .i64 i1,.int .i64 i2,.int .i64 i3,.int .i64 i4,.int .i64 i5],.int .i64 E]) (by simp [results,Tryz.results28,go_sem,z0,z1,z2,z3,z4,z5,z6,z7]) rfl ⟨_,rfl,((HRES.out.turn X6.out t7).keep l8).lower (by have:=HZ4.out;omega),hB7.trans (l8.mono hB7.size)⟩
structure cf_ (n t x:Nat) (W W':World):Prop where
 os:W'.os = W.os
 tape:W'.tape = W.tape
 output:W'.output = W.output
 size:W.heap.size≤W'.heap.size
 block:∀ k,k < n→k≠t→k≠x→W'.heap[k]? = W.heap[k]?
theorem cf_.trans {n t x:Nat} {A B C:World} (h:cf_ n t x A B) (k:cf_ n t x B C):cf_ n t x A C:=
 ⟨k.os.trans h.os,k.tape.trans h.tape,k.output.trans h.output,Nat.le_trans h.size k.size,fun i h1 h2 h3=>(k.block i h1 h2 h3).trans (h.block i h1 h2 h3)⟩
theorem ac_.u {n t:Nat} {A B:World} (h:ac_ n t A B) (x:Nat):cf_ n t x A B:=⟨h.os,h.tape,h.output,h.size,fun k h1 h2 _=>h.block k h1 h2⟩
theorem ac_.u2 {n x:Nat} {A B:World} (h:ac_ n x A B) (t:Nat):cf_ n t x A B:=⟨h.os,h.tape,h.output,h.size,fun k h1 _ h2=>h.block k h1 h2⟩
def dV_ (W:World) (n x:Nat) (xs:List ByteArray):Prop:=∃ v,W.heap[x]? = some (.cells #[v] 36 (0,0))∧W.ownsRow n 9 1 v xs.length (xs.map .string)
def nG_ (W:World) (n x:Nat) (E:Int) (xs:List ByteArray):Prop:=E = 0→dV_ W n x xs
theorem dV_.keep {W W':World} {n x:Nat} {xs:List ByteArray} (h:dV_ W n x xs) (hB:Below W.heap.size W W'):dV_ W' n x xs:=by
 obtain ⟨v,h1,h2⟩:=h;exact ⟨v,pkp_ h1 hB,cp2_ h2 hB⟩
theorem dV_.lower {W:World} {n n' x:Nat} {xs:List ByteArray} (h:dV_ W n x xs) (hn:n'≤n):dV_ W n' x xs:=by
 obtain ⟨v,h1,h2⟩:=h;exact ⟨v,h1,a2_ h2 hn⟩
theorem dV_.turn {W W':World} {n t x:Nat} {xs:List ByteArray} {cur:Array Value} {T:TypeId} (h:dV_ W n x xs) (ht:W.heap[t]? = some (.cells cur T (0,0))) (hT:T≠9) (hne:t≠x) (k:bh_ t W W'):dV_ W' n x xs:=by
 obtain ⟨v,h1,h2⟩:=h;exact ⟨v,(k.block x (lth_ h1) (fun e=>hne e.symm)).trans h1,bq_ h2 (fun j hj=>k.block j (h2.lt j hj).2 (fun e=>bl_ h2 ht (fun e=>hT e.symm) (by rw [hj,e])))⟩
def na_ (f:FuncId) (cap:Array Value) (w:World) (x:Nat) (s:ab_) (E N:Int) (S':ab_) (xs:List ByteArray):Prop:=
 ∀ (W : World) (n t : Nat), Below w.heap.size w W → w.heap.size ≤ t → t < n → n ≤ W.heap.size → StBox W n t s →
   Calls Tryz.prog f (#[.pointer (some ⟨t,0,none⟩)] ++ cap) W fun e W'=>cf_ n t x W W'∧((E≠0∧e = panE E)∨(E = 0∧e = .returned (.int .i64 N)∧StBox W' n t S'∧dV_ W' n x xs))
def ge_ (f:FuncId) (cap:Array Value) (w:World) (x:Nat) (s:ab_) (E:Int) (S':ab_) (xs:List ByteArray):Prop:=
 ∀ (W : World) (n t : Nat), Below w.heap.size w W → w.heap.size ≤ t → t < n → n ≤ W.heap.size → StBox W n t s →
   Calls Tryz.prog f (#[.pointer (some ⟨t,0,none⟩)] ++ cap) W fun e W'=>cf_ n t x W W'∧((E≠0∧e = panE E)∨(E = 0∧e = okE∧StBox W' n t S'∧dV_ W' n x xs))
theorem ge_.up {f:FuncId} {cap:Array Value} {w w':World} {x:Nat} {s S':ab_} {E:Int} {xs:List ByteArray} (h:ge_ f cap w x s E S' xs) (hB:Below w.heap.size w w'):ge_ f cap w' x s E S' xs:=
 fun W n t h1 h2 h3 h4 h5=>h W n t (hB.trans (h1.mono hB.size)) (Nat.le_trans hB.size h2) h3 h4 h5
theorem kr_ (p:ad_) (a1 a2 a3:Option Addr) (n1 c1 n2 c2 n3 c3:Nat) (s:ab_) (b1 b2 b3:Option Addr) (m1 d1 m2 d2 m3 d3:Nat) (f:FuncId) (hf:Goes f) (cap:Array Value) (w0:World) (E N:Int) (S':ab_) (x:Nat) (xs:List ByteArray) (hE0:stE p s≠0→E = stE p s) (hdo:stE p s = 0→na_ f cap w0 x s E N S' xs)
 (B:Nat) (hB0:w0.heap.size≤B) (hx:x < w0.heap.size) (w:World) (h0:Below w0.heap.size w0 w) (hw:B+6 < w.heap.size) (hp:ap_ w a1 a2 a3 n1 n2 n3 p) (hs:al_ w b1 b2 b3 m1 m2 m3 s) (hn2:b2 = none→d2 = 0) (hn3:b3 = none→d3 = 0)
 (x0:w.heap[B]? = some (.cells #[.slice a1 n1 c1,.slice a2 n2 c2,.slice a3 n3 c3] 26 (0,0))) (x1:w.heap[B+1]? = some (.cells #[.slice b1 m1 d1,.slice b2 m2 d2,.slice b3 m3 d3,.int .i64 s.nextSeq,.int .i64 s.nextTag,.int .i64 s.came,.int .i64 s.acked,.int .i64 s.dropped] 31 (0,0))) (x2:w.heap[B+2]? = some (.cells #[.func (.func f) #[] cap] 108 (0,0))) (x4:w.heap[B+4]? = some (.cells #[.slice none 0 0,.slice none 0 0,.slice none 0 0,.int .i64 0,.int .i64 0,.int .i64 0,.int .i64 0,.int .i64 0] 31 (0,0))) (x5:w.heap[B+5]? = some (.cells #[.int .i64 0] 3 (0,0))) :
 Calls Tryz.prog 125 #[.pointer (some ⟨B,0,none⟩),.pointer (some ⟨B+1,0,none⟩),.pointer (some ⟨B+4,0,none⟩),.pointer (some ⟨B+2,0,none⟩),.pointer (some ⟨B+5,0,none⟩)] w fun e w'=>
  e = askE E∧w.heap.size≤w'.heap.size∧(∀ k,k < w.heap.size→k≠B+4→k≠B+5→k≠x→w'.heap[k]? = w.heap[k]?)∧w'.os = w.os∧w'.tape = w.tape∧w'.output = w.output∧(E = 0→(∃ n,w.heap.size≤n∧StBox w' n (B+4) S'∧dV_ w' n x xs)∧w'.heap[B+5]? = some (.cells #[.int .i64 N] 3 (0,0))):=by
 obtain ⟨E0,hE0'⟩:∃ E0,E0 = stE p s:=⟨_,rfl⟩
 have HE0:=hidI hE0';have HEE:=hidI hE0;have HDO:=hidI hdo;have HP:=hidI hp;have HS:=hidI hs;have HN2:=hidI hn2;have HN3:=hidI hn3;have H0:=hidI h0;have X0:=hidI x0;have X1:=hidI x1;have X2:=hidI x2;have X4:=hidI x4;have X5:=hidI x5;have hf':∀ (args:Array Value) (w:World),Sem.run Tryz.prog (callFunc f args) w = .ok (.enter f args) w:=hf
 obtain ⟨p0,p1,p2⟩:=ai_ x0;obtain ⟨y0,y1,y2,y3,y4,y5,y6,y7⟩:=aa_ x1;clear hE0' hE0 hdo hp hs hn2 hn3 h0 x0 x1 x2 x4 x5 hf;go_enter Tryz.func125,Tryz.ntmps125;go_wp2_with fail
 refine (cB_ p _ _ _ _ _ _ _ _ _ s _ _ _ _ _ _ _ _ _ _ HP.out HS.out).mono ?_;rintro e w1 ⟨rfl,k1⟩;rw [← HE0.out];have s1:=k1.size;have k1':=k1.alloc s1 (.cells #[.int .i64 E0] 33);have s1':=k1'.size;clear p0 p1 p2 y0 y1 y2 y3 y4 y5 y6 y7;by_cases hz:E0 = 0
 ·subst hz;go_wp2_with (go_at_call 47;refine (cL_ _ _ (aB_ _ _ _) (by simp)).mono ?_;rintro e w2 ⟨rfl,hB2⟩;have k2:=k1'.trans (hB2.mono s1');have K2:=hidI k2;obtain ⟨y0,y1,y2,y3,y4,y5,y6,y7⟩:=aa_ (pkp_ X1.out k2);clear hB2)
  have hR:=aE_ HE0.out.symm;obtain ⟨q1,q2,q3,q4⟩:=HS.out.small hR;refine (fs_ s _ _ _ _ _ _ _ _ _ w2 (HS.out.keep K2.out) HN2.out HN3.out q1 q2 q3 q4).mono ?_;rintro e w3 ⟨v3,rfl,hv3,k3'⟩;have k3:=K2.out.trans (k3'.mono K2.out.size);obtain ⟨g1,g2,g3,l1,r1,l2,r2,l3,r3,rfl,ho⟩:=hv3;have HO:=hidI ho;have K3:=hidI k3;have K3':=hidI k3';have q4b:=pkp_ X4.out k3;have Q4:=hidI q4b;obtain ⟨z0,z1,z2,z3,z4,z5,z6,z7⟩:=aa_ q4b;have f0:=foc_ q4b 0;have f1:=foc_ q4b 1;have f2:=foc_ q4b 2;have f3:=foc_ q4b 3;have f4:=foc_ q4b 4;have f5:=foc_ q4b 5;have f6:=foc_ q4b 6;have f7:=foc_ q4b 7;have c2:=coc_ (pkp_ X2.out k3) 0;simp at c2;clear y0 y1 y2 y3 y4 y5 y6 y7 q4b k3 k3' ho k2;go_wp2_with fail
  generalize hW4:World.setCell (World.setCell (World.setCell (World.setCell (World.setCell (World.setCell (World.setCell (World.setCell w3 _ _) _ _) _ _) _ _) _ _) _ _) _ _) _ _ = W4;obtain ⟨b4,t4⟩:=store8 Q4.out hW4;have kW4:ac_ w.heap.size (B+4) w W4:=(ac_.of_below K3.out (Nat.le_refl _)).trans ⟨t4.os,t4.tape,t4.output,t4.size,fun k h1 h2=>t4.block k (by have:=K3.out.size;omega) h2⟩;have hdo:=HDO.out HE0.out.symm W4 w2.heap.size (B+4) (H0.out.trans (kW4.below H0.out.size (by omega))) (by omega) (by have:=K2.out.size;omega) (by have:=K3'.out.size;have:=t4.size;omega) ⟨_,_,_,_,_,_,_,_,_,b4,HO.out.turn Q4.out (by decide) t4⟩;refine hdo.mono ?_;rintro e w5 ⟨hF,hc⟩;have hF':cf_ w.heap.size (B+4) x w w5:=(kW4.u x).trans ⟨hF.os,hF.tape,hF.output,hF.size,fun k h1 h2 h3=>hF.block k (by have:=K2.out.size;omega) h2 h3⟩;have HF:=hidI hF';clear z0 z1 z2 z3 z4 z5 z6 z7 f0 f1 f2 f3 f4 f5 f6 f7 c2
  rcases hc with ⟨hne,rfl⟩ | ⟨rfl,rfl,hbx,htx⟩
  ·unfold panE;exact ⟨rfl,by rw [bX_ hne];rfl,HF.out.size,fun k h1 h2 _ h3=>HF.out.block k h1 h2 h3,HF.out.os,HF.out.tape,HF.out.output,fun h=>absurd h hne⟩
  ·have q5:w5.heap[B+5]? = _:=(HF.out.block (B+5) (by omega) (by omega) (by omega)).trans X5.out;have Q5:=hidI q5;have HBX:=hidI hbx;have HTX:=hidI htx;have c0:=coc_ q5 0;simp at c0;have f0:=foc_ q5 0;clear q5 hbx htx hF hF' hdo;go_wp2_with fail
   go_end0
   have hT5:=sct_ w5 (B+5) 0 (.int .i64 N);refine ⟨by rw [bW_];rfl,Nat.le_trans HF.out.size hT5.size,fun k h1 h2 h3 h4=>(hT5.block k (by have:=HF.out.size;omega) h3).trans (HF.out.block k h1 h2 h4),HF.out.os,HF.out.tape,HF.out.output,⟨w2.heap.size,K2.out.size,?_,HTX.out.turn Q5.out (by decide) (by omega) hT5⟩,?_⟩
   ·obtain ⟨e1,e2,e3,i1,j1,i2,j2,i3,j3,hh,ho⟩:=HBX.out;exact ⟨e1,e2,e3,i1,j1,i2,j2,i3,j3,(hT5.block _ (lth_ hh) (by omega)).trans hh,ho.turn Q5.out (by decide) hT5⟩
   ·exact scb_ Q5.out (j:=0) (.int .i64 N)
 ·have HZ:=hidI hz;have hE:E = E0:=by rw [HEE.out (by rw [← HE0.out];exact hz),HE0.out]
  go_wp2_with (go_at_call 47;refine (cs_ E0 _ _ (aB_ _ _ _) (by simp) HZ.out).mono ?_;rintro e w2 ⟨rfl,hB2⟩)
  have k2:=k1'.trans (hB2.mono s1');subst hE;exact ⟨rfl,by rw [bX_ HZ.out];rfl,k2.size,fun k h1 _ _ _=>k2.block k h1,k2.os,k2.tape,k2.output,fun h=>absurd h HZ.out⟩
theorem l4_ (p:ad_) (a1 a2 a3:Option Addr) (n1 c1 n2 c2 n3 c3:Nat) (s:ab_) (b1 b2 b3:Option Addr) (m1 d1 m2 d2 m3 d3:Nat) (f:FuncId) (hf:Goes f) (cap:Array Value) (E N:Int) (S':ab_) (x:Nat) (xs:List ByteArray) (w:World) (hx:x < w.heap.size) (hp:ap_ w a1 a2 a3 n1 n2 n3 p) (hs:al_ w b1 b2 b3 m1 m2 m3 s) (hn2:b2 = none→d2 = 0) (hn3:b3 = none→d3 = 0) (hE0:stE p s≠0→E = stE p s) (hdo:stE p s = 0→na_ f cap w x s E N S' xs) :
 Calls Tryz.prog 72 #[.agg #[.slice a1 n1 c1,.slice a2 n2 c2,.slice a3 n3 c3],.agg #[.slice b1 m1 d1,.slice b2 m2 d2,.slice b3 m3 d3,.int .i64 s.nextSeq,.int .i64 s.nextTag,.int .i64 s.came,.int .i64 s.acked,.int .i64 s.dropped],.func (.func f) #[] cap] w fun e w'=>∃ v,e = .returned (.tuple #[v,.int .i64 (if E = 0 then N else 0),.int .i64 E])∧a4_ w' w.heap.size v E S'∧nG_ w' w.heap.size x E xs∧ac_ w.heap.size x w w':=by
 obtain ⟨hz6,hg6,hB6⟩:=av_ [.cells #[.slice a1 n1 c1,.slice a2 n2 c2,.slice a3 n3 c3] 26,.cells #[.slice b1 m1 d1,.slice b2 m2 d2,.slice b3 m3 d3,.int .i64 s.nextSeq,.int .i64 s.nextTag,.int .i64 s.came,.int .i64 s.acked,.int .i64 s.dropped] 31,.cells #[.func (.func f) #[] cap] 108,.cells #[.slice none 0 0,.slice none 0 0,.slice none 0 0,.int .i64 0,.int .i64 0,.int .i64 0,.int .i64 0,.int .i64 0] 31,.cells #[.slice none 0 0,.slice none 0 0,.slice none 0 0,.int .i64 0,.int .i64 0,.int .i64 0,.int .i64 0,.int .i64 0] 31,.cells #[.int .i64 0] 3] w;obtain ⟨W6,hW6⟩:∃ W6,W6 = List.foldl World.alloc w [.cells #[.slice a1 n1 c1,.slice a2 n2 c2,.slice a3 n3 c3] 26,.cells #[.slice b1 m1 d1,.slice b2 m2 d2,.slice b3 m3 d3,.int .i64 s.nextSeq,.int .i64 s.nextTag,.int .i64 s.came,.int .i64 s.acked,.int .i64 s.dropped] 31,.cells #[.func (.func f) #[] cap] 108,.cells #[.slice none 0 0,.slice none 0 0,.slice none 0 0,.int .i64 0,.int .i64 0,.int .i64 0,.int .i64 0,.int .i64 0] 31,.cells #[.slice none 0 0,.slice none 0 0,.slice none 0 0,.int .i64 0,.int .i64 0,.int .i64 0,.int .i64 0,.int .i64 0] 31,.cells #[.int .i64 0] 3]:=⟨_,rfl⟩
 rw [← hW6] at hz6 hg6 hB6;have x0:=hg6 0 _ rfl;have x1:=hg6 1 _ rfl;have x2:=hg6 2 _ rfl;have x3:=hg6 3 _ rfl;have x4:=hg6 4 _ rfl;have x5:=hg6 5 _ rfl;have hz6':W6.heap.size = w.heap.size+6:=by rw [hz6];rfl
 have l7:Below W6.heap.size W6 (W6.alloc (.cells #[.int .i64 0] 33)):=(Below.refl _ _).alloc (Nat.le_refl _) _;have x6:=World.alloc_heap_new W6 (.cells #[.int .i64 0] 33);have T1:=kr_ p a1 a2 a3 n1 c1 n2 c2 n3 c3 s b1 b2 b3 m1 d1 m2 d2 m3 d3 f hf cap w E N S' x xs hE0 hdo w.heap.size (Nat.le_refl _) hx (W6.alloc (.cells #[.int .i64 0] 33)) (hB6.trans (l7.mono hB6.size)) (by rw [World.size_alloc];omega) ((hp.keep hB6).keep l7) ((hs.keep hB6).keep l7) hn2 hn3 (pkp_ x0 l7) (pkp_ x1 l7) (pkp_ x2 l7) (pkp_ x4 l7) (pkp_ x5 l7);have TR:=f0_ 125 (fun _ _=>rfl) #[.pointer (some ⟨w.heap.size,0,none⟩),.pointer (some ⟨w.heap.size+1,0,none⟩),.pointer (some ⟨w.heap.size+4,0,none⟩),.pointer (some ⟨w.heap.size+2,0,none⟩),.pointer (some ⟨w.heap.size+5,0,none⟩)]
  (fun D w1=>D = E∧W6.heap.size+1≤w1.heap.size∧(∀ k,k < W6.heap.size+1→k≠w.heap.size+4→k≠w.heap.size+5→k≠x→w1.heap[k]? = (W6.alloc (.cells #[.int .i64 0] 33)).heap[k]?)∧w1.os = w.os∧w1.tape = w.tape∧w1.output = w.output∧(E = 0→(∃ n,W6.heap.size+1≤n∧StBox w1 n (w.heap.size+4) S'∧dV_ w1 n x xs)∧w1.heap[w.heap.size+5]? = some (.cells #[.int .i64 N] 3 (0,0)))) W6
  (T1.mono (by
   rintro e w' ⟨rfl,g1,g2,g3,g4,g5,g6⟩;rw [World.size_alloc] at g1 g2 g6;exact ⟨E,rfl,⟨rfl,g1,g2,g3.trans hB6.os,g4.trans hB6.tape,g5.trans hB6.output,g6⟩,(g2 _ (Nat.lt_succ_self _) (by omega) (by omega) (by omega)).trans x6⟩))
 have HW6:Hid (W6 = ((((((w.alloc (.cells #[.slice a1 n1 c1,.slice a2 n2 c2,.slice a3 n3 c3] 26)).alloc (.cells #[.slice b1 m1 d1,.slice b2 m2 d2,.slice b3 m3 d3,.int .i64 s.nextSeq,.int .i64 s.nextTag,.int .i64 s.came,.int .i64 s.acked,.int .i64 s.dropped] 31)).alloc (.cells #[.func (.func f) #[] cap] 108)).alloc (.cells #[.slice none 0 0,.slice none 0 0,.slice none 0 0,.int .i64 0,.int .i64 0,.int .i64 0,.int .i64 0,.int .i64 0] 31)).alloc (.cells #[.slice none 0 0,.slice none 0 0,.slice none 0 0,.int .i64 0,.int .i64 0,.int .i64 0,.int .i64 0,.int .i64 0] 31)).alloc (.cells #[.int .i64 0] 3))):=hW6;have HTR:=hidI TR;have HB6:=hidI hB6;have X3:=hidI x3;have HZ6:=hidI hz6';have hmf:∀ (fn:Fn) (first cap:Array Value) (w:World),(Instr.makeFunc fn first cap).run Tryz.prog w = .ok (.func fn first cap) w:=fun _ _ _ _=>rfl
 clear T1 TR hW6 hz6 hz6' hg6 hB6 x0 x1 x2 x3 x4 x5 x6 l7 hE0 hdo hf hp hs hn2 hn3;go_enter Tryz.func72,Tryz.ntmps72;go_wp2_with fail
 rw [← HW6.out];refine HTR.out.mono ?_;rintro e w7 ⟨D,w1,rfl,⟨rfl,g1,g2,g3,g4,g5,g6⟩,hb,rfl⟩;have r1:w1.heap[w.heap.size+3]? = _:=(g2 _ (by have:=HZ6.out;omega) (by omega) (by omega) (by omega)).trans (((Below.refl W6.heap.size W6).alloc (Nat.le_refl _) (.cells #[.int .i64 0] 33)).block _ (by have:=HZ6.out;omega) |>.trans X3.out);have t7:=sct_ w1 W6.heap.size 0 (.int .i64 D);have r7:=(t7.block _ (lth_ r1) (by have:=HZ6.out;omega)).trans r1;generalize hw7:w1.setCell ⟨W6.heap.size,0,none⟩ (.int .i64 D) = w7 at t7 r7;have hB7:ac_ w.heap.size x w w7:=by
  refine ⟨t7.os.trans g3,t7.tape.trans g4,t7.output.trans g5,?_,fun k hk hkx=>?_⟩
  ·have:=t7.size;have:=HZ6.out;omega
  ·rw [t7.block k (by have:=HZ6.out;omega) (by have:=HZ6.out;omega),g2 k (by have:=HZ6.out;omega) (by omega) (by omega) hkx,Below.heap_alloc _ _ _ (by have:=HZ6.out;omega),HB6.out.block k hk]
 have HB7:=hidI hB7;have R7:=hidI r7;obtain ⟨x0,x1,x2,x3,x4,x5,x6,x7⟩:=aa_ r7;have e0:=foc_ r7 0;have e1:=foc_ r7 1;have e2:=foc_ r7 2;have e3:=foc_ r7 3;have e4:=foc_ r7 4;have e5:=foc_ r7 5;have e6:=foc_ r7 6;have e7:=foc_ r7 7;by_cases hD:D = 0
 ·subst hD;obtain ⟨⟨n,hn,⟨g1',g2',g3',l1,r1',l2,r2,l3,r3,hbx,ho⟩,htx⟩,hnb⟩:=g6 rfl;have hbx7:=(t7.block _ (lth_ hbx) (by have:=HZ6.out;omega)).trans hbx;have hnb7:=(t7.block _ (lth_ hnb) (by have:=HZ6.out;omega)).trans hnb;have ho7:=ho.turn hb (by decide) t7;have HO7:=hidI ho7;have HTX:=hidI (htx.turn hb (by decide) (by have:=HZ6.out;omega) t7);obtain ⟨y0,y1,y2,y3,y4,y5,y6,y7⟩:=aa_ hbx7;have cn:=coc_ hnb7 0;simp at cn;have HN:=hidI hn;clear g1 g2 g3 g4 g5 g6 hb r1 t7 r7 hw7 hB7 hbx hnb ho htx hbx7 hnb7 ho7 hn;go_wp2_with fail
  go_region
  generalize hW4:World.setCell (World.setCell (World.setCell (World.setCell (World.setCell (World.setCell (World.setCell (World.setCell _ _ _) _ _) _ _) _ _) _ _) _ _) _ _) _ _ = W4;obtain ⟨b4,t4⟩:=store8 R7.out hW4;obtain ⟨z0,z1,z2,z3,z4,z5,z6,z7⟩:=aa_ b4;go_wp2_with fail
  exact bodyPost_ret (v:=.tuple #[.agg #[.slice g1' l1 r1',.slice g2' l2 r2,.slice g3' l3 r3,.int .i64 S'.nextSeq,.int .i64 S'.nextTag,.int .i64 S'.came,.int .i64 S'.acked,.int .i64 S'.dropped],.int .i64 N,.int .i64 0]) (by simp [results,Tryz.results72,go_sem,z0,z1,z2,z3,z4,z5,z6,z7]) rfl ⟨_,by first | rfl | rw [if_pos rfl],⟨fun _=>⟨_,_,_,_,_,_,_,_,_,rfl,((HO7.out.turn R7.out (by decide) t4).lower (by have:=HN.out;have:=HZ6.out;omega)).keep (Below.refl _ _).drew⟩,fun h=>absurd rfl h⟩,fun _=>((HTX.out.turn R7.out (by decide) (by omega) t4).lower (by have:=HN.out;have:=HZ6.out;omega)).keep (Below.refl _ _).drew,HB7.out.trans (ac_.of_below (t4.below (by have:=HB7.out.size;omega) (by omega)).drew (Nat.le_refl _))⟩
 ·have hD':(D != 0) = true:=bne_iff_ne.2 hD;have HDN:=hidI hD;clear g1 g2 g3 g4 g5 g6 hb r1 t7 r7 hw7 hB7 hD;go_wp2_with fail
  generalize hW4:World.setCell (World.setCell (World.setCell (World.setCell (World.setCell (World.setCell (World.setCell (World.setCell w7 _ _) _ _) _ _) _ _) _ _) _ _) _ _) _ _ = W4;obtain ⟨b4,t4⟩:=store8 R7.out hW4;obtain ⟨z0,z1,z2,z3,z4,z5,z6,z7⟩:=aa_ b4;exact bodyPost_ret (v:=.tuple #[zerS,.int .i64 0,.int .i64 D]) (by simp [results,Tryz.results72,go_sem,z0,z1,z2,z3,z4,z5,z6,z7,zerS]) rfl ⟨zerS,by first | rfl | rw [if_neg HDN.out],⟨fun h=>absurd h HDN.out,fun _=>rfl⟩,fun h=>absurd h HDN.out,HB7.out.trans (ac_.of_below (t4.below (by have:=HB7.out.size;omega) (by omega)) (Nat.le_refl _))⟩
theorem iG_ (f:FuncId) (hf:Goes f) (cap:Array Value) (w:World) (s:ab_) (E:Int) (S':ab_) (x0:Nat) (xs:List ByteArray) (B:Nat) (x:w.heap[B]? = some (.cells #[.func (.func f) #[] cap] 77 (0,0))) (h:ge_ f cap w x0 s E S' xs)   : na_ 73 #[.pointer (some ⟨B,0,none⟩)] w x0 s E 0 S' xs:=by
 intro W n t hBW hwt htn hnW hbx;have HC:=hidI (h W n t hBW hwt htn hnW hbx);have hf':∀ (args:Array Value) (w:World),Sem.run Tryz.prog (callFunc f args) w = .ok (.enter f args) w:=hf
 have hap:(#[Value.pointer (some ⟨t,0,none⟩)] ++ #[Value.pointer (some ⟨B,0,none⟩)]:Array Value) = #[.pointer (some ⟨t,0,none⟩),.pointer (some ⟨B,0,none⟩)]:=rfl;rw [hap];have c0:=coc_ (pkp_ x hBW) 0;simp at c0;clear hap x h hbx hf;go_enter Tryz.func73,Tryz.ntmps73;go_wp2_with fail
 refine HC.out.mono ?_;rintro e w1 ⟨hF,hc⟩;have HF:=hidI hF;clear hF c0;rcases hc with ⟨hne,rfl⟩ | ⟨rfl,rfl,hb,htx⟩
 ·unfold panE;exact ⟨rfl,HF.out,.inl ⟨hne,rfl⟩⟩
 ·have HB:=hidI hb;have HTX:=hidI htx;unfold okE;clear hb htx;go_wp2_with fail
  go_ret
  exact ⟨HF.out,rfl,HB.out,HTX.out⟩
theorem la_ (p:ad_) (a1 a2 a3:Option Addr) (n1 c1 n2 c2 n3 c3:Nat) (s:ab_) (b1 b2 b3:Option Addr) (m1 d1 m2 d2 m3 d3:Nat) (f:FuncId) (hf:Goes f) (cap:Array Value) (E:Int) (S':ab_) (x:Nat) (xs:List ByteArray) (w:World) (hx:x < w.heap.size) (hp:ap_ w a1 a2 a3 n1 n2 n3 p) (hs:al_ w b1 b2 b3 m1 m2 m3 s) (hn2:b2 = none→d2 = 0) (hn3:b3 = none→d3 = 0) (hE0:stE p s≠0→E = stE p s) (hdo:stE p s = 0→ge_ f cap w x s E S' xs) :
 Calls Tryz.prog 28 #[.agg #[.slice a1 n1 c1,.slice a2 n2 c2,.slice a3 n3 c3],.agg #[.slice b1 m1 d1,.slice b2 m2 d2,.slice b3 m3 d3,.int .i64 s.nextSeq,.int .i64 s.nextTag,.int .i64 s.came,.int .i64 s.acked,.int .i64 s.dropped],.func (.func f) #[] cap] w fun e w'=>∃ v,e = .returned (.tuple #[v,.int .i64 E])∧a4_ w' w.heap.size v E S'∧nG_ w' w.heap.size x E xs∧ac_ w.heap.size x w w':=by
 obtain ⟨hz4,hg4,hB4⟩:=av_ [.cells #[.slice a1 n1 c1,.slice a2 n2 c2,.slice a3 n3 c3] 26,.cells #[.slice b1 m1 d1,.slice b2 m2 d2,.slice b3 m3 d3,.int .i64 s.nextSeq,.int .i64 s.nextTag,.int .i64 s.came,.int .i64 s.acked,.int .i64 s.dropped] 31,.cells #[.func (.func f) #[] cap] 77,.cells #[.slice none 0 0,.slice none 0 0,.slice none 0 0,.int .i64 0,.int .i64 0,.int .i64 0,.int .i64 0,.int .i64 0] 31] w;obtain ⟨W4,hW4⟩:∃ W4,W4 = List.foldl World.alloc w [.cells #[.slice a1 n1 c1,.slice a2 n2 c2,.slice a3 n3 c3] 26,.cells #[.slice b1 m1 d1,.slice b2 m2 d2,.slice b3 m3 d3,.int .i64 s.nextSeq,.int .i64 s.nextTag,.int .i64 s.came,.int .i64 s.acked,.int .i64 s.dropped] 31,.cells #[.func (.func f) #[] cap] 77,.cells #[.slice none 0 0,.slice none 0 0,.slice none 0 0,.int .i64 0,.int .i64 0,.int .i64 0,.int .i64 0,.int .i64 0] 31]:=⟨_,rfl⟩
 rw [← hW4] at hz4 hg4 hB4;have HW4:Hid (W4 = ((((w.alloc (.cells #[.slice a1 n1 c1,.slice a2 n2 c2,.slice a3 n3 c3] 26)).alloc (.cells #[.slice b1 m1 d1,.slice b2 m2 d2,.slice b3 m3 d3,.int .i64 s.nextSeq,.int .i64 s.nextTag,.int .i64 s.came,.int .i64 s.acked,.int .i64 s.dropped] 31)).alloc (.cells #[.func (.func f) #[] cap] 77)).alloc (.cells #[.slice none 0 0,.slice none 0 0,.slice none 0 0,.int .i64 0,.int .i64 0,.int .i64 0,.int .i64 0,.int .i64 0] 31))):=hW4;have hz4':W4.heap.size = w.heap.size+4:=by rw [hz4];rfl
 have x2:=hg4 2 _ rfl;have x3:=hg4 3 _ rfl;have T:=l4_ p a1 a2 a3 n1 c1 n2 c2 n3 c3 s b1 b2 b3 m1 d1 m2 d2 m3 d3 73 (fun _ _=>rfl) #[.pointer (some ⟨w.heap.size+2,0,none⟩)] E 0 S' x xs W4 (by omega) (hp.keep hB4) (hs.keep hB4) hn2 hn3 hE0 (fun h=>iG_ f hf cap W4 s E S' x xs _ x2 ((hdo h).up hB4));rw [show (if E = 0 then (0:Int) else 0) = 0 by split <;> rfl] at T;have HT:=hidI T;have X3:=hidI x3;have HZ4:=hidI hz4';have HB4:=hidI hB4;have hmf:∀ (fn:Fn) (first cap:Array Value) (w:World),(Instr.makeFunc fn first cap).run Tryz.prog w = .ok (.func fn first cap) w:=fun _ _ _ _=>rfl
 clear T hW4 hz4 hz4' hg4 hB4 x2 x3 hp hs hn2 hn3 hE0 hdo hf;go_enter Tryz.func28,Tryz.ntmps28;go_wp2_with fail
 rw [← HW4.out];refine HT.out.mono ?_;rintro e w6 ⟨v,rfl,hres,htx,hB6⟩;have x6:=(hB6.block _ (by have:=HZ4.out;omega) (by omega)).trans X3.out;obtain ⟨y0,y1,y2,y3,y4,y5,y6,y7⟩:=aa_ x6;have f0:=foc_ x6 0;have f1:=foc_ x6 1;have f2:=foc_ x6 2;have f3:=foc_ x6 3;have f4:=foc_ x6 4;have f5:=foc_ x6 5;have f6:=foc_ x6 6;have f7:=foc_ x6 7;obtain ⟨x1,x2,x3,k1,e1,k2,e2,k3,e3,i1,i2,i3,i4,i5,rfl⟩:=hres.shape;have X6:=hidI x6;have HRES:=hidI hres;have HB6:=hidI hB6;have HTX:=hidI htx;have hlt:=lth_ x6;clear x6 hres hB6 htx;go_wp2_with fail
 generalize hW7:World.setCell (World.setCell (World.setCell (World.setCell (World.setCell (World.setCell (World.setCell (World.setCell w6 _ _) _ _) _ _) _ _) _ _) _ _) _ _) _ _ = W7;obtain ⟨b7,t7⟩:=store8 X6.out hW7;have l8:Below W7.heap.size W7 (W7.alloc (.cells #[.slice x1 k1 e1,.slice x2 k2 e2,.slice x3 k3 e3,.int .i64 i1,.int .i64 i2,.int .i64 i3,.int .i64 i4,.int .i64 i5] 31)):=(Below.refl _ _).alloc (Nat.le_refl _) _;obtain ⟨z0,z1,z2,z3,z4,z5,z6,z7⟩:=aa_ (pkp_ b7 l8);have hB7:ac_ w.heap.size x w W7:=(ac_.of_below HB4.out (Nat.le_refl _)).trans (ac_.trans ⟨HB6.out.os,HB6.out.tape,HB6.out.output,HB6.out.size,fun k h1 h2=>HB6.out.block k (by have:=HZ4.out;omega) h2⟩ (ac_.of_below (t7.below (n:=w.heap.size) (by have:=HB6.out.size;have:=HZ4.out;omega) (by omega)) (Nat.le_refl _)));exact bodyPost_ret (v:=.tuple #[.agg #[.slice x1 k1 e1,.slice x2 k2 e2,.slice x3 k3 e3,.int .i64 i1,.int .i64 i2,.int .i64 i3,.int .i64 i4,.int .i64 i5],.int .i64 E]) (by simp [results,Tryz.results28,go_sem,z0,z1,z2,z3,z4,z5,z6,z7]) rfl ⟨_,rfl,((HRES.out.turn X6.out t7).keep l8).lower (by have:=HZ4.out;omega),fun h=>((((HTX.out h).turn X6.out (by decide) (by omega) t7)).keep l8).lower (by have:=HZ4.out;omega),hB7.trans (ac_.of_below (l8.mono hB7.size) (Nat.le_refl _))⟩
end Go.Proofs.YtlbnkpicnokgoaaGreat
namespace Go.Proofs.YtlbnkpicnokgoaaGreat
set_option linter.unusedVariables false
set_option maxRecDepth 100000
def Llt:List Nat→List Nat→Prop
 | [],_=>False
 | _ :: _,[]=>False
 | a :: r,b :: s=>a < b∨(a = b∧Llt r s)
theorem hl_:∀ {s t u:List Nat},Llt s t→Llt t u→Llt s u
 | [],_,_,h,_=>h.elim
 | _ :: _,[],_,h,_=>h.elim
 | _ :: _,_ :: _,[],_,k=>k.elim
 | a :: r, b :: s, c :: t, h, k => by
   rcases h with h | ⟨rfl,h⟩
   ·rcases k with k | ⟨rfl,k⟩
    ·exact .inl (by omega)
    ·exact .inl h
   ·rcases k with k | ⟨rfl,k⟩
    ·exact .inl k
    ·exact .inr ⟨rfl,hl_ h k⟩
theorem e6_:∀ {s t:List Nat} {n m:Nat},s.length = t.length→(Llt (s ++ [n]) (t ++ [m])↔Llt s t∨(s = t∧n < m))
 | [],[],n,m,_=>by simp [Llt]
 | [],_ :: _,_,_,h=>by simp at h
 | _ :: _,[],_,_,h=>by simp at h
 | a :: r, b :: s, n, m, hl => by
   have ih:=e6_ (s:=r) (t:=s) (n:=n) (m:=m) (by simpa using hl);simp only [List.cons_append,Llt,ih,List.cons.injEq];constructor
   ·rintro (h | ⟨h1,h | ⟨h2,h⟩⟩)
    ·exact .inl (.inl h)
    ·exact .inl (.inr ⟨h1,h⟩)
    ·exact .inr ⟨⟨h1,h2⟩,h⟩
   ·rintro ((h | ⟨h1,h⟩) | ⟨⟨h1,h2⟩,h⟩)
    ·exact .inl h
    ·exact .inr ⟨h1,.inl h⟩
    ·exact .inr ⟨h1,.inr ⟨h2,h⟩⟩
def Slt (s t:List Nat):Prop:=s.length < t.length∨(s.length = t.length∧Llt s t)
theorem dr_ {s t u:List Nat} (h:Slt s t) (k:Slt t u):Slt s u:=by
 rcases h with h | ⟨h1,h⟩ <;> rcases k with k | ⟨k1,k⟩
 ·exact .inl (by omega)
 ·exact .inl (by omega)
 ·exact .inl (by omega)
 ·exact .inr ⟨by omega,hl_ h k⟩
theorem bw_ {s t:List Nat} {n m:Nat}:Slt (s ++ [n]) (t ++ [m])↔Slt s t∨(s = t∧n < m):=by
 unfold Slt;simp only [List.length_append,List.length_cons,List.length_nil];constructor
 ·rintro (h | ⟨h,k⟩)
  ·exact .inl (.inl (by omega))
  ·rcases (e6_ (by omega)).1 k with k | k
   ·exact .inl (.inr ⟨by omega,k⟩)
   ·exact .inr k
 ·rintro ((h | ⟨h,k⟩) | ⟨rfl,h⟩)
  ·exact .inl (by omega)
  ·exact .inr ⟨by omega,(e6_ h).2 (.inl k)⟩
  ·exact .inr ⟨rfl,(e6_ rfl).2 (.inr ⟨rfl,h⟩)⟩
theorem fj_ {t:List Nat} {m:Nat}:Slt [] (t ++ [m]):=.inl (by simp)
inductive Path (A:Nat→Option (Nat × Nat)) (r:Nat):List Nat→Nat→Prop
 | nil:Path A r [] r
 | snoc {s:List Nat} {u n v:Nat}:Path A r s u→A n = some (u,v)→Path A r (s ++ [n]) v
theorem Path.inv {A:Nat→Option (Nat × Nat)} {r v:Nat} {s:List Nat} (h:Path A r s v):(s = []∧v = r)∨∃ s' u n,s = s' ++ [n]∧Path A r s' u∧A n = some (u,v):=by
 cases h with
 | nil=>exact .inl ⟨rfl,rfl⟩
 | snoc h1 h2=>exact .inr ⟨_,_,_,rfl,h1,h2⟩
theorem Path.inv_snoc {A:Nat→Option (Nat × Nat)} {r v n:Nat} {s:List Nat} (h:Path A r (s ++ [n]) v):∃ u,Path A r s u∧A n = some (u,v):=by
 rcases h.inv with ⟨h1,_⟩ | ⟨s',u,m,h1,h2,h3⟩
 ·simp at h1
 ·have:=List.append_inj' h1 rfl;simp at this;obtain ⟨rfl,rfl⟩:=this;exact ⟨u,h2,h3⟩
abbrev Trails:=List (Nat × List Nat)
def tstep (A:Nat→Option (Nat × Nat)) (u:Nat) (t:List Nat) (L:Trails) (n:Nat):Trails:=
 match A n with
 | some (u',v)=>if u' = u∧v ∉ L.map Prod.fst then L ++ [(v,t ++ [n])] else L
 | none=>L
structure Came (A:Nat→Option (Nat × Nat)) (r:Nat) (L:Trails) (i n:Nat):Prop where
 first:L[0]? = some (r,[])
 once:(L.map Prod.fst).Nodup
 path:∀ x ∈ L,Path A r x.2 x.1
 prev:∀ x ∈ L,x.2 = []∨∃ y ∈ L,∃ m,x.2 = y.2 ++ [m]
 rise:L.Pairwise (fun x y=>Slt x.2 y.2)
 least:∀ x ∈ L,∀ s,Path A r s x.1→¬ Slt s x.2
 shut:∀ j (hj:j < L.length) m v,A m = some (L[j].1,v)→(j < i∨(j = i∧m < n))→v ∈ L.map Prod.fst
 all:∀ (hi:i < L.length) s v,Path A r s v→Slt s (L[i].2 ++ [n])→v ∈ L.map Prod.fst
 below:∀ (hi:i < L.length),∀ x ∈ L,Slt x.2 (L[i].2 ++ [n])
theorem Came.start (A:Nat→Option (Nat × Nat)) (r:Nat):Came A r [(r,[])] 0 0 where
 first:=rfl
 once:=by simp
 path:=by intro x hx;simp at hx;subst hx;exact .nil
 prev:=by intro x hx;simp at hx;subst hx;exact .inl rfl
 rise:=by simp
 least:=by
  intro x hx s _ h;simp at hx;subst hx;rcases h with h | ⟨h,k⟩
  ·simp at h
  ·cases s <;> simp at h k;exact k
 shut:=by intro j hj m v _ h;omega
 all:=by
  intro hi s v hp h;rcases hp.inv with ⟨rfl,rfl⟩ | ⟨s',u,m,rfl,_,_⟩
  ·simp
  ·rcases bw_.1 h with h | ⟨_,h⟩
   ·rcases h with h | ⟨h,k⟩
    ·simp at h
    ·cases s' <;> simp at h k;exact k.elim
   ·omega
 below:=by intro hi x hx;simp at hx;subst hx;exact fj_
theorem ha_ {L:Trails} {x:Nat × List Nat} (h:x ∈ L):∃ j,∃ hj:j < L.length,L[j] = x:=List.mem_iff_getElem.1 h
theorem mb_ {A:Nat→Option (Nat × Nat)} {r u v:Nat} {s:List Nat} (h:Path A r s u) (k:Path A r s v):u = v:=by
 rcases h.inv with ⟨rfl,rfl⟩ | ⟨s',x,n,rfl,_,h3⟩
 ·rcases k.inv with ⟨_,rfl⟩ | ⟨s',x,n,h1,_,_⟩
  ·rfl
  ·simp at h1
 ·obtain ⟨y,_,h4⟩:=k.inv_snoc;rw [h3] at h4;simp at h4;exact h4.2
theorem Came.step {A:Nat→Option (Nat × Nat)} {r:Nat} {L:Trails} {i n:Nat} (h:Came A r L i n) (hi:i < L.length):Came A r (tstep A L[i].1 L[i].2 L n) i (n+1)∧(tstep A L[i].1 L[i].2 L n)[i]? = some L[i]:=by
 have ends:∀ {s:List Nat} {u:Nat},Path A r s u→s = L[i].2→u = L[i].1:=fun h1 e=>by subst e;exact mb_ h1 (h.path _ (List.getElem_mem hi))
 have same:(∀ v,A n = some (L[i].1,v)→v ∈ L.map Prod.fst)→Came A r L i (n+1):=by
  intro hv;refine ⟨h.first,h.once,h.path,h.prev,h.rise,h.least,?_,?_,?_⟩
  ·intro j hj m v hA hm;by_cases e:j = i∧m = n
   ·obtain ⟨rfl,rfl⟩:=e;exact hv v hA
   ·exact h.shut j hj m v hA (by omega)
  ·intro hi' s v hp hs;rcases hp.inv with ⟨rfl,rfl⟩ | ⟨s',u,m,rfl,h1,h2⟩
   ·exact h.all hi' [] _ .nil fj_
   ·rcases bw_.1 hs with h3 | ⟨h3,h4⟩
    ·exact h.all hi' _ v hp (bw_.2 (.inl h3))
    ·by_cases e:m < n
     ·exact h.all hi' _ v hp (bw_.2 (.inr ⟨h3,e⟩))
     ·have e2:m = n:=by omega
      rw [ends h1 h3,e2] at h2;exact hv v h2
  ·intro hi' x hx;exact dr_ (h.below hi' x hx) (bw_.2 (.inr ⟨rfl,by omega⟩))
 unfold tstep;cases hA:A n with
 | none =>
   exact ⟨same (fun v hv=>by rw [hA] at hv;cases hv),List.getElem?_eq_getElem hi⟩
 | some p =>
   obtain ⟨u',v⟩:=p;dsimp only;by_cases hc:u' = L[i].1∧v ∉ L.map Prod.fst
   ·rw [if_pos hc];obtain ⟨rfl,hv⟩:=hc;have hpos:0 < L.length:=by omega
    have hget:∀ j (hj:j < L.length),(L ++ [(v,L[i].2 ++ [n])])[j]'(by simp;omega) = L[j]:=fun j hj=>List.getElem_append_left hj
    have hold:∀ {x:Nat},x ∈ L.map Prod.fst→x ∈ (L ++ [(v,L[i].2 ++ [n])]).map Prod.fst:=fun hx=>by simp only [List.map_append,List.mem_append];exact .inl hx
    have hnew:v ∈ (L ++ [(v,L[i].2 ++ [n])]).map Prod.fst:=by simp
    refine ⟨⟨?_,?_,?_,?_,?_,?_,?_,?_,?_⟩,by rw [List.getElem?_append_left hi];exact List.getElem?_eq_getElem hi⟩
    ·rw [List.getElem?_append_left hpos];exact h.first
    ·rw [List.map_append,List.nodup_append];refine ⟨h.once,by simp,?_⟩;intro a ha b hb e;simp at hb;subst hb;subst e;exact hv ha
    ·intro x hx;rcases List.mem_append.1 hx with hx | hx
     ·exact h.path x hx
     ·simp at hx;subst hx;exact .snoc (h.path _ (List.getElem_mem hi)) hA
    ·intro x hx;rcases List.mem_append.1 hx with hx | hx
     ·rcases h.prev x hx with e | ⟨y,hy,m,e⟩
      ·exact .inl e
      ·exact .inr ⟨y,List.mem_append.2 (.inl hy),m,e⟩
     ·simp at hx;subst hx;exact .inr ⟨L[i],List.mem_append.2 (.inl (List.getElem_mem hi)),n,rfl⟩
    ·rw [List.pairwise_append];refine ⟨h.rise,by simp,?_⟩;intro a ha b hb;simp at hb;subst hb;exact h.below hi a ha
    ·intro x hx s hp hs;rcases List.mem_append.1 hx with hx | hx
     ·exact h.least x hx s hp hs
     ·simp at hx;subst hx;exact hv (h.all hi s v hp hs)
    ·intro j hj m v' hA' hm;have hj':j < L.length:=by omega
     rw [hget j hj'] at hA';by_cases e:j = i∧m = n
     ·obtain ⟨rfl,rfl⟩:=e;rw [hA] at hA';simp at hA';rw [← hA'];exact hnew
     ·exact hold (h.shut j hj' m v' hA' (by omega))
    ·intro hi' s v' hp hs;rw [hget i hi] at hs;rcases hp.inv with ⟨rfl,rfl⟩ | ⟨s',u,m,rfl,h1,h2⟩
     ·exact hold (h.all hi [] _ .nil fj_)
     ·rcases bw_.1 hs with h3 | ⟨h3,h4⟩
      ·exact hold (h.all hi _ v' hp (bw_.2 (.inl h3)))
      ·by_cases e:m < n
       ·exact hold (h.all hi _ v' hp (bw_.2 (.inr ⟨h3,e⟩)))
       ·have e2:m = n:=by omega
        rw [ends h1 h3,e2,hA] at h2;simp at h2;rw [← h2];exact hnew
    ·intro hi' x hx;rw [hget i hi];rcases List.mem_append.1 hx with hx | hx
     ·exact dr_ (h.below hi x hx) (bw_.2 (.inr ⟨rfl,by omega⟩))
     ·simp at hx;subst hx;exact bw_.2 (.inr ⟨rfl,by omega⟩)
   ·rw [if_neg hc];refine ⟨same (fun v' hv=>?_),List.getElem?_eq_getElem hi⟩;rw [hA] at hv;simp at hv;obtain ⟨rfl,rfl⟩:=hv;exact Classical.not_not.1 (fun hn=>hc ⟨rfl,hn⟩)
def tround (A:Nat→Option (Nat × Nat)) (nb:Nat) (x:Nat × List Nat) (L:Trails):Trails:=(List.range nb).foldl (tstep A x.1 x.2) L
theorem Came.steps {A:Nat→Option (Nat × Nat)} {r:Nat} {L:Trails} {i:Nat} (h:Came A r L i 0) (hi:i < L.length):∀ nb,Came A r (tround A nb L[i] L) i nb∧(tround A nb L[i] L)[i]? = some L[i]
 | 0=>⟨h,List.getElem?_eq_getElem hi⟩
 | nb + 1 => by
   obtain ⟨h1,h2⟩:=h.steps hi nb;unfold tround at h1 h2 ⊢;rw [List.range_succ,List.foldl_append,List.foldl_cons,List.foldl_nil];obtain ⟨hi',e⟩:=List.getElem?_eq_some_iff.1 h2;have:=h1.step hi';rw [e] at this;exact this
theorem Came.next {A:Nat→Option (Nat × Nat)} {r:Nat} {L:Trails} {i nb:Nat} (h:Came A r L i nb) (hi:i < L.length) (hnb:∀ m p,A m = some p→m < nb):Came A r L (i+1) 0 where
 first:=h.first
 once:=h.once
 path:=h.path
 prev:=h.prev
 rise:=h.rise
 least:=h.least
 shut:=by
  intro j hj m v hA hm;have:=hnb m _ hA;exact h.shut j hj m v hA (by omega)
 all:=by
  intro hi' s v hp hs;rcases hp.inv with ⟨rfl,rfl⟩ | ⟨s',u,m,rfl,h1,h2⟩
  ·exact h.all hi [] _ .nil fj_
  ·rcases bw_.1 hs with h3 | ⟨_,h4⟩
   ·have hu:=h.all hi s' u h1 (dr_ h3 (h.below hi _ (List.getElem_mem hi')));obtain ⟨x,hx,rfl⟩:=List.mem_map.1 hu;obtain ⟨j,hj,rfl⟩:=ha_ hx;have hl:=h.least _ hx s' h1;have hji:j < i+1:=by
     rcases Nat.lt_or_ge j (i+1) with h | h5
     ·exact h
     ·exfalso
      rcases Nat.eq_or_lt_of_le h5 with e | e
      ·subst e;exact hl h3
      ·exact hl (dr_ h3 (List.pairwise_iff_getElem.1 h.rise _ _ hi' hj e))
    exact h.shut j hj m v h2 (by have:=hnb m _ h2;omega)
   ·omega
 below:=by
  intro hi' x hx;rcases h.prev x hx with e | ⟨y,hy,m,e⟩
  ·rw [e];exact fj_
  ·have h1:=h.below hi x hx;rw [e] at h1 ⊢;have h2:=List.pairwise_iff_getElem.1 h.rise i (i+1) hi hi' (by omega);rcases bw_.1 h1 with h3 | ⟨h3,_⟩
   ·exact bw_.2 (.inl (dr_ h3 h2))
   ·rw [h3];exact bw_.2 (.inl h2)
inductive Reached (A:Nat→Option (Nat × Nat)) (nb r:Nat):Trails→Nat→Prop
 | start:Reached A nb r [(r,[])] 0
 | next {L:Trails} {i:Nat} (h:Reached A nb r L i) (hi:i < L.length):Reached A nb r (tround A nb L[i] L) (i+1)
theorem Reached.came {A:Nat→Option (Nat × Nat)} {nb r:Nat} (hnb:∀ m p,A m = some p→m < nb) {L:Trails} {i:Nat} (h:Reached A nb r L i):Came A r L i 0∧i≤L.length:=by
 induction h with
 | start=>exact ⟨Came.start A r,by simp⟩
 | next h hi ih =>
   obtain ⟨h1,h2⟩:=ih.1.steps hi nb;obtain ⟨hi',_⟩:=List.getElem?_eq_some_iff.1 h2;exact ⟨h1.next hi' hnb,by omega⟩
theorem ff_:∀ (n:Nat) (l:List Nat),l.Nodup→(∀ x ∈ l,x < n)→l.length≤n
 | 0, l, _, h => by
   cases l with
   | nil=>simp
   | cons x r=>have:=h x (by simp);omega
 | n + 1, l, hn, h => by
   by_cases hm:n ∈ l
   ·have:=ff_ n (l.erase n) (hn.erase n) (fun x hx=>by
     have h1:=(hn.mem_erase_iff).1 hx;have:=h x h1.2;have:=h1.1;omega)
    rw [List.length_erase_of_mem hm] at this;omega
   ·have:=ff_ n l hn (fun x hx=>by
     have:=h x hx;have:x≠n:=fun e=>hm (e ▸ hx)
     omega)
    omega
structure Found (A:Nat→Option (Nat × Nat)) (r:Nat) (L:Trails):Prop where
 came:∃ i,L.length≤i∧Came A r L i 0
theorem Reached.found {A:Nat→Option (Nat × Nat)} {nb r:Nat} (hnb:∀ m p,A m = some p→m < nb) {L:Trails} {i:Nat} (h:Reached A nb r L i) (hi:¬ i < L.length):Found A r L:=⟨i,by omega,(h.came hnb).1⟩
theorem Found.all {A:Nat→Option (Nat × Nat)} {r:Nat} {L:Trails} (h:Found A r L) {s:List Nat} {v:Nat} (hp:Path A r s v):v ∈ L.map Prod.fst:=by
 obtain ⟨i,hi,h⟩:=h;induction hp with
 | nil=>have:=h.first;exact List.mem_map.2 ⟨(r,[]),List.mem_of_getElem? this,rfl⟩
 | snoc h1 h2 ih =>
   obtain ⟨x,hx,rfl⟩:=List.mem_map.1 ih;obtain ⟨j,hj,rfl⟩:=ha_ hx;exact h.shut j hj _ _ h2 (by omega)
theorem Found.mem {A:Nat→Option (Nat × Nat)} {r:Nat} {L:Trails} (h:Found A r L) {v:Nat}:v ∈ L.map Prod.fst↔∃ s,Path A r s v:=by
 constructor
 ·intro hv;obtain ⟨x,hx,rfl⟩:=List.mem_map.1 hv;obtain ⟨i,hi,h⟩:=h;exact ⟨_,h.path x hx⟩
 ·rintro ⟨s,hs⟩;exact h.all hs
theorem Came.short {A:Nat→Option (Nat × Nat)} {r:Nat} {L:Trails} {i n:Nat} (h:Came A r L i n):∀ (k j:Nat) (hj:j < L.length),j < k→L[j].2.length≤j
 | 0,j,hj,hk=>by omega
 | k + 1, j, hj, hk => by
   rcases h.prev _ (List.getElem_mem hj) with e | ⟨y,hy,m,e⟩
   ·rw [e];simp
   ·obtain ⟨j',hj',rfl⟩:=ha_ hy;have hlt:j' < j:=by
     rcases Nat.lt_trichotomy j' j with h1 | h1 | h1
     ·exact h1
     ·subst h1;have:=congrArg List.length e;simp at this
     ·exfalso
      have:=List.pairwise_iff_getElem.1 h.rise j j' hj hj' h1;rw [e] at this;rcases this with h2 | ⟨h2,_⟩ <;> simp at h2
      omega
    have:=h.short k j' hj' (by omega);rw [e];simp;omega
end Go.Proofs.YtlbnkpicnokgoaaGreat
namespace Go.Proofs.YtlbnkpicnokgoaaGreat
open Go.RowKit Go.Shelf
set_option linter.unusedVariables false
set_option maxRecDepth 100000
set_option maxHeartbeats 1000000
attribute [local go_sem] Oper.semAt_some
def rtE (p:ad_) (v:Int) (key:ByteArray):Int:=if chkP p = 0 then (if aq_ v p.posts.length = true then kerr key.data.toList else 5) else chkP p
def bAt (p:ad_) (n:Nat):di_:=p.binds.getD n ⟨0,false,0,⟨#[]⟩⟩
def di_.val (b:di_):Value:=.agg #[.int .i64 b.src,.bool b.toPost,.int .i64 b.dst,.string b.pat]
def dw_ (p:ad_) (key:ByteArray) (v:Int) (n:Nat):Bool:=decide ((bAt p n).src = v) && fitP p n key
def bY_ (p:ad_) (key:ByteArray) (v:Int) (k:Nat):List Nat:=(List.range k).filter (dw_ p key v)
def bI_ (p:ad_) (key:ByteArray) (v:Int):List Nat:=bY_ p key v p.binds.length
theorem eD_ (p:ad_) (key:ByteArray) (v:Int) (k:Nat):bY_ p key v (k+1) = bY_ p key v k ++ if dw_ p key v k = true then [k] else []:=by
 unfold bY_;rw [List.range_succ,List.filter_append];cases h:dw_ p key v k <;> simp [h]
theorem hC_ {p:ad_} {key:ByteArray} {v:Int} {k:Nat} (h:dw_ p key v k = true):bY_ p key v (k+1) = bY_ p key v k ++ [k]:=by rw [eD_,if_pos h]
theorem jd_ {p:ad_} {key:ByteArray} {v:Int} {k:Nat} (h:dw_ p key v k = false):bY_ p key v (k+1) = bY_ p key v k:=by rw [eD_,h];simp
theorem kO_ (p:ad_) (key:ByteArray) (v:Int) {k m:Nat} (h:k≤m):bY_ p key v k <+: bY_ p key v m:=by
 induction m with
 | zero => have : k = 0 := by omega
           subst this;exact List.prefix_refl _
 | succ m ih =>
   by_cases e:k = m+1
   ·subst e;exact List.prefix_refl _
   ·rw [eD_];exact (ih (by omega)).trans (List.prefix_append _ _)
theorem fR_ (p:ad_) (a1 a2 a3:Option Addr) (n1 c1 n2 c2 n3 c3:Nat) (v:Int) (key:ByteArray) (w:World) (hp:ap_ w a1 a2 a3 n1 n2 n3 p) :
 Calls Tryz.prog 134 #[.agg #[.slice a1 n1 c1,.slice a2 n2 c2,.slice a3 n3 c3],.int .i64 v,.string key] w fun e w'=>e = .returned (.int .i64 (rtE p v key))∧Below w.heap.size w w':=by
 obtain ⟨W1,hW1,hBw,hs1,hbx⟩:=c4_ w (.slice a1 n1 c1) (.slice a2 n2 c2) (.slice a3 n3 c3) 26;have HW1:Hid (W1 = _):=hW1;have HP1:Hid (ap_ W1 a1 a2 a3 n1 n2 n3 p):=hp.keep hBw;have BX:Hid (∀ W,Below W1.heap.size W1 W→W.cell? ⟨w.heap.size,0,none⟩ = some (.slice a1 n1 c1)∧W.cell? ⟨w.heap.size,1,none⟩ = some (.slice a2 n2 c2)∧W.cell? ⟨w.heap.size,2,none⟩ = some (.slice a3 n3 c3)):=hbx;have s1:=hBw.size;have hl1:=hp.l1;clear hW1 hp hbx hs1;obtain ⟨d,hd⟩:∃ d,d = chkP p:=⟨_,rfl⟩
 have HD:Hid (d = chkP p):=hd;by_cases h0:d = 0
 ·have F1:rtE p v key = if aq_ v n1 = true then kerr key.data.toList else 5:=by unfold rtE;rw [if_pos (by rw [← hd];exact h0),hl1]
  clear hd;subst h0;cases hnum:aq_ v n1 with
  | false =>
    rw [hnum] at F1;rw [F1];clear F1;have hor:v < 0∨(¬ v < 0∧(n1:Int)≤v):=by unfold aq_ at hnum;simp at hnum;omega
    clear hnum hl1;rcases hor with h | ⟨h,h2⟩
    all_goals
     go_enter Tryz.func134,Tryz.ntmps134;go_wp2_with fail
     rw [← HW1.out];refine (ci_ p _ _ _ _ _ _ _ _ _ _ HP1.out.l1 HP1.out.l2 HP1.out.l3 HP1.out.sz HP1.out.p1 HP1.out.p2 HP1.out.p3).mono ?_;rintro e w2 ⟨rfl,hB2⟩;rw [← HD.out];obtain ⟨d0,d1,d2⟩:=BX.out w2 hB2;go_wp2_with fail
     go_ret
     exact ⟨rfl,hBw.trans (hB2.mono s1)⟩
  | true =>
    rw [hnum] at F1;have h1:¬ v < 0:=by unfold aq_ at hnum;simp at hnum;omega
    have h2:¬ (n1:Int)≤v:=by unfold aq_ at hnum;simp at hnum;omega
    obtain ⟨dk,hdk⟩:∃ dk,dk = kerr key.data.toList:=⟨_,rfl⟩
    rw [if_pos rfl,← hdk] at F1;rw [F1];have HC:Hid (∀ w,Calls Tryz.prog 164 #[.string key] w fun e w'=>∃ v,e = .returned (.tuple #[v,.int .i64 dk])∧Below w.heap.size w w'):=fun w=>by
     rw [hdk];by_cases hk:kerr key.data.toList = 0
     ·refine (et_ key _ rfl w hk).mono ?_;rintro e w' ⟨g,cap,rfl,_,_,_,_,hB⟩;exact ⟨_,by rw [hk],hB⟩
     ·refine (dI_ key w hk).mono ?_;rintro e w' ⟨rfl,hB⟩;exact ⟨_,rfl,hB⟩
    clear F1 hnum hl1 hdk;go_enter Tryz.func134,Tryz.ntmps134;go_wp2_with fail
    rw [← HW1.out];refine (ci_ p _ _ _ _ _ _ _ _ _ _ HP1.out.l1 HP1.out.l2 HP1.out.l3 HP1.out.sz HP1.out.p1 HP1.out.p2 HP1.out.p3).mono ?_;rintro e w2 ⟨rfl,hB2⟩;rw [← HD.out];obtain ⟨d0,d1,d2⟩:=BX.out w2 hB2;go_wp2_with fail
    refine (HC.out _).mono ?_;rintro e w3 ⟨u,rfl,hB3⟩;go_wp2_with fail
    go_ret
    exact ⟨rfl,hBw.trans ((hB2.trans (hB3.mono hB2.size)).mono s1)⟩
 ·have F1:rtE p v key = d:=by unfold rtE;rw [if_neg (by rw [← hd];exact h0),hd]
  have h0':(d != 0) = true:=bne_iff_ne.2 h0;rw [F1];clear h0 hd F1 hl1;go_enter Tryz.func134,Tryz.ntmps134;go_wp2_with fail
  rw [← HW1.out];refine (ci_ p _ _ _ _ _ _ _ _ _ _ HP1.out.l1 HP1.out.l2 HP1.out.l3 HP1.out.sz HP1.out.p1 HP1.out.p2 HP1.out.p3).mono ?_;rintro e w2 ⟨rfl,hB2⟩;rw [← HD.out];go_wp2_with fail
  go_ret
  exact ⟨rfl,hBw.trans (hB2.mono s1)⟩
end Go.Proofs.YtlbnkpicnokgoaaGreat
namespace Go.Proofs.YtlbnkpicnokgoaaGreat
open Go.RowKit Go.Shelf
set_option linter.unusedVariables false
set_option maxRecDepth 100000
set_option maxHeartbeats 2000000
attribute [local go_sem] Oper.semAt_some
theorem Below.grows {W W':World} (h:Below W.heap.size W W'):W.grownBy W' none:=⟨h.os,h.tape,h.output,h.size,fun k hk _=>h.block k hk⟩
theorem g2_ {p:Prop} (h:p):Hid p:=h
structure cl_ (n0 B:Nat) (W W':World):Prop where
 below:Below n0 W W'
 box:∀ j,j < 3→W'.heap[B+j]? = W.heap[B+j]?
theorem cl_.refl (n0 B:Nat) (W:World):cl_ n0 B W W:=⟨Below.refl _ _,fun _ _=>rfl⟩
theorem cl_.trans {n0 B:Nat} {X Y Z:World} (h:cl_ n0 B X Y) (k:cl_ n0 B Y Z):cl_ n0 B X Z:=⟨h.below.trans k.below,fun j hj=>(k.box j hj).trans (h.box j hj)⟩
theorem cl_.of_below {n0 B b:Nat} {W W':World} (h:Below b W W') (h0:n0≤b) (hb:B+3≤b):cl_ n0 B W W':=⟨h.mono h0,fun j hj=>h.block _ (by omega)⟩
structure cM_ (W:World) (B:Nat) (a1 a2 a3:Option Addr) (n1 c1 n2 c2 n3 c3:Nat) (v:Int) (key:ByteArray):Prop where
 p:W.heap[B]? = some (.cells #[.slice a1 n1 c1,.slice a2 n2 c2,.slice a3 n3 c3] 26 (0,0))
 v:W.heap[B+1]? = some (.cells #[.int .i64 v] 3 (0,0))
 k:W.heap[B+2]? = some (.cells #[.string key] 9 (0,0))
theorem cM_.keep {W W':World} {n0 B:Nat} {a1 a2 a3:Option Addr} {n1 c1 n2 c2 n3 c3:Nat} {v:Int} {key:ByteArray} (h:cM_ W B a1 a2 a3 n1 c1 n2 c2 n3 c3 v key) (k:cl_ n0 B W W'):cM_ W' B a1 a2 a3 n1 c1 n2 c2 n3 c3 v key:=
 ⟨(k.box 0 (by omega)).trans h.p,(k.box 1 (by omega)).trans h.v,(k.box 2 (by omega)).trans h.k⟩
theorem aO_ {W:World} {b:Nat} {cs:Array Value} {t:TypeId} (h:W.heap[b]? = some (.cells cs t (0,0))) (i:Nat):W.cell? ⟨b,i,none⟩ = cs[i]?:=by
 unfold World.cell?;simp only;rw [h];simp
theorem jI_ {p:ad_} {key:ByteArray} (hc:chkP p = 0) (hk:kerr key.data.toList = 0) {k:Nat} (h:k < p.binds.length):fitB p k key = fitP p k key:=by
 have e:fitE p k key = 0:=by
  unfold fitE;rw [if_pos hc,if_pos (by unfold aq_;simp;omega),hk]
 unfold fitB;rw [if_pos e,Int.toNat_natCast]
theorem dW_ {p:ad_} {k:Nat} (h:k < p.binds.length):bAt p k = p.binds[k]:=by unfold bAt;simp [List.getD,h]
theorem gm_ (n:Nat) (v1 v2 v3:Value) (v:Int) (key:ByteArray) (w:World) :
 CallsIn Fence.wide n Tryz.prog 136 #[.agg #[v1,v2,v3],.int .i64 v,.string key] w fun e w'=>e = .returned (.func (.func 165) #[] #[.pointer (some ⟨w.heap.size,0,none⟩),.pointer (some ⟨w.heap.size+1,0,none⟩),.pointer (some ⟨w.heap.size+1+1,0,none⟩)])∧w' = ((w.alloc (.cells #[v1,v2,v3] 26)).alloc (.cells #[.int .i64 v] 3)).alloc (.cells #[.string key] 9):=by
 refine callsIn_of_wp Tryz.func136 rfl trivial ?_ rfl;simp only [Tryz.ntmps136,List.size_toArray,List.length_cons,List.length_nil,Nat.reduceAdd,Nat.reduceSub,Array.replicate_succ,Array.replicate_zero,List.push_toArray,List.append_toArray,List.nil_append,List.cons_append];gi_wp2
 go_ret
 exact ⟨rfl,rfl⟩
theorem eb_ (w:World) (a1 a2 a3:Option Addr) (n1 c1 n2 c2 n3 c3:Nat) (v:Int) (key:ByteArray):∃ W,W = ((w.alloc (.cells #[.slice a1 n1 c1,.slice a2 n2 c2,.slice a3 n3 c3] 26)).alloc (.cells #[.int .i64 v] 3)).alloc (.cells #[.string key] 9) ∧
 cM_ W w.heap.size a1 a2 a3 n1 c1 n2 c2 n3 c3 v key∧Below w.heap.size w W∧W.heap.size = w.heap.size+3:=by
 refine ⟨_,rfl,⟨?_,?_,?_⟩,?_,by simp⟩
 ·rw [Below.heap_alloc _ _ _ (by simp;omega),Below.heap_alloc _ _ _ (by simp)];exact World.alloc_heap_new w _
 ·rw [Below.heap_alloc _ _ _ (by simp)];have:=World.alloc_heap_new (w.alloc (.cells #[.slice a1 n1 c1,.slice a2 n2 c2,.slice a3 n3 c3] 26)) (.cells #[.int .i64 v] 3);rw [World.size_alloc] at this;exact this
 ·have:=World.alloc_heap_new ((w.alloc (.cells #[.slice a1 n1 c1,.slice a2 n2 c2,.slice a3 n3 c3] 26)).alloc (.cells #[.int .i64 v] 3)) (.cells #[.string key] 9);rw [World.size_alloc,World.size_alloc] at this;exact this
 ·exact (((Below.refl _ _).alloc (Nat.le_refl _) _).alloc (by simp) _).alloc (by simp;omega) _
theorem iw_ (n:Nat) (hn:1≤n) (l B:Nat) (p:ad_) (a1 a2 a3:Option Addr) (n1 c1 n2 c2 n3 c3:Nat) (v:Int) (key:ByteArray) (w0:World) (hc:chkP p = 0) (hk:kerr key.data.toList = 0) (hp:ap_ w0 a1 a2 a3 n1 n2 n3 p) (hB0:w0.heap.size≤B)
 (J Jx:List Nat→World→Prop) (W:World) (hWB:B+3≤W.heap.size) (h0W:Below w0.heap.size w0 W) (hbx:cM_ W B a1 a2 a3 n1 c1 n2 c2 n3 c3 v key)
 (hJ:AbidesFrom W.heap.size J)
 (hY:∀ pre x W1,J pre W1→pre.length < (bI_ p key v).length→YieldAt Fence.wide (n - 1) Tryz.prog l #[.int .i64 (x:Nat),(bAt p x).val] W1 fun e W'=>
  (e = .returned (.bool true)∧J (pre ++ [x]) W'∧cl_ w0.heap.size B W1 W')∨(e = .returned (.bool false)∧Jx (pre ++ [x]) W'))
 (h0:J [] W) :
 CallsIn Fence.wide n Tryz.prog 165 #[.func (.yield l) #[] #[],.pointer (some ⟨B,0,none⟩),.pointer (some ⟨B+1,0,none⟩),.pointer (some ⟨B+1+1,0,none⟩)] W fun e W'=>(∃ v,e = .returned v) ∧
  ((∃ ys,ys = bI_ p key v∧J ys W')∨(∃ pre,pre <+: bI_ p key v∧Jx pre W')):=by
 have HP:Hid (ap_ w0 a1 a2 a3 n1 n2 n3 p):=hp;have HBX:Hid (cM_ W B a1 a2 a3 n1 c1 n2 c2 n3 c3 v key):=hbx;have HFP:Hid (∀ k,k < p.binds.length→fitB p k key = fitP p k key):=fun k h=>jI_ hc hk h
 have hl3:p.binds.length = n3:=hp.l3;have HL3:Hid (p.binds.length = n3):=hl3;have h10:n3≤10:=by have:=(br_ hc).few.2.2;omega
 have HJ:Hid (AbidesFrom W.heap.size J):=hJ;have HY:=g2_ hY;have b0:=aO_ hbx.p 0;have b2:=aO_ hbx.p 2;simp at b0 b2;clear hp hbx hc hk hl3 hJ hY;refine callsIn_of_wp Tryz.func165 rfl trivial ?_ rfl;simp only [Tryz.ntmps165,List.size_toArray,List.length_cons,List.length_nil,Nat.reduceAdd,Nat.reduceSub,Array.replicate_succ,Array.replicate_zero,List.push_toArray,List.append_toArray,List.nil_append,List.cons_append];gi_wp2
 gi_loopw [12] (fun iv wr=>∃ (k:Nat),k≤n3∧iv = .int .i64 k∧J (bY_ p key v k) wr∧cl_ w0.heap.size B W wr) (fun iv _=>n3 - (intOf iv).toNat)
 case atStart=>exact ⟨0,Nat.zero_le _,rfl,h0,cl_.refl _ _ _⟩
 case round=>
  obtain ⟨k,hk,rfl,hJs,hKf⟩:=hrel;have hwr:=hKf.below.size;obtain ⟨x0,x1,x2⟩:=HBX.out.keep hKf;have e0:=aO_ x0 0;have e1:=aO_ x0 1;have e2:=aO_ x0 2;have e3:=aO_ x1 0;have e4:wr.cell? ⟨B+1+1,0,none⟩ = some (.string key):=aO_ x2 0;simp at e0 e1 e2 e3;by_cases hlt:k < n3
  ·have hkl:k < p.binds.length:=by rw [HL3.out];exact hlt
   have hB0r:Below w0.heap.size w0 wr:=h0W.trans hKf.below;obtain ⟨g,o,rfl,hg,hx⟩:=HP.out.p3.cells (by omega);obtain ⟨z1,z2,z3,z4⟩:=hx k hkl;obtain ⟨y,hy⟩:∃ y,y = p.binds[k]:=⟨_,rfl⟩
   rw [← hy] at z1 z2 z3 z4;have HYB:Hid (bAt p k = y):=by show bAt p k = y;rw [dW_ hkl,hy]
   have y1:=(hB0r.cell (p:=⟨g,_,none⟩) hg).trans z1;have y2:=(hB0r.cell (p:=⟨g,_,none⟩) hg).trans z2;have y3:=(hB0r.cell (p:=⟨g,_,none⟩) hg).trans z3;have y4:=(hB0r.cell (p:=⟨g,_,none⟩) hg).trans z4;have hgr:g < wr.heap.size:=Nat.lt_of_lt_of_le hg hB0r.size;have k0:B < wr.heap.size:=by omega
   have k1:B+1 < wr.heap.size:=by omega
   have k2:B+1+1 < wr.heap.size:=by omega
   clear hx z1 z2 z3 z4 hy;obtain ⟨f,tp,t,pt⟩:=y;dsimp only at y1 y2 y3 y4;have j1:(0:Int)≤(k:Int):=by omega
   have j2:(k:Int) < n3:=by omega
   obtain ⟨W1,hW1⟩:∃ W1,W1 = wr.alloc (.cells #[.int .i64 f,.bool tp,.int .i64 t,.string pt] 100):=⟨_,rfl⟩
   have HW1:Hid (W1 = _):=hW1;have hBa:Below wr.heap.size wr W1:=by rw [hW1];exact (Below.refl _ _).alloc (Nat.le_refl _) _
   have hsa:wr.heap.size+1≤W1.heap.size:=by rw [hW1];simp
   have hnew:W1.heap[wr.heap.size]? = some (.cells #[.int .i64 f,.bool tp,.int .i64 t,.string pt] 100 (0,0)):=by rw [hW1];exact World.alloc_heap_new wr _
   clear hW1;by_cases hf:f = v
   ·subst hf;have hJ1:J (bY_ p key f k) W1:=HJ.out _ wr _ none hJs (Below.grows hBa) (fun r e=>by cases e);have HPr:Hid (ap_ W1 a1 a2 (some ⟨g,o,none⟩) n1 n2 n3 p):=HP.out.keep (hB0r.trans (hBa.mono hB0r.size));clear hJs;gi_wp2_with fail
    refine ⟨trivial,?_⟩;rw [← HW1.out];refine (callsIn_wide.2 (ml_ p _ _ _ _ _ _ _ _ _ _ _ _ HPr.out)).mono ?_;rintro e W2 ⟨rfl,hB2⟩;rw [HFP.out k hkl];have hJ2:J (bY_ p key f k) W2:=HJ.out _ W1 _ none hJ1 (Below.grows hB2) (fun r e=>by cases e);have hB12:Below wr.heap.size wr W2:=hBa.trans (hB2.mono hBa.size);have hK2:cl_ w0.heap.size B W W2:=hKf.trans (cl_.of_below hB12 (by omega) (by omega));have hnew2:W2.heap[wr.heap.size]? = some (.cells #[.int .i64 f,.bool tp,.int .i64 t,.string pt] 100 (0,0)):=(hB2.block _ (by omega)).trans hnew;have m0:=aO_ hnew2 0;have m1:=aO_ hnew2 1;have m2:=aO_ hnew2 2;have m3:=aO_ hnew2 3;simp at m0 m1 m2 m3;clear e0 e1 e2 e3 e4 x0 x1 x2 y1 y2 y3 y4 hnew hnew2 b0 b2 hJ1;cases hfit:fitP p k key with
    | false =>
      have HG:Hid (bY_ p key f (k+1) = bY_ p key f k):=jd_ (by unfold dw_;rw [hfit];simp);clear hfit;gi_wp2
      refine ⟨fun f h=>(nomatch h),?_⟩;gi_wp2
      go_roundw
      case rel=>exact ⟨k+1,by omega,by go_num,by rw [HG.out];exact hJ2,hK2⟩
      case measure=>simp [intOf];omega
    | true =>
      have hgo:dw_ p key f k = true:=by unfold dw_;rw [HYB.out,hfit];simp
      have HG:Hid (bY_ p key f (k+1) = bY_ p key f k ++ [k]):=hC_ hgo;have HPre:Hid (bY_ p key f k ++ [k] <+: bI_ p key f):=by
       show bY_ p key f k ++ [k] <+: bI_ p key f;rw [← hC_ hgo];unfold bI_;exact kO_ p key f (by omega)
      have hlen:(bY_ p key f k).length < (bI_ p key f).length:=by
       have:=HPre.out.length_le;simp at this;omega
      obtain ⟨fn,tmps,assign,body,hy,hR⟩:=HY.out _ k W2 hJ2 hlen;have hval:(bAt p k).val = .agg #[.int .i64 f,.bool tp,.int .i64 t,.string pt]:=by rw [HYB.out];rfl
      rw [hval] at hy;clear hfit hgo hval hJ2 hlen;gi_wp2
      refine hR.mono ?_;rintro e W3 (⟨rfl,hJ3,hK3⟩ | ⟨rfl,hJx3⟩)
      ·gi_wp2
       go_roundw
       case rel=>exact ⟨k+1,by omega,by go_num,by rw [HG.out];exact hJ3,hK2.trans hK3⟩
       case measure=>simp [intOf];omega
      ·gi_wp2
       refine bodyPost_ret (results_none rfl _ _ _) rfl ?_;exact ⟨⟨_,rfl⟩,.inr ⟨_,HPre.out,hJx3⟩⟩
   ·have HG:Hid (bY_ p key v (k+1) = bY_ p key v k):=jd_ (by unfold dw_;rw [HYB.out];simp [hf]);have hf':(f != v) = true:=bne_iff_ne.2 hf;have HJ1:Hid (J (bY_ p key v k) W1):=HJ.out _ wr _ none hJs (Below.grows hBa) (fun r e=>by cases e);clear hJs hf;gi_wp2
    rw [← HW1.out];go_roundw
    case rel=>exact ⟨k+1,by omega,by go_num,by rw [HG.out];exact HJ1.out,hKf.trans (cl_.of_below hBa (by omega) (by omega))⟩
    case measure=>simp [intOf];omega
  ·have HE:Hid (bY_ p key v k = bI_ p key v):=by show bY_ p key v k = _;unfold bI_;rw [HL3.out];congr 1;omega
   gi_wp2
   go_end0
   exact ⟨⟨_,rfl⟩,.inl ⟨_,HE.out,hJs⟩⟩
theorem hD_ (n:Nat) (hn:1≤n) (B:Nat) (p:ad_) (a1 a2 a3:Option Addr) (n1 c1 n2 c2 n3 c3:Nat) (v:Int) (key:ByteArray) (w0 w:World) (hc:chkP p = 0) (hk:kerr key.data.toList = 0) (hp:ap_ w0 a1 a2 a3 n1 n2 n3 p) (hB0:w0.heap.size≤B)
 (hWB:B+3≤w.heap.size) (h0W:Below w0.heap.size w0 w) (hbx:cM_ w B a1 a2 a3 n1 c1 n2 c2 n3 c3 v key) :
 SeqStopsK Fence.wide n Tryz.prog 165 #[.pointer (some ⟨B,0,none⟩),.pointer (some ⟨B+1,0,none⟩),.pointer (some ⟨B+1+1,0,none⟩)] (fun x:Nat=>#[.int .i64 (x:Nat),(bAt p x).val]) (cl_ w0.heap.size B) (fun ys=>ys = bI_ p key v) (fun pre=>pre <+: bI_ p key v) (bI_ p key v).length w:=fun l J Jx W hW hJ _ hY h0=>
 iw_ n hn l B p a1 a2 a3 n1 c1 n2 c2 n3 c3 v key w0 hc hk hp hB0 J Jx W (by have:=hW.size;omega) (h0W.trans (hW.mono h0W.size)) (hbx.keep (cl_.of_below (n0:=0) hW (Nat.zero_le _) hWB)) hJ hY h0
theorem k1_ {n0 B:Nat} {w:World} (hn:n0≤w.heap.size) (hB:B+3≤w.heap.size) (W:World) (l:Nat) (o o':Obj) (hl:w.heap.size≤l) (h:W.heap[l]? = some o):cl_ n0 B W (W.putObj l o'):=
 ⟨⟨rfl,rfl,rfl,by simp [World.putObj],fun k hk=>World.putObj_heap_other (by omega)⟩,fun j hj=>World.putObj_heap_other (by omega)⟩
end Go.Proofs.YtlbnkpicnokgoaaGreat
namespace Go.Proofs.YtlbnkpicnokgoaaGreat
open Go.RowKit Go.Shelf Go.Maps
set_option linter.unusedVariables false
set_option maxRecDepth 100000
set_option maxHeartbeats 2000000
structure Turn (X:Nat→Prop) (W W':World):Prop where
 os:W'.os = W.os
 tape:W'.tape = W.tape
 output:W'.output = W.output
 size:W.heap.size≤W'.heap.size
 block:∀ k,k < W.heap.size→¬ X k→W'.heap[k]? = W.heap[k]?
theorem Turn.refl (X:Nat→Prop) (W:World):Turn X W W:=⟨rfl,rfl,rfl,Nat.le_refl _,fun _ _ _=>rfl⟩
theorem Turn.trans {X Y:Nat→Prop} {A B C:World} (h:Turn X A B) (k:Turn Y B C) (hy:∀ i,i < A.heap.size→Y i→X i):Turn X A C:=
 ⟨k.os.trans h.os,k.tape.trans h.tape,k.output.trans h.output,Nat.le_trans h.size k.size,fun i hi hx=>(k.block i (Nat.lt_of_lt_of_le hi h.size) (fun y=>hx (hy i hi y))).trans (h.block i hi hx)⟩
theorem Turn.of_grown {X:Nat→Prop} {W W':World} {row:Option Nat} (h:W.grownBy W' row) (hx:∀ r,row = some r→X r):Turn X W W':=
 ⟨h.os,h.tape,h.output,h.size,fun k hk hn=>h.block k hk (fun e=>hn (hx k e.symm))⟩
theorem Turn.of_below {W W':World} (X:Nat→Prop) (h:Below W.heap.size W W'):Turn X W W':=⟨h.os,h.tape,h.output,h.size,fun k hk _=>h.block k hk⟩
theorem Turn.mono {X Y:Nat→Prop} {W W':World} (h:Turn X W W') (hy:∀ i,i < W.heap.size→X i→Y i):Turn Y W W':=⟨h.os,h.tape,h.output,h.size,fun k hk hn=>h.block k hk (fun x=>hn (hy k hk x))⟩
theorem Turn.below {X:Nat→Prop} {n:Nat} {W W':World} (h:Turn X W W') (hn:n≤W.heap.size) (hx:∀ i,X i→n≤i):Below n W W':=
 ⟨h.os,h.tape,h.output,h.size,fun k hk=>h.block k (by omega) (fun x=>by have:=hx k x;omega)⟩
theorem Turn.boxed {X:Nat→Prop} {W W':World} (h:Turn X W W') {B:Nat} {t:TypeId} {v:Value} (hb:Boxed W B t v) (hx:¬ X B):Boxed W' B t v:=(h.block B hb.lt hx).trans hb
theorem Turn.row {X:Nat→Prop} {W W':World} (h:Turn X W W') {base:Nat} {e:TypeId} {size:Nat} {v:Value} {n:Nat} {xs:List Value} (hr:W.ownsRow base e size v n xs) (hx:∀ g,v.ownBlock = some g→¬ X g):W'.ownsRow base e size v n xs:=by
 refine ⟨hr.1,?_⟩;rcases hr.2 with h1 | ⟨g,cap,cur,rfl,h2,h3,h4⟩
 ·exact .inl h1
 ·exact .inr ⟨g,cap,cur,rfl,h2,(h.block g (Array.getElem?_eq_some_iff.1 h3).1 (hx g rfl)).trans h3,h4⟩
theorem Turn.map {X:Nat→Prop} {W W':World} (h:Turn X W W') {P:Program} {k:TypeId} {R:Value→Option (DataW Unit × List MemPlace)} {b n:Nat} {D:DataW Unit} (hm:W.ownsMap P k R b n D) (hx:¬ X b):W'.ownsMap P k R b n D:=by
 obtain ⟨es,cl,h1,h2⟩:=hm;exact ⟨es,cl,(h.block b (Array.getElem?_eq_some_iff.1 h1).1 hx).trans h1,h2⟩
def ld_ (D:Nat):Deferred:={ target:=.collected D,args:=#[] }
structure Marks (n0:Nat) (Ds:List Nat) (W:World):Prop where
 once:Ds.Nodup
 there:∀ D ∈ Ds,n0≤D∧W.heap[D]? = some (.deferred (some []))
theorem Marks.lt {n0:Nat} {Ds:List Nat} {W:World} (h:Marks n0 Ds W):∀ D ∈ Ds,D < W.heap.size:=fun D hD=>(Array.getElem?_eq_some_iff.1 (h.there D hD).2).1
theorem Marks.turn {n0:Nat} {Ds:List Nat} {X:Nat→Prop} {W W':World} (h:Marks n0 Ds W) (t:Turn X W W') (hx:∀ D ∈ Ds,¬ X D):Marks n0 Ds W':=
 ⟨h.once,fun D hD=>⟨(h.there D hD).1,(t.block D (h.lt D hD) (hx D hD)).trans (h.there D hD).2⟩⟩
theorem Marks.cons {n0:Nat} {Ds:List Nat} {W:World} (h:Marks n0 Ds W) {D:Nat} (h1:D ∉ Ds) (h2:n0≤D) (h3:W.heap[D]? = some (.deferred (some []))):Marks n0 (D :: Ds) W:=
 ⟨List.nodup_cons.2 ⟨h1,h.once⟩,fun E hE=>by
  rcases List.mem_cons.1 hE with rfl | hE
  ·exact ⟨h2,h3⟩
  ·exact h.there E hE⟩
theorem cR_ {F:Fence} {n:Nat} {P:Program} {fn:Func} {tmps:Array Value} {R:Ending→World→Prop} {n0:Nat}:∀ {Ds:List Nat} {W:World},Marks n0 Ds W →
 (∀ W',Turn (fun k=>k ∈ Ds) W W'→LeavesInM F n P fn tmps R [] .returning W')→LeavesInM F n P fn tmps R (Ds.map ld_) .returning W
 | [],W,_,h=>h W (Turn.refl _ _)
 | D :: Ds, W, hm, h => by
   obtain ⟨h1,h2⟩:=List.nodup_cons.1 hm.once;have hD:=(hm.there D (by simp)).2;refine ⟨by simp,.inl ⟨D,_,rfl,run_takeDeferred hD,?_⟩⟩;have t1:Turn (fun k=>k = D) W (W.putObj D (.deferred none)):=Turn.of_grown (grownBy_putObj' W D _) (fun r e=>by cases e;rfl);refine cR_ (n0:=n0) (Ds:=Ds) ⟨h2,fun E hE=>⟨(hm.there E (by simp [hE])).1,?_⟩⟩ (fun W' hW'=>h W' ?_)
   ·exact (World.putObj_heap_other (k:=E) (r:=D) (fun e=>h1 (by rw [← e];exact hE))).trans (hm.there E (by simp [hE])).2
   ·exact (t1.mono (Y:=fun k=>k ∈ D :: Ds) (fun i _ e=>by subst e;exact List.mem_cons_self)).trans hW' (fun i _ hi=>by exact List.mem_cons_of_mem _ hi)
def hO_ (t:List Nat):Int:=match t.getLast? with | none=>-1 | some n=>(n:Int)
def byD (L:Trails):DataW Unit:=L.foldl (fun D x=>D.put (.int .i64 (x.1:Nat)) (.lit (.int .i64 (hO_ x.2)))) (.map [])
theorem i6_ (L:Trails) (x:Nat × List Nat):byD (L ++ [x]) = (byD L).put (.int .i64 (x.1:Nat)) (.lit (.int .i64 (hO_ x.2))):=by unfold byD;rw [List.foldl_append];rfl
theorem iD_ (t:List Nat) (n:Nat):hO_ (t ++ [n]) = n:=by unfold hO_;simp
theorem kE_ (L:Trails):IsMap (byD L):=by
 unfold byD;have:∀ (L:Trails) (D:DataW Unit),IsMap D→IsMap (L.foldl (fun D x=>D.put (.int .i64 (x.1:Nat)) (.lit (.int .i64 (hO_ x.2)))) D):=by
  intro L;induction L with
  | nil=>intro D h;exact h
  | cons x r ih=>intro D h;exact ih _ (h.put _ _)
 exact this L _ isMap_empty
theorem nL_ {a b:Nat} (h:a≠b):(Lit.int .i64 (a:Int))≠Lit.int .i64 (b:Int):=fun e=>h (by injection e with _ e;omega)
theorem mR_ {α:Type} {p:List α→Prop} (h0:p []) (h1:∀ l x,p l→p (l ++ [x])) (l:List α):p l:=by
 have:∀ (m:List α),p m.reverse:=by
  intro m;induction m with
  | nil=>exact h0
  | cons x r ih=>rw [List.reverse_cons];exact h1 _ x ih
 have:=this l.reverse;rwa [List.reverse_reverse] at this
theorem nf_ (L:Trails) (v:Nat):has (byD L) (.int .i64 (v:Nat)) = decide (v ∈ L.map Prod.fst):=by
 induction L using mR_ with
 | h0=>simp [byD,has]
 | h1 L x ih =>
   rw [i6_];by_cases e:x.1 = v
   ·subst e;rw [has_put_same (k:=Lit.int .i64 (x.1:Nat)) (kE_ L) trivial];simp
   ·rw [has_put_other (nL_ (fun h=>e h.symm)),ih];rw [Bool.eq_iff_iff];simp;omega
attribute [local go_sem] Oper.semAt_some
def bM_ (p:ad_) (key:ByteArray) (n:Nat):Option (Nat × Nat):=if n < p.binds.length∧fitP p n key = true∧(bAt p n).toPost = true then some ((bAt p n).src.toNat,(bAt p n).dst.toNat) else none
theorem fk_ {p:ad_} {key:ByteArray}:∀ m q,bM_ p key m = some q→m < p.binds.length:=by
 intro m q h;unfold bM_ at h;split at h
 ·rename_i h1;exact h1.1
 ·cases h
def cstep (p:ad_) (t:List Nat) (L:Trails) (n:Nat):Trails:=if (bAt p n).toPost = true∧(bAt p n).dst.toNat ∉ L.map Prod.fst then L ++ [((bAt p n).dst.toNat,t ++ [n])] else L
theorem jJ_ {p:ad_} {key:ByteArray} (hr:bx_ p) (u:Nat) (t:List Nat) (L:Trails):(bI_ p key (u:Int)).foldl (cstep p t) L = tround (bM_ p key) p.binds.length (u,t) L:=by
 unfold bI_ bY_ tround;rw [List.foldl_filter];have:∀ (l:List Nat) (L:Trails),(∀ n ∈ l,n < p.binds.length)→l.foldl (fun x y=>if dw_ p key (u:Int) y = true then cstep p t x y else x) L = l.foldl (tstep (bM_ p key) u t) L:=by
  intro l;induction l with
  | nil=>intro L _;rfl
  | cons n r ih =>
    intro L hl;rw [List.foldl_cons,List.foldl_cons];have hn:n < p.binds.length:=hl n (by simp);have e:(if dw_ p key (u:Int) n = true then cstep p t L n else L) = tstep (bM_ p key) u t L n:=by
     have hs:0≤(bAt p n).src:=by rw [dW_ hn];exact (hr.src _ (List.getElem_mem hn)).1
     have h3':(bAt p n).src.toNat = u↔(bAt p n).src = (u:Int):=by omega
     unfold tstep;by_cases h1:fitP p n key = true∧(bAt p n).toPost = true
     ·have ea:bM_ p key n = some ((bAt p n).src.toNat,(bAt p n).dst.toNat):=by unfold bM_;rw [if_pos ⟨hn,h1⟩]
      rw [ea];dsimp only;by_cases h3:(bAt p n).src = (u:Int)
      ·rw [if_pos (by unfold dw_;simp [h3,h1.1])];unfold cstep;by_cases hm:(bAt p n).dst.toNat ∈ L.map Prod.fst
       ·rw [if_neg (fun h=>h.2 hm),if_neg (fun h=>h.2 hm)]
       ·rw [if_pos ⟨h1.2,hm⟩,if_pos ⟨h3'.2 h3,hm⟩]
      ·rw [if_neg (by unfold dw_;simp [h3]),if_neg (fun h=>h3 (h3'.1 h.1))]
     ·have ea:bM_ p key n = none:=by unfold bM_;rw [if_neg (fun h=>h1 h.2)]
      rw [ea];dsimp only;by_cases hg:dw_ p key (u:Int) n = true
      ·rw [if_pos hg];have hf:fitP p n key = true:=by unfold dw_ at hg;simp at hg;exact hg.2
       unfold cstep;rw [if_neg (fun h=>h1 ⟨hf,h.1⟩)]
      ·rw [if_neg hg]
    rw [e];exact ih _ (fun m hm=>hl m (by simp [hm]))
 exact this _ L (fun n hn=>by simpa using hn)
theorem Tryz.infoInt:(Tryz.prog.info? 3).map (fun i=>(i.zero,i.size,i.bytes)) = some (some (.int .i64 0),1,8):=by kernel_rfl
theorem zero3 (w:World):(zeroValue 3).run Tryz.prog w = .ok (.int .i64 0) w:=by kernel_rfl
theorem nU_ {p:ad_} {y:Nat} (h:(bAt p y).toPost = true):y < p.binds.length:=by
 by_cases hx:y < p.binds.length
 ·exact hx
 ·have:bAt p y = ⟨0,false,0,⟨#[]⟩⟩:=by unfold bAt;simp [List.getD,List.getElem?_eq_none (Nat.not_lt.1 hx)]
  rw [this] at h;cases h
theorem key3:Keyed Tryz.prog 3:=int_keyed Tryz.underlying3
theorem hn_ (g o j:Nat):(⟨g,o,none⟩:Addr).add j = ⟨g,o+j,none⟩:=by unfold Addr.add;split <;> simp_all
def calmly (Q:Exit→Act→World→Prop):Exit→Act→World→Prop
 | .panic _,_,_=>False
 | e,a,w=>Q e a w
theorem gf_ {Q:Exit→Act→World→Prop}:∀ e a w,calmly Q e a w→Q e a w:=fun e a w h=>by cases e <;> first | exact h | exact h.elim
theorem lu_ {W:World} {base base':Nat} {e:TypeId} {size:Nat} {v:Value} {n:Nat} {xs:List Value} (h:W.ownsRow base e size v n xs) (hb:base'≤base):W.ownsRow base' e size v n xs:=by
 refine ⟨h.1,?_⟩;rcases h.2 with h | ⟨g,cap,cur,h1,h2,h3⟩
 ·exact .inl h
 ·exact .inr ⟨g,cap,cur,h1,Nat.le_trans hb h2,h3⟩
abbrev ints (L:Trails):List Value:=L.map (fun x=>.int .i64 (x.1:Nat))
structure RSt (w:World) (pv:Array Value) (b4:Nat) (u:Value) (L:Trails) (Ds:List Nat) (W:World):Prop where
 below:Below w.heap.size w W
 pbox:W.heap[w.heap.size]? = some (.cells pv 26 (0,0))
 lbox:Boxed W (w.heap.size+1+1) 32 u
 row:W.ownsRow (w.heap.size+1) 3 1 u L.length (ints L)
 map:W.ownsMap Tryz.prog 3 (plainElem Tryz.prog 3) (w.heap.size+1+1+1) L.length (byD L)
 mbox:Boxed W b4 159 (.map (some (w.heap.size+1+1+1)))
 b4:w.heap.size+1+1+1 < b4
 marks:Marks (w.heap.size+1) Ds W
theorem RSt.mapAt {w:World} {pv:Array Value} {b4:Nat} {u:Value} {L:Trails} {Ds:List Nat} {W:World} (h:RSt w pv b4 u L Ds W):∃ es cl,W.heap[w.heap.size+1+1+1]? = some (.map es cl):=by
 obtain ⟨es,cl,h1,_⟩:=h.map;exact ⟨es,cl,h1⟩
theorem RSt.rowAt {w:World} {pv:Array Value} {b4:Nat} {u:Value} {L:Trails} {Ds:List Nat} {W:World} (h:RSt w pv b4 u L Ds W) {g:Nat} (hg:u.ownBlock = some g):w.heap.size+1≤g∧(∃ cur,W.heap[g]? = some (.cells cur 3 (0,0))):=by
 rcases h.row.2 with ⟨rfl,_⟩ | ⟨g',cap,cur,rfl,h2,h3,_⟩
 ·simp [Value.ownBlock] at hg
 ·simp only [Value.ownBlock,Option.some.injEq] at hg;subst hg;exact ⟨h2,cur,h3⟩
theorem RSt.row_ne {w:World} {pv:Array Value} {b4:Nat} {u:Value} {L:Trails} {Ds:List Nat} {W:World} (h:RSt w pv b4 u L Ds W) {g:Nat} (hg:u.ownBlock = some g):g≠w.heap.size∧g≠w.heap.size+1+1∧g≠w.heap.size+1+1+1∧g≠b4∧g ∉ Ds:=by
 obtain ⟨h1,cur,h2⟩:=h.rowAt hg;refine ⟨by omega,fun e=>?_,fun e=>?_,fun e=>?_,fun e=>?_⟩
 ·have:=h.lbox;unfold Boxed at this;rw [← e,h2] at this;simp at this
 ·obtain ⟨es,cl,h3⟩:=h.mapAt;rw [← e,h2] at h3;simp at h3
 ·have:=h.mbox;unfold Boxed at this;rw [← e,h2] at this;simp at this
 ·have:=(h.marks.there g e).2;rw [h2] at this;simp at this
theorem RSt.mark_ne {w:World} {pv:Array Value} {b4:Nat} {u:Value} {L:Trails} {Ds:List Nat} {W:World} (h:RSt w pv b4 u L Ds W) {D:Nat} (hD:D ∈ Ds):D≠w.heap.size∧D≠w.heap.size+1+1∧D≠w.heap.size+1+1+1∧D≠b4:=by
 obtain ⟨h1,h2⟩:=h.marks.there D hD;refine ⟨by omega,fun e=>?_,fun e=>?_,fun e=>?_⟩
 ·have:=h.lbox;unfold Boxed at this;rw [← e,h2] at this;simp at this
 ·obtain ⟨es,cl,h3⟩:=h.mapAt;rw [← e,h2] at h3;simp at h3
 ·have:=h.mbox;unfold Boxed at this;rw [← e,h2] at this;simp at this
theorem RSt.turn {w:World} {pv:Array Value} {b4:Nat} {u:Value} {L:Trails} {Ds:List Nat} {W W':World} {X:Nat→Prop} (h:RSt w pv b4 u L Ds W) (t:Turn X W W') (hx:∀ k,X k→w.heap.size≤k)
 (h0:¬ X w.heap.size) (h2:¬ X (w.heap.size+1+1)) (h3:¬ X (w.heap.size+1+1+1)) (h4:¬ X b4) (hg:∀ g,u.ownBlock = some g→¬ X g) (hD:∀ D ∈ Ds,¬ X D):RSt w pv b4 u L Ds W':=
 ⟨h.below.trans (t.below h.below.size hx),(t.block _ (Array.getElem?_eq_some_iff.1 h.pbox).1 h0).trans h.pbox,t.boxed h.lbox h2,t.row h.row hg,t.map h.map h3,t.boxed h.mbox h4,h.b4,h.marks.turn t hD⟩
theorem RSt.keep {w:World} {pv:Array Value} {b4:Nat} {u:Value} {L:Trails} {Ds:List Nat} {W W':World} (h:RSt w pv b4 u L Ds W) (hB:Below W.heap.size W W'):RSt w pv b4 u L Ds W':=
 h.turn (X:=fun _=>False) (Turn.of_below _ hB) (fun _ e=>e.elim) id id id id (fun _ _=>id) (fun _ _=>id)
theorem RSt.other {w:World} {pv:Array Value} {b4:Nat} {u:Value} {L:Trails} {Ds:List Nat} {W W':World} {row:Option Nat} {S:Nat} (h:RSt w pv b4 u L Ds W) (hg:W.grownBy W' row) (hr:∀ r,row = some r→S≤r∧∃ o:Obj,W.heap[r]? = some o∧o.isCells = false)
 (hS:b4 < S) (hDs:∀ D ∈ Ds,D < S):RSt w pv b4 u L Ds W':=by
 have hb4:=h.b4;refine h.turn (X:=fun k=>row = some k) (Turn.of_grown hg (fun r e=>e)) (fun k e=>by have:=(hr k e).1;omega) (fun e=>by have:=(hr _ e).1;omega) (fun e=>by have:=(hr _ e).1;omega) (fun e=>by have:=(hr _ e).1;omega) (fun e=>by have:=(hr _ e).1;omega) (fun g hg' e=>?_) (fun D hD e=>by have:=(hr _ e).1;have:=hDs D hD;omega);obtain ⟨_,cur,h2⟩:=h.rowAt hg';obtain ⟨_,o,h3,h4⟩:=hr g e;rw [h2] at h3;cases h3;cases h4
theorem RSt.push {w:World} {pv:Array Value} {b4:Nat} {u u':Value} {L:Trails} {Ds:List Nat} {W Wa Wc:World} {x:Nat × List Nat} {tmp:Obj} (h:RSt w pv b4 u L Ds W)
 (ha:W.grownBy Wa (some (w.heap.size+1+1+1))) (hm:Wa.ownsMap Tryz.prog 3 (plainElem Tryz.prog 3) (w.heap.size+1+1+1) (L.length+1) (byD (L ++ [x])))
 (hc:(Wa.alloc tmp).grownBy Wc u.ownBlock) (hr:Wc.ownsRow (w.heap.size+1) 3 1 u' (L.length+1) (ints L ++ [.int .i64 (x.1:Nat)])) (hl:u'.ownBlock = u.ownBlock∨u'.ownBlock = some (Wa.alloc tmp).heap.size) :
 Boxed Wc (w.heap.size+1+1) 32 u∧RSt w pv b4 u' (L ++ [x]) Ds (Wc.setCell ⟨w.heap.size+1+1,0,none⟩ u')∧Turn (fun k=>k = w.heap.size+1+1∨k = w.heap.size+1+1+1∨u.ownBlock = some k) W (Wc.setCell ⟨w.heap.size+1+1,0,none⟩ u'):=by
 have hb4:=h.b4;have t1:Turn (fun k=>k = w.heap.size+1+1+1) W Wa:=Turn.of_grown ha (fun r e=>by cases e;rfl);have t2:Turn (fun _=>False) Wa (Wa.alloc tmp):=Turn.of_grown (World.grownBy_alloc Wa tmp none) (fun r e=>by cases e);have t3:Turn (fun k=>u.ownBlock = some k) (Wa.alloc tmp) Wc:=Turn.of_grown hc (fun r e=>e);have t4:Turn (fun k=>k = w.heap.size+1+1) Wc (Wc.setCell ⟨w.heap.size+1+1,0,none⟩ u'):=Turn.of_grown (grownBy_setCell' Wc _ u') (fun r e=>by cases e;rfl);have t12:Turn (fun k=>k = w.heap.size+1+1+1) W (Wa.alloc tmp):=t1.trans t2 (fun _ _ e=>e.elim);have t13:Turn (fun k=>k = w.heap.size+1+1+1∨u.ownBlock = some k) W Wc:=(t12.mono (fun _ _ e=>.inl e)).trans t3 (fun _ _ e=>.inr e);have t14:Turn (fun k=>k = w.heap.size+1+1∨k = w.heap.size+1+1+1∨u.ownBlock = some k) W (Wc.setCell ⟨w.heap.size+1+1,0,none⟩ u'):=(t13.mono (fun _ _ e=>.inr e)).trans t4 (fun _ _ e=>.inl e);have hlb:Boxed Wc (w.heap.size+1+1) 32 u:=t13.boxed h.lbox (fun e=>by
  rcases e with e | e
  ·omega
  ·exact (h.row_ne e).2.1 rfl)
 have hsz:W.heap.size≤(Wa.alloc tmp).heap.size:=t12.size;have hlW:w.heap.size+1+1 < W.heap.size:=h.lbox.lt;have hu':∀ g,u'.ownBlock = some g→g≠w.heap.size+1+1:=fun g hg e=>by
  rcases hl with h1 | h1
  ·rw [h1] at hg;exact (h.row_ne hg).2.1 e
  ·rw [h1] at hg;simp only [Option.some.injEq] at hg;omega
 refine ⟨hlb,⟨h.below.trans (t14.below h.below.size (fun k e=>?_)),?_,?_,?_,?_,?_,h.b4,?_⟩,t14⟩
 ·rcases e with rfl | rfl | e
  ·omega
  ·omega
  ·have:=(h.rowAt e).1;omega
 ·refine (t14.block _ (by omega) (fun e=>?_)).trans h.pbox;rcases e with e | e | e
  ·omega
  ·omega
  ·exact (h.row_ne e).1 rfl
 ·exact hlb.set u'
 ·have:=t4.row hr (fun g hg=>hu' g hg);simpa [ints] using this
 ·have h3:Wc.ownsMap Tryz.prog 3 (plainElem Tryz.prog 3) (w.heap.size+1+1+1) (L.length+1) (byD (L ++ [x])):=t3.map (t2.map hm id) (fun e=>(h.row_ne e).2.2.1 rfl);have:=t4.map h3 (by omega);simpa using this
 ·refine t14.boxed h.mbox (fun e=>?_);rcases e with e | e | e
  ·omega
  ·omega
  ·exact (h.row_ne e).2.2.2.1 rfl
 ·refine h.marks.turn t14 (fun D hD e=>?_);rcases e with e | e | e
  ·exact (h.mark_ne hD).2.1 e
  ·exact (h.mark_ne hD).2.2.1 e
  ·exact (h.row_ne e).2.2.2.2 hD
theorem dH_ {p:ad_} {key:ByteArray} (hr:bx_ p) {v:Nat} (hv:v < p.posts.length) {L:Trails} {i:Nat} (h:Reached (bM_ p key) p.binds.length v L i):(∀ x ∈ L,x.1 < p.posts.length)∧L.length≤p.posts.length∧i≤L.length:=by
 have hc:=h.came fk_;have hm:∀ x ∈ L,x.1 < p.posts.length:=by
  intro x hx;rcases (hc.1.path x hx).inv with ⟨_,e⟩ | ⟨s,u,n,_,_,e⟩
  ·omega
  ·unfold bM_ at e;split at e
   ·rename_i h1;simp at e;have hd:=hr.dst _ (List.getElem_mem h1.1);rw [← dW_ h1.1,h1.2.2] at hd;simp only [if_true] at hd;omega
   ·cases e
 exact ⟨hm,by have:=ff_ p.posts.length (L.map Prod.fst) hc.1.once (fun y hy=>by obtain ⟨x,hx,rfl⟩:=List.mem_map.1 hy;exact hm x hx);simpa using this,hc.2⟩
theorem reach_begin (w W4 W5:World) (pv:Array Value) (v:Nat) (hW4:W4 = (((w.alloc (.cells pv 26)).alloc (.cells #[.int .i64 (v:Nat)] 3)).alloc (.cells #[.slice (some ⟨w.heap.size+1,0,none⟩) 1 1] 32)).alloc (.map #[] 0))
 (hown:W5.ownsMap Tryz.prog 3 (plainElem Tryz.prog 3) (w.heap.size+1+1+1) 1 (byD [(v,[])])) (hg:W4.grownBy W5 (some (w.heap.size+1+1+1))) :
 RSt w pv W5.heap.size (.slice (some ⟨w.heap.size+1,0,none⟩) 1 1) [(v,[])] [] (W5.alloc (.cells #[.map (some (w.heap.size+1+1+1))] 159)):=by
 have hs:W4.heap.size = w.heap.size+1+1+1+1:=by rw [hW4];simp
 have q0:W4.heap[w.heap.size]? = some (.cells pv 26 (0,0)):=by
  rw [hW4,Below.heap_alloc _ _ _ (by simp;omega),Below.heap_alloc _ _ _ (by simp;omega),Below.heap_alloc _ _ _ (by simp)];exact World.alloc_heap_new w _
 have q1:W4.heap[w.heap.size+1]? = some (.cells #[.int .i64 (v:Nat)] 3 (0,0)):=by
  rw [hW4,Below.heap_alloc _ _ _ (by simp),Below.heap_alloc _ _ _ (by simp)];have:=World.alloc_heap_new (w.alloc (.cells pv 26)) (.cells #[.int .i64 (v:Nat)] 3);rw [World.size_alloc] at this;exact this
 have q2:W4.heap[w.heap.size+1+1]? = some (.cells #[.slice (some ⟨w.heap.size+1,0,none⟩) 1 1] 32 (0,0)):=by
  rw [hW4,Below.heap_alloc _ _ _ (by simp)];have:=World.alloc_heap_new ((w.alloc (.cells pv 26)).alloc (.cells #[.int .i64 (v:Nat)] 3)) (.cells #[.slice (some ⟨w.heap.size+1,0,none⟩) 1 1] 32);rw [World.size_alloc,World.size_alloc] at this;exact this
 have hB4:Below w.heap.size w W4:=by
  rw [hW4];exact ((((Below.refl _ _).alloc (Nat.le_refl _) _).alloc (by simp) _).alloc (by simp;omega) _).alloc (by simp;omega) _
 have t5:Turn (fun k=>k = w.heap.size+1+1+1) W4 W5:=Turn.of_grown hg (fun r e=>by cases e;rfl);have t6:Turn (fun _=>False) W5 (W5.alloc (.cells #[.map (some (w.heap.size+1+1+1))] 159)):=Turn.of_grown (World.grownBy_alloc W5 _ none) (fun r e=>by cases e);have t:Turn (fun k=>k = w.heap.size+1+1+1) W4 (W5.alloc (.cells #[.map (some (w.heap.size+1+1+1))] 159)):=t5.trans t6 (fun _ _ e=>e.elim);have s5:=t5.size;refine ⟨hB4.trans (t.below (by omega) (fun k e=>by omega)),(t.block _ (by omega) (by omega)).trans q0,(t.block _ (by omega) (by omega)).trans q2,?_,t6.map hown id,Boxed.new W5 _ _,by omega,⟨List.nodup_nil,fun D hD=>by simp at hD⟩⟩;refine ⟨rfl,.inr ⟨w.heap.size+1,1,#[.int .i64 (v:Nat)],rfl,Nat.le_refl _,(t.block _ (by omega) (by omega)).trans q1,Nat.le_refl _,by unfold maxLen;omega,rfl,rfl⟩⟩
theorem l6_ {n:Nat} (h:n≤9223372036854775807):(Lit.int .i64 (n:Int)).wf = true:=by simp [Lit.wf,IntKind.min,IntKind.max,IntKind.bits,IntKind.signed];omega
theorem kM_ {p:ad_} (hr:bx_ p) (x:Nat) (h:(bAt p x).toPost = true):0≤(bAt p x).dst∧(bAt p x).dst < p.posts.length:=by
 by_cases hx:x < p.binds.length
 ·have hd:=hr.dst _ (List.getElem_mem hx);rw [← dW_ hx,h] at hd;simpa using hd
 ·have:bAt p x = ⟨0,false,0,⟨#[]⟩⟩:=by unfold bAt;simp [List.getD,List.getElem?_eq_none (Nat.not_lt.1 hx)]
  rw [this] at h;cases h
theorem hB_ (p:ad_) (t:List Nat):∀ (pre:List Nat) (L:Trails),(pre.foldl (cstep p t) L).length≤L.length+pre.length
 | [],L=>by simp
 | x :: r, L => by
   have:=hB_ p t r (cstep p t L x);have h2:(cstep p t L x).length≤L.length+1:=by unfold cstep;split <;> simp
   rw [List.foldl_cons];simp only [List.length_cons];omega
theorem gk_ {p:ad_} {key:ByteArray} {v:Int} (h:p.binds.length≤10):(bI_ p key v).length≤10:=by
 unfold bI_ bY_;have:=List.length_filter_le (dw_ p key v) (List.range p.binds.length);simp at this;omega
theorem jT_ {w:World} {pv:Array Value} {b4 B:Nat} {u:Value} {L:Trails} {Ds:List Nat} {W W':World} (h:RSt w pv b4 u L Ds W) (t:Turn (fun k=>k = w.heap.size+1+1∨k = w.heap.size+1+1+1∨u.ownBlock = some k) W W')
 (hB:b4 < B) (hW:B+3≤W.heap.size) (hg:∀ g,u.ownBlock = some g→g < B∨B+3≤g):cl_ w.heap.size B W W':=by
 have hb4:=h.b4;refine ⟨t.below h.below.size (fun k e=>?_),fun j hj=>t.block _ (by omega) (fun e=>?_)⟩
 ·rcases e with rfl | rfl | e
  ·omega
  ·omega
  ·have:=(h.rowAt e).1;omega
 ·rcases e with e | e | e
  ·omega
  ·omega
  ·have:=hg _ e;omega
theorem f8_ {w:World} {pv:Array Value} {b4 S:Nat} {u:Value} {L:Trails} {Ds:List Nat} {W W':World} (h:RSt w pv b4 u L Ds W) (t:Turn (fun k=>k = w.heap.size+1+1∨k = w.heap.size+1+1+1∨u.ownBlock = some k) W W')
 (hS:b4 < S):KeepsFrom S W W':=by
 have hb4:=h.b4;refine ⟨t.size,fun k o hk ho hc=>(t.block k (Array.getElem?_eq_some_iff.1 ho).1 (fun e=>?_)).trans ho⟩;rcases e with e | e | e
 ·omega
 ·omega
 ·obtain ⟨_,cur,h2⟩:=h.rowAt e;rw [h2] at ho;cases ho;cases hc
theorem mE_ (p:ad_) (a1 a2 a3:Option Addr) (n1 c1 n2 c2 n3 c3:Nat) (v:Nat) (key:ByteArray) (w:World) (hc:chkP p = 0) (hk:kerr key.data.toList = 0) (hv:v < n1) (hp:ap_ w a1 a2 a3 n1 n2 n3 p) :
 CallsIn Fence.wide 6 Tryz.prog 135 #[.agg #[.slice a1 n1 c1,.slice a2 n2 c2,.slice a3 n3 c3],.int .i64 (v:Nat),.string key] w fun e w'=>∃ u b L i,e = .returned (.tuple #[u,.map (some b)])∧Reached (bM_ p key) p.binds.length v L i∧¬ i < L.length∧w'.ownsRow w.heap.size 3 1 u L.length (ints L)∧w'.ownsMap Tryz.prog 3 (plainElem Tryz.prog 3) b L.length (byD L)∧w.heap.size≤b∧Below w.heap.size w w':=by
 have hr:=br_ hc;have h4:n1≤4:=by have:=hr.few.1;rw [hp.l1] at this;exact this
 have HR:Hid (∀ {L:Trails} {i:Nat},Reached (bM_ p key) p.binds.length v L i→(∀ x ∈ L,x.1 < n1)∧L.length≤n1∧i≤L.length):=fun h=>by
  have:=dH_ hr (by rw [hp.l1];exact hv) h;rw [hp.l1] at this;exact this
 have HRP:Hid (bx_ p):=hr;have HP:Hid (ap_ w a1 a2 a3 n1 n2 n3 p):=hp;have HCK:Hid (chkP p = 0∧kerr key.data.toList = 0):=⟨hc,hk⟩;obtain ⟨W4,hW4⟩:∃ W4,W4 = (((w.alloc (.cells #[.slice a1 n1 c1,.slice a2 n2 c2,.slice a3 n3 c3] 26)).alloc (.cells #[.int .i64 (v:Nat)] 3)).alloc (.cells #[.slice (some ⟨w.heap.size+1,0,none⟩) 1 1] 32)).alloc (.map #[] 0):=⟨_,rfl⟩
 have hmade:W4.ownsMap Tryz.prog 3 (plainElem (H:=Unit) Tryz.prog 3) (w.heap.size+1+1+1) 0 (.map []):=by
  have:=World.ownsMap_made (H:=Unit) ((((w.alloc (.cells #[.slice a1 n1 c1,.slice a2 n2 c2,.slice a3 n3 c3] 26)).alloc (.cells #[.int .i64 (v:Nat)] 3)).alloc (.cells #[.slice (some ⟨w.heap.size+1,0,none⟩) 1 1] 32))) Tryz.prog 3 (plainElem Tryz.prog 3);rw [hW4];simpa using this
 obtain ⟨W5,hrun,hown5,hgrow5⟩:=hmade.update key3 Tryz.underlying159 (by unfold maxLen;omega) (keyOf_int_mk Tryz.underlying3 (l6_ (n:=v) (by omega))) (plainElem_int (a:=-1) Tryz.underlying3 (by decide))
 have hst := reach_begin w W4 W5 _ v hW4 (by have e : byD [(v, [])] = (DataW.map []).put (.int .i64 (v : Nat)) (.lit (.int .i64 (-1))) := rfl
                                             rw [e];exact hown5) hgrow5
 have HW4:Hid (W4 = _):=hW4;have HRUN:=g2_ hrun;have hmm:=@run_makeMap Tryz.prog;clear hW4 hmade hrun hown5 hgrow5 hp hc hk hr;refine callsIn_of_wp_marks Tryz.func135 rfl trivial (Go.wpIn_mono ?_ gf_) rfl;simp only [Tryz.ntmps135,List.size_toArray,List.length_cons,List.length_nil,Nat.reduceAdd,Nat.reduceSub,Array.replicate_succ,Array.replicate_zero,List.push_toArray,List.append_toArray,List.nil_append,List.cons_append];gi_wp2_with fail
 rw [← HW4.out,HRUN.out];clear hmm;gi_wp2_with fail
 obtain ⟨W6,hW6⟩:∃ W6,W6 = W5.alloc (.cells #[.map (some (w.heap.size+1+1+1))] 159):=⟨_,rfl⟩
 rw [← hW6] at hst ⊢;clear hW6;refine wpIn_loop (fun a W=>∃ (i:Nat) (L:Trails) (Ds:List Nat) (u u11 u12 u13 u14 u20 u21 u22 u23 u24 u25 u26 u27 u28 u29 u30 u31 u32 u33 u34 u35 u36 u37 u38 u39 u40 u41 u42 u43 u44 u45 u46 u47 u48 u49 u50 u51 u52 u53 u54 u55:Value),a = { tmps:=#[.agg #[.slice a1 n1 c1,.slice a2 n2 c2,.slice a3 n3 c3],.int .i64 (v:Nat),.string key,.pointer (some ⟨w.heap.size,0,none⟩),undef,undef,.slice none 0 0,.map none,.pointer (some ⟨w.heap.size+1+1,0,none⟩),.pointer (some ⟨W5.heap.size,0,none⟩),(.int .i64 (i:Nat)),u11,u12,u13,u14,.int .i64 (v:Nat),.slice (some ⟨w.heap.size+1,0,none⟩) 1 1,.map (some (w.heap.size+1+1+1)),.int .i64 (v:Nat),.map (some (w.heap.size+1+1+1)),u20,u21,u22,u23,u24,u25,u26,u27,u28,u29,u30,u31,u32,u33,u34,u35,u36,u37,u38,u39,u40,u41,u42,u43,u44,u45,u46,u47,u48,u49,u50,u51,u52,u53,u54,u55,undef,undef],defers:=Ds.map ld_ }∧Reached (bM_ p key) p.binds.length v L i∧RSt w #[.slice a1 n1 c1,.slice a2 n2 c2,.slice a3 n3 c3] W5.heap.size u L Ds W) (fun a _=>5 - (intOf (a.tmps.getD 10 undef)).toNat) ⟨0,_,[],_,_,_,_,_,_,_,_,_,_,_,_,_,_,_,_,_,_,_,_,_,_,_,_,_,_,_,_,_,_,_,_,_,_,_,_,_,_,_,_,_,rfl,.start,hst⟩ ?_
 rintro a W ⟨i,L,Ds,u,u11,u12,u13,u14,u20,u21,u22,u23,u24,u25,u26,u27,u28,u29,u30,u31,u32,u33,u34,u35,u36,u37,u38,u39,u40,u41,u42,u43,u44,u45,u46,u47,u48,u49,u50,u51,u52,u53,u54,u55,rfl,hre,hs⟩;obtain ⟨hL1,hL2,hL3⟩:=HR.out hre;have lc:=hs.lbox.cell;obtain ⟨au,cu,rfl,hcu,hau⟩:∃ au cu,u = .slice au L.length cu∧L.length≤cu∧(L.length = 0∨∃ g,au = some ⟨g,0,none⟩):=by
  rcases hs.row.2 with ⟨rfl,h0⟩ | ⟨g,cap,cur,rfl,_,_,h1,_⟩
  ·exact ⟨none,0,by rw [h0],by omega,.inl h0⟩
  ·exact ⟨_,cap,rfl,h1,.inr ⟨g,rfl⟩⟩
 by_cases hlt:i < L.length
 ·obtain ⟨g,rfl⟩:∃ g,au = some ⟨g,0,none⟩:=by
   rcases hau with h | h
   ·omega
   ·exact h
  have e0:=aO_ hs.pbox 0;have e1:=aO_ hs.pbox 1;have e2:=aO_ hs.pbox 2;simp at e0 e1 e2;obtain ⟨x,t,hxt⟩:∃ x t,L[i] = (x,t):=⟨_,_,rfl⟩
  have hxi:(ints L)[i]? = some (.int .i64 (x:Nat)):=by simp [ints,hlt,hxt]
  have e3:W.cell? ⟨g,i,none⟩ = some (.int .i64 (x:Nat)):=by
   have:=hs.row.cells (g:=g) rfl i _ hxi;simpa [hn_] using this
  have j1:(0:Int)≤(i:Int):=by omega
  have j2:(i:Int) < (L.length:Int):=by omega
  clear hxi hau;obtain ⟨Wf0,hWf0,fb0,hBf0,hsf0⟩:=eb_ W a1 a2 a3 n1 c1 n2 c2 n3 c3 (x:Nat) key;have HWF0:Hid (Wf0 = _):=hWf0;obtain ⟨Wf,hWf⟩:∃ Wf,Wf = Wf0.drew:=⟨_,rfl⟩
  have HWF:Hid (Wf = Wf0.drew):=hWf;have fb:cM_ Wf W.heap.size a1 a2 a3 n1 c1 n2 c2 n3 c3 (x:Nat) key:=by rw [hWf];exact ⟨fb0.p,fb0.v,fb0.k⟩
  have hsW:Wf.heap.size = W.heap.size+3:=by rw [hWf];exact hsf0
  have hBW:Below W.heap.size W Wf:=by rw [hWf];exact hBf0.drew
  clear hWf0 hWf fb0 hBf0 hsf0;have hsF:RSt w #[.slice a1 n1 c1,.slice a2 n2 c2,.slice a3 n3 c3] W5.heap.size (.slice (some ⟨g,0,none⟩) L.length cu) L Ds Wf:=hs.keep hBW;have hb4:=hs.b4;have hb4W:=hs.mbox.lt;have hgW:g < W.heap.size:=(hs.row.lt g rfl).2;have hDW:=hs.marks.lt;have HX:Hid (L[i] = (x,t)):=hxt;clear hxt;gi_wp2_with fail
  gi_region_with (refine ⟨trivial,?_⟩;gi_at_call 136;refine (gm_ _ _ _ _ _ _ _).mono ?_;rintro e w' ⟨rfl,rfl⟩)
  all_goals
   clear e0 e1 e2 e3 lc;gi_wp2_with fail
   rw [← HWF0.out,← HWF.out];refine wpIn_rangeFunc_ownH rfl (by omega) (gf:=165) (lb:=#[.pointer (some ⟨W.heap.size,0,none⟩),.pointer (some ⟨W.heap.size+1,0,none⟩),.pointer (some ⟨W.heap.size+1+1,0,none⟩)]) rfl trivial (enters_of Tryz.func165 (by kernel_rfl) rfl)
    (hD_ 5 (by omega) W.heap.size p a1 a2 a3 n1 c1 n2 c2 n3 c3 (x:Nat) key w Wf HCK.out.1 HCK.out.2 HP.out hs.below.size (by omega) hsF.below fb) (fun h k=>h.trans k) (fun W' l o o' hl ho _ _=>k1_ (by have:=hs.below.size;omega) (by omega) W' l o o' hl ho) (Below.refl _ _) (fun _=>rfl)
    (fun pre W'=>∃ u',RSt w #[.slice a1 n1 c1,.slice a2 n2 c2,.slice a3 n3 c3] W5.heap.size u' (pre.foldl (cstep p t) L) Ds W'∧(∀ g',u'.ownBlock = some g'→g' < W.heap.size∨W.heap.size+3≤g')∧Wf.heap.size≤W'.heap.size)
    (fun _ _ _=>False)
    (fun pre W' W'' row hI hg hr=>by
     obtain ⟨u',h1,h2,h3⟩:=hI;exact ⟨u',h1.other hg hr (by omega) (fun D hD=>by have:=hDW D hD;omega),h2,Nat.le_trans h3 hg.size⟩)
    (fun _ _ _ _ _ h _ _=>h)
    ⟨_,hsF,fun g' e=>by simp only [Value.ownBlock,Option.some.injEq] at e;left;omega,Nat.le_refl _⟩
    (fun y a' W'=>∃ Bx,W.heap.size+3≤Bx∧W'.heap[Bx]? = some (.cells #[.int .i64 (bAt p y).src,.bool (bAt p y).toPost,.int .i64 (bAt p y).dst,.string (bAt p y).pat] 100 (0,0))∧a' = { tmps:=#[.agg #[.slice a1 n1 c1,.slice a2 n2 c2,.slice a3 n3 c3],.int .i64 (v:Nat),.string key,.pointer (some ⟨w.heap.size,0,none⟩),undef,undef,.slice none 0 0,.map none,.pointer (some ⟨w.heap.size+1+1,0,none⟩),.pointer (some ⟨W5.heap.size,0,none⟩),.int .i64 (i:Nat),.int .i64 (y:Nat),.pointer (some ⟨Bx,0,none⟩),u13,u14,.int .i64 (v:Nat),.slice (some ⟨w.heap.size+1,0,none⟩) 1 1,.map (some (w.heap.size+1+1+1)),.int .i64 (v:Nat),.map (some (w.heap.size+1+1+1)),.int .i64 (i:Nat),.slice (some ⟨g,0,none⟩) L.length cu,.int .i64 (L.length:Nat),.bool true,u24,u25,.agg #[.slice a1 n1 c1,.slice a2 n2 c2,.slice a3 n3 c3],.slice (some ⟨g,0,none⟩) L.length cu,.int .i64 (i:Nat),.pointer (some ⟨g,i,none⟩),.int .i64 (x:Nat),.string key,.func (.func 165) #[] #[.pointer (some ⟨W.heap.size,0,none⟩),.pointer (some ⟨W.heap.size+1,0,none⟩),.pointer (some ⟨W.heap.size+1+1,0,none⟩)],.int .i64 (y:Nat),(bAt p y).val,u35,u36,u37,u38,u39,u40,u41,u42,u43,u44,u45,u46,u47,u48,u49,u50,u51,u52,u53,u54,u55,undef,undef],defers:=[] })
    (fun y a' _ W' W'' row hA hg hr=>by
     obtain ⟨Bx,h1,h2,h3⟩:=hA;refine ⟨Bx,h1,(hg.block Bx (Array.getElem?_eq_some_iff.1 h2).1 (fun e=>?_)).trans h2,h3⟩;obtain ⟨_,o,h4,h5⟩:=hr Bx e.symm;rw [h2] at h4;cases h4;cases h5)
    ?assign ?body ?done ?stop
   case stop=>rintro D c pre W' _ _ h _;exact h.elim
   case assign=>
    rintro l pre y W' K ⟨u',h1,h2,h3⟩ hK;dsimp only [di_.val];gi_wp2
    have hBa:Below W'.heap.size W' (W'.alloc (.cells #[.int .i64 (bAt p y).src,.bool (bAt p y).toPost,.int .i64 (bAt p y).dst,.string (bAt p y).pat] 100)):=(Below.refl _ _).alloc (Nat.le_refl _) _;exact hK _ _ ((KeepsOthers.alloc _ _).from _) (cl_.of_below hBa h1.below.size (by omega)) ⟨u',h1.keep hBa,h2,Nat.le_trans h3 hBa.size⟩ ⟨W'.heap.size,by omega,World.alloc_heap_new W' _,rfl⟩
   case body=>
    rintro l pre y a' W' hl _ ⟨u',h1,h2,h3⟩ ⟨Bx,hBx,hcell,rfl⟩ hlen;have hfold:(pre ++ [y]).foldl (cstep p t) L = cstep p t (pre.foldl (cstep p t) L) y:=by rw [List.foldl_append];rfl
    have hL':=hB_ p t pre L;have h10:=gk_ (p:=p) (key:=key) (v:=(x:Nat)) HRP.out.few.2.2;obtain ⟨L',hLe⟩:∃ L',L' = pre.foldl (cstep p t) L:=⟨_,rfl⟩
    rw [← hLe] at h1 hL' hfold;have HFO:Hid ((pre ++ [y]).foldl (cstep p t) L = cstep p t L' y):=hfold;have hL'':L'.length≤20:=by omega
    have m0:=aO_ hcell 0;have m1:=aO_ hcell 1;have m2:=aO_ hcell 2;have m3:=aO_ hcell 3;simp at m0 m1 m2 m3;have lc':=h1.lbox.cell;have mc':=h1.mbox.cell;have HDO:=g2_ (kM_ HRP.out y);clear hfold hLe hL';cases htp:(bAt p y).toPost with
    | false =>
      have HC:Hid (cstep p t L' y = L'):=by show cstep p t L' y = L';unfold cstep;rw [htp];simp
      rw [htp] at m1;gi_wp2
      exact ⟨KeepsFrom.refl _ _,cl_.refl _ _ _,u',by rw [HFO.out,HC.out];exact h1,h2,h3⟩
    | true =>
      rw [htp] at m1;obtain ⟨hd0,hd1⟩:=HDO.out htp;obtain ⟨z,hz⟩:=Int.eq_ofNat_of_zero_le hd0;have hz':Hid ((bAt p y).dst = (z:Nat)):=hz;rw [hz] at m2 hd1;have hz4:z≤1000:=by have:=HRP.out.few.1;omega
      have hkey:keyOf Tryz.prog 3 (.int .i64 (z:Nat)) = some (.int .i64 (z:Nat)):=keyOf_int_mk Tryz.underlying3 (l6_ (by omega));have hhas:=nf_ L' z;have hy10:y < 1000:=by have:=nU_ htp;have:=HRP.out.few.2.2;omega
      have HZ:Hid ((bAt p y).dst.toNat = z):=by show (bAt p y).dst.toNat = z;omega
      by_cases hin:z ∈ L'.map Prod.fst
      ·have hh:has (byD L') (.int .i64 (z:Nat)) = true:=by rw [hhas];simpa using hin
       have HC:Hid (cstep p t L' y = L'):=by show cstep p t L' y = L';unfold cstep;rw [if_neg (fun h=>h.2 (by rw [HZ.out];exact hin))]
       clear hhas hin htp hz;gi_wp2_with (gi_at_lookup;refine wpListIn_lookup_own_ok_int _ rfl _ _ 159 rfl 3 3 .i64 key3 Tryz.underlying159 Tryz.underlying3 (zero3 _) (w.heap.size+1+1+1) _ _ rfl h1.map _ _ rfl hkey ?_;intro c hat hwc;rw [hh])
       exact ⟨KeepsFrom.refl _ _,cl_.refl _ _ _,u',by rw [HFO.out,HC.out];exact h1,h2,h3⟩
      ·have hh:has (byD L') (.int .i64 (z:Nat)) = false:=by rw [hhas];simpa using hin
       have HC:Hid (cstep p t L' y = L' ++ [(z,t ++ [y])]):=by show cstep p t L' y = _;unfold cstep;rw [if_pos ⟨htp,by rw [HZ.out];exact hin⟩,HZ.out]
       have HPUT:Hid ((byD L').put (.int .i64 (z:Nat)) (.lit (.int .i64 (y:Nat))) = byD (L' ++ [(z,t ++ [y])])):=by show _ = _;rw [i6_,iD_]
       obtain ⟨i0,hi0,hz0,hz1,hz2⟩:=info_parts Tryz.infoInt;have hB4:=h1.b4;have hsz':=h1.mbox.lt;have hBxne:Bx≠w.heap.size+1+1+1:=by omega
       clear hhas hin htp hz;gi_wp2_with (first
        | (gi_at_lookup;refine wpListIn_lookup_own_ok_int _ rfl _ _ 159 rfl 3 3 .i64 key3 Tryz.underlying159 Tryz.underlying3 (zero3 _) (w.heap.size+1+1+1) _ _ rfl h1.map _ _ rfl hkey ?_;intro c hat hwc;rw [hh])
        | (gi_at_mapUpdate;refine wpListIn_mapUpdate_own _ rfl _ _ _ 159 rfl 3 3 key3 Tryz.underlying159 (plainElem Tryz.prog 3) (w.heap.size+1+1+1) L'.length (byD L') rfl h1.map (by unfold maxLen;omega) _ _ _ rfl rfl hkey _ [] (plainElem_int Tryz.underlying3 (l6_ (n:=y) (by omega))) ?_;intro wa hma hga;have t1:Turn (fun k=>k = w.heap.size+1+1+1) W' wa:=Turn.of_grown hga (fun r e=>by cases e;rfl);have lca:=(t1.boxed h1.lbox (by omega)).cell;have hca:=(t1.block Bx (Array.getElem?_eq_some_iff.1 hcell).1 hBxne).trans hcell;have m2a:=aO_ hca 2;rw [hz'.out] at m2a;have hra:=t1.row h1.row (fun g' e h=>(h1.row_ne e).2.2.1 h);have hsa:=t1.size)
        | (gi_at_builtin;refine wpListIn_append_own_at _ rfl _ _ 32 rfl (w.heap.size+1) 3 i0 (.int .i64 0) 1 8 Tryz.underlying32 hi0 hz0 hz1 hz2 rfl (by decide) _ _ _ rfl (hra.alloc _) ⟨wa.heap.size,0,none⟩ 1 1 [.int .i64 (z:Nat)] rfl rfl (cell_one_new _ _ _) (by simp [Value.oneCell']) (by unfold maxLen;omega) (by omega) (by simp;omega) ?_;intro v' wc hown' hgrow _ hat';obtain ⟨gn,capn,rfl⟩:=ownsRow_succ hown';rw [HPUT.out] at hma;obtain ⟨hbx',hst',hturn⟩:=h1.push hga hma hgrow (by simpa using hown') hat';have hc1:=hbx'.cell;have hf1:=hbx'.frozen))
       exact ⟨f8_ h1 hturn (by omega),jT_ h1 hturn (by omega) (by omega) h2,_,by rw [HFO.out,HC.out];exact hst',fun g' e=>by
        rcases (show Value.ownBlock (.slice (some ⟨gn,0,none⟩) (L'.length+1) capn) = u'.ownBlock∨Value.ownBlock (.slice (some ⟨gn,0,none⟩) (L'.length+1) capn) = some (wa.alloc _).heap.size from hat') with e2 | e2
        ·exact h2 g' (e2.symm.trans e)
        ·rw [e2] at e;simp only [Option.some.injEq,World.size_alloc] at e;omega,Nat.le_trans h3 hturn.size⟩
   case done=>
    rintro D ys W' hD hys ⟨u',h1,h2,h3⟩ hmark;rw [hys,jJ_ HRP.out] at h1;have hre':=Reached.next hre hlt;rw [HX.out] at hre';have h1':RSt w #[.slice a1 n1 c1,.slice a2 n2 c2,.slice a3 n3 c3] W5.heap.size u' (tround (bM_ p key) p.binds.length (x,t) L) (D :: Ds) W':=⟨h1.below,h1.pbox,h1.lbox,h1.row,h1.map,h1.mbox,h1.b4,h1.marks.cons (fun h=>by have:=hDW D h;omega) (by omega) hmark⟩;clear h1 hys;gi_wp2_with fail
    exact ⟨⟨i+1,_,D :: Ds,u',_,_,_,_,_,_,_,_,_,_,_,_,_,_,_,_,_,_,_,_,_,_,_,_,_,_,_,_,_,_,_,_,_,_,_,_,_,_,_,_,rfl,hre',h1'⟩,by simp [intOf];omega⟩
 ·have mc:=hs.mbox.cell;gi_wp2_with fail
  gi_quiet (fail)
  gi_wp2_with fail
  refine cR_ (n0:=w.heap.size+1) (Ds:=Ds) ⟨hs.marks.once,hs.marks.there⟩ (fun W' hW'=>?_);have hs':RSt w #[.slice a1 n1 c1,.slice a2 n2 c2,.slice a3 n3 c3] W5.heap.size (.slice au L.length cu) L [] W':=RSt.turn (W:=W) (X:=fun k=>k ∈ Ds) ⟨hs.below,hs.pbox,hs.lbox,hs.row,hs.map,hs.mbox,hs.b4,⟨List.nodup_nil,fun D hD=>by simp at hD⟩⟩ ⟨hW'.os,hW'.tape,hW'.output,hW'.size,hW'.block⟩ (fun k h=>by have:=(hs.marks.there k h).1;omega) (fun h=>(hs.mark_ne h).1 rfl) (fun h=>(hs.mark_ne h).2.1 rfl) (fun h=>(hs.mark_ne h).2.2.1 rfl) (fun h=>(hs.mark_ne h).2.2.2 rfl) (fun g' e h=>(hs.row_ne e).2.2.2.2 h) (fun D hD=>by simp at hD);exact ⟨_,results_tmp2 rfl _ _ _,_,_,L,i,rfl,hre,hlt,lu_ hs'.row (by omega),hs'.map,by omega,hs'.below⟩
end Go.Proofs.YtlbnkpicnokgoaaGreat
