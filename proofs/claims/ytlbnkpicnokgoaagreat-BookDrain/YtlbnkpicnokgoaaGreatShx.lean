import Derived.Test.YtlbnkpicnokgoaaGreatSgx
import Derived.Test.YtlbnkpicnokgoaaGreatSex
namespace Go.Proofs.YtlbnkpicnokgoaaGreat
open Go.RowKit Go.Maps
set_option linter.unusedVariables false
set_option maxRecDepth 100000
theorem i3_ {p:ad_} {key:ByteArray} {n u x:Nat} (hr:bx_ p) (h:bM_ p key n = some (u,x)):n < p.binds.length∧fitP p n key = true∧(bAt p n).toPost = true∧(bAt p n).src = u∧(bAt p n).dst = x:=by
 unfold bM_ at h;split at h
 ·rename_i hh;obtain ⟨h1,h2,h3⟩:=hh;simp at h;have e1:=(hr.src _ (List.getElem_mem h1)).1;have e2:=(hr.dst _ (List.getElem_mem h1)).1;rw [← dW_ h1] at e1 e2;exact ⟨h1,h2,h3,by omega,by omega⟩
 ·cases h
structure Marked (A:Nat→Option (Nat × Nat)) (v:Nat) (bs:List Bool) (r k:Nat):Prop where
 sound:∀ i,bs.getD i false = true→∃ s,Path A v s i
 full:∀ s i,Path A v s i→(s.length≤r∨∃ s' m,s = s' ++ [m]∧s'.length≤r∧m < k)→bs.getD i false = true
theorem fc_ {bs:List Bool} {x i:Nat} (hx:x < bs.length):(bs.set x true).getD i false = (decide (i = x) || bs.getD i false):=by
 rw [List.getD_eq_getElem?_getD,List.getD_eq_getElem?_getD,List.getElem?_set];by_cases h:x = i
 ·subst h;rw [if_pos rfl,if_pos hx];simp
 ·rw [if_neg h];have:¬ i = x:=fun e=>h e.symm;simp [this]
theorem kP_ {n i:Nat}:(List.replicate n false).getD i false = false:=by
 rw [List.getD_eq_getElem?_getD,List.getElem?_replicate];split <;> rfl
theorem Marked.start {A:Nat→Option (Nat × Nat)} {v n:Nat} (hv:v < n):Marked A v ((List.replicate n false).set v true) 0 0 where
 sound:=by
  intro i h;rw [fc_ (by simpa using hv),kP_] at h;simp at h;subst h;exact ⟨[],.nil⟩
 full:=by
  intro s i hp h;rw [fc_ (by simpa using hv)];rcases h with h | ⟨s',m,_,_,h⟩
  ·have e:s = []:=List.length_eq_zero_iff.1 (by omega);subst e;rcases hp.inv with ⟨_,rfl⟩ | ⟨s',u,m,e,_,_⟩
   ·simp
   ·simp at e
  ·omega
theorem Marked.stay {A:Nat→Option (Nat × Nat)} {v:Nat} {bs:List Bool} {r k:Nat} (h:Marked A v bs r k) (hA:∀ u x,A k = some (u,x)→bs.getD u false = false):Marked A v bs r (k+1):=by
 refine ⟨h.sound,fun s i hp hl=>?_⟩;rcases hl with hl | ⟨s',m,rfl,h1,h2⟩
 ·exact h.full s i hp (.inl hl)
 ·by_cases e:m < k
  ·exact h.full _ i hp (.inr ⟨s',m,rfl,h1,e⟩)
  ·have e2:m = k:=by omega
   subst e2;obtain ⟨u,hu,ha⟩:=hp.inv_snoc;have:=h.full s' u hu (.inl h1);rw [hA u i ha] at this;cases this
theorem Marked.mark {A:Nat→Option (Nat × Nat)} {v:Nat} {bs:List Bool} {r k u x:Nat} (h:Marked A v bs r k) (hA:A k = some (u,x)) (hu:bs.getD u false = true) (hx:x < bs.length):Marked A v (bs.set x true) r (k+1):=by
 obtain ⟨s0,hs0⟩:=h.sound u hu;refine ⟨fun i hi=>?_,fun s i hp hl=>?_⟩
 ·rw [fc_ hx] at hi;by_cases e:i = x
  ·subst e;exact ⟨_,.snoc hs0 hA⟩
  ·simp [e] at hi;exact h.sound i (by rw [List.getD_eq_getElem?_getD];exact hi)
 ·rw [fc_ hx];rcases hl with hl | ⟨s',m,rfl,h1,h2⟩
  ·rw [h.full s i hp (.inl hl)];simp
  ·by_cases e:m < k
   ·rw [h.full _ i hp (.inr ⟨s',m,rfl,h1,e⟩)];simp
   ·have e2:m = k:=by omega
    subst e2;obtain ⟨u',hu',ha⟩:=hp.inv_snoc;rw [hA] at ha;simp at ha;rw [ha.2];simp
theorem Marked.next {A:Nat→Option (Nat × Nat)} {v:Nat} {bs:List Bool} {r nb:Nat} (h:Marked A v bs r nb) (hnb:∀ m q,A m = some q→m < nb):Marked A v bs (r+1) 0:=by
 refine ⟨h.sound,fun s i hp hl=>?_⟩;rcases hl with hl | ⟨_,_,_,_,h2⟩
 ·rcases hp.inv with ⟨rfl,rfl⟩ | ⟨s',u,m,rfl,h1,h2⟩
  ·exact h.full [] _ .nil (.inl (by simp))
  ·exact h.full _ i hp (.inr ⟨s',m,rfl,by simp at hl;omega,hnb m _ h2⟩)
 ·omega
theorem fM_ {A:Nat→Option (Nat × Nat)} {nb r N:Nat} (hN:∀ L i,Reached A nb r L i→L.length≤N):∀ (k:Nat) {L:Trails} {i:Nat},Reached A nb r L i→N≤i+k→∃ L' i',Reached A nb r L' i'∧¬ i' < L'.length
 | 0,L,i,h,hk=>⟨L,i,h,by have:=hN L i h;omega⟩
 | k + 1, L, i, h, hk => by
   by_cases hi:i < L.length
   ·exact fM_ hN k (Reached.next h hi) (by omega)
   ·exact ⟨L,i,h,hi⟩
theorem km_ {p:ad_} {key:ByteArray} (hr:bx_ p) {v:Nat} (hv:v < p.posts.length) {s:List Nat} {x:Nat} (h:Path (bM_ p key) v s x):∃ s',Path (bM_ p key) v s' x∧s'.length≤p.posts.length:=by
 obtain ⟨L,i,hL,hi⟩:=fM_ (A:=bM_ p key) (nb:=p.binds.length) (r:=v) (N:=p.posts.length) (fun L i h=>(dH_ hr hv h).2.1) p.posts.length Reached.start (by omega);have hc:=(hL.came fk_).1;have hx:=(hL.found fk_ hi).all h;obtain ⟨y,hy,rfl⟩:=List.mem_map.1 hx;obtain ⟨j,hj,rfl⟩:=ha_ hy;have h1:=hc.short (j+1) j hj (by omega);have h2:=(dH_ hr hv hL).2.1;exact ⟨_,hc.path _ hy,by omega⟩
theorem Marked.done {p:ad_} {key:ByteArray} (hr:bx_ p) {v:Nat} (hv:v < p.posts.length) {bs:List Bool} {r:Nat} (h:Marked (bM_ p key) v bs r 0) (hle:p.posts.length≤r) (x:Nat):bs.getD x false = true↔∃ s,Path (bM_ p key) v s x:=by
 refine ⟨h.sound x,?_⟩;rintro ⟨s,hs⟩;obtain ⟨s',h1,h2⟩:=km_ hr hv hs;exact h.full s' x h1 (.inl (by omega))
def dT_ (f:Nat→Bool) (k:Nat):List Int:=((List.range k).filter f).map (fun i:Nat=>(i:Int))
theorem mw_ (f:Nat→Bool) (k:Nat):(dT_ f k).length≤k:=by
 unfold dT_;rw [List.length_map];have:=List.length_filter_le f (List.range k);simpa using this
theorem hb_ {f:Nat→Bool} {k:Nat} {z:Int}:z ∈ dT_ f k↔∃ x:Nat,z = x∧x < k∧f x = true:=by
 unfold dT_;simp only [List.mem_map,List.mem_filter,List.mem_range];constructor
 ·rintro ⟨x,⟨h1,h2⟩,rfl⟩;exact ⟨x,rfl,h1,h2⟩
 ·rintro ⟨x,rfl,h1,h2⟩;exact ⟨x,⟨h1,h2⟩,rfl⟩
theorem hX_ (f:Nat→Bool) (k:Nat):(dT_ f k).Pairwise (· < ·):=by
 unfold dT_;rw [List.pairwise_map];exact (List.Pairwise.filter f List.pairwise_lt_range).imp (fun h=>by omega)
theorem nx_ {p:ad_} {key:ByteArray} (hr:bx_ p) {v:Nat} (hv:v < p.posts.length) {s:List Nat} {x:Nat} (h:Path (bM_ p key) v s x):x < p.posts.length:=by
 rcases h.inv with ⟨_,e⟩ | ⟨s,u,n,_,_,e⟩
 ·omega
 ·obtain ⟨h1,h2,h3,h4,h5⟩:=i3_ hr e;have:=kM_ hr n h3;omega
theorem h0_ {p:ad_} {key:ByteArray} (hr:bx_ p) {v:Nat} (hv:v < p.posts.length) {bs:List Bool} {r:Nat} (h:Marked (bM_ p key) v bs r 0) (hle:p.posts.length≤r):kv_ p key v (dT_ (fun i=>bs.getD i false) p.posts.length):=by
 refine ⟨hX_ _ _,fun z=>?_⟩;rw [hb_];constructor
 ·rintro ⟨x,rfl,h1,h2⟩;exact ⟨x,rfl,(h.done hr hv hle x).1 h2⟩
 ·rintro ⟨x,rfl,s,hs⟩;exact ⟨x,rfl,nx_ hr hv hs,(h.done hr hv hle x).2 ⟨s,hs⟩⟩
def jf_ (p:ad_) (key:ByteArray) (ps:List Int) (q:Int) (k:Nat):Bool:=(List.range k).any (fun n=>!(bAt p n).toPost && (decide ((bAt p n).dst = q) && (decide ((bAt p n).src ∈ ps) && fitP p n key)))
theorem iO_ {p:ad_} {key:ByteArray} (hr:bx_ p) {v:Nat} {ps:List Int} (hp:kv_ p key v ps):cN_ p key v (dT_ (fun q=>jf_ p key ps (q:Int) p.binds.length) p.queues.length):=by
 refine ⟨hX_ _ _,fun z=>?_⟩;rw [hb_];constructor
 ·rintro ⟨x,rfl,h1,h2⟩;unfold jf_ at h2;simp only [List.any_eq_true,List.mem_range,Bool.and_eq_true,Bool.not_eq_true',decide_eq_true_eq] at h2;obtain ⟨n,hn,a1,a2,a3,a4⟩:=h2;obtain ⟨y,hy,hs⟩:=(hp.mem _).1 a3;exact ⟨n,hn,a4,a1,a2,by rw [hy,Int.toNat_natCast];exact hs⟩
 ·rintro ⟨n,hn,a4,a1,rfl,hs⟩;have hd:=hr.dst _ (List.getElem_mem hn);have hsr:=hr.src _ (List.getElem_mem hn);rw [← dW_ hn] at hd hsr;rw [a1] at hd;simp only [Bool.false_eq_true,if_false] at hd;refine ⟨(bAt p n).dst.toNat,by omega,by omega,?_⟩;unfold jf_;simp only [List.any_eq_true,List.mem_range,Bool.and_eq_true,Bool.not_eq_true',decide_eq_true_eq];exact ⟨n,hn,a1,by omega,(hp.mem _).2 ⟨(bAt p n).src.toNat,by omega,hs⟩,a4⟩
def fe_ (A:Nat→Option (Nat × Nat)) (bs:List Bool) (k:Nat):List Bool:=
 match A k with
 | none=>bs
 | some (u,x)=>if bs.getD u false = true then bs.set x true else bs
def gy_ (A:Nat→Option (Nat × Nat)) (bs:List Bool):Nat→List Bool
 | 0=>bs
 | k+1=>fe_ A (gy_ A bs k) k
def j4_ (A:Nat→Option (Nat × Nat)) (nb:Nat) (bs:List Bool):Nat→List Bool
 | 0=>bs
 | r+1=>gy_ A (j4_ A nb bs r) nb
theorem hU_ (A:Nat→Option (Nat × Nat)) (bs:List Bool) (k:Nat):(fe_ A bs k).length = bs.length:=by
 unfold fe_;split
 ·rfl
 ·split
  ·simp
  ·rfl
theorem eJ_ (A:Nat→Option (Nat × Nat)) (bs:List Bool):∀ k,(gy_ A bs k).length = bs.length
 | 0=>rfl
 | k+1=>by unfold gy_;rw [hU_,eJ_ A bs k]
theorem hT_ (A:Nat→Option (Nat × Nat)) (nb:Nat) (bs:List Bool):∀ r,(j4_ A nb bs r).length = bs.length
 | 0=>rfl
 | r+1=>by unfold j4_;rw [eJ_,hT_ A nb bs r]
theorem Marked.onw {A:Nat→Option (Nat × Nat)} {v:Nat} {bs:List Bool} {r:Nat} (hA:∀ k u x,A k = some (u,x)→x < bs.length) (h:Marked A v bs r 0):∀ k,Marked A v (gy_ A bs k) r k
 | 0=>h
 | k + 1 => by
   have ih:=Marked.onw hA h k;unfold gy_ fe_;split
   ·rename_i e;exact ih.stay (fun u x hx=>by rw [e] at hx;cases hx)
   ·rename_i u x e;split
    ·rename_i hu;exact ih.mark e hu (by rw [eJ_];exact hA _ _ _ e)
    ·rename_i hu;exact ih.stay (fun u' x' hx=>by rw [e] at hx;cases hx;simpa using hu)
def iH_ (p:ad_) (key:ByteArray) (v:Nat):List Bool:=j4_ (bM_ p key) p.binds.length ((List.replicate p.posts.length false).set v true) p.posts.length
theorem j5_ {p:ad_} {key:ByteArray} (hr:bx_ p) {v:Nat} (hv:v < p.posts.length):Marked (bM_ p key) v (iH_ p key v) p.posts.length 0:=by
 unfold iH_;have:∀ r,Marked (bM_ p key) v (j4_ (bM_ p key) p.binds.length ((List.replicate p.posts.length false).set v true) r) r 0:=by
  intro r;induction r with
  | zero=>exact Marked.start hv
  | succ r ih =>
    unfold j4_;refine (Marked.onw (fun k u x e=>?_) ih p.binds.length).next fk_;obtain ⟨h1,h2,h3,h4,h5⟩:=i3_ hr e;have:=kM_ hr k h3;rw [hT_];simp;omega
 exact this _
def qsC (p:ad_) (key:ByteArray) (v:Nat):List Int:=dT_ (fun q=>jf_ p key (dT_ (fun i=>(iH_ p key v).getD i false) p.posts.length) (q:Int) p.binds.length) p.queues.length
theorem m8_ {p:ad_} {key:ByteArray} (hr:bx_ p) {v:Nat} (hv:v < p.posts.length):cN_ p key v (qsC p key v):=iO_ hr (h0_ hr hv (j5_ hr hv) (Nat.le_refl _))
theorem lG_ (p:ad_) (key:ByteArray) (v:Nat):(qsC p key v).length≤p.queues.length:=mw_ _ _
theorem nB_ {p:ad_} {key:ByteArray} {v:Nat} {z:Int} (h:z ∈ qsC p key v):0≤z∧z < p.queues.length:=by
 obtain ⟨x,rfl,hx,_⟩:=hb_.1 h;omega
structure ArrD where
 queue:Int
 key:ByteArray
 body:ByteArray
 deaths:Int
def ch_ (zs:List Int) (key body:ByteArray) (d:Int):List ArrD:=zs.map (fun z=>⟨z,key,body,d⟩)
def dieL (p:ad_) (q:Nat) (x:ae_):List ArrD:=if (qAt p q).dead = -1∨2≤x.deaths then [] else ch_ (qsC p x.key (qAt p q).dead.toNat) x.key x.body (x.deaths+1)
def putL (p:ad_) (q:Nat) (line:List ae_):List ae_:=if (line.length:Int)≤(qAt p q).limit then line else line.tail
def putD (p:ad_) (q:Nat) (line:List ae_):Int:=if (line.length:Int)≤(qAt p q).limit then 0 else 1
def putA (p:ad_) (q:Nat) (line:List ae_):List ArrD:=if (line.length:Int)≤(qAt p q).limit then [] else match line with | []=>[] | y :: _=>dieL p q y
def putS (p:ad_) (s:ab_) (q:Nat) (x:ae_):ab_:={ s with ready:=s.ready.set q (putL p q (bd_ (af_ s q) x)),dropped:=s.dropped+putD p q (bd_ (af_ s q) x) }
def putB (p:ad_) (s:ab_) (q:Nat) (x:ae_):List ArrD:=putA p q (bd_ (af_ s q) x)
def aS_ (s:ab_) (a:ArrD):ae_:=⟨s.nextSeq,a.key,a.body,false,a.deaths⟩
def upS (s:ab_):ab_:={ s with nextSeq:=s.nextSeq+1,came:=s.came+1 }
def d3_ (p:ad_) (s:ab_) (a:ArrD):ab_:=putS p (upS s) a.queue.toNat (aS_ s a)
def eo_ (p:ad_) (s:ab_) (a:ArrD):List ArrD:=putB p (upS s) a.queue.toNat (aS_ s a)
def arrS (p:ad_):Nat→ab_→List ArrD→ab_
 | 0,s,_=>s
 | _ + 1,s,[]=>s
 | f+1,s,a :: l=>arrS p f (d3_ p s a) (l ++ eo_ p s a)
def arrN (p:ad_):Nat→ab_→List ArrD→Nat
 | 0,_,_=>0
 | _ + 1,_,[]=>0
 | f+1,s,a :: l=>arrN p f (d3_ p s a) (l ++ eo_ p s a)+1
theorem eM_ (xs:List ae_) (x:ae_):(bd_ xs x).Perm (x :: xs):=by
 unfold bd_;have:(xs.take (idxSeq x.seq xs) ++ [x] ++ xs.drop (idxSeq x.seq xs)).Perm (x :: (xs.take (idxSeq x.seq xs) ++ xs.drop (idxSeq x.seq xs))):=by
  rw [List.append_assoc];exact List.perm_middle
 rwa [List.take_append_drop] at this
theorem cU_ (xs:List ae_) (x:ae_):(bd_ xs x).length = xs.length+1:=by simpa using (eM_ xs x).length_eq
theorem mM_ (p:ad_) (s:ab_) {q:Nat} (x:ae_) (h:q < s.ready.length) :
 ((putD p q (bd_ (af_ s q) x) = 0 ∧ (ar_ (putS p s q x)).Perm (x.seq :: ar_ s)) ∨
  (putD p q (bd_ (af_ s q) x) = 1∧∃ y r,bd_ (af_ s q) x = y :: r∧(y.seq :: ar_ (putS p s q x)).Perm (x.seq :: ar_ s))):=by
 obtain ⟨A,B,h1,h2⟩:=kl_ s h (putL p q (bd_ (af_ s q) x));have e2:ar_ (putS p s q x) = A ++ (putL p q (bd_ (af_ s q) x)).map ae_.seq ++ B:=by unfold putS;rw [← h2];rfl
 have hp:((bd_ (af_ s q) x).map ae_.seq).Perm (x.seq :: (af_ s q).map ae_.seq):=by simpa using (eM_ (af_ s q) x).map ae_.seq
 have key:(A ++ (bd_ (af_ s q) x).map ae_.seq ++ B).Perm (x.seq :: ar_ s):=by
  rw [h1];have e:(A ++ (bd_ (af_ s q) x).map ae_.seq ++ B).Perm (A ++ (x.seq :: (af_ s q).map ae_.seq) ++ B):=(hp.append_left A).append_right B;refine e.trans ?_;rw [List.append_assoc,List.append_assoc];exact List.perm_middle
 by_cases hc:((bd_ (af_ s q) x).length:Int)≤(qAt p q).limit
 ·left
  have e1:putL p q (bd_ (af_ s q) x) = bd_ (af_ s q) x:=if_pos hc;exact ⟨if_pos hc,by rw [e2,e1];exact key⟩
 ·right
  have e1:putL p q (bd_ (af_ s q) x) = (bd_ (af_ s q) x).tail:=if_neg hc;refine ⟨if_neg hc,?_⟩;cases hl:bd_ (af_ s q) x with
  | nil=>have:=cU_ (af_ s q) x;rw [hl] at this;simp at this
  | cons y r =>
    refine ⟨y,r,rfl,?_⟩;rw [e2,e1,hl,List.tail_cons];rw [hl] at key;refine List.Perm.trans ?_ key;rw [List.map_cons,List.append_assoc,List.append_assoc,List.cons_append];exact List.perm_middle.symm
theorem gw_ (p:ad_) {s:ab_} {q r:Nat} (h:q < s.ready.length) (x:ae_):af_ (putS p s q x) r = if r = q then putL p q (bd_ (af_ s q) x) else af_ s r:=eI_ h _ _
theorem nA_ {p:ad_} {q:Nat} {l:List ae_} (h:as_ l = true):as_ (putL p q l) = true:=by
 unfold putL;split
 ·exact h
 ·obtain ⟨h1,h2⟩:=bs_.1 h;exact bs_.2 ⟨fun z hz=>h1 z (List.mem_of_mem_tail hz),h2.tail⟩
theorem c3_ {s:ab_} {q:Nat} {x:ae_} (hq:q < s.ready.length) (hl:as_ (af_ s q) = true) (hx:x.seq ∉ ar_ s):cq_ x.seq (af_ s q) = false:=by
 rw [Bool.eq_false_iff];intro h;obtain ⟨z,hz,e⟩:=(no_ hl).1 h;apply hx
 unfold ar_;refine List.mem_append_left _ (List.mem_flatMap.2 ⟨af_ s q,a1_ hq,?_⟩);rw [← e];exact List.mem_map_of_mem hz
theorem ag_.put {p:ad_} {s:ab_} {q:Nat} {x:ae_} (h:ag_ p s 1) (hq:q < s.ready.length) (hx:am_ x = true) (hn:x.seq ∉ ar_ s) (hlt:x.seq < s.nextSeq):ag_ p (putS p s q x) 0:=by
 have hl:=h.line _ (a1_ hq);have hh:=c3_ hq hl hn;have hpl:as_ (bd_ (af_ s q) x) = true:=en_ hl hx hh;have hsq:=mM_ p s x hq;have hnx:(x.seq :: ar_ s).Nodup:=List.nodup_cons.2 ⟨hn,h.nodup⟩;have hd:putD p q (bd_ (af_ s q) x) = 0∨putD p q (bd_ (af_ s q) x) = 1:=by unfold putD;split <;> simp
 refine ⟨h.pl,h.tk,by simpa [putS] using h.len,?_,h.tok,h.outs,h.ns,h.nt,h.ak,?_,?_,?_,?_,h.hold,?_,h.cs⟩
 ·intro l hl';rcases List.mem_or_eq_of_mem_set hl' with h' | h'
  ·exact h.line l h'
  ·rw [h'];exact nA_ hpl
 ·show 0≤s.dropped + _;have:=h.dr;omega
 ·rcases hsq with ⟨_,h1⟩ | ⟨_,y,r,_,h1⟩
  ·exact h1.nodup_iff.2 hnx
  ·exact (List.nodup_cons.1 (h1.nodup_iff.2 hnx)).2
 ·intro z hz;show z < s.nextSeq;have:z ∈ x.seq :: ar_ s:=by
   rcases hsq with ⟨_,h1⟩ | ⟨_,y,r,_,h1⟩
   ·exact h1.mem_iff.1 hz
   ·exact h1.mem_iff.1 (List.mem_cons_of_mem _ hz)
  rcases List.mem_cons.1 this with rfl | h'
  ·exact hlt
  ·exact h.lt z h'
 ·intro r hr;have hr':r < s.ready.length:=by simpa [putS] using hr
  rw [gw_ p hq];split
  ·rename_i e;subst e;unfold putL;split
   ·assumption
   ·have:=h.room r hr';rw [List.length_tail,cU_];omega
  ·exact h.room r hr'
 ·show s.came = ((ar_ (putS p s q x)).length:Int)+0+s.acked+(s.dropped + _);have:=h.sum;rcases hsq with ⟨e,h1⟩ | ⟨e,y,r,_,h1⟩
  ·have:=h1.length_eq;rw [e];simp at this;omega
  ·have:=h1.length_eq;rw [e];simp at this;omega
structure dh_ (p:ad_) (a:ArrD):Prop where
 q:0≤a.queue∧a.queue < p.queues.length
 k:kerr a.key.data.toList = 0
 b:a.body.size≤12
 d:0≤a.deaths∧a.deaths≤2
theorem ip_ {p:ad_} {q:Nat} {x:ae_} (hx:am_ x = true):(∀ a ∈ dieL p q x,dh_ p a)∧(dieL p q x).length≤p.queues.length:=by
 unfold dieL;split
 ·simp
 ·rename_i hc;obtain ⟨h1,h2,h3,h4,h5,h6⟩:=cj_ hx;refine ⟨fun a ha=>?_,by unfold ch_;rw [List.length_map];exact lG_ _ _ _⟩;obtain ⟨z,hz,rfl⟩:=List.mem_map.1 ha;exact ⟨nB_ hz,h3,h4,by simp only;omega⟩
theorem lD_ {p:ad_} {q:Nat} {l:List ae_} (h:as_ l = true):(∀ a ∈ putA p q l,dh_ p a)∧(putA p q l).length≤p.queues.length:=by
 unfold putA;split
 ·simp
 ·cases l with
  | nil=>simp
  | cons y r=>exact ip_ ((bs_.1 h).1 y List.mem_cons_self)
theorem ag_.up {p:ad_} {s:ab_} (h:ag_ p s 0) (hs:s.nextSeq < 1048576):ag_ p (upS s) 1:=
 ⟨h.pl,h.tk,h.len,h.line,h.tok,h.outs,by show 0≤s.nextSeq+1∧s.nextSeq+1≤1048576;have:=h.ns;omega,h.nt,h.ak,h.dr,h.nodup,fun z hz=>by show z < s.nextSeq+1;have:=h.lt z hz;omega,h.room,h.hold,by show s.came+1 = ((ar_ s).length:Int)+1+s.acked+s.dropped;have:=h.sum;omega,by show s.came+1 = s.nextSeq+1;have:=h.cs;omega⟩
theorem ep_ {p:ad_} {s:ab_} {a:ArrD} (h:ag_ p s 0) (ha:dh_ p a) (hs:s.nextSeq < 1048576):am_ (aS_ s a) = true:=hL_ h.ns.1 hs ha.k ha.b ha.d.1 ha.d.2
theorem fg_ {p:ad_} {s:ab_} {a:ArrD} (h:ag_ p s 0):(aS_ s a).seq ∉ ar_ (upS s):=fun hm=>by
 have:=h.lt _ hm;simp [aS_] at this
theorem ag_.recv {p:ad_} {s:ab_} {a:ArrD} (h:ag_ p s 0) (ha:dh_ p a) (hs:s.nextSeq < 1048576):ag_ p (d3_ p s a) 0:=
 (h.up hs).put (by show a.queue.toNat < s.ready.length;rw [h.len];have:=ha.q;omega) (ep_ h ha hs) (fg_ h) (by show s.nextSeq < s.nextSeq+1;omega)
theorem fO_ {p:ad_} {s:ab_} {a:ArrD} (h:ag_ p s 0) (ha:dh_ p a) (hs:s.nextSeq < 1048576):(∀ b ∈ eo_ p s a,dh_ p b)∧(eo_ p s a).length≤p.queues.length:=by
 have hq:a.queue.toNat < (upS s).ready.length:=by show a.queue.toNat < s.ready.length;rw [h.len];have:=ha.q;omega
 have hl:as_ (af_ (upS s) a.queue.toNat) = true:=h.line _ (a1_ hq);exact lD_ (en_ hl (ep_ h ha hs) (c3_ hq hl (fg_ h)))
def lw (d:Int):Nat:=if d≤0 then 20 else if d = 1 then 4 else 0
def wts (l:List ae_):List Nat:=l.map (fun x=>lw x.deaths)
def fN_ (s:ab_):Nat:=(s.ready.flatMap wts).sum
def arrW (l:List ArrD):Nat:=(l.map (fun a=>lw a.deaths+1)).sum
def phi (s:ab_) (l:List ArrD):Nat:=fN_ s+arrW l
theorem nM_ (d:Int):lw d≤20:=by unfold lw;split <;> (try split) <;> omega
theorem l1_ {l:List Nat} {c:Nat} (h:∀ x ∈ l,x≤c):l.sum≤l.length * c:=by
 induction l with
 | nil=>simp
 | cons x r ih =>
   have h1:=h x List.mem_cons_self;have h2:=ih (fun y hy=>h y (List.mem_cons_of_mem _ hy));rw [List.sum_cons,List.length_cons,Nat.add_mul];omega
theorem if_ (a b:List ArrD):arrW (a ++ b) = arrW a+arrW b:=by unfold arrW;rw [List.map_append,List.sum_append]
theorem md_ {p:ad_} {q:Nat} {y:ae_} (hr:bx_ p) (hy:am_ y = true):arrW (dieL p q y)≤lw y.deaths:=by
 unfold dieL;split
 ·simp [arrW]
 ·rename_i hc;obtain ⟨_,_,_,_,h5,h6⟩:=cj_ hy;have hlen:(ch_ (qsC p y.key (qAt p q).dead.toNat) y.key y.body (y.deaths+1)).length≤4:=by
   unfold ch_;rw [List.length_map];exact Nat.le_trans (lG_ _ _ _) hr.few.2.1
  have hs:arrW (ch_ (qsC p y.key (qAt p q).dead.toNat) y.key y.body (y.deaths+1))≤(ch_ (qsC p y.key (qAt p q).dead.toNat) y.key y.body (y.deaths+1)).length * (lw (y.deaths+1)+1):=by
   unfold arrW;refine Nat.le_trans (l1_ (c:=lw (y.deaths+1)+1) ?_) (by simp);intro n hn;obtain ⟨a,ha,rfl⟩:=List.mem_map.1 hn;obtain ⟨z,_,rfl⟩:=List.mem_map.1 ha;exact Nat.le_refl _
  have hd:y.deaths = 0∨y.deaths = 1:=by omega
  rcases hd with e | e
  ·rw [e] at hs hlen ⊢;have:lw (0+1)+1 = 5:=rfl;have e2:lw 0 = 20:=rfl;rw [this] at hs;rw [e2];omega
  ·rw [e] at hs hlen ⊢;have:lw (1+1)+1 = 1:=rfl;have e2:lw 1 = 4:=rfl;rw [this] at hs;rw [e2];omega
theorem mZ_ {a b:List ae_} (h:a.Perm b):(wts a).sum = (wts b).sum:=(h.map _).sum_nat
theorem jn_ {p:ad_} {s:ab_} {a:ArrD} {l:List ArrD} (h:ag_ p s 0) (ha:dh_ p a) (hs:s.nextSeq < 1048576):phi (d3_ p s a) (l ++ eo_ p s a)+1≤phi s (a :: l):=by
 have hq:a.queue.toNat < (upS s).ready.length:=by show a.queue.toNat < s.ready.length;rw [h.len];have:=ha.q;omega
 obtain ⟨A,B,h1,h2⟩:=g0_ wts hq (putL p a.queue.toNat (bd_ (af_ (upS s) a.queue.toNat) (aS_ s a)));have e1:fN_ s = A.sum+(wts (af_ (upS s) a.queue.toNat)).sum+B.sum:=by
  unfold fN_;show ((upS s).ready.flatMap wts).sum = _;rw [h1,aU_ hq,List.sum_append,List.sum_append]
 have e2:fN_ (d3_ p s a) = A.sum+(wts (putL p a.queue.toNat (bd_ (af_ (upS s) a.queue.toNat) (aS_ s a)))).sum+B.sum:=by
  unfold fN_;show (((upS s).ready.set a.queue.toNat _).flatMap wts).sum = _;rw [h2,List.sum_append,List.sum_append]
 have e3:(wts (bd_ (af_ (upS s) a.queue.toNat) (aS_ s a))).sum = lw a.deaths+(wts (af_ (upS s) a.queue.toNat)).sum:=by
  rw [mZ_ (eM_ _ _)];simp [wts,aS_]
 have hl:as_ (af_ (upS s) a.queue.toNat) = true:=h.line _ (a1_ hq);have hpl:=en_ hl (ep_ h ha hs) (c3_ hq hl (fg_ h));unfold phi;rw [e1,e2,if_];have e4:arrW (a :: l) = lw a.deaths+1+arrW l:=by simp [arrW]
 rw [e4];unfold eo_ putB putA putL;by_cases hc:((bd_ (af_ (upS s) a.queue.toNat) (aS_ s a)).length:Int)≤(qAt p a.queue.toNat).limit
 ·rw [if_pos hc,if_pos hc,e3];have:arrW [] = 0:=rfl;omega
 ·rw [if_neg hc,if_neg hc];cases hL:bd_ (af_ (upS s) a.queue.toNat) (aS_ s a) with
  | nil=>have:=cU_ (af_ (upS s) a.queue.toNat) (aS_ s a);rw [hL] at this;simp at this
  | cons y r =>
    rw [hL] at e3 hpl;have hy:=(bs_.1 hpl).1 y List.mem_cons_self;have hd:=md_ (q:=a.queue.toNat) h.rp hy;have e5:(wts (y :: r)).sum = lw y.deaths+(wts r).sum:=by simp [wts]
    rw [e5] at e3;simp only [List.tail_cons];omega
theorem ly_ {s:ab_} {a:ArrD} {l:List ArrD}:1≤phi s (a :: l):=by unfold phi;simp [arrW];omega
theorem ix_ {xss:List (List ae_)} {c:Nat} (h:∀ l ∈ xss,l.length≤c):(xss.flatMap wts).length≤xss.length * c:=by
 induction xss with
 | nil=>simp
 | cons x r ih =>
   have h1:=h x List.mem_cons_self;have h2:=ih (fun y hy=>h y (List.mem_cons_of_mem _ hy));rw [List.flatMap_cons,List.length_append,List.length_cons,Nat.add_mul];have:(wts x).length = x.length:=by simp [wts]
   omega
theorem lx_ {p:ad_} {s:ab_} {l:List ArrD} (h:ag_ p s 0) (hl:l.length≤4):phi s l≤564:=by
 have h1:fN_ s≤480:=by
  have a1:=ix_ (fun l hl=>h.line6 hl);have a2:(s.ready.flatMap wts).sum≤(s.ready.flatMap wts).length * 20:=l1_ (fun x hx=>by
   obtain ⟨l,_,hx⟩:=List.mem_flatMap.1 hx;obtain ⟨y,_,rfl⟩:=List.mem_map.1 hx;exact nM_ _)
  have a3:=h.len;have a4:=h.rp.few.2.1;unfold fN_;have a5:s.ready.length * 6≤24:=by omega
  have a6:(s.ready.flatMap wts).length * 20≤24 * 20:=Nat.mul_le_mul_right _ (by omega);omega
 have h2:arrW l≤84:=by
  have a2:arrW l≤l.length * 21:=by
   unfold arrW;refine Nat.le_trans (l1_ (c:=21) ?_) (by simp);intro n hn;obtain ⟨a,_,rfl⟩:=List.mem_map.1 hn;have:=nM_ a.deaths;omega
  omega
 unfold phi;omega
theorem jp_ (p:ad_) (s:ab_) (a:ArrD):(d3_ p s a).nextSeq = s.nextSeq+1:=rfl
theorem i5_ (p:ad_) (f:Nat) (s:ab_):arrS p f s [] = s:=by cases f <;> rfl
theorem i4_ (p:ad_) (f:Nat) (s:ab_):arrN p f s [] = 0:=by cases f <;> rfl
structure Arrived (p:ad_) (s t:ab_) (n:Nat):Prop where
 right:ag_ p t 0
 outs:t.outs = s.outs
 takers:t.takers = s.takers
 tag:t.nextTag = s.nextTag
 acked:t.acked = s.acked
 came:t.came = s.came+n
 seq:t.nextSeq = s.nextSeq+n
 dropped:s.dropped≤t.dropped
 len:t.ready.length = s.ready.length
 old:∀ q,q < s.ready.length→∃ k new,k≤(af_ s q).length∧af_ t q = (af_ s q).drop k ++ new∧∀ z ∈ new,s.nextSeq≤z.seq
theorem Arrived.refl {p:ad_} {s:ab_} (h:ag_ p s 0):Arrived p s s 0:=⟨h,rfl,rfl,rfl,rfl,by simp,by simp,Int.le_refl _,rfl,fun q _=>⟨0,[],Nat.zero_le _,by simp,by simp⟩⟩
theorem go_ {q:Int}:∀ {xs:List ae_},(∀ z ∈ xs,z.seq < q)→idxSeq q xs = xs.length
 | [],_=>rfl
 | x :: r, h => by
   have h1:=h x List.mem_cons_self;have ih:=go_ (xs:=r) (fun z hz=>h z (List.mem_cons_of_mem _ hz));unfold idxSeq;rw [if_neg (by omega),ih];rfl
theorem ke_ {xs:List ae_} {x:ae_} (h:∀ z ∈ xs,z.seq < x.seq):bd_ xs x = xs ++ [x]:=by
 unfold bd_;rw [go_ h];simp
theorem k8_ {p:ad_} {s:ab_} {n:Int} (h:ag_ p s n) {q:Nat} (hq:q < s.ready.length):∀ z ∈ af_ s q,z.seq < s.nextSeq:=fun z hz=>h.lt _ (by
 unfold ar_;exact List.mem_append_left _ (List.mem_flatMap.2 ⟨af_ s q,a1_ hq,List.mem_map_of_mem hz⟩))
theorem lI_ {p:ad_} {s:ab_} {a:ArrD} (h:ag_ p s 0) (ha:dh_ p a) {r:Nat}:af_ (d3_ p s a) r = if r = a.queue.toNat then putL p r (af_ s r ++ [aS_ s a]) else af_ s r:=by
 have hq:a.queue.toNat < (upS s).ready.length:=by show a.queue.toNat < s.ready.length;rw [h.len];have:=ha.q;omega
 unfold d3_;rw [gw_ p hq];split
 ·rename_i e;subst e;have e:=ke_ (xs:=af_ (upS s) a.queue.toNat) (x:=aS_ s a) (fun z hz=>k8_ h hq z hz);rw [e];rfl
 ·rfl
theorem Arrived.recv {p:ad_} {s:ab_} {a:ArrD} (h:ag_ p s 0) (ha:dh_ p a) (hs:s.nextSeq < 1048576):Arrived p s (d3_ p s a) 1:=by
 refine ⟨h.recv ha hs,rfl,rfl,rfl,rfl,rfl,rfl,?_,?_,fun q hq=>?_⟩
 ·show s.dropped≤s.dropped + _;have:∀ l,0≤putD p a.queue.toNat l:=fun l=>by unfold putD;split <;> omega
  have:=this (bd_ (af_ (upS s) a.queue.toNat) (aS_ s a));omega
 ·show (s.ready.set _ _).length = _;simp
 ·rw [lI_ h ha];split
  ·rename_i e;unfold putL;split
   ·exact ⟨0,[aS_ s a],Nat.zero_le _,by simp,by simp [aS_]⟩
   ·cases hl:af_ s q with
    | nil=>exact ⟨0,[],Nat.zero_le _,by simp,by simp⟩
    | cons y r=>exact ⟨1,[aS_ s a],by simp,by simp,by simp [aS_]⟩
  ·exact ⟨0,[],Nat.zero_le _,by simp,by simp⟩
theorem Arrived.trans {p:ad_} {s t u:ab_} {n m:Nat} (h:Arrived p s t n) (k:Arrived p t u m):Arrived p s u (n+m):=by
 refine ⟨k.right,k.outs.trans h.outs,k.takers.trans h.takers,k.tag.trans h.tag,k.acked.trans h.acked,by rw [k.came,h.came];omega,by rw [k.seq,h.seq];omega,Int.le_trans h.dropped k.dropped,k.len.trans h.len,fun q hq=>?_⟩;obtain ⟨k1,n1,l1,e1,g1⟩:=h.old q hq;obtain ⟨k2,n2,l2,e2,g2⟩:=k.old q (by rw [h.len];exact hq);rw [e1] at e2 l2;have hsq:=h.seq;rw [List.length_append,List.length_drop] at l2;by_cases hc:k1+k2≤(af_ s q).length
 ·refine ⟨k1+k2,n1 ++ n2,hc,?_,fun z hz=>?_⟩
  ·rw [e2,List.drop_append_of_le_length (by rw [List.length_drop];omega),List.drop_drop,List.append_assoc]
  ·rcases List.mem_append.1 hz with hz | hz
   ·exact g1 z hz
   ·have:=g2 z hz;omega
 ·refine ⟨(af_ s q).length,n1.drop (k2 - ((af_ s q).length - k1)) ++ n2,Nat.le_refl _,?_,fun z hz=>?_⟩
  ·rw [e2,List.drop_append,List.length_drop,List.drop_drop,List.drop_eq_nil_of_le (by omega),List.drop_length];simp
  ·rcases List.mem_append.1 hz with hz | hz
   ·exact g1 z (List.mem_of_mem_drop hz)
   ·have:=g2 z hz;omega
theorem gL_ {p:ad_}:∀ (f:Nat) {s:ab_} {l:List ArrD},ag_ p s 0→(∀ a ∈ l,dh_ p a)→phi s l≤f→s.nextSeq+f≤1048576→Arrived p s (arrS p f s l) (arrN p f s l)∧l.length≤arrN p f s l∧arrN p f s l≤f
 | f,s,[],h,_,_,_=>by rw [i5_,i4_];exact ⟨Arrived.refl h,by simp,Nat.zero_le _⟩
 | 0,s,a :: l,h,_,hf,_=>by have:=ly_ (s:=s) (a:=a) (l:=l);omega
 | f + 1, s, a :: l, h, ha, hf, hs => by
   have hs1:s.nextSeq < 1048576:=by omega
   have ha1:=ha a List.mem_cons_self;have hph:=jn_ (l:=l) h ha1 hs1;obtain ⟨i1,i2,i3⟩:=gL_ f (s:=d3_ p s a) (l:=l ++ eo_ p s a) (h.recv ha1 hs1) (fun b hb=>by
    rcases List.mem_append.1 hb with hb | hb
    ·exact ha b (List.mem_cons_of_mem _ hb)
    ·exact (fO_ h ha1 hs1).1 b hb) (by omega) (by rw [jp_];omega)
   refine ⟨?_,?_,?_⟩
   ·have:=(Arrived.recv h ha1 hs1).trans i1;unfold arrS arrN;rw [Nat.add_comm];exact this
   ·unfold arrN;rw [List.length_append] at i2;rw [List.length_cons];omega
   ·unfold arrN;omega
def oDef:OutD:=⟨0,0,0,iDef⟩
def outIdx (s:ab_) (tag:Int):Nat:=s.outs.findIdx (fun o=>decide (o.tag = tag))
def ek_ (s:ab_) (tag:Int):OutD:=s.outs.getD (outIdx s tag) oDef
def bb_ (s:ab_) (tag:Int):ab_:={ s with outs:=s.outs.eraseIdx (outIdx s tag) }
def ackE (p:ad_) (s:ab_) (tag:Int):Int:=if stE p s≠0 then stE p s else if outIdx s tag = s.outs.length then 5 else 0
def ackS (s:ab_) (tag:Int):ab_:={ bb_ s tag with acked:=s.acked+1 }
def rejE (p:ad_) (s:ab_) (tag:Int):Int:=if ackE p s tag≠0 then ackE p s tag else if 524288 < s.nextSeq then 2 else 0
def ho_ (x:ae_):ae_:={ x with again:=true }
def rejM (p:ad_) (s:ab_) (tag:Int) (back:Bool):ab_:=if back = true then putS p (bb_ s tag) (ek_ s tag).queue.toNat (ho_ (ek_ s tag).item) else { bb_ s tag with dropped:=s.dropped+1 }
def rejA (p:ad_) (s:ab_) (tag:Int) (back:Bool):List ArrD:=if back = true then putB p (bb_ s tag) (ek_ s tag).queue.toNat (ho_ (ek_ s tag).item) else dieL p (ek_ s tag).queue.toNat (ek_ s tag).item
def rejS (p:ad_) (s:ab_) (tag:Int) (back:Bool):ab_:=arrS p 600 (rejM p s tag back) (rejA p s tag back)
theorem fE_ (s:ab_) (tag:Int):outIdx s tag≤s.outs.length:=List.findIdx_le_length
theorem iu_ {α:Type} {xs:List α} {i:Nat} (h:i < xs.length):xs = xs.take i ++ xs[i] :: xs.drop (i+1)∧xs.eraseIdx i = xs.take i ++ xs.drop (i+1):=
 ⟨(h7_ h xs[i]).1,List.eraseIdx_eq_take_drop_succ _ _⟩
structure bH_ (s:ab_) (tag:Int) (i:Nat) (o:OutD):Prop where
 idx:outIdx s tag = i
 lt:i < s.outs.length
 get:s.outs[i]'lt = o
 out:ek_ s tag = o
 tag:o.tag = tag
theorem kQ_ {s:ab_} {tag:Int} (h:outIdx s tag≠s.outs.length):∃ i o,bH_ s tag i o:=by
 have hl:outIdx s tag < s.outs.length:=by have:=fE_ s tag;omega
 refine ⟨outIdx s tag,s.outs[outIdx s tag],rfl,hl,rfl,?_,?_⟩
 ·unfold ek_;rw [List.getD_eq_getElem?_getD,List.getElem?_eq_getElem hl];rfl
 ·have:=List.findIdx_getElem (w:=hl) (p:=fun o:OutD=>decide (o.tag = tag));exact of_decide_eq_true this
theorem bH_.mem {s:ab_} {tag:Int} {i:Nat} {o:OutD} (h:bH_ s tag i o):o ∈ s.outs:=by rw [← h.get];exact List.getElem_mem h.lt
theorem bH_.less {s:ab_} {tag:Int} {i:Nat} {o:OutD} (h:bH_ s tag i o):(bb_ s tag).outs = s.outs.eraseIdx i:=by unfold bb_;simp only;rw [h.idx]
theorem bH_.perm {s:ab_} {tag:Int} {i:Nat} {o:OutD} (h:bH_ s tag i o):(o :: (bb_ s tag).outs).Perm s.outs:=by
 obtain ⟨e1,e2⟩:=iu_ h.lt;rw [h.less,e2,← h.get];refine List.perm_middle.symm.trans ?_;rw [← e1]
theorem bH_.seqs {s:ab_} {tag:Int} {i:Nat} {o:OutD} (h:bH_ s tag i o):(o.item.seq :: ar_ (bb_ s tag)).Perm (ar_ s):=by
 have e:ar_ (bb_ s tag) = s.ready.flatMap (fun l=>l.map ae_.seq) ++ (bb_ s tag).outs.map (fun o=>o.item.seq):=rfl;have hp:((o :: (bb_ s tag).outs).map (fun o=>o.item.seq)).Perm (s.outs.map (fun o=>o.item.seq)):=h.perm.map _;rw [List.map_cons] at hp;rw [e];refine List.perm_middle.symm.trans ?_;exact hp.append_left _
theorem bH_.held {s:ab_} {tag:Int} {i:Nat} {o:OutD} (h:bH_ s tag i o) (t:Int):heldN (bb_ s tag) t+(if o.taker = t then 1 else 0) = heldN s t:=by
 have hp:=(h.perm.filter (fun o=>decide (o.taker = t))).length_eq;unfold heldN;rw [← hp,List.filter_cons];by_cases e:o.taker = t <;> simp [e]
theorem ag_.less {p:ad_} {s:ab_} (h:ag_ p s 0) {tag:Int} {i:Nat} {o:OutD} (ho:bH_ s tag i o):ag_ p (bb_ s tag) 1:=by
 have hs:=ho.seqs;have hnd:=hs.nodup_iff.2 h.nodup;have hsub:(bb_ s tag).outs.Sublist s.outs:=by rw [ho.less];exact List.eraseIdx_sublist _ _
 refine ⟨h.pl,h.tk,h.len,h.line,h.tok,?_,h.ns,h.nt,h.ak,h.dr,(List.nodup_cons.1 hnd).2,fun z hz=>h.lt z (hs.mem_iff.1 (List.mem_cons_of_mem _ hz)),h.room,fun k hk=>?_,?_,h.cs⟩
 ·exact bo_.2 ⟨fun o ho=>(bo_.1 h.outs).1 o (hsub.mem ho),h.rise.sublist hsub⟩
 ·have h1:=h.hold k hk;have h2:=ho.held (k:Int);show (heldN (bb_ s tag) k:Int)≤(s.takers.getD k ⟨0,0⟩).most;omega
 ·have h1:=h.sum;have h2:=hs.length_eq;simp only [List.length_cons] at h2;show s.came = ((ar_ (bb_ s tag)).length:Int)+1+s.acked+s.dropped;omega
theorem bH_.notin {p:ad_} {s:ab_} {tag:Int} {i:Nat} {o:OutD} (ho:bH_ s tag i o) (h:ag_ p s 0):o.item.seq ∉ ar_ (bb_ s tag):=(List.nodup_cons.1 (ho.seqs.nodup_iff.2 h.nodup)).1
theorem ag_.ack {p:ad_} {s:ab_} (h:ag_ p s 0) {tag:Int} {i:Nat} {o:OutD} (ho:bH_ s tag i o):ag_ p (ackS s tag) 0:=by
 have g:=h.less ho;exact ⟨g.pl,g.tk,g.len,g.line,g.tok,g.outs,g.ns,g.nt,by show 0≤s.acked+1;have:=h.ak;omega,g.dr,g.nodup,g.lt,g.room,g.hold,by have:=g.sum;show s.came = ((ar_ (bb_ s tag)).length:Int)+0+(s.acked+1)+s.dropped;have e:(bb_ s tag).came = s.came:=rfl;have e2:(bb_ s tag).acked = s.acked:=rfl;have e3:(bb_ s tag).dropped = s.dropped:=rfl;omega,g.cs⟩
theorem e7_ {p:ad_} {s:ab_} {tag:Int} (h:ackE p s tag = 0):ag_ p s 0∧∃ i o,bH_ s tag i o:=by
 unfold ackE at h;by_cases h1:stE p s = 0
 ·rw [if_neg (by simp [h1])] at h;by_cases h2:outIdx s tag = s.outs.length
  ·rw [if_pos h2] at h;cases h
  ·exact ⟨aE_ h1,kQ_ h2⟩
 ·rw [if_pos h1] at h;exact absurd h h1
theorem jq_ {p:ad_} {s:ab_} {tag:Int} (h:rejE p s tag = 0):ag_ p s 0∧(∃ i o,bH_ s tag i o)∧s.nextSeq≤524288:=by
 unfold rejE at h;by_cases h1:ackE p s tag = 0
 ·rw [if_neg (by simp [h1])] at h;by_cases h2:524288 < s.nextSeq
  ·rw [if_pos h2] at h;cases h
  ·exact ⟨(e7_ h1).1,(e7_ h1).2,by omega⟩
 ·rw [if_pos h1] at h;exact absurd h h1
theorem bH_.queue {p:ad_} {s:ab_} {n:Int} {tag:Int} {i:Nat} {o:OutD} (ho:bH_ s tag i o) (h:ag_ p s n):0≤o.queue∧o.queue.toNat < s.ready.length∧o.queue < p.queues.length:=by
 obtain ⟨_,hf⟩:=h.fine ho.mem;obtain ⟨t,ht,h1,h2⟩:=hf.tk;have:=(cc_.1 (h.tok t (List.mem_of_getElem? ht))).1;have hl:=h.len;omega
theorem ag_.rejM {p:ad_} {s:ab_} (h:ag_ p s 0) {tag:Int} {i:Nat} {o:OutD} (ho:bH_ s tag i o) (back:Bool):ag_ p (rejM p s tag back) 0∧(∀ a ∈ rejA p s tag back,dh_ p a)∧(rejA p s tag back).length≤4:=by
 have g:=h.less ho;have hi:=(h.fine ho.mem).2.item;have hf:=h.rp.few.2.1;cases back with
 | true =>
   unfold Go.Proofs.YtlbnkpicnokgoaaGreat.rejM Go.Proofs.YtlbnkpicnokgoaaGreat.rejA;rw [if_pos rfl,if_pos rfl,ho.out];have hq:o.queue.toNat < (bb_ s tag).ready.length:=(ho.queue h).2.1;have hi':am_ (ho_ o.item) = true:=hi;have hl:=g.line _ (a1_ hq);have hn:(ho_ o.item).seq ∉ ar_ (bb_ s tag):=ho.notin h;refine ⟨g.put hq hi' hn (h.lt _ (ho.seqs.mem_iff.1 List.mem_cons_self)),?_⟩;obtain ⟨a1,a2⟩:=lD_ (p:=p) (q:=o.queue.toNat) (en_ hl hi' (c3_ hq hl hn));exact ⟨a1,Nat.le_trans a2 hf⟩
 | false =>
   unfold Go.Proofs.YtlbnkpicnokgoaaGreat.rejM Go.Proofs.YtlbnkpicnokgoaaGreat.rejA;rw [if_neg (by decide),if_neg (by decide),ho.out];obtain ⟨a1,a2⟩:=ip_ (p:=p) (q:=o.queue.toNat) hi;refine ⟨⟨g.pl,g.tk,g.len,g.line,g.tok,g.outs,g.ns,g.nt,g.ak,by show 0≤s.dropped+1;have:=h.dr;omega,g.nodup,g.lt,g.room,g.hold,?_,g.cs⟩,a1,Nat.le_trans a2 hf⟩;have:=g.sum;show s.came = ((ar_ (bb_ s tag)).length:Int)+0+s.acked+(s.dropped+1);have e:(bb_ s tag).came = s.came:=rfl;have e2:(bb_ s tag).acked = s.acked:=rfl;have e3:(bb_ s tag).dropped = s.dropped:=rfl;omega
theorem eq_ (p:ad_) (s:ab_) (tag:Int) (back:Bool):(rejM p s tag back).nextSeq = s.nextSeq∧(rejM p s tag back).outs = (bb_ s tag).outs∧(rejM p s tag back).takers = s.takers∧(rejM p s tag back).acked = s.acked∧(rejM p s tag back).nextTag = s.nextTag∧(rejM p s tag back).came = s.came∧(rejM p s tag back).ready.length = s.ready.length:=by
 cases back with
 | true=>refine ⟨rfl,rfl,rfl,rfl,rfl,rfl,?_⟩;unfold rejM putS;simp [bb_]
 | false=>exact ⟨rfl,rfl,rfl,rfl,rfl,rfl,rfl⟩
theorem mF_ {p:ad_} {s:ab_} (h:ag_ p s 0) {tag:Int} {i:Nat} {o:OutD} (ho:bH_ s tag i o) (back:Bool) (hs:s.nextSeq≤524288):∃ n,n≤600∧Arrived p (rejM p s tag back) (rejS p s tag back) n:=by
 obtain ⟨g1,g2,g3⟩:=h.rejM ho back;have hph:=lx_ g1 g3;obtain ⟨a1,a2,a3⟩:=gL_ 600 g1 g2 (by omega) (by rw [(eq_ p s tag back).1];omega);exact ⟨_,a3,a1⟩
def cr_ (p:ad_) (t:Int):List OutD→ab_→Int
 | [],_=>0
 | o :: r,s=>if o.taker = t then (if rejE p s o.tag≠0 then rejE p s o.tag else cr_ p t r (rejS p s o.tag true)) else cr_ p t r s
def ck_ (p:ad_) (t:Int):List OutD→ab_→ab_
 | [],s=>s
 | o :: r,s=>if o.taker = t then ck_ p t r (rejS p s o.tag true) else ck_ p t r s
def dk_ (p:ad_) (s:ab_) (t:Int):Int:=
 if stE p s≠0 then stE p s else if aq_ t s.takers.length = false then 5 else if (tAt s t.toNat).queue = -1 then 5 else cr_ p t s.outs s
def c2_ (ts:List aj_) (t:Nat):List aj_:=ts.set t ⟨-1,(ts.getD t ⟨0,0⟩).most⟩
def eh_ (p:ad_) (s:ab_) (t:Int):ab_:={ ck_ p t s.outs s with takers:=c2_ (ck_ p t s.outs s).takers t.toNat }
theorem fl_ (p:ad_):∀ (f:Nat) (s:ab_) (l:List ArrD),(arrS p f s l).takers = s.takers
 | 0,_,_=>rfl
 | _ + 1,_,[]=>rfl
 | f+1,s,a :: l=>by unfold arrS;rw [fl_ p f];rfl
theorem iS_ (p:ad_) (s:ab_) (tag:Int) (back:Bool):(rejS p s tag back).takers = s.takers:=by
 unfold rejS;rw [fl_];exact (eq_ p s tag back).2.2.1
structure Rejected (p:ad_) (s t:ab_) (tag:Int) (i:Nat) (o:OutD) (n:Nat):Prop where
 right:ag_ p t 0
 outs:t.outs = s.outs.eraseIdx i
 takers:t.takers = s.takers
 tag:t.nextTag = s.nextTag
 acked:t.acked = s.acked
 came:t.came = s.came+n
 seq:t.nextSeq = s.nextSeq+n
 dropped:s.dropped≤t.dropped
 len:t.ready.length = s.ready.length
theorem h4_ (p:ad_) (s:ab_) (tag:Int) (back:Bool):s.dropped≤(rejM p s tag back).dropped:=by
 cases back with
 | true =>
   unfold rejM;rw [if_pos rfl];show s.dropped≤s.dropped + _;have:∀ q l,0≤putD p q l:=fun q l=>by unfold putD;split <;> omega
   have:=this (ek_ s tag).queue.toNat (bd_ (af_ (bb_ s tag) (ek_ s tag).queue.toNat) (ho_ (ek_ s tag).item));omega
 | false=>unfold rejM;rw [if_neg (by decide)];show s.dropped≤s.dropped+1;omega
theorem rejected {p:ad_} {s:ab_} {tag:Int} (h:rejE p s tag = 0) (back:Bool):∃ i o n,bH_ s tag i o∧n≤600∧Rejected p s (rejS p s tag back) tag i o n:=by
 obtain ⟨hR,⟨i,o,ho⟩,hs⟩:=jq_ h;obtain ⟨n,hn,ha⟩:=mF_ hR ho back hs;obtain ⟨g1,g2,g3,g4,g5,g6,g7⟩:=eq_ p s tag back;have g8:=h4_ p s tag back;exact ⟨i,o,n,ho,hn,ha.right,by rw [ha.outs,g2,ho.less],by rw [ha.takers,g3],by rw [ha.tag,g5],by rw [ha.acked,g4],by rw [ha.came,g6],by rw [ha.seq,g1],Int.le_trans g8 ha.dropped,by rw [ha.len,g7]⟩
theorem mG_ {xs:List OutD} (h:xs.Pairwise (fun a b=>a.tag < b.tag)) {i j:Nat} (hi:i < xs.length) (hj:j < xs.length) (e:xs[i].tag = xs[j].tag):i = j:=by
 rw [List.pairwise_iff_getElem] at h;rcases Nat.lt_trichotomy i j with hl | hl | hl
 ·have:=h i j hi hj hl;omega
 ·exact hl
 ·have:=h j i hj hi hl;omega
structure Left (p:ad_) (t:Int) (pre r:List OutD) (s s':ab_):Prop where
 right:ag_ p s' 0
 takers:s'.takers = s.takers
 outs:s'.outs = pre ++ r.filter (fun o=>decide (o.taker≠t))
 tag:s'.nextTag = s.nextTag
 acked:s'.acked = s.acked
 came:s.came≤s'.came
 dropped:s.dropped≤s'.dropped
 len:s'.ready.length = s.ready.length
theorem g6_ {p:ad_} {t:Int}:∀ (r pre:List OutD) (s:ab_),ag_ p s 0→s.outs = pre ++ r→cr_ p t r s = 0→Left p t pre r s (ck_ p t r s)
 | [],pre,s,h,ho,_=>⟨h,rfl,by show s.outs = _;simpa using ho,rfl,rfl,Int.le_refl _,Int.le_refl _,rfl⟩
 | o :: r, pre, s, h, ho, he => by
   unfold cr_ at he;unfold ck_;by_cases ht:o.taker = t
   ·rw [if_pos ht] at he ⊢;by_cases hz:rejE p s o.tag = 0
    ·rw [if_neg (by simp [hz])] at he;obtain ⟨i,o',n,hi,_,hr⟩:=rejected hz true;have hlen:pre.length < s.outs.length:=by rw [ho];simp
     have hget:s.outs[pre.length] = o:=by simp [ho]
     have hii:i = pre.length:=mG_ h.rise hi.lt hlen (by rw [hi.get,hget,hi.tag]);have hout:(rejS p s o.tag true).outs = pre ++ r:=by
      rw [hr.outs,hii,ho,List.eraseIdx_append_of_length_le (Nat.le_refl _)];simp
     have ih:=g6_ r pre (rejS p s o.tag true) hr.right hout he;exact ⟨ih.right,by rw [ih.takers,hr.takers],by rw [ih.outs,List.filter_cons,if_neg (by simp [ht])],by rw [ih.tag,hr.tag],by rw [ih.acked,hr.acked],by have:=ih.came;have:=hr.came;omega,Int.le_trans hr.dropped ih.dropped,by rw [ih.len,hr.len]⟩
    ·rw [if_pos hz] at he;exact absurd he hz
   ·rw [if_neg ht] at he ⊢;have ih:=g6_ r (pre ++ [o]) s h (by rw [ho];simp) he;exact ⟨ih.right,ih.takers,by rw [ih.outs,List.filter_cons,if_pos (by simp [ht])];simp,ih.tag,ih.acked,ih.came,ih.dropped,ih.len⟩
theorem k4_ {p:ad_} {s:ab_} {t:Int} (h:dk_ p s t = 0):ag_ p s 0∧0≤t∧t < s.takers.length∧(tAt s t.toNat).queue≠-1∧cr_ p t s.outs s = 0:=by
 unfold dk_ at h;by_cases h1:stE p s = 0
 ·rw [if_neg (by simp [h1])] at h;by_cases h2:aq_ t s.takers.length = false
  ·rw [if_pos h2] at h;cases h
  ·rw [if_neg h2] at h;have h2':=az_.1 (by simpa using h2:aq_ t s.takers.length = true);by_cases h3:(tAt s t.toNat).queue = -1
   ·rw [if_pos h3] at h;cases h
   ·rw [if_neg h3] at h;exact ⟨aE_ h1,h2'.1,h2'.2,h3,h⟩
 ·rw [if_pos h1] at h;exact absurd h h1
theorem cF_ (ts:List aj_) (k:Nat):(c2_ ts k).length = ts.length:=by unfold c2_;simp
theorem ft_ {ts:List aj_} {k i:Nat} (h:i≠k):(c2_ ts k)[i]? = ts[i]?:=by
 unfold c2_;rw [List.getElem?_set,if_neg (fun e=>h e.symm)]
theorem jg_ {ts:List aj_} {k:Nat} (h:k < ts.length):(c2_ ts k)[k]? = some ⟨-1,(ts.getD k ⟨0,0⟩).most⟩:=by
 unfold c2_;rw [List.getElem?_set,if_pos rfl,if_pos h]
theorem ag_.gone {p:ad_} {s:ab_} (h:ag_ p s 0) {t:Int} (h0:0≤t) (hl:t < s.takers.length) (hn:∀ o ∈ s.outs,o.taker≠t):ag_ p { s with takers:=c2_ s.takers t.toNat } 0:=by
 have hk:t.toNat < s.takers.length:=by omega
 refine ⟨h.pl,by show (c2_ _ _).length≤4;rw [cF_];exact h.tk,h.len,h.line,?_,?_,h.ns,h.nt,h.ak,h.dr,h.nodup,h.lt,h.room,?_,h.sum,h.cs⟩
 ·intro u hu;have hu':u ∈ c2_ s.takers t.toNat:=hu;obtain ⟨i,hi,rfl⟩:=List.mem_iff_getElem.1 hu';rw [cF_] at hi;by_cases e:i = t.toNat
  ·subst e;have:=jg_ hk;rw [List.getElem?_eq_getElem (by rw [cF_];exact hi)] at this;rw [Option.some.inj this];have:=cc_.1 (h.tok _ (List.getElem_mem hi));refine cc_.2 ⟨.inl rfl,?_⟩;rw [List.getD_eq_getElem?_getD,List.getElem?_eq_getElem hi];exact this.2
  ·have:=ft_ (ts:=s.takers) e;rw [List.getElem?_eq_getElem (by rw [cF_];exact hi),List.getElem?_eq_getElem hi] at this;rw [Option.some.inj this];exact h.tok _ (List.getElem_mem hi)
 ·refine bo_.2 ⟨fun o ho=>?_,h.rise⟩;obtain ⟨h1,h2⟩:=h.fine ho;have h3:=hn o ho;have h4:=h2.rng;refine ⟨by omega,h2.tag,by show _∧o.taker < ((c2_ s.takers t.toNat).length:Nat);rw [cF_];exact h4,?_,h2.item⟩;show ∃ u,(c2_ s.takers t.toNat)[o.taker.toNat]? = some u∧_
  rw [ft_ (by omega)];exact h2.tk
 ·intro k hk';have hk2:k < s.takers.length:=by have:k < (c2_ s.takers t.toNat).length:=hk';rwa [cF_] at this
  have h1:=h.hold k hk2;show (heldN s k:Int)≤((c2_ s.takers t.toNat).getD k ⟨0,0⟩).most;rw [List.getD_eq_getElem?_getD];by_cases e:k = t.toNat
  ·subst e;rw [jg_ hk];exact h1
  ·rw [ft_ e,← List.getD_eq_getElem?_getD];exact h1
theorem ea_ (t:Int):∀ xs:List OutD,((xs.filter (fun o=>decide (o.taker≠t))).length:Int) = xs.length - ((xs.filter (fun o=>decide (o.taker = t))).length:Int)
 | []=>rfl
 | o :: r => by
   have ih:=ea_ t r;rw [List.filter_cons,List.filter_cons];by_cases h:o.taker = t <;> simp [h] <;> simp at ih <;> omega
structure Gone (p:ad_) (s s':ab_) (t:Int):Prop where
 right:ag_ p s' 0
 was:ag_ p s 0
 rng:0≤t∧t < s.takers.length
 held:heldN s' t = 0
 outs:(s'.outs.length:Int) = s.outs.length - heldN s t
 tlen:s'.takers.length = s.takers.length
 tag:s'.nextTag = s.nextTag
 acked:s'.acked = s.acked
 came:s.came≤s'.came
 dropped:s.dropped≤s'.dropped
 len:s'.ready.length = s.ready.length
theorem leaves {p:ad_} {s:ab_} {t:Int} (h:dk_ p s t = 0):Gone p s (eh_ p s t) t:=by
 obtain ⟨hR,h0,hl,hq,he⟩:=k4_ h;have g:=g6_ s.outs [] s hR (by simp) he;have hn:∀ o ∈ (ck_ p t s.outs s).outs,o.taker≠t:=by
  intro o ho;rw [g.outs,List.nil_append] at ho;have:=(List.mem_filter.1 ho).2;simpa using this
 have hl':t < (ck_ p t s.outs s).takers.length:=by rw [g.takers];exact hl
 refine ⟨g.right.gone h0 hl' hn,hR,⟨h0,hl⟩,?_,?_,?_,g.tag,g.acked,g.came,g.dropped,g.len⟩
 ·show (((ck_ p t s.outs s).outs).filter _).length = 0;rw [List.length_eq_zero_iff,List.filter_eq_nil_iff];intro o ho e;exact hn o ho (by simpa using e)
 ·show (((ck_ p t s.outs s).outs).length:Int) = _;rw [g.outs,List.nil_append,ea_];rfl
 ·show (c2_ _ _).length = _;rw [cF_,g.takers]
def dM_ (s:ab_) (q:Int):ab_:={ s with ready:=s.ready.set q.toNat (af_ s q.toNat).tail,nextTag:=s.nextTag+1,acked:=s.acked+1 }
def b7_ (p:ad_) (q:Int):List ae_→ab_→Int
 | [],_=>0
 | _ :: r,s=>if delE p s q≠0 then delE p s q else b7_ p q r (dM_ s q)
def dD_ (q:Int):List ae_→ab_→ab_
 | [],s=>s
 | _ :: r,s=>dD_ q r (dM_ s q)
def il_ (s:ab_) (q:Int):Bool:=s.takers.any (fun t=>decide (t.queue = q))
def drX (p:ad_) (s:ab_) (q:Int):Int:=if aq_ q p.queues.length = false then 5 else if il_ s q = true then 9 else if bB_ p s q 1≠0 then bB_ p s q 1 else b7_ p q (af_ s q.toNat) (bE_ s q 1)
def drE (p:ad_) (s:ab_) (q:Int):Int:=if stE p s≠0 then stE p s else drX p s q
def drM (s:ab_) (q:Int):ab_:=dD_ q (af_ s q.toNat) (bE_ s q 1)
def drS (s:ab_) (q:Int):ab_:={ drM s q with takers:=c2_ (drM s q).takers (goneIdx s.takers) }
def drB (s:ab_) (q:Int):List ByteArray:=(af_ s q.toNat).map ae_.body
theorem ni_ {p:ad_} {s:ab_} {q:Int} (hR:ag_ p s 0):outIdx (delS s q) s.nextTag = s.outs.length:=by
 unfold outIdx delS;simp only;rw [List.findIdx_append];have h0:s.outs.findIdx (fun o=>decide (o.tag = s.nextTag)) = s.outs.length:=by
  rw [List.findIdx_eq_length];intro o ho;have:=(hR.fine ho).2.tag;simp;omega
 rw [h0,if_neg (by omega)];simp [delO,List.findIdx_cons]
theorem gK_ {p:ad_} {s:ab_} {q:Int} (h:delE p s q = 0):ackE p (delS s q) s.nextTag = 0∧ackS (delS s q) s.nextTag = dM_ s q:=by
 obtain ⟨k,x,r,g⟩:=i9_ h;have hi:=ni_ (q:=q) g.right;constructor
 ·unfold ackE;rw [if_neg (by rw [g.done.ok];simp),hi,if_neg];show ¬ s.outs.length = (s.outs ++ [delO s q]).length;simp
 ·unfold ackS bb_;rw [hi];show ({ ready:=s.ready.set q.toNat (af_ s q.toNat).tail,outs:=(s.outs ++ [delO s q]).eraseIdx s.outs.length,takers:=s.takers,nextSeq:=s.nextSeq,nextTag:=s.nextTag+1,came:=s.came,acked:=s.acked+1,dropped:=s.dropped }:ab_) = dM_ s q;have e:(s.outs ++ [delO s q]).eraseIdx s.outs.length = s.outs:=by
   rw [List.eraseIdx_append_of_length_le (Nat.le_refl _)];simp
  rw [e];rfl
theorem eT_ {p:ad_} {s:ab_} {q:Int} (h:delE p s q = 0):ag_ p (dM_ s q) 0:=by
 obtain ⟨h1,h2⟩:=gK_ h;obtain ⟨g,i,o,ho⟩:=e7_ h1;rw [← h2];exact g.ack ho
theorem ex_ {s:ab_} {q:Int} (hq:q.toNat < s.ready.length) (j:Nat):af_ (dM_ s q) j = if j = q.toNat then (af_ s q.toNat).tail else af_ s j:=eI_ (s:=s) hq (af_ s q.toNat).tail 0
structure Emptied (p:ad_) (q:Int) (l:List ae_) (s t:ab_):Prop where
 right:ag_ p t 0
 len:t.ready.length = s.ready.length
 line:∀ j,af_ t j = if j = q.toNat then [] else af_ s j
 outs:t.outs = s.outs
 takers:t.takers = s.takers
 seq:t.nextSeq = s.nextSeq
 tag:t.nextTag = s.nextTag+l.length
 came:t.came = s.came
 acked:t.acked = s.acked+l.length
 dropped:t.dropped = s.dropped
theorem emptied {p:ad_} {q:Int}:∀ (l:List ae_) (s:ab_),ag_ p s 0→q.toNat < s.ready.length→af_ s q.toNat = l→b7_ p q l s = 0→Emptied p q l s (dD_ q l s)
 | [],s,hR,hq,hl,_=>⟨hR,rfl,fun j=>by
  by_cases e:j = q.toNat
  ·rw [if_pos e,e];exact hl
  ·rw [if_neg e];rfl,rfl,rfl,rfl,by simp [dD_],rfl,by simp [dD_],rfl⟩
 | x :: r, s, hR, hq, hl, he => by
   unfold b7_ at he;by_cases h:delE p s q = 0
   ·rw [if_neg (by simp [h])] at he;have hq':q.toNat < (dM_ s q).ready.length:=by show _ < (s.ready.set _ _).length;rw [List.length_set];exact hq
    have hl':af_ (dM_ s q) q.toNat = r:=by rw [ex_ hq,if_pos rfl,hl];rfl
    have g:=emptied r (dM_ s q) (eT_ h) hq' hl' he;refine ⟨g.right,?_,fun j=>?_,g.outs,g.takers,g.seq,?_,g.came,?_,g.dropped⟩
    ·show (dD_ q r (dM_ s q)).ready.length = _;rw [g.len];show (s.ready.set _ _).length = _;rw [List.length_set]
    ·show af_ (dD_ q r (dM_ s q)) j = _;rw [g.line j];by_cases e:j = q.toNat
     ·rw [if_pos e,if_pos e]
     ·rw [if_neg e,if_neg e,ex_ hq,if_neg e]
    ·show (dD_ q r (dM_ s q)).nextTag = _;rw [g.tag];show s.nextTag+1 + _ = _;rw [List.length_cons];omega
    ·show (dD_ q r (dM_ s q)).acked = _;rw [g.acked];show s.acked+1 + _ = _;rw [List.length_cons];omega
   ·rw [if_pos h] at he;exact absurd he h
theorem fz_ {p:ad_} {t:Int}:∀ (l:List OutD) (s:ab_),(∀ o ∈ l,o.taker≠t)→cr_ p t l s = 0∧ck_ p t l s = s
 | [],s,_=>⟨rfl,rfl⟩
 | o :: r, s, h => by
   unfold cr_ ck_;have h1:=h o List.mem_cons_self;rw [if_neg h1,if_neg h1];exact fz_ r s (fun o ho=>h o (List.mem_cons_of_mem _ ho))
theorem cy_ {p:ad_} {s:ab_} {q most:Int} (h:bB_ p s q most = 0):ag_ p s 0∧0≤q∧q.toNat < s.ready.length∧ag_ p (bE_ s q most) 0:=by
 unfold bB_ at h;by_cases h1:stE p s = 0
 ·rw [if_neg (by simp [h1])] at h;unfold f7_ at h;by_cases h2:aq_ q p.queues.length = false
  ·rw [if_pos h2] at h;cases h
  ·rw [if_neg h2] at h;by_cases h3:inR most 1 4 = false
   ·rw [if_pos h3] at h;cases h
   ·rw [if_neg h3] at h;by_cases h4:goneIdx s.takers = s.takers.length∧4≤s.takers.length
    ·rw [if_pos h4] at h;cases h
    ·have hR:=aE_ h1;have hq:=az_.1 (by simpa using h2:aq_ q p.queues.length = true);have hl:=hR.len;exact ⟨hR,hq.1,by omega,hR.join (by simpa using h2) (by simpa using h3) h4⟩
 ·rw [if_pos h1] at h;exact absurd h h1
theorem gu_ {p:ad_} {s t:ab_} {q:Int} {l:List ae_} (hj:bB_ p s q 1 = 0) (g:Emptied p q l (bE_ s q 1) t):dk_ p t (goneIdx s.takers:Nat) = 0∧eh_ p t (goneIdx s.takers:Nat) = { t with takers:=c2_ t.takers (goneIdx s.takers) }∧ag_ p { t with takers:=c2_ t.takers (goneIdx s.takers) } 0:=by
 obtain ⟨hR,q0,hq,hJ⟩:=cy_ hj;have htk:t.takers = dj_ s.takers q 1:=g.takers;have hou:t.outs = s.outs:=g.outs;have hnew:=ef_ s.takers q 1;have hlt:goneIdx s.takers < t.takers.length:=by
  rw [htk];exact (List.getElem?_eq_some_iff.1 hnew).1
 have hno:∀ o ∈ t.outs,o.taker≠((goneIdx s.takers:Nat):Int):=by
  intro o ho e;rw [hou] at ho;have:=(d1_ hR ho).1;rw [e] at this;simp at this
 obtain ⟨e1,e2⟩:=fz_ (p:=p) t.outs t hno;refine ⟨?_,?_,?_⟩
 ·unfold dk_;rw [if_neg (by rw [g.right.ok];simp),if_neg (by rw [az_.2 ⟨by omega,by omega⟩];simp),if_neg,e1];unfold tAt;rw [List.getD_eq_getElem?_getD,Int.toNat_natCast,htk,hnew];show q≠-1;omega
 ·unfold eh_;rw [e2,Int.toNat_natCast]
 ·have:=g.right.gone (t:=((goneIdx s.takers:Nat):Int)) (by omega) (by omega) hno;rw [Int.toNat_natCast] at this;exact this
structure Drained (p:ad_) (s:ab_) (q:Int):Prop where
 was:ag_ p s 0
 q0:0≤q
 ql:q.toNat < s.ready.length
 join:bB_ p s q 1 = 0
 emp:Emptied p q (af_ s q.toNat) (bE_ s q 1) (drM s q)
 right:ag_ p (drS s q) 0
theorem drained {p:ad_} {s:ab_} {q:Int} (h:drE p s q = 0):Drained p s q:=by
 unfold drE at h;by_cases h1:stE p s = 0
 ·rw [if_neg (by simp [h1])] at h;unfold drX at h;by_cases h2:aq_ q p.queues.length = false
  ·rw [if_pos h2] at h;cases h
  ·rw [if_neg h2] at h;by_cases h3:il_ s q = true
   ·rw [if_pos h3] at h;cases h
   ·rw [if_neg h3] at h;by_cases h4:bB_ p s q 1 = 0
    ·rw [if_neg (by simp [h4])] at h;obtain ⟨hR,q0,hq,hJ⟩:=cy_ h4;have g:=emptied (af_ s q.toNat) (bE_ s q 1) hJ hq rfl h;exact ⟨hR,q0,hq,h4,g,(gu_ h4 g).2.2⟩
    ·rw [if_pos h4] at h;exact absurd h h4
 ·rw [if_pos h1] at h;exact absurd h h1
end Go.Proofs.YtlbnkpicnokgoaaGreat
