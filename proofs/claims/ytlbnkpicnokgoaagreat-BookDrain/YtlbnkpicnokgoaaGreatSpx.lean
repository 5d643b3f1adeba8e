import Derived.Test.YtlbnkpicnokgoaaGreatBKa
import Derived.Test.YtlbnkpicnokgoaaGreatSnx
import Derived.Test.YtlbnkpicnokgoaaGreatBUk
namespace Go.Proofs.YtlbnkpicnokgoaaGreat
open Go.RowKit Go.Maps
set_option linter.unusedVariables false
set_option maxRecDepth 100000
structure Done (p:ad_) (s t:ab_):Prop where
 was:ag_ p s 0
 right:ag_ p t 0
 came:s.came≤t.came
 acked:s.acked≤t.acked
 dropped:s.dropped≤t.dropped
 tag:s.nextTag≤t.nextTag
 len:t.ready.length = s.ready.length
theorem nT_ {p:ad_} {s:ab_} {q most:Int} (h:bB_ p s q most = 0):ag_ p s 0∧aq_ q p.queues.length = true∧inR most 1 4 = true∧¬ (goneIdx s.takers = s.takers.length∧4≤s.takers.length):=by
 unfold bB_ at h;by_cases h1:stE p s = 0
 ·rw [if_neg (by simp [h1])] at h;unfold f7_ at h;by_cases h2:aq_ q p.queues.length = false
  ·rw [if_pos h2] at h;cases h
  ·rw [if_neg h2] at h;by_cases h3:inR most 1 4 = false
   ·rw [if_pos h3] at h;cases h
   ·rw [if_neg h3] at h;by_cases h4:goneIdx s.takers = s.takers.length∧4≤s.takers.length
    ·rw [if_pos h4] at h;cases h
    ·exact ⟨aE_ h1,by simpa using h2,by simpa using h3,h4⟩
 ·rw [if_pos h1] at h;exact absurd h h1
theorem jo_ {p:ad_} {s:ab_} {post:Int} {key body:ByteArray} (h:pubE p s post key body = 0):ag_ p s 0∧rtE p post key = 0∧body.size≤12∧(pubL p post key body).length≤4∧(∀ a ∈ pubL p post key body,dh_ p a)∧s.nextSeq≤524288:=by
 unfold pubE at h;by_cases h1:stE p s = 0
 ·rw [if_neg (by simp [h1])] at h;unfold pubX at h;by_cases h2:rtE p post key = 0
  ·rw [if_neg (by simp [h2])] at h;by_cases h3:12 < body.size
   ·rw [if_pos h3] at h;cases h
   ·rw [if_neg h3] at h;unfold letE at h;rw [if_neg (by simp [h1])] at h;obtain ⟨g1,g2,g3⟩:=i2_ h;exact ⟨aE_ h1,h2,by omega,g1,g2,g3⟩
  ·rw [if_pos h2] at h;exact absurd h h2
 ·rw [if_pos h1] at h;exact absurd h h1
theorem mB_ {p:ad_} {s:ab_} {post:Int} {key body:ByteArray} (h:pubE p s post key body = 0):∃ n,Arrived p s (arrS p 600 s (pubL p post key body)) n:=by
 obtain ⟨h1,h2,h3,h4,h5,h6⟩:=jo_ h;exact ⟨_,(gL_ 600 h1 h5 (Nat.le_trans (lx_ h1 h4) (by omega)) (by omega)).1⟩
theorem Arrived.fin {p:ad_} {s t:ab_} {n:Nat} (hs:ag_ p s 0) (h:Arrived p s t n):Done p s t:=
 ⟨hs,h.right,by have:=h.came;omega,by rw [h.acked];exact Int.le_refl _,h.dropped,by rw [h.tag];exact Int.le_refl _,h.len⟩
theorem nj_ {p:ad_} {s:ab_} {x:ActD} (h:doE p s x = 0):Done p s (doS p s x):=by
 unfold doE at h;unfold doS;by_cases h1:x.kind = 1
 ·rw [if_pos h1] at h ⊢;obtain ⟨n,hn⟩:=mB_ h;exact hn.fin (jo_ h).1
 rw [if_neg h1] at h ⊢;by_cases h2:x.kind = 2
 ·rw [if_pos h2] at h ⊢;obtain ⟨g1,g2,g3,g4⟩:=nT_ h;exact ⟨g1,g1.join g2 g3 g4,Int.le_refl _,Int.le_refl _,Int.le_refl _,Int.le_refl _,rfl⟩
 rw [if_neg h2] at h ⊢;by_cases h3:x.kind = 3
 ·rw [if_pos h3] at h ⊢;have g:=leaves h;exact ⟨g.was,g.right,g.came,by rw [g.acked];exact Int.le_refl _,g.dropped,by rw [g.tag];exact Int.le_refl _,g.len⟩
 rw [if_neg h3] at h ⊢;by_cases h4:x.kind = 4
 ·rw [if_pos h4] at h ⊢;obtain ⟨k,y,r,g⟩:=i9_ h;exact ⟨g.right,g.done,Int.le_refl _,Int.le_refl _,Int.le_refl _,by show s.nextTag≤s.nextTag+1;omega,List.length_set⟩
 rw [if_neg h4] at h ⊢;by_cases h5:x.kind = 5
 ·rw [if_pos h5] at h ⊢;obtain ⟨g,i,o,ho⟩:=e7_ h;exact ⟨g,g.ack ho,Int.le_refl _,by show s.acked≤s.acked+1;omega,Int.le_refl _,Int.le_refl _,rfl⟩
 rw [if_neg h5] at h ⊢;by_cases h6:x.kind = 6
 ·rw [if_pos h6] at h;obtain ⟨i,o,n,ho,hn,g⟩:=rejected h (x.b != 0);exact ⟨(jq_ h).1,g.right,by have:=g.came;omega,by rw [g.acked];exact Int.le_refl _,g.dropped,by rw [g.tag];exact Int.le_refl _,g.len⟩
 ·rw [if_neg h6] at h;cases h
def sumI:List (List ae_)→Int
 | []=>0
 | l :: r=>(l.length:Int)+sumI r
theorem fV_:∀ (a b:List (List ae_)),sumI (a ++ b) = sumI a+sumI b
 | [],b=>by simp [sumI]
 | l :: r, b => by
   show (l.length:Int)+sumI (r ++ b) = (l.length:Int)+sumI r+sumI b;rw [fV_ r b];omega
theorem ia_ {xss:List (List ae_)} {k:Nat} (h:k < xss.length):sumI (xss.take (k+1)) = sumI (xss.take k)+((xss[k]'h).length:Int):=by
 rw [List.take_succ_eq_append_getElem h,fV_];simp [sumI]
theorem eS_:∀ (xss:List (List ae_)),(∀ l ∈ xss,l.length≤6)→0≤sumI xss∧sumI xss≤6 * (xss.length:Int)
 | [],_=>by simp [sumI]
 | l :: r, h => by
   have h1:=eS_ r (fun x hx=>h x (List.mem_cons_of_mem _ hx));have h2:=h l List.mem_cons_self;show 0≤(l.length:Int)+sumI r∧(l.length:Int)+sumI r≤6 * ((l :: r).length:Int);rw [List.length_cons];omega
theorem mN_ (s:ab_):((ar_ s).length:Int) = sumI s.ready+(s.outs.length:Int):=by
 have h:∀ xss:List (List ae_),((xss.flatMap fun l=>l.map ae_.seq).length:Int) = sumI xss:=by
  intro xss;induction xss with
  | nil=>rfl
  | cons l r ih=>rw [List.flatMap_cons,List.length_append];show _ = (l.length:Int)+sumI r;rw [← ih,List.length_map];omega
 unfold ar_;rw [List.length_append,List.length_map];have:=h s.ready;omega
def fC_ (s t:ab_) (k:Nat):Int:=(t.outs.length:Int) - (s.outs.length:Int)+sumI (t.ready.take k) - sumI (s.ready.take k)
theorem j8_ {p:ad_} {s t:ab_} (hs:ag_ p s 0) (ht:ag_ p t 0) (k:Nat):-2000≤fC_ s t k∧fC_ s t k≤2000:=by
 have h1:=be_ hs;have h2:=be_ ht;have g1:=eS_ (s.ready.take k) (fun l hl=>hs.line6 (List.mem_of_mem_take hl));have g2:=eS_ (t.ready.take k) (fun l hl=>ht.line6 (List.mem_of_mem_take hl));have e1:(s.ready.take k).length≤s.ready.length:=by rw [List.length_take];omega
 have e2:(t.ready.take k).length≤t.ready.length:=by rw [List.length_take];omega
 unfold fC_;omega
theorem mu_ {p:ad_} {s t:ab_} (hs:ag_ p s 0) (ht:ag_ p t 0) (hl:t.ready.length = s.ready.length):t.came - s.came = fC_ s t s.ready.length+(t.acked - s.acked)+(t.dropped - s.dropped):=by
 have h1:=hs.sum;have h2:=ht.sum;rw [mN_] at h1 h2;unfold fC_;rw [List.take_of_length_le (by omega),List.take_of_length_le (Nat.le_refl _)];omega
theorem lf_ {s t:ab_} {k:Nat} (h:k < s.ready.length) (h':k < t.ready.length):fC_ s t (k+1) = fC_ s t k+((t.ready[k]'h').length:Int) - ((s.ready[k]'h).length:Int):=by
 unfold fC_;rw [ia_ h,ia_ h'];omega
theorem ag_.came_le {p:ad_} {s:ab_} (h:ag_ p s 0):0≤s.came∧s.came≤1048576:=by
 have h4:=h.cs;have h5:=h.ns;omega
def resV (E:Int) (s:ab_):ab_:=if E = 0 then s else kA_ 0
theorem a4_.stV {W:World} {n:Nat} {v:Value} {E:Int} {s:ab_} (h:a4_ W n v E s):StV W v (resV E s):=by
 unfold resV;by_cases hE:E = 0
 ·rw [if_pos hE];exact (h.1 hE).st
 ·rw [if_neg hE,h.2 hE];exact ⟨none,none,none,0,0,0,0,0,0,rfl,⟨rfl,rfl,rfl,Nat.zero_le _,Nat.zero_le _,Nat.zero_le _,.inl rfl,.inl rfl,.inl rfl⟩,fun _=>rfl,fun _=>rfl⟩
theorem a4_.boxV {W:World} {n:Nat} {v:Value} {E:Int} {S:ab_} (h:a4_ W n v E S) {s:ab_} (hs:s = resV E S):∃ b1 b2 b3 m1 d1 m2 d2 m3 d3 W',v = .agg #[.slice b1 m1 d1,.slice b2 m2 d2,.slice b3 m3 d3,.int .i64 s.nextSeq,.int .i64 s.nextTag,.int .i64 s.came,.int .i64 s.acked,.int .i64 s.dropped]∧W' = W.alloc (.cells #[.slice b1 m1 d1,.slice b2 m2 d2,.slice b3 m3 d3,.int .i64 s.nextSeq,.int .i64 s.nextTag,.int .i64 s.came,.int .i64 s.acked,.int .i64 s.dropped] 31)∧Below W.heap.size W W'∧W'.heap[W.heap.size]? = some (.cells #[.slice b1 m1 d1,.slice b2 m2 d2,.slice b3 m3 d3,.int .i64 s.nextSeq,.int .i64 s.nextTag,.int .i64 s.came,.int .i64 s.acked,.int .i64 s.dropped] 31 (0,0))∧al_ W' b1 b2 b3 m1 m2 m3 s∧(b2 = none→d2 = 0)∧(b3 = none→d3 = 0):=by
 subst hs;obtain ⟨b1,b2,b3,m1,d1,m2,d2,m3,d3,h1,h2,h3⟩:=h.stV;exact ⟨b1,b2,b3,m1,d1,m2,d2,m3,d3,_,h1,rfl,(Below.refl _ _).alloc (Nat.le_refl _) _,World.alloc_heap_new W _,h2.keep ((Below.refl _ _).alloc (Nat.le_refl _) _),h3⟩
end Go.Proofs.YtlbnkpicnokgoaaGreat
