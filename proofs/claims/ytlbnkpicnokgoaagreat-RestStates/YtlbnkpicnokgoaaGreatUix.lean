import Derived.RangeFuncNested
import Derived.RangeFuncBound
import Derived.RangeFuncCalls
import Derived.RangeFuncLeaves
import Derived.RangeFuncFrom
import Derived.Test.YtlbnkpicnokgoaaGreatUcx
import Derived.RangeFuncWrites
import Derived.RangeFuncBox
import Derived.Maps.OwnIn
import Derived.Maps.AppendAt
import Derived.Stop.RegionWithIn
import Derived.Sort.QuietIn
import Derived.RegionTactic
import Derived.Deep.QuietTactic
import Derived.BigQuiet
import Derived.Lib.SliceRun
namespace Go.Proofs.YtlbnkpicnokgoaaGreat
set_option linter.unusedVariables false
set_option maxRecDepth 100000
def Llt:List Nat→List Nat→Prop
 | [],_=>False
 | _ :: _,[]=>False
 | a :: r,b :: s=>a < b∨(a = b∧Llt r s)
theorem hM_:∀ {s t u:List Nat},Llt s t→Llt t u→Llt s u
 | [],_,_,h,_=>h.elim
 | _ :: _,[],_,h,_=>h.elim
 | _ :: _,_ :: _,[],_,k=>k.elim
 | a :: r, b :: s, c :: t, h, k => by
   rcases h with h | ⟨rfl,h⟩
   ·rcases k with k | ⟨rfl,k⟩
    ·exact .inl (by omega)
    ·exact .inl h
   ·rcases k with k | ⟨rfl,k⟩
    ·exact .inl k
    ·exact .inr ⟨rfl,hM_ h k⟩
theorem fz_:∀ {s t:List Nat} {n m:Nat},s.length = t.length→(Llt (s ++ [n]) (t ++ [m])↔Llt s t∨(s = t∧n < m))
 | [],[],n,m,_=>by simp [Llt]
 | [],_ :: _,_,_,h=>by simp at h
 | _ :: _,[],_,_,h=>by simp at h
 | a :: r, b :: s, n, m, hl => by
   have ih:=fz_ (s:=r) (t:=s) (n:=n) (m:=m) (by simpa using hl);simp only [List.cons_append,Llt,ih,List.cons.injEq];constructor
   ·rintro (h | ⟨h1,h | ⟨h2,h⟩⟩)
    ·exact .inl (.inl h)
    ·exact .inl (.inr ⟨h1,h⟩)
    ·exact .inr ⟨⟨h1,h2⟩,h⟩
   ·rintro ((h | ⟨h1,h⟩) | ⟨⟨h1,h2⟩,h⟩)
    ·exact .inl h
    ·exact .inr ⟨h1,.inl h⟩
    ·exact .inr ⟨h1,.inr ⟨h2,h⟩⟩
def Slt (s t:List Nat):Prop:=s.length < t.length∨(s.length = t.length∧Llt s t)
theorem dJ_ {s t u:List Nat} (h:Slt s t) (k:Slt t u):Slt s u:=by
 rcases h with h | ⟨h1,h⟩ <;> rcases k with k | ⟨k1,k⟩
 ·exact .inl (by omega)
 ·exact .inl (by omega)
 ·exact .inl (by omega)
 ·exact .inr ⟨by omega,hM_ h k⟩
theorem bH_ {s t:List Nat} {n m:Nat}:Slt (s ++ [n]) (t ++ [m])↔Slt s t∨(s = t∧n < m):=by
 unfold Slt;simp only [List.length_append,List.length_cons,List.length_nil];constructor
 ·rintro (h | ⟨h,k⟩)
  ·exact .inl (.inl (by omega))
  ·rcases (fz_ (by omega)).1 k with k | k
   ·exact .inl (.inr ⟨by omega,k⟩)
   ·exact .inr k
 ·rintro ((h | ⟨h,k⟩) | ⟨rfl,h⟩)
  ·exact .inl (by omega)
  ·exact .inr ⟨by omega,(fz_ h).2 (.inl k)⟩
  ·exact .inr ⟨rfl,(fz_ rfl).2 (.inr ⟨rfl,h⟩)⟩
theorem fM_ {t:List Nat} {m:Nat}:Slt [] (t ++ [m]):=.inl (by simp)
inductive Path (A:Nat→Option (Nat × Nat)) (r:Nat):List Nat→Nat→Prop
 | nil:Path A r [] r
 | snoc {s:List Nat} {u n v:Nat}:Path A r s u→A n = some (u,v)→Path A r (s ++ [n]) v
theorem Path.inv {A:Nat→Option (Nat × Nat)} {r v:Nat} {s:List Nat} (h:Path A r s v):(s = []∧v = r)∨∃ s' u n,s = s' ++ [n]∧Path A r s' u∧A n = some (u,v):=by
 cases h with
 | nil=>exact .inl ⟨rfl,rfl⟩
 | snoc h1 h2=>exact .inr ⟨_,_,_,rfl,h1,h2⟩
theorem Path.inv_snoc {A:Nat→Option (Nat × Nat)} {r v n:Nat} {s:List Nat} (h:Path A r (s ++ [n]) v):∃ u,Path A r s u∧A n = some (u,v):=by
 rcases h.inv with ⟨h1,_⟩ | ⟨s',u,m,h1,h2,h3⟩
 ·simp at h1
 ·have:=List.append_inj' h1 rfl;simp at this;obtain ⟨rfl,rfl⟩:=this;exact ⟨u,h2,h3⟩
abbrev Trails:=List (Nat × List Nat)
def tstep (A:Nat→Option (Nat × Nat)) (u:Nat) (t:List Nat) (L:Trails) (n:Nat):Trails:=
 match A n with
 | some (u',v)=>if u' = u∧v ∉ L.map Prod.fst then L ++ [(v,t ++ [n])] else L
 | none=>L
structure Came (A:Nat→Option (Nat × Nat)) (r:Nat) (L:Trails) (i n:Nat):Prop where
 first:L[0]? = some (r,[])
 once:(L.map Prod.fst).Nodup
 path:∀ x ∈ L,Path A r x.2 x.1
 prev:∀ x ∈ L,x.2 = []∨∃ y ∈ L,∃ m,x.2 = y.2 ++ [m]
 rise:L.Pairwise (fun x y=>Slt x.2 y.2)
 least:∀ x ∈ L,∀ s,Path A r s x.1→¬ Slt s x.2
 shut:∀ j (hj:j < L.length) m v,A m = some (L[j].1,v)→(j < i∨(j = i∧m < n))→v ∈ L.map Prod.fst
 all:∀ (hi:i < L.length) s v,Path A r s v→Slt s (L[i].2 ++ [n])→v ∈ L.map Prod.fst
 below:∀ (hi:i < L.length),∀ x ∈ L,Slt x.2 (L[i].2 ++ [n])
theorem Came.start (A:Nat→Option (Nat × Nat)) (r:Nat):Came A r [(r,[])] 0 0 where
 first:=rfl
 once:=by simp
 path:=by intro x hx;simp at hx;subst hx;exact .nil
 prev:=by intro x hx;simp at hx;subst hx;exact .inl rfl
 rise:=by simp
 least:=by
  intro x hx s _ h;simp at hx;subst hx;rcases h with h | ⟨h,k⟩
  ·simp at h
  ·cases s <;> simp at h k;exact k
 shut:=by intro j hj m v _ h;omega
 all:=by
  intro hi s v hp h;rcases hp.inv with ⟨rfl,rfl⟩ | ⟨s',u,m,rfl,_,_⟩
  ·simp
  ·rcases bH_.1 h with h | ⟨_,h⟩
   ·rcases h with h | ⟨h,k⟩
    ·simp at h
    ·cases s' <;> simp at h k;exact k.elim
   ·omega
 below:=by intro hi x hx;simp at hx;subst hx;exact fM_
theorem hz_ {L:Trails} {x:Nat × List Nat} (h:x ∈ L):∃ j,∃ hj:j < L.length,L[j] = x:=List.mem_iff_getElem.1 h
theorem mR_ {A:Nat→Option (Nat × Nat)} {r u v:Nat} {s:List Nat} (h:Path A r s u) (k:Path A r s v):u = v:=by
 rcases h.inv with ⟨rfl,rfl⟩ | ⟨s',x,n,rfl,_,h3⟩
 ·rcases k.inv with ⟨_,rfl⟩ | ⟨s',x,n,h1,_,_⟩
  ·rfl
  ·simp at h1
 ·obtain ⟨y,_,h4⟩:=k.inv_snoc;rw [h3] at h4;simp at h4;exact h4.2
theorem Came.step {A:Nat→Option (Nat × Nat)} {r:Nat} {L:Trails} {i n:Nat} (h:Came A r L i n) (hi:i < L.length):Came A r (tstep A L[i].1 L[i].2 L n) i (n+1)∧(tstep A L[i].1 L[i].2 L n)[i]? = some L[i]:=by
 have ends:∀ {s:List Nat} {u:Nat},Path A r s u→s = L[i].2→u = L[i].1:=fun h1 e=>by subst e;exact mR_ h1 (h.path _ (List.getElem_mem hi))
 have same:(∀ v,A n = some (L[i].1,v)→v ∈ L.map Prod.fst)→Came A r L i (n+1):=by
  intro hv;refine ⟨h.first,h.once,h.path,h.prev,h.rise,h.least,?_,?_,?_⟩
  ·intro j hj m v hA hm;by_cases e:j = i∧m = n
   ·obtain ⟨rfl,rfl⟩:=e;exact hv v hA
   ·exact h.shut j hj m v hA (by omega)
  ·intro hi' s v hp hs;rcases hp.inv with ⟨rfl,rfl⟩ | ⟨s',u,m,rfl,h1,h2⟩
   ·exact h.all hi' [] _ .nil fM_
   ·rcases bH_.1 hs with h3 | ⟨h3,h4⟩
    ·exact h.all hi' _ v hp (bH_.2 (.inl h3))
    ·by_cases e:m < n
     ·exact h.all hi' _ v hp (bH_.2 (.inr ⟨h3,e⟩))
     ·have e2:m = n:=by omega
      rw [ends h1 h3,e2] at h2;exact hv v h2
  ·intro hi' x hx;exact dJ_ (h.below hi' x hx) (bH_.2 (.inr ⟨rfl,by omega⟩))
 unfold tstep;cases hA:A n with
 | none =>
   exact ⟨same (fun v hv=>by rw [hA] at hv;cases hv),List.getElem?_eq_getElem hi⟩
 | some p =>
   obtain ⟨u',v⟩:=p;dsimp only;by_cases hc:u' = L[i].1∧v ∉ L.map Prod.fst
   ·rw [if_pos hc];obtain ⟨rfl,hv⟩:=hc;have hpos:0 < L.length:=by omega
    have hget:∀ j (hj:j < L.length),(L ++ [(v,L[i].2 ++ [n])])[j]'(by simp;omega) = L[j]:=fun j hj=>List.getElem_append_left hj
    have hold:∀ {x:Nat},x ∈ L.map Prod.fst→x ∈ (L ++ [(v,L[i].2 ++ [n])]).map Prod.fst:=fun hx=>by simp only [List.map_append,List.mem_append];exact .inl hx
    have hnew:v ∈ (L ++ [(v,L[i].2 ++ [n])]).map Prod.fst:=by simp
    refine ⟨⟨?_,?_,?_,?_,?_,?_,?_,?_,?_⟩,by rw [List.getElem?_append_left hi];exact List.getElem?_eq_getElem hi⟩
    ·rw [List.getElem?_append_left hpos];exact h.first
    ·rw [List.map_append,List.nodup_append];refine ⟨h.once,by simp,?_⟩;intro a ha b hb e;simp at hb;subst hb;subst e;exact hv ha
    ·intro x hx;rcases List.mem_append.1 hx with hx | hx
     ·exact h.path x hx
     ·simp at hx;subst hx;exact .snoc (h.path _ (List.getElem_mem hi)) hA
    ·intro x hx;rcases List.mem_append.1 hx with hx | hx
     ·rcases h.prev x hx with e | ⟨y,hy,m,e⟩
      ·exact .inl e
      ·exact .inr ⟨y,List.mem_append.2 (.inl hy),m,e⟩
     ·simp at hx;subst hx;exact .inr ⟨L[i],List.mem_append.2 (.inl (List.getElem_mem hi)),n,rfl⟩
    ·rw [List.pairwise_append];refine ⟨h.rise,by simp,?_⟩;intro a ha b hb;simp at hb;subst hb;exact h.below hi a ha
    ·intro x hx s hp hs;rcases List.mem_append.1 hx with hx | hx
     ·exact h.least x hx s hp hs
     ·simp at hx;subst hx;exact hv (h.all hi s v hp hs)
    ·intro j hj m v' hA' hm;have hj':j < L.length:=by omega
     rw [hget j hj'] at hA';by_cases e:j = i∧m = n
     ·obtain ⟨rfl,rfl⟩:=e;rw [hA] at hA';simp at hA';rw [← hA'];exact hnew
     ·exact hold (h.shut j hj' m v' hA' (by omega))
    ·intro hi' s v' hp hs;rw [hget i hi] at hs;rcases hp.inv with ⟨rfl,rfl⟩ | ⟨s',u,m,rfl,h1,h2⟩
     ·exact hold (h.all hi [] _ .nil fM_)
     ·rcases bH_.1 hs with h3 | ⟨h3,h4⟩
      ·exact hold (h.all hi _ v' hp (bH_.2 (.inl h3)))
      ·by_cases e:m < n
       ·exact hold (h.all hi _ v' hp (bH_.2 (.inr ⟨h3,e⟩)))
       ·have e2:m = n:=by omega
        rw [ends h1 h3,e2,hA] at h2;simp at h2;rw [← h2];exact hnew
    ·intro hi' x hx;rw [hget i hi];rcases List.mem_append.1 hx with hx | hx
     ·exact dJ_ (h.below hi x hx) (bH_.2 (.inr ⟨rfl,by omega⟩))
     ·simp at hx;subst hx;exact bH_.2 (.inr ⟨rfl,by omega⟩)
   ·rw [if_neg hc];refine ⟨same (fun v' hv=>?_),List.getElem?_eq_getElem hi⟩;rw [hA] at hv;simp at hv;obtain ⟨rfl,rfl⟩:=hv;exact Classical.not_not.1 (fun hn=>hc ⟨rfl,hn⟩)
def tround (A:Nat→Option (Nat × Nat)) (nb:Nat) (x:Nat × List Nat) (L:Trails):Trails:=(List.range nb).foldl (tstep A x.1 x.2) L
theorem Came.steps {A:Nat→Option (Nat × Nat)} {r:Nat} {L:Trails} {i:Nat} (h:Came A r L i 0) (hi:i < L.length):∀ nb,Came A r (tround A nb L[i] L) i nb∧(tround A nb L[i] L)[i]? = some L[i]
 | 0=>⟨h,List.getElem?_eq_getElem hi⟩
 | nb + 1 => by
   obtain ⟨h1,h2⟩:=h.steps hi nb;unfold tround at h1 h2 ⊢;rw [List.range_succ,List.foldl_append,List.foldl_cons,List.foldl_nil];obtain ⟨hi',e⟩:=List.getElem?_eq_some_iff.1 h2;have:=h1.step hi';rw [e] at this;exact this
theorem Came.next {A:Nat→Option (Nat × Nat)} {r:Nat} {L:Trails} {i nb:Nat} (h:Came A r L i nb) (hi:i < L.length) (hnb:∀ m p,A m = some p→m < nb):Came A r L (i+1) 0 where
 first:=h.first
 once:=h.once
 path:=h.path
 prev:=h.prev
 rise:=h.rise
 least:=h.least
 shut:=by
  intro j hj m v hA hm;have:=hnb m _ hA;exact h.shut j hj m v hA (by omega)
 all:=by
  intro hi' s v hp hs;rcases hp.inv with ⟨rfl,rfl⟩ | ⟨s',u,m,rfl,h1,h2⟩
  ·exact h.all hi [] _ .nil fM_
  ·rcases bH_.1 hs with h3 | ⟨_,h4⟩
   ·have hu:=h.all hi s' u h1 (dJ_ h3 (h.below hi _ (List.getElem_mem hi')));obtain ⟨x,hx,rfl⟩:=List.mem_map.1 hu;obtain ⟨j,hj,rfl⟩:=hz_ hx;have hl:=h.least _ hx s' h1;have hji:j < i+1:=by
     rcases Nat.lt_or_ge j (i+1) with h | h5
     ·exact h
     ·exfalso
      rcases Nat.eq_or_lt_of_le h5 with e | e
      ·subst e;exact hl h3
      ·exact hl (dJ_ h3 (List.pairwise_iff_getElem.1 h.rise _ _ hi' hj e))
    exact h.shut j hj m v h2 (by have:=hnb m _ h2;omega)
   ·omega
 below:=by
  intro hi' x hx;rcases h.prev x hx with e | ⟨y,hy,m,e⟩
  ·rw [e];exact fM_
  ·have h1:=h.below hi x hx;rw [e] at h1 ⊢;have h2:=List.pairwise_iff_getElem.1 h.rise i (i+1) hi hi' (by omega);rcases bH_.1 h1 with h3 | ⟨h3,_⟩
   ·exact bH_.2 (.inl (dJ_ h3 h2))
   ·rw [h3];exact bH_.2 (.inl h2)
inductive Reached (A:Nat→Option (Nat × Nat)) (nb r:Nat):Trails→Nat→Prop
 | start:Reached A nb r [(r,[])] 0
 | next {L:Trails} {i:Nat} (h:Reached A nb r L i) (hi:i < L.length):Reached A nb r (tround A nb L[i] L) (i+1)
theorem Reached.came {A:Nat→Option (Nat × Nat)} {nb r:Nat} (hnb:∀ m p,A m = some p→m < nb) {L:Trails} {i:Nat} (h:Reached A nb r L i):Came A r L i 0∧i≤L.length:=by
 induction h with
 | start=>exact ⟨Came.start A r,by simp⟩
 | next h hi ih =>
   obtain ⟨h1,h2⟩:=ih.1.steps hi nb;obtain ⟨hi',_⟩:=List.getElem?_eq_some_iff.1 h2;exact ⟨h1.next hi' hnb,by omega⟩
theorem fH_:∀ (n:Nat) (l:List Nat),l.Nodup→(∀ x ∈ l,x < n)→l.length≤n
 | 0, l, _, h => by
   cases l with
   | nil=>simp
   | cons x r=>have:=h x (by simp);omega
 | n + 1, l, hn, h => by
   by_cases hm:n ∈ l
   ·have:=fH_ n (l.erase n) (hn.erase n) (fun x hx=>by
     have h1:=(hn.mem_erase_iff).1 hx;have:=h x h1.2;have:=h1.1;omega)
    rw [List.length_erase_of_mem hm] at this;omega
   ·have:=fH_ n l hn (fun x hx=>by
     have:=h x hx;have:x≠n:=fun e=>hm (e ▸ hx)
     omega)
    omega
structure Found (A:Nat→Option (Nat × Nat)) (r:Nat) (L:Trails):Prop where
 came:∃ i,L.length≤i∧Came A r L i 0
theorem Reached.found {A:Nat→Option (Nat × Nat)} {nb r:Nat} (hnb:∀ m p,A m = some p→m < nb) {L:Trails} {i:Nat} (h:Reached A nb r L i) (hi:¬ i < L.length):Found A r L:=⟨i,by omega,(h.came hnb).1⟩
theorem Found.all {A:Nat→Option (Nat × Nat)} {r:Nat} {L:Trails} (h:Found A r L) {s:List Nat} {v:Nat} (hp:Path A r s v):v ∈ L.map Prod.fst:=by
 obtain ⟨i,hi,h⟩:=h;induction hp with
 | nil=>have:=h.first;exact List.mem_map.2 ⟨(r,[]),List.mem_of_getElem? this,rfl⟩
 | snoc h1 h2 ih =>
   obtain ⟨x,hx,rfl⟩:=List.mem_map.1 ih;obtain ⟨j,hj,rfl⟩:=hz_ hx;exact h.shut j hj _ _ h2 (by omega)
theorem Found.mem {A:Nat→Option (Nat × Nat)} {r:Nat} {L:Trails} (h:Found A r L) {v:Nat}:v ∈ L.map Prod.fst↔∃ s,Path A r s v:=by
 constructor
 ·intro hv;obtain ⟨x,hx,rfl⟩:=List.mem_map.1 hv;obtain ⟨i,hi,h⟩:=h;exact ⟨_,h.path x hx⟩
 ·rintro ⟨s,hs⟩;exact h.all hs
theorem Came.short {A:Nat→Option (Nat × Nat)} {r:Nat} {L:Trails} {i n:Nat} (h:Came A r L i n):∀ (k j:Nat) (hj:j < L.length),j < k→L[j].2.length≤j
 | 0,j,hj,hk=>by omega
 | k + 1, j, hj, hk => by
   rcases h.prev _ (List.getElem_mem hj) with e | ⟨y,hy,m,e⟩
   ·rw [e];simp
   ·obtain ⟨j',hj',rfl⟩:=hz_ hy;have hlt:j' < j:=by
     rcases Nat.lt_trichotomy j' j with h1 | h1 | h1
     ·exact h1
     ·subst h1;have:=congrArg List.length e;simp at this
     ·exfalso
      have:=List.pairwise_iff_getElem.1 h.rise j j' hj hj' h1;rw [e] at this;rcases this with h2 | ⟨h2,_⟩ <;> simp at h2
      omega
    have:=h.short k j' hj' (by omega);rw [e];simp;omega
end Go.Proofs.YtlbnkpicnokgoaaGreat
namespace Go.Proofs.YtlbnkpicnokgoaaGreat
open Go.RowKit Go.Shelf
set_option linter.unusedVariables false
set_option maxRecDepth 100000
set_option maxHeartbeats 1000000
attribute [local go_sem] Oper.semAt_some
def rtE (p:ad_) (v:Int) (key:ByteArray):Int:=if chkP p = 0 then (if ar_ v p.posts.length = true then kerr key.data.toList else 5) else chkP p
def bAt (p:ad_) (n:Nat):dA_:=p.binds.getD n ⟨0,false,0,⟨#[]⟩⟩
def dA_.val (b:dA_):Value:=.agg #[.int .i64 b.src,.bool b.toPost,.int .i64 b.dst,.string b.pat]
def dO_ (p:ad_) (key:ByteArray) (v:Int) (n:Nat):Bool:=decide ((bAt p n).src = v) && fitP p n key
def b9_ (p:ad_) (key:ByteArray) (v:Int) (k:Nat):List Nat:=(List.range k).filter (dO_ p key v)
def bS_ (p:ad_) (key:ByteArray) (v:Int):List Nat:=b9_ p key v p.binds.length
theorem e2_ (p:ad_) (key:ByteArray) (v:Int) (k:Nat):b9_ p key v (k+1) = b9_ p key v k ++ if dO_ p key v k = true then [k] else []:=by
 unfold b9_;rw [List.range_succ,List.filter_append];cases h:dO_ p key v k <;> simp [h]
theorem h4_ {p:ad_} {key:ByteArray} {v:Int} {k:Nat} (h:dO_ p key v k = true):b9_ p key v (k+1) = b9_ p key v k ++ [k]:=by rw [e2_,if_pos h]
theorem jK_ {p:ad_} {key:ByteArray} {v:Int} {k:Nat} (h:dO_ p key v k = false):b9_ p key v (k+1) = b9_ p key v k:=by rw [e2_,h];simp
theorem ls_ (p:ad_) (key:ByteArray) (v:Int) {k m:Nat} (h:k≤m):b9_ p key v k <+: b9_ p key v m:=by
 induction m with
 | zero => have : k = 0 := by omega
           subst this;exact List.prefix_refl _
 | succ m ih =>
   by_cases e:k = m+1
   ·subst e;exact List.prefix_refl _
   ·rw [e2_];exact (ih (by omega)).trans (List.prefix_append _ _)
theorem gh_ (p:ad_) (a1 a2 a3:Option Addr) (n1 c1 n2 c2 n3 c3:Nat) (v:Int) (key:ByteArray) (w:World) (hp:ap_ w a1 a2 a3 n1 n2 n3 p) :
 Calls Tryz.prog 134 #[.agg #[.slice a1 n1 c1,.slice a2 n2 c2,.slice a3 n3 c3],.int .i64 v,.string key] w fun e w'=>e = .returned (.int .i64 (rtE p v key))∧Below w.heap.size w w':=by
 obtain ⟨W1,hW1,hBw,hs1,hbx⟩:=cr_ w (.slice a1 n1 c1) (.slice a2 n2 c2) (.slice a3 n3 c3) 26;have HW1:Hid (W1 = _):=hW1;have HP1:Hid (ap_ W1 a1 a2 a3 n1 n2 n3 p):=hp.keep hBw;have BX:Hid (∀ W,Below W1.heap.size W1 W→W.cell? ⟨w.heap.size,0,none⟩ = some (.slice a1 n1 c1)∧W.cell? ⟨w.heap.size,1,none⟩ = some (.slice a2 n2 c2)∧W.cell? ⟨w.heap.size,2,none⟩ = some (.slice a3 n3 c3)):=hbx;have s1:=hBw.size;have hl1:=hp.l1;clear hW1 hp hbx hs1;obtain ⟨d,hd⟩:∃ d,d = chkP p:=⟨_,rfl⟩
 have HD:Hid (d = chkP p):=hd;by_cases h0:d = 0
 ·have F1:rtE p v key = if ar_ v n1 = true then kerr key.data.toList else 5:=by unfold rtE;rw [if_pos (by rw [← hd];exact h0),hl1]
  clear hd;subst h0;cases hnum:ar_ v n1 with
  | false =>
    rw [hnum] at F1;rw [F1];clear F1;have hor:v < 0∨(¬ v < 0∧(n1:Int)≤v):=by unfold ar_ at hnum;simp at hnum;omega
    clear hnum hl1;rcases hor with h | ⟨h,h2⟩
    all_goals
     go_enter Tryz.func134,Tryz.ntmps134;go_wp2_with fail
     rw [← HW1.out];refine (bW_ p _ _ _ _ _ _ _ _ _ _ HP1.out.l1 HP1.out.l2 HP1.out.l3 HP1.out.sz HP1.out.p1 HP1.out.p2 HP1.out.p3).mono ?_;rintro e w2 ⟨rfl,hB2⟩;rw [← HD.out];obtain ⟨d0,d1,d2⟩:=BX.out w2 hB2;go_wp2_with fail
     go_ret
     exact ⟨rfl,hBw.trans (hB2.mono s1)⟩
  | true =>
    rw [hnum] at F1;have h1:¬ v < 0:=by unfold ar_ at hnum;simp at hnum;omega
    have h2:¬ (n1:Int)≤v:=by unfold ar_ at hnum;simp at hnum;omega
    obtain ⟨dk,hdk⟩:∃ dk,dk = kerr key.data.toList:=⟨_,rfl⟩
    rw [if_pos rfl,← hdk] at F1;rw [F1];have HC:Hid (∀ w,Calls Tryz.prog 164 #[.string key] w fun e w'=>∃ v,e = .returned (.tuple #[v,.int .i64 dk])∧Below w.heap.size w w'):=fun w=>by
     rw [hdk];by_cases hk:kerr key.data.toList = 0
     ·refine (eR_ key _ rfl w hk).mono ?_;rintro e w' ⟨g,cap,rfl,_,_,_,_,hB⟩;exact ⟨_,by rw [hk],hB⟩
     ·refine (ed_ key w hk).mono ?_;rintro e w' ⟨rfl,hB⟩;exact ⟨_,rfl,hB⟩
    clear F1 hnum hl1 hdk;go_enter Tryz.func134,Tryz.ntmps134;go_wp2_with fail
    rw [← HW1.out];refine (bW_ p _ _ _ _ _ _ _ _ _ _ HP1.out.l1 HP1.out.l2 HP1.out.l3 HP1.out.sz HP1.out.p1 HP1.out.p2 HP1.out.p3).mono ?_;rintro e w2 ⟨rfl,hB2⟩;rw [← HD.out];obtain ⟨d0,d1,d2⟩:=BX.out w2 hB2;go_wp2_with fail
    refine (HC.out _).mono ?_;rintro e w3 ⟨u,rfl,hB3⟩;go_wp2_with fail
    go_ret
    exact ⟨rfl,hBw.trans ((hB2.trans (hB3.mono hB2.size)).mono s1)⟩
 ·have F1:rtE p v key = d:=by unfold rtE;rw [if_neg (by rw [← hd];exact h0),hd]
  have h0':(d != 0) = true:=bne_iff_ne.2 h0;rw [F1];clear h0 hd F1 hl1;go_enter Tryz.func134,Tryz.ntmps134;go_wp2_with fail
  rw [← HW1.out];refine (bW_ p _ _ _ _ _ _ _ _ _ _ HP1.out.l1 HP1.out.l2 HP1.out.l3 HP1.out.sz HP1.out.p1 HP1.out.p2 HP1.out.p3).mono ?_;rintro e w2 ⟨rfl,hB2⟩;rw [← HD.out];go_wp2_with fail
  go_ret
  exact ⟨rfl,hBw.trans (hB2.mono s1)⟩
theorem gA_ (p:ad_) (a1 a2 a3:Option Addr) (n1 c1 n2 c2 n3 c3:Nat) (v:Int) (key:ByteArray) (w:World) (hp:ap_ w a1 a2 a3 n1 n2 n3 p) :
 Calls Tryz.prog 118 #[.agg #[.slice a1 n1 c1,.slice a2 n2 c2,.slice a3 n3 c3],.int .i64 v,.string key] w fun e w'=>e = .returned (.int .i64 (rtE p v key))∧Below w.heap.size w w':=by
 obtain ⟨W1,hW1,hBw,hs1,hbx⟩:=cr_ w (.slice a1 n1 c1) (.slice a2 n2 c2) (.slice a3 n3 c3) 26;have HW1:Hid (W1 = _):=hW1;have HP1:Hid (ap_ W1 a1 a2 a3 n1 n2 n3 p):=hp.keep hBw;have BX:Hid (∀ W,Below W1.heap.size W1 W→W.cell? ⟨w.heap.size,0,none⟩ = some (.slice a1 n1 c1)∧W.cell? ⟨w.heap.size,1,none⟩ = some (.slice a2 n2 c2)∧W.cell? ⟨w.heap.size,2,none⟩ = some (.slice a3 n3 c3)):=hbx;have s1:=hBw.size;have hl1:=hp.l1;clear hW1 hp hbx hs1;obtain ⟨d,hd⟩:∃ d,d = chkP p:=⟨_,rfl⟩
 have HD:Hid (d = chkP p):=hd;by_cases h0:d = 0
 ·have F1:rtE p v key = if ar_ v n1 = true then kerr key.data.toList else 5:=by unfold rtE;rw [if_pos (by rw [← hd];exact h0),hl1]
  have h4:n1≤4:=by have:=(bc_ (by rw [← hd];exact h0)).few.1;rw [hl1] at this;exact this
  clear hd;subst h0;cases hnum:ar_ v n1 with
  | false =>
    have hin:inR v 0 ((n1:Int) - 1) = false:=by rw [i6_];exact hnum
    rw [hnum] at F1;rw [F1];clear F1 hnum hl1;go_enter Tryz.func118,Tryz.ntmps118;go_wp2_with fail
    rw [← HW1.out];refine (d9_ p _ _ _ _ _ _ _ _ _ _ HP1.out.l1 HP1.out.l2 HP1.out.l3 HP1.out.sz HP1.out.p1 HP1.out.p2 HP1.out.p3).mono ?_;rintro e w2 ⟨rfl,hB2⟩;rw [← HD.out];obtain ⟨d0,d1,d2⟩:=BX.out w2 hB2;go_wp2_with (go_at_call 63;refine (aC_ _ _ _ _).mono ?_;rintro e w3 ⟨rfl,rfl⟩)
    go_ret
    exact ⟨rfl,hBw.trans (hB2.mono s1)⟩
  | true =>
    have hin:inR v 0 ((n1:Int) - 1) = true:=by rw [i6_];exact hnum
    obtain ⟨dk,hdk⟩:∃ dk,dk = kerr key.data.toList:=⟨_,rfl⟩
    have HK:Hid (dk = kerr key.data.toList):=hdk;rw [hnum,if_pos rfl,← hdk] at F1;rw [F1];clear F1 hnum hl1 hdk;go_enter Tryz.func118,Tryz.ntmps118;go_wp2_with fail
    rw [← HW1.out];refine (d9_ p _ _ _ _ _ _ _ _ _ _ HP1.out.l1 HP1.out.l2 HP1.out.l3 HP1.out.sz HP1.out.p1 HP1.out.p2 HP1.out.p3).mono ?_;rintro e w2 ⟨rfl,hB2⟩;rw [← HD.out];obtain ⟨d0,d1,d2⟩:=BX.out w2 hB2;go_wp2_with (first
     | (go_at_call 63;refine (aC_ _ _ _ _).mono ?_;rintro e w3 ⟨rfl,rfl⟩)
     | (go_at_call 128;refine (dV_ _ _).mono ?_;rintro e w4 ⟨rfl,hB4⟩;rw [← HK.out]))
    go_ret
    exact ⟨rfl,hBw.trans ((hB2.trans (hB4.mono hB2.size)).mono s1)⟩
 ·have F1:rtE p v key = d:=by unfold rtE;rw [if_neg (by rw [← hd];exact h0),hd]
  have h0':(d != 0) = true:=bne_iff_ne.2 h0;rw [F1];clear h0 hd F1 hl1;go_enter Tryz.func118,Tryz.ntmps118;go_wp2_with fail
  rw [← HW1.out];refine (d9_ p _ _ _ _ _ _ _ _ _ _ HP1.out.l1 HP1.out.l2 HP1.out.l3 HP1.out.sz HP1.out.p1 HP1.out.p2 HP1.out.p3).mono ?_;rintro e w2 ⟨rfl,hB2⟩;rw [← HD.out];go_wp2_with fail
  go_ret
  exact ⟨rfl,hBw.trans (hB2.mono s1)⟩
end Go.Proofs.YtlbnkpicnokgoaaGreat
namespace Go.Proofs.YtlbnkpicnokgoaaGreat
open Go.RowKit Go.Shelf
set_option linter.unusedVariables false
set_option maxRecDepth 100000
set_option maxHeartbeats 2000000
attribute [local go_sem] Oper.semAt_some
theorem Below.grows {W W':World} (h:Below W.heap.size W W'):W.grownBy W' none:=⟨h.os,h.tape,h.output,h.size,fun k hk _=>h.block k hk⟩
theorem aN_ {p:Prop} (h:p):Hid p:=h
structure cF_ (n0 B:Nat) (W W':World):Prop where
 below:Below n0 W W'
 box:∀ j,j < 3→W'.heap[B+j]? = W.heap[B+j]?
theorem cF_.refl (n0 B:Nat) (W:World):cF_ n0 B W W:=⟨Below.refl _ _,fun _ _=>rfl⟩
theorem cF_.trans {n0 B:Nat} {X Y Z:World} (h:cF_ n0 B X Y) (k:cF_ n0 B Y Z):cF_ n0 B X Z:=⟨h.below.trans k.below,fun j hj=>(k.box j hj).trans (h.box j hj)⟩
theorem cF_.of_below {n0 B b:Nat} {W W':World} (h:Below b W W') (h0:n0≤b) (hb:B+3≤b):cF_ n0 B W W':=⟨h.mono h0,fun j hj=>h.block _ (by omega)⟩
structure cZ_ (W:World) (B:Nat) (a1 a2 a3:Option Addr) (n1 c1 n2 c2 n3 c3:Nat) (v:Int) (key:ByteArray):Prop where
 p:W.heap[B]? = some (.cells #[.slice a1 n1 c1,.slice a2 n2 c2,.slice a3 n3 c3] 26 (0,0))
 v:W.heap[B+1]? = some (.cells #[.int .i64 v] 3 (0,0))
 k:W.heap[B+2]? = some (.cells #[.string key] 9 (0,0))
theorem cZ_.keep {W W':World} {n0 B:Nat} {a1 a2 a3:Option Addr} {n1 c1 n2 c2 n3 c3:Nat} {v:Int} {key:ByteArray} (h:cZ_ W B a1 a2 a3 n1 c1 n2 c2 n3 c3 v key) (k:cF_ n0 B W W'):cZ_ W' B a1 a2 a3 n1 c1 n2 c2 n3 c3 v key:=
 ⟨(k.box 0 (by omega)).trans h.p,(k.box 1 (by omega)).trans h.v,(k.box 2 (by omega)).trans h.k⟩
theorem aX_ {W:World} {b:Nat} {cs:Array Value} {t:TypeId} (h:W.heap[b]? = some (.cells cs t (0,0))) (i:Nat):W.cell? ⟨b,i,none⟩ = cs[i]?:=by
 unfold World.cell?;simp only;rw [h];simp
theorem kj_ {p:ad_} {key:ByteArray} (hc:chkP p = 0) (hk:kerr key.data.toList = 0) {k:Nat} (h:k < p.binds.length):fitB p k key = fitP p k key:=by
 have e:fitE p k key = 0:=by
  unfold fitE;rw [if_pos hc,if_pos (by unfold ar_;simp;omega),hk]
 unfold fitB;rw [if_pos e,Int.toNat_natCast]
theorem db_ {p:ad_} {k:Nat} (h:k < p.binds.length):bAt p k = p.binds[k]:=by unfold bAt;simp [List.getD,h]
theorem gK_ (n:Nat) (v1 v2 v3:Value) (v:Int) (key:ByteArray) (w:World) :
 CallsIn Fence.wide n Tryz.prog 136 #[.agg #[v1,v2,v3],.int .i64 v,.string key] w fun e w'=>e = .returned (.func (.func 165) #[] #[.pointer (some ⟨w.heap.size,0,none⟩),.pointer (some ⟨w.heap.size+1,0,none⟩),.pointer (some ⟨w.heap.size+1+1,0,none⟩)])∧w' = ((w.alloc (.cells #[v1,v2,v3] 26)).alloc (.cells #[.int .i64 v] 3)).alloc (.cells #[.string key] 9):=by
 refine callsIn_of_wp Tryz.func136 rfl trivial ?_ rfl;simp only [Tryz.ntmps136,List.size_toArray,List.length_cons,List.length_nil,Nat.reduceAdd,Nat.reduceSub,Array.replicate_succ,Array.replicate_zero,List.push_toArray,List.append_toArray,List.nil_append,List.cons_append];gi_wp2
 go_ret
 exact ⟨rfl,rfl⟩
theorem eD_ (w:World) (a1 a2 a3:Option Addr) (n1 c1 n2 c2 n3 c3:Nat) (v:Int) (key:ByteArray):∃ W,W = ((w.alloc (.cells #[.slice a1 n1 c1,.slice a2 n2 c2,.slice a3 n3 c3] 26)).alloc (.cells #[.int .i64 v] 3)).alloc (.cells #[.string key] 9) ∧
 cZ_ W w.heap.size a1 a2 a3 n1 c1 n2 c2 n3 c3 v key∧Below w.heap.size w W∧W.heap.size = w.heap.size+3:=by
 refine ⟨_,rfl,⟨?_,?_,?_⟩,?_,by simp⟩
 ·rw [Below.heap_alloc _ _ _ (by simp;omega),Below.heap_alloc _ _ _ (by simp)];exact World.alloc_heap_new w _
 ·rw [Below.heap_alloc _ _ _ (by simp)];have:=World.alloc_heap_new (w.alloc (.cells #[.slice a1 n1 c1,.slice a2 n2 c2,.slice a3 n3 c3] 26)) (.cells #[.int .i64 v] 3);rw [World.size_alloc] at this;exact this
 ·have:=World.alloc_heap_new ((w.alloc (.cells #[.slice a1 n1 c1,.slice a2 n2 c2,.slice a3 n3 c3] 26)).alloc (.cells #[.int .i64 v] 3)) (.cells #[.string key] 9);rw [World.size_alloc,World.size_alloc] at this;exact this
 ·exact (((Below.refl _ _).alloc (Nat.le_refl _) _).alloc (by simp) _).alloc (by simp;omega) _
theorem i0_ (n:Nat) (hn:1≤n) (l B:Nat) (p:ad_) (a1 a2 a3:Option Addr) (n1 c1 n2 c2 n3 c3:Nat) (v:Int) (key:ByteArray) (w0:World) (hc:chkP p = 0) (hk:kerr key.data.toList = 0) (hp:ap_ w0 a1 a2 a3 n1 n2 n3 p) (hB0:w0.heap.size≤B)
 (J Jx:List Nat→World→Prop) (W:World) (hWB:B+3≤W.heap.size) (h0W:Below w0.heap.size w0 W) (hbx:cZ_ W B a1 a2 a3 n1 c1 n2 c2 n3 c3 v key)
 (hJ:AbidesFrom W.heap.size J)
 (hY:∀ pre x W1,J pre W1→pre.length < (bS_ p key v).length→YieldAt Fence.wide (n - 1) Tryz.prog l #[.int .i64 (x:Nat),(bAt p x).val] W1 fun e W'=>
  (e = .returned (.bool true)∧J (pre ++ [x]) W'∧cF_ w0.heap.size B W1 W')∨(e = .returned (.bool false)∧Jx (pre ++ [x]) W'))
 (h0:J [] W) :
 CallsIn Fence.wide n Tryz.prog 165 #[.func (.yield l) #[] #[],.pointer (some ⟨B,0,none⟩),.pointer (some ⟨B+1,0,none⟩),.pointer (some ⟨B+1+1,0,none⟩)] W fun e W'=>(∃ v,e = .returned v) ∧
  ((∃ ys,ys = bS_ p key v∧J ys W')∨(∃ pre,pre <+: bS_ p key v∧Jx pre W')):=by
 have HP:Hid (ap_ w0 a1 a2 a3 n1 n2 n3 p):=hp;have HBX:Hid (cZ_ W B a1 a2 a3 n1 c1 n2 c2 n3 c3 v key):=hbx;have HFP:Hid (∀ k,k < p.binds.length→fitB p k key = fitP p k key):=fun k h=>kj_ hc hk h
 have hl3:p.binds.length = n3:=hp.l3;have HL3:Hid (p.binds.length = n3):=hl3;have h10:n3≤10:=by have:=(bc_ hc).few.2.2;omega
 have HJ:Hid (AbidesFrom W.heap.size J):=hJ;have HY:=aN_ hY;have b0:=aX_ hbx.p 0;have b2:=aX_ hbx.p 2;simp at b0 b2;clear hp hbx hc hk hl3 hJ hY;refine callsIn_of_wp Tryz.func165 rfl trivial ?_ rfl;simp only [Tryz.ntmps165,List.size_toArray,List.length_cons,List.length_nil,Nat.reduceAdd,Nat.reduceSub,Array.replicate_succ,Array.replicate_zero,List.push_toArray,List.append_toArray,List.nil_append,List.cons_append];gi_wp2
 gi_loopw [12] (fun iv wr=>∃ (k:Nat),k≤n3∧iv = .int .i64 k∧J (b9_ p key v k) wr∧cF_ w0.heap.size B W wr) (fun iv _=>n3 - (intOf iv).toNat)
 case atStart=>exact ⟨0,Nat.zero_le _,rfl,h0,cF_.refl _ _ _⟩
 case round=>
  obtain ⟨k,hk,rfl,hJs,hKf⟩:=hrel;have hwr:=hKf.below.size;obtain ⟨x0,x1,x2⟩:=HBX.out.keep hKf;have e0:=aX_ x0 0;have e1:=aX_ x0 1;have e2:=aX_ x0 2;have e3:=aX_ x1 0;have e4:wr.cell? ⟨B+1+1,0,none⟩ = some (.string key):=aX_ x2 0;simp at e0 e1 e2 e3;by_cases hlt:k < n3
  ·have hkl:k < p.binds.length:=by rw [HL3.out];exact hlt
   have hB0r:Below w0.heap.size w0 wr:=h0W.trans hKf.below;obtain ⟨g,o,rfl,hg,hx⟩:=HP.out.p3.cells (by omega);obtain ⟨z1,z2,z3,z4⟩:=hx k hkl;obtain ⟨y,hy⟩:∃ y,y = p.binds[k]:=⟨_,rfl⟩
   rw [← hy] at z1 z2 z3 z4;have HYB:Hid (bAt p k = y):=by show bAt p k = y;rw [db_ hkl,hy]
   have y1:=(hB0r.cell (p:=⟨g,_,none⟩) hg).trans z1;have y2:=(hB0r.cell (p:=⟨g,_,none⟩) hg).trans z2;have y3:=(hB0r.cell (p:=⟨g,_,none⟩) hg).trans z3;have y4:=(hB0r.cell (p:=⟨g,_,none⟩) hg).trans z4;have hgr:g < wr.heap.size:=Nat.lt_of_lt_of_le hg hB0r.size;have k0:B < wr.heap.size:=by omega
   have k1:B+1 < wr.heap.size:=by omega
   have k2:B+1+1 < wr.heap.size:=by omega
   clear hx z1 z2 z3 z4 hy;obtain ⟨f,tp,t,pt⟩:=y;dsimp only at y1 y2 y3 y4;have j1:(0:Int)≤(k:Int):=by omega
   have j2:(k:Int) < n3:=by omega
   obtain ⟨W1,hW1⟩:∃ W1,W1 = wr.alloc (.cells #[.int .i64 f,.bool tp,.int .i64 t,.string pt] 100):=⟨_,rfl⟩
   have HW1:Hid (W1 = _):=hW1;have hBa:Below wr.heap.size wr W1:=by rw [hW1];exact (Below.refl _ _).alloc (Nat.le_refl _) _
   have hsa:wr.heap.size+1≤W1.heap.size:=by rw [hW1];simp
   have hnew:W1.heap[wr.heap.size]? = some (.cells #[.int .i64 f,.bool tp,.int .i64 t,.string pt] 100 (0,0)):=by rw [hW1];exact World.alloc_heap_new wr _
   clear hW1;by_cases hf:f = v
   ·subst hf;have hJ1:J (b9_ p key f k) W1:=HJ.out _ wr _ none hJs (Below.grows hBa) (fun r e=>by cases e);have HPr:Hid (ap_ W1 a1 a2 (some ⟨g,o,none⟩) n1 n2 n3 p):=HP.out.keep (hB0r.trans (hBa.mono hB0r.size));clear hJs;gi_wp2_with fail
    refine ⟨trivial,?_⟩;rw [← HW1.out];refine (callsIn_wide.2 (m8_ p _ _ _ _ _ _ _ _ _ _ _ _ HPr.out)).mono ?_;rintro e W2 ⟨rfl,hB2⟩;rw [HFP.out k hkl];have hJ2:J (b9_ p key f k) W2:=HJ.out _ W1 _ none hJ1 (Below.grows hB2) (fun r e=>by cases e);have hB12:Below wr.heap.size wr W2:=hBa.trans (hB2.mono hBa.size);have hK2:cF_ w0.heap.size B W W2:=hKf.trans (cF_.of_below hB12 (by omega) (by omega));have hnew2:W2.heap[wr.heap.size]? = some (.cells #[.int .i64 f,.bool tp,.int .i64 t,.string pt] 100 (0,0)):=(hB2.block _ (by omega)).trans hnew;have m0:=aX_ hnew2 0;have m1:=aX_ hnew2 1;have m2:=aX_ hnew2 2;have m3:=aX_ hnew2 3;simp at m0 m1 m2 m3;clear e0 e1 e2 e3 e4 x0 x1 x2 y1 y2 y3 y4 hnew hnew2 b0 b2 hJ1;cases hfit:fitP p k key with
    | false =>
      have HG:Hid (b9_ p key f (k+1) = b9_ p key f k):=jK_ (by unfold dO_;rw [hfit];simp);clear hfit;gi_wp2
      refine ⟨fun f h=>(nomatch h),?_⟩;gi_wp2
      go_roundw
      case rel=>exact ⟨k+1,by omega,by go_num,by rw [HG.out];exact hJ2,hK2⟩
      case measure=>simp [intOf];omega
    | true =>
      have hgo:dO_ p key f k = true:=by unfold dO_;rw [HYB.out,hfit];simp
      have HG:Hid (b9_ p key f (k+1) = b9_ p key f k ++ [k]):=h4_ hgo;have HPre:Hid (b9_ p key f k ++ [k] <+: bS_ p key f):=by
       show b9_ p key f k ++ [k] <+: bS_ p key f;rw [← h4_ hgo];unfold bS_;exact ls_ p key f (by omega)
      have hlen:(b9_ p key f k).length < (bS_ p key f).length:=by
       have:=HPre.out.length_le;simp at this;omega
      obtain ⟨fn,tmps,assign,body,hy,hR⟩:=HY.out _ k W2 hJ2 hlen;have hval:(bAt p k).val = .agg #[.int .i64 f,.bool tp,.int .i64 t,.string pt]:=by rw [HYB.out];rfl
      rw [hval] at hy;clear hfit hgo hval hJ2 hlen;gi_wp2
      refine hR.mono ?_;rintro e W3 (⟨rfl,hJ3,hK3⟩ | ⟨rfl,hJx3⟩)
      ·gi_wp2
       go_roundw
       case rel=>exact ⟨k+1,by omega,by go_num,by rw [HG.out];exact hJ3,hK2.trans hK3⟩
       case measure=>simp [intOf];omega
      ·gi_wp2
       refine bodyPost_ret (results_none rfl _ _ _) rfl ?_;exact ⟨⟨_,rfl⟩,.inr ⟨_,HPre.out,hJx3⟩⟩
   ·have HG:Hid (b9_ p key v (k+1) = b9_ p key v k):=jK_ (by unfold dO_;rw [HYB.out];simp [hf]);have hf':(f != v) = true:=bne_iff_ne.2 hf;have HJ1:Hid (J (b9_ p key v k) W1):=HJ.out _ wr _ none hJs (Below.grows hBa) (fun r e=>by cases e);clear hJs hf;gi_wp2
    rw [← HW1.out];go_roundw
    case rel=>exact ⟨k+1,by omega,by go_num,by rw [HG.out];exact HJ1.out,hKf.trans (cF_.of_below hBa (by omega) (by omega))⟩
    case measure=>simp [intOf];omega
  ·have HE:Hid (b9_ p key v k = bS_ p key v):=by show b9_ p key v k = _;unfold bS_;rw [HL3.out];congr 1;omega
   gi_wp2
   go_end0
   exact ⟨⟨_,rfl⟩,.inl ⟨_,HE.out,hJs⟩⟩
theorem h5_ (n:Nat) (hn:1≤n) (B:Nat) (p:ad_) (a1 a2 a3:Option Addr) (n1 c1 n2 c2 n3 c3:Nat) (v:Int) (key:ByteArray) (w0 w:World) (hc:chkP p = 0) (hk:kerr key.data.toList = 0) (hp:ap_ w0 a1 a2 a3 n1 n2 n3 p) (hB0:w0.heap.size≤B)
 (hWB:B+3≤w.heap.size) (h0W:Below w0.heap.size w0 w) (hbx:cZ_ w B a1 a2 a3 n1 c1 n2 c2 n3 c3 v key) :
 SeqStopsK Fence.wide n Tryz.prog 165 #[.pointer (some ⟨B,0,none⟩),.pointer (some ⟨B+1,0,none⟩),.pointer (some ⟨B+1+1,0,none⟩)] (fun x:Nat=>#[.int .i64 (x:Nat),(bAt p x).val]) (cF_ w0.heap.size B) (fun ys=>ys = bS_ p key v) (fun pre=>pre <+: bS_ p key v) (bS_ p key v).length w:=fun l J Jx W hW hJ _ hY h0=>
 i0_ n hn l B p a1 a2 a3 n1 c1 n2 c2 n3 c3 v key w0 hc hk hp hB0 J Jx W (by have:=hW.size;omega) (h0W.trans (hW.mono h0W.size)) (hbx.keep (cF_.of_below (n0:=0) hW (Nat.zero_le _) hWB)) hJ hY h0
theorem lC_ {n0 B:Nat} {w:World} (hn:n0≤w.heap.size) (hB:B+3≤w.heap.size) (W:World) (l:Nat) (o o':Obj) (hl:w.heap.size≤l) (h:W.heap[l]? = some o):cF_ n0 B W (W.putObj l o'):=
 ⟨⟨rfl,rfl,rfl,by simp [World.putObj],fun k hk=>World.putObj_heap_other (by omega)⟩,fun j hj=>World.putObj_heap_other (by omega)⟩
end Go.Proofs.YtlbnkpicnokgoaaGreat
namespace Go.Proofs.YtlbnkpicnokgoaaGreat
open Go.RowKit Go.Shelf Go.Maps
set_option linter.unusedVariables false
set_option maxRecDepth 100000
set_option maxHeartbeats 2000000
structure Turn (X:Nat→Prop) (W W':World):Prop where
 os:W'.os = W.os
 tape:W'.tape = W.tape
 output:W'.output = W.output
 size:W.heap.size≤W'.heap.size
 block:∀ k,k < W.heap.size→¬ X k→W'.heap[k]? = W.heap[k]?
theorem Turn.refl (X:Nat→Prop) (W:World):Turn X W W:=⟨rfl,rfl,rfl,Nat.le_refl _,fun _ _ _=>rfl⟩
theorem Turn.trans {X Y:Nat→Prop} {A B C:World} (h:Turn X A B) (k:Turn Y B C) (hy:∀ i,i < A.heap.size→Y i→X i):Turn X A C:=
 ⟨k.os.trans h.os,k.tape.trans h.tape,k.output.trans h.output,Nat.le_trans h.size k.size,fun i hi hx=>(k.block i (Nat.lt_of_lt_of_le hi h.size) (fun y=>hx (hy i hi y))).trans (h.block i hi hx)⟩
theorem Turn.of_grown {X:Nat→Prop} {W W':World} {row:Option Nat} (h:W.grownBy W' row) (hx:∀ r,row = some r→X r):Turn X W W':=
 ⟨h.os,h.tape,h.output,h.size,fun k hk hn=>h.block k hk (fun e=>hn (hx k e.symm))⟩
theorem Turn.of_below {W W':World} (X:Nat→Prop) (h:Below W.heap.size W W'):Turn X W W':=⟨h.os,h.tape,h.output,h.size,fun k hk _=>h.block k hk⟩
theorem Turn.mono {X Y:Nat→Prop} {W W':World} (h:Turn X W W') (hy:∀ i,i < W.heap.size→X i→Y i):Turn Y W W':=⟨h.os,h.tape,h.output,h.size,fun k hk hn=>h.block k hk (fun x=>hn (hy k hk x))⟩
theorem Turn.below {X:Nat→Prop} {n:Nat} {W W':World} (h:Turn X W W') (hn:n≤W.heap.size) (hx:∀ i,X i→n≤i):Below n W W':=
 ⟨h.os,h.tape,h.output,h.size,fun k hk=>h.block k (by omega) (fun x=>by have:=hx k x;omega)⟩
theorem Turn.boxed {X:Nat→Prop} {W W':World} (h:Turn X W W') {B:Nat} {t:TypeId} {v:Value} (hb:Boxed W B t v) (hx:¬ X B):Boxed W' B t v:=(h.block B hb.lt hx).trans hb
theorem Turn.row {X:Nat→Prop} {W W':World} (h:Turn X W W') {base:Nat} {e:TypeId} {size:Nat} {v:Value} {n:Nat} {xs:List Value} (hr:W.ownsRow base e size v n xs) (hx:∀ g,v.ownBlock = some g→¬ X g):W'.ownsRow base e size v n xs:=by
 refine ⟨hr.1,?_⟩;rcases hr.2 with h1 | ⟨g,cap,cur,rfl,h2,h3,h4⟩
 ·exact .inl h1
 ·exact .inr ⟨g,cap,cur,rfl,h2,(h.block g (Array.getElem?_eq_some_iff.1 h3).1 (hx g rfl)).trans h3,h4⟩
theorem Turn.map {X:Nat→Prop} {W W':World} (h:Turn X W W') {P:Program} {k:TypeId} {R:Value→Option (DataW Unit × List MemPlace)} {b n:Nat} {D:DataW Unit} (hm:W.ownsMap P k R b n D) (hx:¬ X b):W'.ownsMap P k R b n D:=by
 obtain ⟨es,cl,h1,h2⟩:=hm;exact ⟨es,cl,(h.block b (Array.getElem?_eq_some_iff.1 h1).1 hx).trans h1,h2⟩
def lN_ (D:Nat):Deferred:={ target:=.collected D,args:=#[] }
structure Marks (n0:Nat) (Ds:List Nat) (W:World):Prop where
 once:Ds.Nodup
 there:∀ D ∈ Ds,n0≤D∧W.heap[D]? = some (.deferred (some []))
theorem Marks.lt {n0:Nat} {Ds:List Nat} {W:World} (h:Marks n0 Ds W):∀ D ∈ Ds,D < W.heap.size:=fun D hD=>(Array.getElem?_eq_some_iff.1 (h.there D hD).2).1
theorem Marks.turn {n0:Nat} {Ds:List Nat} {X:Nat→Prop} {W W':World} (h:Marks n0 Ds W) (t:Turn X W W') (hx:∀ D ∈ Ds,¬ X D):Marks n0 Ds W':=
 ⟨h.once,fun D hD=>⟨(h.there D hD).1,(t.block D (h.lt D hD) (hx D hD)).trans (h.there D hD).2⟩⟩
theorem Marks.cons {n0:Nat} {Ds:List Nat} {W:World} (h:Marks n0 Ds W) {D:Nat} (h1:D ∉ Ds) (h2:n0≤D) (h3:W.heap[D]? = some (.deferred (some []))):Marks n0 (D :: Ds) W:=
 ⟨List.nodup_cons.2 ⟨h1,h.once⟩,fun E hE=>by
  rcases List.mem_cons.1 hE with rfl | hE
  ·exact ⟨h2,h3⟩
  ·exact h.there E hE⟩
theorem c3_ {F:Fence} {n:Nat} {P:Program} {fn:Func} {tmps:Array Value} {R:Ending→World→Prop} {n0:Nat}:∀ {Ds:List Nat} {W:World},Marks n0 Ds W →
 (∀ W',Turn (fun k=>k ∈ Ds) W W'→LeavesInM F n P fn tmps R [] .returning W')→LeavesInM F n P fn tmps R (Ds.map lN_) .returning W
 | [],W,_,h=>h W (Turn.refl _ _)
 | D :: Ds, W, hm, h => by
   obtain ⟨h1,h2⟩:=List.nodup_cons.1 hm.once;have hD:=(hm.there D (by simp)).2;refine ⟨by simp,.inl ⟨D,_,rfl,run_takeDeferred hD,?_⟩⟩;have t1:Turn (fun k=>k = D) W (W.putObj D (.deferred none)):=Turn.of_grown (grownBy_putObj' W D _) (fun r e=>by cases e;rfl);refine c3_ (n0:=n0) (Ds:=Ds) ⟨h2,fun E hE=>⟨(hm.there E (by simp [hE])).1,?_⟩⟩ (fun W' hW'=>h W' ?_)
   ·exact (World.putObj_heap_other (k:=E) (r:=D) (fun e=>h1 (by rw [← e];exact hE))).trans (hm.there E (by simp [hE])).2
   ·exact (t1.mono (Y:=fun k=>k ∈ D :: Ds) (fun i _ e=>by subst e;exact List.mem_cons_self)).trans hW' (fun i _ hi=>by exact List.mem_cons_of_mem _ hi)
def ih_ (t:List Nat):Int:=match t.getLast? with | none=>-1 | some n=>(n:Int)
def byD (L:Trails):DataW Unit:=L.foldl (fun D x=>D.put (.int .i64 (x.1:Nat)) (.lit (.int .i64 (ih_ x.2)))) (.map [])
theorem jD_ (L:Trails) (x:Nat × List Nat):byD (L ++ [x]) = (byD L).put (.int .i64 (x.1:Nat)) (.lit (.int .i64 (ih_ x.2))):=by unfold byD;rw [List.foldl_append];rfl
theorem ja_ (t:List Nat) (n:Nat):ih_ (t ++ [n]) = n:=by unfold ih_;simp
theorem lj_ (L:Trails):IsMap (byD L):=by
 unfold byD;have:∀ (L:Trails) (D:DataW Unit),IsMap D→IsMap (L.foldl (fun D x=>D.put (.int .i64 (x.1:Nat)) (.lit (.int .i64 (ih_ x.2)))) D):=by
  intro L;induction L with
  | nil=>intro D h;exact h
  | cons x r ih=>intro D h;exact ih _ (h.put _ _)
 exact this L _ isMap_empty
theorem oE_ {a b:Nat} (h:a≠b):(Lit.int .i64 (a:Int))≠Lit.int .i64 (b:Int):=fun e=>h (by injection e with _ e;omega)
theorem nE_ {α:Type} {p:List α→Prop} (h0:p []) (h1:∀ l x,p l→p (l ++ [x])) (l:List α):p l:=by
 have:∀ (m:List α),p m.reverse:=by
  intro m;induction m with
  | nil=>exact h0
  | cons x r ih=>rw [List.reverse_cons];exact h1 _ x ih
 have:=this l.reverse;rwa [List.reverse_reverse] at this
theorem n0_ (L:Trails) (v:Nat):has (byD L) (.int .i64 (v:Nat)) = decide (v ∈ L.map Prod.fst):=by
 induction L using nE_ with
 | h0=>simp [byD,has]
 | h1 L x ih =>
   rw [jD_];by_cases e:x.1 = v
   ·subst e;rw [has_put_same (k:=Lit.int .i64 (x.1:Nat)) (lj_ L) trivial];simp
   ·rw [has_put_other (oE_ (fun h=>e h.symm)),ih];rw [Bool.eq_iff_iff];simp;omega
attribute [local go_sem] Oper.semAt_some
def bE_ (p:ad_) (key:ByteArray) (n:Nat):Option (Nat × Nat):=if n < p.binds.length∧fitP p n key = true∧(bAt p n).toPost = true then some ((bAt p n).src.toNat,(bAt p n).dst.toNat) else none
theorem fn_ {p:ad_} {key:ByteArray}:∀ m q,bE_ p key m = some q→m < p.binds.length:=by
 intro m q h;unfold bE_ at h;split at h
 ·rename_i h1;exact h1.1
 ·cases h
def cstep (p:ad_) (t:List Nat) (L:Trails) (n:Nat):Trails:=if (bAt p n).toPost = true∧(bAt p n).dst.toNat ∉ L.map Prod.fst then L ++ [((bAt p n).dst.toNat,t ++ [n])] else L
theorem kl_ {p:ad_} {key:ByteArray} (hr:bx_ p) (u:Nat) (t:List Nat) (L:Trails):(bS_ p key (u:Int)).foldl (cstep p t) L = tround (bE_ p key) p.binds.length (u,t) L:=by
 unfold bS_ b9_ tround;rw [List.foldl_filter];have:∀ (l:List Nat) (L:Trails),(∀ n ∈ l,n < p.binds.length)→l.foldl (fun x y=>if dO_ p key (u:Int) y = true then cstep p t x y else x) L = l.foldl (tstep (bE_ p key) u t) L:=by
  intro l;induction l with
  | nil=>intro L _;rfl
  | cons n r ih =>
    intro L hl;rw [List.foldl_cons,List.foldl_cons];have hn:n < p.binds.length:=hl n (by simp);have e:(if dO_ p key (u:Int) n = true then cstep p t L n else L) = tstep (bE_ p key) u t L n:=by
     have hs:0≤(bAt p n).src:=by rw [db_ hn];exact (hr.src _ (List.getElem_mem hn)).1
     have h3':(bAt p n).src.toNat = u↔(bAt p n).src = (u:Int):=by omega
     unfold tstep;by_cases h1:fitP p n key = true∧(bAt p n).toPost = true
     ·have ea:bE_ p key n = some ((bAt p n).src.toNat,(bAt p n).dst.toNat):=by unfold bE_;rw [if_pos ⟨hn,h1⟩]
      rw [ea];dsimp only;by_cases h3:(bAt p n).src = (u:Int)
      ·rw [if_pos (by unfold dO_;simp [h3,h1.1])];unfold cstep;by_cases hm:(bAt p n).dst.toNat ∈ L.map Prod.fst
       ·rw [if_neg (fun h=>h.2 hm),if_neg (fun h=>h.2 hm)]
       ·rw [if_pos ⟨h1.2,hm⟩,if_pos ⟨h3'.2 h3,hm⟩]
      ·rw [if_neg (by unfold dO_;simp [h3]),if_neg (fun h=>h3 (h3'.1 h.1))]
     ·have ea:bE_ p key n = none:=by unfold bE_;rw [if_neg (fun h=>h1 h.2)]
      rw [ea];dsimp only;by_cases hg:dO_ p key (u:Int) n = true
      ·rw [if_pos hg];have hf:fitP p n key = true:=by unfold dO_ at hg;simp at hg;exact hg.2
       unfold cstep;rw [if_neg (fun h=>h1 ⟨hf,h.1⟩)]
      ·rw [if_neg hg]
    rw [e];exact ih _ (fun m hm=>hl m (by simp [hm]))
 exact this _ L (fun n hn=>by simpa using hn)
theorem Tryz.infoInt:(Tryz.prog.info? 3).map (fun i=>(i.zero,i.size,i.bytes)) = some (some (.int .i64 0),1,8):=by kernel_rfl
theorem zero3 (w:World):(zeroValue 3).run Tryz.prog w = .ok (.int .i64 0) w:=by kernel_rfl
theorem oP_ {p:ad_} {y:Nat} (h:(bAt p y).toPost = true):y < p.binds.length:=by
 by_cases hx:y < p.binds.length
 ·exact hx
 ·have:bAt p y = ⟨0,false,0,⟨#[]⟩⟩:=by unfold bAt;simp [List.getD,List.getElem?_eq_none (Nat.not_lt.1 hx)]
  rw [this] at h;cases h
theorem key3:Keyed Tryz.prog 3:=int_keyed Tryz.underlying3
theorem hQ_ (g o j:Nat):(⟨g,o,none⟩:Addr).add j = ⟨g,o+j,none⟩:=by unfold Addr.add;split <;> simp_all
def calmly (Q:Exit→Act→World→Prop):Exit→Act→World→Prop
 | .panic _,_,_=>False
 | e,a,w=>Q e a w
theorem gD_ {Q:Exit→Act→World→Prop}:∀ e a w,calmly Q e a w→Q e a w:=fun e a w h=>by cases e <;> first | exact h | exact h.elim
theorem l4_ {W:World} {base base':Nat} {e:TypeId} {size:Nat} {v:Value} {n:Nat} {xs:List Value} (h:W.ownsRow base e size v n xs) (hb:base'≤base):W.ownsRow base' e size v n xs:=by
 refine ⟨h.1,?_⟩;rcases h.2 with h | ⟨g,cap,cur,h1,h2,h3⟩
 ·exact .inl h
 ·exact .inr ⟨g,cap,cur,h1,Nat.le_trans hb h2,h3⟩
abbrev ints (L:Trails):List Value:=L.map (fun x=>.int .i64 (x.1:Nat))
structure RSt (w:World) (pv:Array Value) (b4:Nat) (u:Value) (L:Trails) (Ds:List Nat) (W:World):Prop where
 below:Below w.heap.size w W
 pbox:W.heap[w.heap.size]? = some (.cells pv 26 (0,0))
 lbox:Boxed W (w.heap.size+1+1) 32 u
 row:W.ownsRow (w.heap.size+1) 3 1 u L.length (ints L)
 map:W.ownsMap Tryz.prog 3 (plainElem Tryz.prog 3) (w.heap.size+1+1+1) L.length (byD L)
 mbox:Boxed W b4 159 (.map (some (w.heap.size+1+1+1)))
 b4:w.heap.size+1+1+1 < b4
 marks:Marks (w.heap.size+1) Ds W
theorem RSt.mapAt {w:World} {pv:Array Value} {b4:Nat} {u:Value} {L:Trails} {Ds:List Nat} {W:World} (h:RSt w pv b4 u L Ds W):∃ es cl,W.heap[w.heap.size+1+1+1]? = some (.map es cl):=by
 obtain ⟨es,cl,h1,_⟩:=h.map;exact ⟨es,cl,h1⟩
theorem RSt.rowAt {w:World} {pv:Array Value} {b4:Nat} {u:Value} {L:Trails} {Ds:List Nat} {W:World} (h:RSt w pv b4 u L Ds W) {g:Nat} (hg:u.ownBlock = some g):w.heap.size+1≤g∧(∃ cur,W.heap[g]? = some (.cells cur 3 (0,0))):=by
 rcases h.row.2 with ⟨rfl,_⟩ | ⟨g',cap,cur,rfl,h2,h3,_⟩
 ·simp [Value.ownBlock] at hg
 ·simp only [Value.ownBlock,Option.some.injEq] at hg;subst hg;exact ⟨h2,cur,h3⟩
theorem RSt.row_ne {w:World} {pv:Array Value} {b4:Nat} {u:Value} {L:Trails} {Ds:List Nat} {W:World} (h:RSt w pv b4 u L Ds W) {g:Nat} (hg:u.ownBlock = some g):g≠w.heap.size∧g≠w.heap.size+1+1∧g≠w.heap.size+1+1+1∧g≠b4∧g ∉ Ds:=by
 obtain ⟨h1,cur,h2⟩:=h.rowAt hg;refine ⟨by omega,fun e=>?_,fun e=>?_,fun e=>?_,fun e=>?_⟩
 ·have:=h.lbox;unfold Boxed at this;rw [← e,h2] at this;simp at this
 ·obtain ⟨es,cl,h3⟩:=h.mapAt;rw [← e,h2] at h3;simp at h3
 ·have:=h.mbox;unfold Boxed at this;rw [← e,h2] at this;simp at this
 ·have:=(h.marks.there g e).2;rw [h2] at this;simp at this
theorem RSt.mark_ne {w:World} {pv:Array Value} {b4:Nat} {u:Value} {L:Trails} {Ds:List Nat} {W:World} (h:RSt w pv b4 u L Ds W) {D:Nat} (hD:D ∈ Ds):D≠w.heap.size∧D≠w.heap.size+1+1∧D≠w.heap.size+1+1+1∧D≠b4:=by
 obtain ⟨h1,h2⟩:=h.marks.there D hD;refine ⟨by omega,fun e=>?_,fun e=>?_,fun e=>?_⟩
 ·have:=h.lbox;unfold Boxed at this;rw [← e,h2] at this;simp at this
 ·obtain ⟨es,cl,h3⟩:=h.mapAt;rw [← e,h2] at h3;simp at h3
 ·have:=h.mbox;unfold Boxed at this;rw [← e,h2] at this;simp at this
theorem RSt.turn {w:World} {pv:Array Value} {b4:Nat} {u:Value} {L:Trails} {Ds:List Nat} {W W':World} {X:Nat→Prop} (h:RSt w pv b4 u L Ds W) (t:Turn X W W') (hx:∀ k,X k→w.heap.size≤k)
 (h0:¬ X w.heap.size) (h2:¬ X (w.heap.size+1+1)) (h3:¬ X (w.heap.size+1+1+1)) (h4:¬ X b4) (hg:∀ g,u.ownBlock = some g→¬ X g) (hD:∀ D ∈ Ds,¬ X D):RSt w pv b4 u L Ds W':=
 ⟨h.below.trans (t.below h.below.size hx),(t.block _ (Array.getElem?_eq_some_iff.1 h.pbox).1 h0).trans h.pbox,t.boxed h.lbox h2,t.row h.row hg,t.map h.map h3,t.boxed h.mbox h4,h.b4,h.marks.turn t hD⟩
theorem RSt.keep {w:World} {pv:Array Value} {b4:Nat} {u:Value} {L:Trails} {Ds:List Nat} {W W':World} (h:RSt w pv b4 u L Ds W) (hB:Below W.heap.size W W'):RSt w pv b4 u L Ds W':=
 h.turn (X:=fun _=>False) (Turn.of_below _ hB) (fun _ e=>e.elim) id id id id (fun _ _=>id) (fun _ _=>id)
theorem RSt.other {w:World} {pv:Array Value} {b4:Nat} {u:Value} {L:Trails} {Ds:List Nat} {W W':World} {row:Option Nat} {S:Nat} (h:RSt w pv b4 u L Ds W) (hg:W.grownBy W' row) (hr:∀ r,row = some r→S≤r∧∃ o:Obj,W.heap[r]? = some o∧o.isCells = false)
 (hS:b4 < S) (hDs:∀ D ∈ Ds,D < S):RSt w pv b4 u L Ds W':=by
 have hb4:=h.b4;refine h.turn (X:=fun k=>row = some k) (Turn.of_grown hg (fun r e=>e)) (fun k e=>by have:=(hr k e).1;omega) (fun e=>by have:=(hr _ e).1;omega) (fun e=>by have:=(hr _ e).1;omega) (fun e=>by have:=(hr _ e).1;omega) (fun e=>by have:=(hr _ e).1;omega) (fun g hg' e=>?_) (fun D hD e=>by have:=(hr _ e).1;have:=hDs D hD;omega);obtain ⟨_,cur,h2⟩:=h.rowAt hg';obtain ⟨_,o,h3,h4⟩:=hr g e;rw [h2] at h3;cases h3;cases h4
theorem RSt.push {w:World} {pv:Array Value} {b4:Nat} {u u':Value} {L:Trails} {Ds:List Nat} {W Wa Wc:World} {x:Nat × List Nat} {tmp:Obj} (h:RSt w pv b4 u L Ds W)
 (ha:W.grownBy Wa (some (w.heap.size+1+1+1))) (hm:Wa.ownsMap Tryz.prog 3 (plainElem Tryz.prog 3) (w.heap.size+1+1+1) (L.length+1) (byD (L ++ [x])))
 (hc:(Wa.alloc tmp).grownBy Wc u.ownBlock) (hr:Wc.ownsRow (w.heap.size+1) 3 1 u' (L.length+1) (ints L ++ [.int .i64 (x.1:Nat)])) (hl:u'.ownBlock = u.ownBlock∨u'.ownBlock = some (Wa.alloc tmp).heap.size) :
 Boxed Wc (w.heap.size+1+1) 32 u∧RSt w pv b4 u' (L ++ [x]) Ds (Wc.setCell ⟨w.heap.size+1+1,0,none⟩ u')∧Turn (fun k=>k = w.heap.size+1+1∨k = w.heap.size+1+1+1∨u.ownBlock = some k) W (Wc.setCell ⟨w.heap.size+1+1,0,none⟩ u'):=by
 have hb4:=h.b4;have t1:Turn (fun k=>k = w.heap.size+1+1+1) W Wa:=Turn.of_grown ha (fun r e=>by cases e;rfl);have t2:Turn (fun _=>False) Wa (Wa.alloc tmp):=Turn.of_grown (World.grownBy_alloc Wa tmp none) (fun r e=>by cases e);have t3:Turn (fun k=>u.ownBlock = some k) (Wa.alloc tmp) Wc:=Turn.of_grown hc (fun r e=>e);have t4:Turn (fun k=>k = w.heap.size+1+1) Wc (Wc.setCell ⟨w.heap.size+1+1,0,none⟩ u'):=Turn.of_grown (grownBy_setCell' Wc _ u') (fun r e=>by cases e;rfl);have t12:Turn (fun k=>k = w.heap.size+1+1+1) W (Wa.alloc tmp):=t1.trans t2 (fun _ _ e=>e.elim);have t13:Turn (fun k=>k = w.heap.size+1+1+1∨u.ownBlock = some k) W Wc:=(t12.mono (fun _ _ e=>.inl e)).trans t3 (fun _ _ e=>.inr e);have t14:Turn (fun k=>k = w.heap.size+1+1∨k = w.heap.size+1+1+1∨u.ownBlock = some k) W (Wc.setCell ⟨w.heap.size+1+1,0,none⟩ u'):=(t13.mono (fun _ _ e=>.inr e)).trans t4 (fun _ _ e=>.inl e);have hlb:Boxed Wc (w.heap.size+1+1) 32 u:=t13.boxed h.lbox (fun e=>by
  rcases e with e | e
  ·omega
  ·exact (h.row_ne e).2.1 rfl)
 have hsz:W.heap.size≤(Wa.alloc tmp).heap.size:=t12.size;have hlW:w.heap.size+1+1 < W.heap.size:=h.lbox.lt;have hu':∀ g,u'.ownBlock = some g→g≠w.heap.size+1+1:=fun g hg e=>by
  rcases hl with h1 | h1
  ·rw [h1] at hg;exact (h.row_ne hg).2.1 e
  ·rw [h1] at hg;simp only [Option.some.injEq] at hg;omega
 refine ⟨hlb,⟨h.below.trans (t14.below h.below.size (fun k e=>?_)),?_,?_,?_,?_,?_,h.b4,?_⟩,t14⟩
 ·rcases e with rfl | rfl | e
  ·omega
  ·omega
  ·have:=(h.rowAt e).1;omega
 ·refine (t14.block _ (by omega) (fun e=>?_)).trans h.pbox;rcases e with e | e | e
  ·omega
  ·omega
  ·exact (h.row_ne e).1 rfl
 ·exact hlb.set u'
 ·have:=t4.row hr (fun g hg=>hu' g hg);simpa [ints] using this
 ·have h3:Wc.ownsMap Tryz.prog 3 (plainElem Tryz.prog 3) (w.heap.size+1+1+1) (L.length+1) (byD (L ++ [x])):=t3.map (t2.map hm id) (fun e=>(h.row_ne e).2.2.1 rfl);have:=t4.map h3 (by omega);simpa using this
 ·refine t14.boxed h.mbox (fun e=>?_);rcases e with e | e | e
  ·omega
  ·omega
  ·exact (h.row_ne e).2.2.2.1 rfl
 ·refine h.marks.turn t14 (fun D hD e=>?_);rcases e with e | e | e
  ·exact (h.mark_ne hD).2.1 e
  ·exact (h.mark_ne hD).2.2.1 e
  ·exact (h.row_ne e).2.2.2.2 hD
theorem ea_ {p:ad_} {key:ByteArray} (hr:bx_ p) {v:Nat} (hv:v < p.posts.length) {L:Trails} {i:Nat} (h:Reached (bE_ p key) p.binds.length v L i):(∀ x ∈ L,x.1 < p.posts.length)∧L.length≤p.posts.length∧i≤L.length:=by
 have hc:=h.came fn_;have hm:∀ x ∈ L,x.1 < p.posts.length:=by
  intro x hx;rcases (hc.1.path x hx).inv with ⟨_,e⟩ | ⟨s,u,n,_,_,e⟩
  ·omega
  ·unfold bE_ at e;split at e
   ·rename_i h1;simp at e;have hd:=hr.dst _ (List.getElem_mem h1.1);rw [← db_ h1.1,h1.2.2] at hd;simp only [if_true] at hd;omega
   ·cases e
 exact ⟨hm,by have:=fH_ p.posts.length (L.map Prod.fst) hc.1.once (fun y hy=>by obtain ⟨x,hx,rfl⟩:=List.mem_map.1 hy;exact hm x hx);simpa using this,hc.2⟩
theorem reach_begin (w W4 W5:World) (pv:Array Value) (v:Nat) (hW4:W4 = (((w.alloc (.cells pv 26)).alloc (.cells #[.int .i64 (v:Nat)] 3)).alloc (.cells #[.slice (some ⟨w.heap.size+1,0,none⟩) 1 1] 32)).alloc (.map #[] 0))
 (hown:W5.ownsMap Tryz.prog 3 (plainElem Tryz.prog 3) (w.heap.size+1+1+1) 1 (byD [(v,[])])) (hg:W4.grownBy W5 (some (w.heap.size+1+1+1))) :
 RSt w pv W5.heap.size (.slice (some ⟨w.heap.size+1,0,none⟩) 1 1) [(v,[])] [] (W5.alloc (.cells #[.map (some (w.heap.size+1+1+1))] 159)):=by
 have hs:W4.heap.size = w.heap.size+1+1+1+1:=by rw [hW4];simp
 have q0:W4.heap[w.heap.size]? = some (.cells pv 26 (0,0)):=by
  rw [hW4,Below.heap_alloc _ _ _ (by simp;omega),Below.heap_alloc _ _ _ (by simp;omega),Below.heap_alloc _ _ _ (by simp)];exact World.alloc_heap_new w _
 have q1:W4.heap[w.heap.size+1]? = some (.cells #[.int .i64 (v:Nat)] 3 (0,0)):=by
  rw [hW4,Below.heap_alloc _ _ _ (by simp),Below.heap_alloc _ _ _ (by simp)];have:=World.alloc_heap_new (w.alloc (.cells pv 26)) (.cells #[.int .i64 (v:Nat)] 3);rw [World.size_alloc] at this;exact this
 have q2:W4.heap[w.heap.size+1+1]? = some (.cells #[.slice (some ⟨w.heap.size+1,0,none⟩) 1 1] 32 (0,0)):=by
  rw [hW4,Below.heap_alloc _ _ _ (by simp)];have:=World.alloc_heap_new ((w.alloc (.cells pv 26)).alloc (.cells #[.int .i64 (v:Nat)] 3)) (.cells #[.slice (some ⟨w.heap.size+1,0,none⟩) 1 1] 32);rw [World.size_alloc,World.size_alloc] at this;exact this
 have hB4:Below w.heap.size w W4:=by
  rw [hW4];exact ((((Below.refl _ _).alloc (Nat.le_refl _) _).alloc (by simp) _).alloc (by simp;omega) _).alloc (by simp;omega) _
 have t5:Turn (fun k=>k = w.heap.size+1+1+1) W4 W5:=Turn.of_grown hg (fun r e=>by cases e;rfl);have t6:Turn (fun _=>False) W5 (W5.alloc (.cells #[.map (some (w.heap.size+1+1+1))] 159)):=Turn.of_grown (World.grownBy_alloc W5 _ none) (fun r e=>by cases e);have t:Turn (fun k=>k = w.heap.size+1+1+1) W4 (W5.alloc (.cells #[.map (some (w.heap.size+1+1+1))] 159)):=t5.trans t6 (fun _ _ e=>e.elim);have s5:=t5.size;refine ⟨hB4.trans (t.below (by omega) (fun k e=>by omega)),(t.block _ (by omega) (by omega)).trans q0,(t.block _ (by omega) (by omega)).trans q2,?_,t6.map hown id,Boxed.new W5 _ _,by omega,⟨List.nodup_nil,fun D hD=>by simp at hD⟩⟩;refine ⟨rfl,.inr ⟨w.heap.size+1,1,#[.int .i64 (v:Nat)],rfl,Nat.le_refl _,(t.block _ (by omega) (by omega)).trans q1,Nat.le_refl _,by unfold maxLen;omega,rfl,rfl⟩⟩
theorem mN_ {n:Nat} (h:n≤9223372036854775807):(Lit.int .i64 (n:Int)).wf = true:=by simp [Lit.wf,IntKind.min,IntKind.max,IntKind.bits,IntKind.signed];omega
theorem jI_ {p:ad_} (hr:bx_ p) (x:Nat) (h:(bAt p x).toPost = true):0≤(bAt p x).dst∧(bAt p x).dst < p.posts.length:=by
 by_cases hx:x < p.binds.length
 ·have hd:=hr.dst _ (List.getElem_mem hx);rw [← db_ hx,h] at hd;simpa using hd
 ·have:bAt p x = ⟨0,false,0,⟨#[]⟩⟩:=by unfold bAt;simp [List.getD,List.getElem?_eq_none (Nat.not_lt.1 hx)]
  rw [this] at h;cases h
theorem h1_ (p:ad_) (t:List Nat):∀ (pre:List Nat) (L:Trails),(pre.foldl (cstep p t) L).length≤L.length+pre.length
 | [],L=>by simp
 | x :: r, L => by
   have:=h1_ p t r (cstep p t L x);have h2:(cstep p t L x).length≤L.length+1:=by unfold cstep;split <;> simp
   rw [List.foldl_cons];simp only [List.length_cons];omega
theorem gI_ {p:ad_} {key:ByteArray} {v:Int} (h:p.binds.length≤10):(bS_ p key v).length≤10:=by
 unfold bS_ b9_;have:=List.length_filter_le (dO_ p key v) (List.range p.binds.length);simp at this;omega
theorem kv_ {w:World} {pv:Array Value} {b4 B:Nat} {u:Value} {L:Trails} {Ds:List Nat} {W W':World} (h:RSt w pv b4 u L Ds W) (t:Turn (fun k=>k = w.heap.size+1+1∨k = w.heap.size+1+1+1∨u.ownBlock = some k) W W')
 (hB:b4 < B) (hW:B+3≤W.heap.size) (hg:∀ g,u.ownBlock = some g→g < B∨B+3≤g):cF_ w.heap.size B W W':=by
 have hb4:=h.b4;refine ⟨t.below h.below.size (fun k e=>?_),fun j hj=>t.block _ (by omega) (fun e=>?_)⟩
 ·rcases e with rfl | rfl | e
  ·omega
  ·omega
  ·have:=(h.rowAt e).1;omega
 ·rcases e with e | e | e
  ·omega
  ·omega
  ·have:=hg _ e;omega
theorem gx_ {w:World} {pv:Array Value} {b4 S:Nat} {u:Value} {L:Trails} {Ds:List Nat} {W W':World} (h:RSt w pv b4 u L Ds W) (t:Turn (fun k=>k = w.heap.size+1+1∨k = w.heap.size+1+1+1∨u.ownBlock = some k) W W')
 (hS:b4 < S):KeepsFrom S W W':=by
 have hb4:=h.b4;refine ⟨t.size,fun k o hk ho hc=>(t.block k (Array.getElem?_eq_some_iff.1 ho).1 (fun e=>?_)).trans ho⟩;rcases e with e | e | e
 ·omega
 ·omega
 ·obtain ⟨_,cur,h2⟩:=h.rowAt e;rw [h2] at ho;cases ho;cases hc
theorem ns_ (p:ad_) (a1 a2 a3:Option Addr) (n1 c1 n2 c2 n3 c3:Nat) (v:Nat) (key:ByteArray) (w:World) (hc:chkP p = 0) (hk:kerr key.data.toList = 0) (hv:v < n1) (hp:ap_ w a1 a2 a3 n1 n2 n3 p) :
 CallsIn Fence.wide 6 Tryz.prog 135 #[.agg #[.slice a1 n1 c1,.slice a2 n2 c2,.slice a3 n3 c3],.int .i64 (v:Nat),.string key] w fun e w'=>∃ u b L i,e = .returned (.tuple #[u,.map (some b)])∧Reached (bE_ p key) p.binds.length v L i∧¬ i < L.length∧w'.ownsRow w.heap.size 3 1 u L.length (ints L)∧w'.ownsMap Tryz.prog 3 (plainElem Tryz.prog 3) b L.length (byD L)∧w.heap.size≤b∧Below w.heap.size w w':=by
 have hr:=bc_ hc;have h4:n1≤4:=by have:=hr.few.1;rw [hp.l1] at this;exact this
 have HR:Hid (∀ {L:Trails} {i:Nat},Reached (bE_ p key) p.binds.length v L i→(∀ x ∈ L,x.1 < n1)∧L.length≤n1∧i≤L.length):=fun h=>by
  have:=ea_ hr (by rw [hp.l1];exact hv) h;rw [hp.l1] at this;exact this
 have HRP:Hid (bx_ p):=hr;have HP:Hid (ap_ w a1 a2 a3 n1 n2 n3 p):=hp;have HCK:Hid (chkP p = 0∧kerr key.data.toList = 0):=⟨hc,hk⟩;obtain ⟨W4,hW4⟩:∃ W4,W4 = (((w.alloc (.cells #[.slice a1 n1 c1,.slice a2 n2 c2,.slice a3 n3 c3] 26)).alloc (.cells #[.int .i64 (v:Nat)] 3)).alloc (.cells #[.slice (some ⟨w.heap.size+1,0,none⟩) 1 1] 32)).alloc (.map #[] 0):=⟨_,rfl⟩
 have hmade:W4.ownsMap Tryz.prog 3 (plainElem (H:=Unit) Tryz.prog 3) (w.heap.size+1+1+1) 0 (.map []):=by
  have:=World.ownsMap_made (H:=Unit) ((((w.alloc (.cells #[.slice a1 n1 c1,.slice a2 n2 c2,.slice a3 n3 c3] 26)).alloc (.cells #[.int .i64 (v:Nat)] 3)).alloc (.cells #[.slice (some ⟨w.heap.size+1,0,none⟩) 1 1] 32))) Tryz.prog 3 (plainElem Tryz.prog 3);rw [hW4];simpa using this
 obtain ⟨W5,hrun,hown5,hgrow5⟩:=hmade.update key3 Tryz.underlying159 (by unfold maxLen;omega) (keyOf_int_mk Tryz.underlying3 (mN_ (n:=v) (by omega))) (plainElem_int (a:=-1) Tryz.underlying3 (by decide))
 have hst := reach_begin w W4 W5 _ v hW4 (by have e : byD [(v, [])] = (DataW.map []).put (.int .i64 (v : Nat)) (.lit (.int .i64 (-1))) := rfl
                                             rw [e];exact hown5) hgrow5
 have HW4:Hid (W4 = _):=hW4;have HRUN:=aN_ hrun;have hmm:=@run_makeMap Tryz.prog;clear hW4 hmade hrun hown5 hgrow5 hp hc hk hr;refine callsIn_of_wp_marks Tryz.func135 rfl trivial (Go.wpIn_mono ?_ gD_) rfl;simp only [Tryz.ntmps135,List.size_toArray,List.length_cons,List.length_nil,Nat.reduceAdd,Nat.reduceSub,Array.replicate_succ,Array.replicate_zero,List.push_toArray,List.append_toArray,List.nil_append,List.cons_append];gi_wp2_with fail
 rw [← HW4.out,HRUN.out];clear hmm;gi_wp2_with fail
 obtain ⟨W6,hW6⟩:∃ W6,W6 = W5.alloc (.cells #[.map (some (w.heap.size+1+1+1))] 159):=⟨_,rfl⟩
 rw [← hW6] at hst ⊢;clear hW6;refine wpIn_loop (fun a W=>∃ (i:Nat) (L:Trails) (Ds:List Nat) (u u11 u12 u13 u14 u20 u21 u22 u23 u24 u25 u26 u27 u28 u29 u30 u31 u32 u33 u34 u35 u36 u37 u38 u39 u40 u41 u42 u43 u44 u45 u46 u47 u48 u49 u50 u51 u52 u53 u54 u55:Value),a = { tmps:=#[.agg #[.slice a1 n1 c1,.slice a2 n2 c2,.slice a3 n3 c3],.int .i64 (v:Nat),.string key,.pointer (some ⟨w.heap.size,0,none⟩),undef,undef,.slice none 0 0,.map none,.pointer (some ⟨w.heap.size+1+1,0,none⟩),.pointer (some ⟨W5.heap.size,0,none⟩),(.int .i64 (i:Nat)),u11,u12,u13,u14,.int .i64 (v:Nat),.slice (some ⟨w.heap.size+1,0,none⟩) 1 1,.map (some (w.heap.size+1+1+1)),.int .i64 (v:Nat),.map (some (w.heap.size+1+1+1)),u20,u21,u22,u23,u24,u25,u26,u27,u28,u29,u30,u31,u32,u33,u34,u35,u36,u37,u38,u39,u40,u41,u42,u43,u44,u45,u46,u47,u48,u49,u50,u51,u52,u53,u54,u55,undef,undef],defers:=Ds.map lN_ }∧Reached (bE_ p key) p.binds.length v L i∧RSt w #[.slice a1 n1 c1,.slice a2 n2 c2,.slice a3 n3 c3] W5.heap.size u L Ds W) (fun a _=>5 - (intOf (a.tmps.getD 10 undef)).toNat) ⟨0,_,[],_,_,_,_,_,_,_,_,_,_,_,_,_,_,_,_,_,_,_,_,_,_,_,_,_,_,_,_,_,_,_,_,_,_,_,_,_,_,_,_,_,rfl,.start,hst⟩ ?_
 rintro a W ⟨i,L,Ds,u,u11,u12,u13,u14,u20,u21,u22,u23,u24,u25,u26,u27,u28,u29,u30,u31,u32,u33,u34,u35,u36,u37,u38,u39,u40,u41,u42,u43,u44,u45,u46,u47,u48,u49,u50,u51,u52,u53,u54,u55,rfl,hre,hs⟩;obtain ⟨hL1,hL2,hL3⟩:=HR.out hre;have lc:=hs.lbox.cell;obtain ⟨au,cu,rfl,hcu,hau⟩:∃ au cu,u = .slice au L.length cu∧L.length≤cu∧(L.length = 0∨∃ g,au = some ⟨g,0,none⟩):=by
  rcases hs.row.2 with ⟨rfl,h0⟩ | ⟨g,cap,cur,rfl,_,_,h1,_⟩
  ·exact ⟨none,0,by rw [h0],by omega,.inl h0⟩
  ·exact ⟨_,cap,rfl,h1,.inr ⟨g,rfl⟩⟩
 by_cases hlt:i < L.length
 ·obtain ⟨g,rfl⟩:∃ g,au = some ⟨g,0,none⟩:=by
   rcases hau with h | h
   ·omega
   ·exact h
  have e0:=aX_ hs.pbox 0;have e1:=aX_ hs.pbox 1;have e2:=aX_ hs.pbox 2;simp at e0 e1 e2;obtain ⟨x,t,hxt⟩:∃ x t,L[i] = (x,t):=⟨_,_,rfl⟩
  have hxi:(ints L)[i]? = some (.int .i64 (x:Nat)):=by simp [ints,hlt,hxt]
  have e3:W.cell? ⟨g,i,none⟩ = some (.int .i64 (x:Nat)):=by
   have:=hs.row.cells (g:=g) rfl i _ hxi;simpa [hQ_] using this
  have j1:(0:Int)≤(i:Int):=by omega
  have j2:(i:Int) < (L.length:Int):=by omega
  clear hxi hau;obtain ⟨Wf0,hWf0,fb0,hBf0,hsf0⟩:=eD_ W a1 a2 a3 n1 c1 n2 c2 n3 c3 (x:Nat) key;have HWF0:Hid (Wf0 = _):=hWf0;obtain ⟨Wf,hWf⟩:∃ Wf,Wf = Wf0.drew:=⟨_,rfl⟩
  have HWF:Hid (Wf = Wf0.drew):=hWf;have fb:cZ_ Wf W.heap.size a1 a2 a3 n1 c1 n2 c2 n3 c3 (x:Nat) key:=by rw [hWf];exact ⟨fb0.p,fb0.v,fb0.k⟩
  have hsW:Wf.heap.size = W.heap.size+3:=by rw [hWf];exact hsf0
  have hBW:Below W.heap.size W Wf:=by rw [hWf];exact hBf0.drew
  clear hWf0 hWf fb0 hBf0 hsf0;have hsF:RSt w #[.slice a1 n1 c1,.slice a2 n2 c2,.slice a3 n3 c3] W5.heap.size (.slice (some ⟨g,0,none⟩) L.length cu) L Ds Wf:=hs.keep hBW;have hb4:=hs.b4;have hb4W:=hs.mbox.lt;have hgW:g < W.heap.size:=(hs.row.lt g rfl).2;have hDW:=hs.marks.lt;have HX:Hid (L[i] = (x,t)):=hxt;clear hxt;gi_wp2_with fail
  gi_region_with (refine ⟨trivial,?_⟩;gi_at_call 136;refine (gK_ _ _ _ _ _ _ _).mono ?_;rintro e w' ⟨rfl,rfl⟩)
  all_goals
   clear e0 e1 e2 e3 lc;gi_wp2_with fail
   rw [← HWF0.out,← HWF.out];refine wpIn_rangeFunc_ownH rfl (by omega) (gf:=165) (lb:=#[.pointer (some ⟨W.heap.size,0,none⟩),.pointer (some ⟨W.heap.size+1,0,none⟩),.pointer (some ⟨W.heap.size+1+1,0,none⟩)]) rfl trivial (enters_of Tryz.func165 (by kernel_rfl) rfl)
    (h5_ 5 (by omega) W.heap.size p a1 a2 a3 n1 c1 n2 c2 n3 c3 (x:Nat) key w Wf HCK.out.1 HCK.out.2 HP.out hs.below.size (by omega) hsF.below fb) (fun h k=>h.trans k) (fun W' l o o' hl ho _ _=>lC_ (by have:=hs.below.size;omega) (by omega) W' l o o' hl ho) (Below.refl _ _) (fun _=>rfl)
    (fun pre W'=>∃ u',RSt w #[.slice a1 n1 c1,.slice a2 n2 c2,.slice a3 n3 c3] W5.heap.size u' (pre.foldl (cstep p t) L) Ds W'∧(∀ g',u'.ownBlock = some g'→g' < W.heap.size∨W.heap.size+3≤g')∧Wf.heap.size≤W'.heap.size)
    (fun _ _ _=>False)
    (fun pre W' W'' row hI hg hr=>by
     obtain ⟨u',h1,h2,h3⟩:=hI;exact ⟨u',h1.other hg hr (by omega) (fun D hD=>by have:=hDW D hD;omega),h2,Nat.le_trans h3 hg.size⟩)
    (fun _ _ _ _ _ h _ _=>h)
    ⟨_,hsF,fun g' e=>by simp only [Value.ownBlock,Option.some.injEq] at e;left;omega,Nat.le_refl _⟩
    (fun y a' W'=>∃ Bx,W.heap.size+3≤Bx∧W'.heap[Bx]? = some (.cells #[.int .i64 (bAt p y).src,.bool (bAt p y).toPost,.int .i64 (bAt p y).dst,.string (bAt p y).pat] 100 (0,0))∧a' = { tmps:=#[.agg #[.slice a1 n1 c1,.slice a2 n2 c2,.slice a3 n3 c3],.int .i64 (v:Nat),.string key,.pointer (some ⟨w.heap.size,0,none⟩),undef,undef,.slice none 0 0,.map none,.pointer (some ⟨w.heap.size+1+1,0,none⟩),.pointer (some ⟨W5.heap.size,0,none⟩),.int .i64 (i:Nat),.int .i64 (y:Nat),.pointer (some ⟨Bx,0,none⟩),u13,u14,.int .i64 (v:Nat),.slice (some ⟨w.heap.size+1,0,none⟩) 1 1,.map (some (w.heap.size+1+1+1)),.int .i64 (v:Nat),.map (some (w.heap.size+1+1+1)),.int .i64 (i:Nat),.slice (some ⟨g,0,none⟩) L.length cu,.int .i64 (L.length:Nat),.bool true,u24,u25,.agg #[.slice a1 n1 c1,.slice a2 n2 c2,.slice a3 n3 c3],.slice (some ⟨g,0,none⟩) L.length cu,.int .i64 (i:Nat),.pointer (some ⟨g,i,none⟩),.int .i64 (x:Nat),.string key,.func (.func 165) #[] #[.pointer (some ⟨W.heap.size,0,none⟩),.pointer (some ⟨W.heap.size+1,0,none⟩),.pointer (some ⟨W.heap.size+1+1,0,none⟩)],.int .i64 (y:Nat),(bAt p y).val,u35,u36,u37,u38,u39,u40,u41,u42,u43,u44,u45,u46,u47,u48,u49,u50,u51,u52,u53,u54,u55,undef,undef],defers:=[] })
    (fun y a' _ W' W'' row hA hg hr=>by
     obtain ⟨Bx,h1,h2,h3⟩:=hA;refine ⟨Bx,h1,(hg.block Bx (Array.getElem?_eq_some_iff.1 h2).1 (fun e=>?_)).trans h2,h3⟩;obtain ⟨_,o,h4,h5⟩:=hr Bx e.symm;rw [h2] at h4;cases h4;cases h5)
    ?assign ?body ?done ?stop
   case stop=>rintro D c pre W' _ _ h _;exact h.elim
   case assign=>
    rintro l pre y W' K ⟨u',h1,h2,h3⟩ hK;dsimp only [dA_.val];gi_wp2
    have hBa:Below W'.heap.size W' (W'.alloc (.cells #[.int .i64 (bAt p y).src,.bool (bAt p y).toPost,.int .i64 (bAt p y).dst,.string (bAt p y).pat] 100)):=(Below.refl _ _).alloc (Nat.le_refl _) _;exact hK _ _ ((KeepsOthers.alloc _ _).from _) (cF_.of_below hBa h1.below.size (by omega)) ⟨u',h1.keep hBa,h2,Nat.le_trans h3 hBa.size⟩ ⟨W'.heap.size,by omega,World.alloc_heap_new W' _,rfl⟩
   case body=>
    rintro l pre y a' W' hl _ ⟨u',h1,h2,h3⟩ ⟨Bx,hBx,hcell,rfl⟩ hlen;have hfold:(pre ++ [y]).foldl (cstep p t) L = cstep p t (pre.foldl (cstep p t) L) y:=by rw [List.foldl_append];rfl
    have hL':=h1_ p t pre L;have h10:=gI_ (p:=p) (key:=key) (v:=(x:Nat)) HRP.out.few.2.2;obtain ⟨L',hLe⟩:∃ L',L' = pre.foldl (cstep p t) L:=⟨_,rfl⟩
    rw [← hLe] at h1 hL' hfold;have HFO:Hid ((pre ++ [y]).foldl (cstep p t) L = cstep p t L' y):=hfold;have hL'':L'.length≤20:=by omega
    have m0:=aX_ hcell 0;have m1:=aX_ hcell 1;have m2:=aX_ hcell 2;have m3:=aX_ hcell 3;simp at m0 m1 m2 m3;have lc':=h1.lbox.cell;have mc':=h1.mbox.cell;have HDO:=aN_ (jI_ HRP.out y);clear hfold hLe hL';cases htp:(bAt p y).toPost with
    | false =>
      have HC:Hid (cstep p t L' y = L'):=by show cstep p t L' y = L';unfold cstep;rw [htp];simp
      rw [htp] at m1;gi_wp2
      exact ⟨KeepsFrom.refl _ _,cF_.refl _ _ _,u',by rw [HFO.out,HC.out];exact h1,h2,h3⟩
    | true =>
      rw [htp] at m1;obtain ⟨hd0,hd1⟩:=HDO.out htp;obtain ⟨z,hz⟩:=Int.eq_ofNat_of_zero_le hd0;have hz':Hid ((bAt p y).dst = (z:Nat)):=hz;rw [hz] at m2 hd1;have hz4:z≤1000:=by have:=HRP.out.few.1;omega
      have hkey:keyOf Tryz.prog 3 (.int .i64 (z:Nat)) = some (.int .i64 (z:Nat)):=keyOf_int_mk Tryz.underlying3 (mN_ (by omega));have hhas:=n0_ L' z;have hy10:y < 1000:=by have:=oP_ htp;have:=HRP.out.few.2.2;omega
      have HZ:Hid ((bAt p y).dst.toNat = z):=by show (bAt p y).dst.toNat = z;omega
      by_cases hin:z ∈ L'.map Prod.fst
      ·have hh:has (byD L') (.int .i64 (z:Nat)) = true:=by rw [hhas];simpa using hin
       have HC:Hid (cstep p t L' y = L'):=by show cstep p t L' y = L';unfold cstep;rw [if_neg (fun h=>h.2 (by rw [HZ.out];exact hin))]
       clear hhas hin htp hz;gi_wp2_with (gi_at_lookup;refine wpListIn_lookup_own_ok_int _ rfl _ _ 159 rfl 3 3 .i64 key3 Tryz.underlying159 Tryz.underlying3 (zero3 _) (w.heap.size+1+1+1) _ _ rfl h1.map _ _ rfl hkey ?_;intro c hat hwc;rw [hh])
       exact ⟨KeepsFrom.refl _ _,cF_.refl _ _ _,u',by rw [HFO.out,HC.out];exact h1,h2,h3⟩
      ·have hh:has (byD L') (.int .i64 (z:Nat)) = false:=by rw [hhas];simpa using hin
       have HC:Hid (cstep p t L' y = L' ++ [(z,t ++ [y])]):=by show cstep p t L' y = _;unfold cstep;rw [if_pos ⟨htp,by rw [HZ.out];exact hin⟩,HZ.out]
       have HPUT:Hid ((byD L').put (.int .i64 (z:Nat)) (.lit (.int .i64 (y:Nat))) = byD (L' ++ [(z,t ++ [y])])):=by show _ = _;rw [jD_,ja_]
       obtain ⟨i0,hi0,hz0,hz1,hz2⟩:=info_parts Tryz.infoInt;have hB4:=h1.b4;have hsz':=h1.mbox.lt;have hBxne:Bx≠w.heap.size+1+1+1:=by omega
       clear hhas hin htp hz;gi_wp2_with (first
        | (gi_at_lookup;refine wpListIn_lookup_own_ok_int _ rfl _ _ 159 rfl 3 3 .i64 key3 Tryz.underlying159 Tryz.underlying3 (zero3 _) (w.heap.size+1+1+1) _ _ rfl h1.map _ _ rfl hkey ?_;intro c hat hwc;rw [hh])
        | (gi_at_mapUpdate;refine wpListIn_mapUpdate_own _ rfl _ _ _ 159 rfl 3 3 key3 Tryz.underlying159 (plainElem Tryz.prog 3) (w.heap.size+1+1+1) L'.length (byD L') rfl h1.map (by unfold maxLen;omega) _ _ _ rfl rfl hkey _ [] (plainElem_int Tryz.underlying3 (mN_ (n:=y) (by omega))) ?_;intro wa hma hga;have t1:Turn (fun k=>k = w.heap.size+1+1+1) W' wa:=Turn.of_grown hga (fun r e=>by cases e;rfl);have lca:=(t1.boxed h1.lbox (by omega)).cell;have hca:=(t1.block Bx (Array.getElem?_eq_some_iff.1 hcell).1 hBxne).trans hcell;have m2a:=aX_ hca 2;rw [hz'.out] at m2a;have hra:=t1.row h1.row (fun g' e h=>(h1.row_ne e).2.2.1 h);have hsa:=t1.size)
        | (gi_at_builtin;refine wpListIn_append_own_at _ rfl _ _ 32 rfl (w.heap.size+1) 3 i0 (.int .i64 0) 1 8 Tryz.underlying32 hi0 hz0 hz1 hz2 rfl (by decide) _ _ _ rfl (hra.alloc _) ⟨wa.heap.size,0,none⟩ 1 1 [.int .i64 (z:Nat)] rfl rfl (cell_one_new _ _ _) (by simp [Value.oneCell']) (by unfold maxLen;omega) (by omega) (by simp;omega) ?_;intro v' wc hown' hgrow _ hat';obtain ⟨gn,capn,rfl⟩:=ownsRow_succ hown';rw [HPUT.out] at hma;obtain ⟨hbx',hst',hturn⟩:=h1.push hga hma hgrow (by simpa using hown') hat';have hc1:=hbx'.cell;have hf1:=hbx'.frozen))
       exact ⟨gx_ h1 hturn (by omega),kv_ h1 hturn (by omega) (by omega) h2,_,by rw [HFO.out,HC.out];exact hst',fun g' e=>by
        rcases (show Value.ownBlock (.slice (some ⟨gn,0,none⟩) (L'.length+1) capn) = u'.ownBlock∨Value.ownBlock (.slice (some ⟨gn,0,none⟩) (L'.length+1) capn) = some (wa.alloc _).heap.size from hat') with e2 | e2
        ·exact h2 g' (e2.symm.trans e)
        ·rw [e2] at e;simp only [Option.some.injEq,World.size_alloc] at e;omega,Nat.le_trans h3 hturn.size⟩
   case done=>
    rintro D ys W' hD hys ⟨u',h1,h2,h3⟩ hmark;rw [hys,kl_ HRP.out] at h1;have hre':=Reached.next hre hlt;rw [HX.out] at hre';have h1':RSt w #[.slice a1 n1 c1,.slice a2 n2 c2,.slice a3 n3 c3] W5.heap.size u' (tround (bE_ p key) p.binds.length (x,t) L) (D :: Ds) W':=⟨h1.below,h1.pbox,h1.lbox,h1.row,h1.map,h1.mbox,h1.b4,h1.marks.cons (fun h=>by have:=hDW D h;omega) (by omega) hmark⟩;clear h1 hys;gi_wp2_with fail
    exact ⟨⟨i+1,_,D :: Ds,u',_,_,_,_,_,_,_,_,_,_,_,_,_,_,_,_,_,_,_,_,_,_,_,_,_,_,_,_,_,_,_,_,_,_,_,_,_,_,_,_,rfl,hre',h1'⟩,by simp [intOf];omega⟩
 ·have mc:=hs.mbox.cell;gi_wp2_with fail
  gi_quiet (fail)
  gi_wp2_with fail
  refine c3_ (n0:=w.heap.size+1) (Ds:=Ds) ⟨hs.marks.once,hs.marks.there⟩ (fun W' hW'=>?_);have hs':RSt w #[.slice a1 n1 c1,.slice a2 n2 c2,.slice a3 n3 c3] W5.heap.size (.slice au L.length cu) L [] W':=RSt.turn (W:=W) (X:=fun k=>k ∈ Ds) ⟨hs.below,hs.pbox,hs.lbox,hs.row,hs.map,hs.mbox,hs.b4,⟨List.nodup_nil,fun D hD=>by simp at hD⟩⟩ ⟨hW'.os,hW'.tape,hW'.output,hW'.size,hW'.block⟩ (fun k h=>by have:=(hs.marks.there k h).1;omega) (fun h=>(hs.mark_ne h).1 rfl) (fun h=>(hs.mark_ne h).2.1 rfl) (fun h=>(hs.mark_ne h).2.2.1 rfl) (fun h=>(hs.mark_ne h).2.2.2 rfl) (fun g' e h=>(hs.row_ne e).2.2.2.2 h) (fun D hD=>by simp at hD);exact ⟨_,results_tmp2 rfl _ _ _,_,_,L,i,rfl,hre,hlt,l4_ hs'.row (by omega),hs'.map,by omega,hs'.below⟩
end Go.Proofs.YtlbnkpicnokgoaaGreat
namespace Go.Proofs.YtlbnkpicnokgoaaGreat
open Go.RowKit
set_option linter.unusedVariables false
set_option maxRecDepth 100000
set_option maxHeartbeats 2000000
def aL_ (W:World) (g:Nat) (zs:List Int):Prop:=∃ cur,W.heap[g]? = some (.cells cur 3 (0,0))∧∀ i (h:i < zs.length),cur[i]? = some (.int .i64 zs[i])
theorem aL_.lt {W:World} {g:Nat} {zs:List Int} (h:aL_ W g zs):g < W.heap.size:=by obtain ⟨cur,h1,_⟩:=h;exact (Array.getElem?_eq_some_iff.1 h1).1
theorem aL_.cell {W:World} {g:Nat} {zs:List Int} (h:aL_ W g zs) {i:Nat} (hi:i < zs.length):W.cell? ⟨g,i,none⟩ = some (.int .i64 zs[i]):=by
 obtain ⟨cur,h1,h2⟩:=h;rw [aX_ h1,h2 i hi]
theorem aL_.free {W:World} {g:Nat} {zs:List Int} (h:aL_ W g zs) (i:Nat):W.frozen? ⟨g,i,none⟩ = false:=by
 obtain ⟨cur,h1,_⟩:=h;simp [World.frozen?,h1]
theorem aL_.keep {W W':World} {g:Nat} {zs:List Int} (h:aL_ W g zs) (e:W'.heap[g]? = W.heap[g]?):aL_ W' g zs:=by
 obtain ⟨cur,h1,h2⟩:=h;exact ⟨cur,e.trans h1,h2⟩
theorem aL_.set {W:World} {g:Nat} {zs:List Int} (h:aL_ W g zs) {i:Nat} (hi:i < zs.length) (x:Int):aL_ (W.setCell ⟨g,i,none⟩ (.int .i64 x)) g (zs.set i x):=by
 obtain ⟨cur,h1,h2⟩:=h;refine ⟨_,heap_setCell_same W g i cur 3 _ h1,fun j hj=>?_⟩;rw [List.length_set] at hj;by_cases e:i = j
 ·subst e;have hc:=h2 i hi;have hlt:=(Array.getElem?_eq_some_iff.1 hc).1;simp [hlt]
 ·rw [Array.getElem?_setIfInBounds_ne e,h2 j hj,List.getElem_set_ne e]
theorem cE_ (W:World) (g i:Nat) (v:Value):Turn (fun k=>k = g) W (W.setCell ⟨g,i,none⟩ v):=
 ⟨rfl,rfl,rfl,by simp [World.setCell],fun k _ hk=>Below.heap_setCell _ _ _ _ (fun e=>hk (by first | exact e | exact e.symm))⟩
theorem lz_ (x:Int) (w:World):Calls Tryz.prog 207 #[.int .i64 x] w fun e w'=>e = .returned (.bool false)∧w' = w:=by
 go_enter Tryz.func207,Tryz.ntmps207;go_wp2
 go_ret
 exact ⟨rfl,rfl⟩
theorem hv_ (x y:Int) (w:World):Calls Tryz.prog 188 #[.int .i64 x,.int .i64 y] w fun e w'=>e = .returned (.bool (decide (x < y)))∧w' = w:=by
 go_enter Tryz.func188,Tryz.ntmps188;go_wp2_with (go_at_call 207;refine (lz_ _ _).mono ?_;rintro e w' ⟨rfl,rfl⟩)
 go_ret
 exact ⟨rfl,rfl⟩
def b7_ (ys:List Int) (k:Nat):Prop:=∀ a b (hab:a < b) (hb:b < ys.length),b < k→ys[a]'(Nat.lt_trans hab hb)≤ys[b]
structure dG_ (ys:List Int) (j k:Nat):Prop where
 rise:∀ a b (hab:a < b) (hb:b < ys.length),b≤k→a≠j→b≠j→ys[a]'(Nat.lt_trans hab hb)≤ys[b]
 least:∀ b (hjb:j < b) (hb:b < ys.length),b≤k→ys[j]'(Nat.lt_trans hjb hb)≤ys[b]
theorem dG_.start {ys:List Int} {k:Nat} (h:b7_ ys k):dG_ ys k k:=⟨fun a b hab hb hk ha hb'=>h a b hab hb (by omega),fun b h1 hb h2=>by omega⟩
theorem dG_.done {ys:List Int} {j k:Nat} (h:dG_ ys j k) (hj:∀ (h0:0 < j) (h1:j < ys.length),ys[j - 1]'(by omega)≤ys[j]):b7_ ys (k+1):=by
 intro a b hab hb hk;by_cases ha:a = j
 ·subst ha;exact h.least b hab hb (by omega)
 ·by_cases hb':b = j
  ·subst hb';have h1:=hj (by omega) hb;by_cases e:a = b - 1
   ·subst e;exact h1
   ·exact Int.le_trans (h.rise a (b - 1) (by omega) (by omega) (by omega) ha (by omega)) h1
  ·exact h.rise a b hab hb (by omega) ha hb'
def gl_ (ys:List Int) (j:Nat) (h:j+1 < ys.length):List Int:=(ys.set (j+1) ys[j]).set j ys[j+1]
theorem gm_ (ys:List Int) (j:Nat) (h:j+1 < ys.length):(gl_ ys j h).length = ys.length:=by simp [gl_]
theorem k5_ (ys:List Int) (j:Nat) (h:j+1 < ys.length):(gl_ ys j h).Perm ys:=by
 have h1:=Array.swap_perm (xs:=ys.toArray) (i:=j+1) (j:=j) (by simpa using h) (by simp;omega);have h2:=h1.toList;rw [Array.toList_swap] at h2;simpa [gl_] using h2
theorem eS_ (ys:List Int) (j:Nat) (h:j+1 < ys.length) (a:Nat) (ha:a < ys.length):(gl_ ys j h)[a]'(by rw [gm_];exact ha) = if a = j then ys[j+1] else if a = j+1 then ys[j] else ys[a]:=by
 unfold gl_;by_cases e:j = a
 ·subst e;simp
 ·by_cases e2:j+1 = a
  ·subst e2;simp
  ·have e':¬ a = j:=fun h=>e h.symm
   have e2':¬ a = j+1:=fun h=>e2 h.symm
   simp [e,e2,e',e2']
theorem dG_.swap {ys:List Int} {j k:Nat} (h:dG_ ys (j+1) k) (hj:j+1 < ys.length) (hk:j+1≤k) (hlt:ys[j+1] < ys[j]):dG_ (gl_ ys j hj) j k:=by
 constructor
 ·intro a b hab hb hbk ha hb';have hb2:b < ys.length:=by rw [gm_] at hb;exact hb
  rw [eS_ ys j hj a (by omega),eS_ ys j hj b hb2,if_neg ha,if_neg hb'];by_cases e1:a = j+1
  ·rw [if_pos e1,if_neg (by omega)];exact h.rise j b (by omega) hb2 hbk (by omega) (by omega)
  ·rw [if_neg e1];by_cases e2:b = j+1
   ·rw [if_pos e2];exact h.rise a j (by omega) (by omega) (by omega) e1 (by omega)
   ·rw [if_neg e2];exact h.rise a b hab hb2 hbk e1 e2
 ·intro b hjb hb hbk;have hb2:b < ys.length:=by rw [gm_] at hb;exact hb
  rw [eS_ ys j hj j (by omega),eS_ ys j hj b hb2,if_pos rfl,if_neg (by omega)];by_cases e2:b = j+1
  ·rw [if_pos e2];omega
  ·rw [if_neg e2];exact h.least b (by omega) hb2 hbk
theorem n7_ (zs:List Int) (g n c:Nat) (w:World) (hn:zs.length = n) (h12:n≤12) (hrow:aL_ w g zs) :
 Calls Tryz.prog 182 #[.slice (some ⟨g,0,none⟩) n c,.int .i64 0,.int .i64 n] w fun e w'=>(∃ v,e = .returned v)∧∃ ys,ys.Perm zs∧b7_ ys n∧aL_ w' g ys∧Turn (fun k=>k = g) w w':=by
 have HN:Hid (zs.length = n):=hn;clear hn;go_enter Tryz.func182,Tryz.ntmps182;go_wp2
 go_loopw [6,7] (fun i _ wr=>∃ (k:Nat) (ys:List Int),1≤k∧(k≤n∨k = 1)∧i = .int .i64 k∧ys.Perm zs∧b7_ ys k∧aL_ wr g ys∧Turn (fun k=>k = g) w wr) (fun i _ _=>n - (intOf i).toNat)
 case atStart=>exact ⟨1,zs,by omega,.inr rfl,rfl,List.Perm.refl _,fun a b h1 hb h2=>by omega,hrow,Turn.refl _ _⟩
 case round=>
  obtain ⟨k,ys,hk1,hk2,rfl,hpm,hso,hrw,htn⟩:=hrel;have hyl:ys.length = n:=by rw [hpm.length_eq,HN.out]
  have HPS:Hid (ys.Perm zs∧b7_ ys k∧ys.length = n):=⟨hpm,hso,hyl⟩;clear hpm hso hyl;by_cases hlt:k < n
  ·go_wp2
   go_loopw [7] (fun jv wr2=>∃ (j:Nat) (ys:List Int),j≤k∧jv = .int .i64 j∧ys.Perm zs∧dG_ ys j k∧aL_ wr2 g ys∧Turn (fun k=>k = g) w wr2) (fun jv _=>(intOf jv).toNat)
   case atStart=>exact ⟨k,ys,Nat.le_refl _,rfl,HPS.out.1,dG_.start HPS.out.2.1,hrw,htn⟩
   case round=>
    clear hrw htn HPS ys;obtain ⟨j,ys,hjk,rfl,hpm,hbo,hrw,htn⟩:=hrel;have hyl:ys.length = n:=by rw [hpm.length_eq,HN.out]
    have HPS:Hid (ys.Perm zs∧dG_ ys j k∧ys.length = n):=⟨hpm,hbo,hyl⟩;rcases Nat.eq_zero_or_pos j with hj0 | hj0
    ·subst hj0;have HF:Hid (b7_ ys (k+1)):=hbo.done (fun h _=>by omega);clear hpm hbo hyl;go_wp2
     go_quiet ((go_at_call 188;exact Calls.quiet_of_same (hv_ _ _ _)))
     go_wp2
     go_roundw
     case rel=>exact ⟨k+1,ys,by omega,.inl (by omega),by go_num,HPS.out.1,HF.out,hrw.keep rfl,⟨htn.os,htn.tape,htn.output,htn.size,htn.block⟩⟩
     case measure=>simp [intOf];omega
    ·obtain ⟨j',rfl⟩:∃ j',j = j' + 1:=⟨j - 1,by omega⟩
     have hjl:j' + 1 < ys.length:=by omega
     have c1:=hrw.cell hjl;have c0:=hrw.cell (show j' < ys.length by omega);have f1:=hrw.free (j' + 1);have f0:=hrw.free j';obtain ⟨x1,hx1⟩:∃ x,x = ys[j' + 1]:=⟨_,rfl⟩
     obtain ⟨x0,hx0⟩:∃ x,x = ys[j']:=⟨_,rfl⟩
     rw [← hx1] at c1;rw [← hx0] at c0;have HX:Hid (x1 = ys[j' + 1]∧x0 = ys[j']):=⟨hx1,hx0⟩;have j1:(j':Int)+1 < n:=by omega
     have j0:(j':Int) < n:=by omega
     have jz:(0:Int) < (j':Int)+1:=by omega
     have jz2:(0:Int)≤(j':Int)+1:=by omega
     have jw:IntKind.i64.wrap ((j':Int)+1 - 1) = (j':Int):=by rw [IntKind.wrap_i64];omega
     have jw2:IntKind.i64.wrap (j':Int) = (j':Int):=by rw [IntKind.wrap_i64];omega
     by_cases hless:x1 < x0
     ·have hd:decide (x1 < x0) = true:=by simpa using hless
      have HB:Hid (dG_ (gl_ ys j' hjl) j' k):=hbo.swap hjl hjk (by rw [← hx1,← hx0];exact hless);clear hpm hbo hyl hx1 hx0 hless;go_wp2
      go_quiet ((go_at_call 188;exact Calls.quiet_of_same (hv_ _ _ _)))
      go_wp2_with fail
      go_region
      go_wp2
      have hrw2:aL_ (((wr.drewN (nq+1)).setCell ⟨g,j' + 1,none⟩ (.int .i64 x0)).setCell ⟨g,j',none⟩ (.int .i64 x1)) g (gl_ ys j' hjl):=by
       have hr1:aL_ (wr.drewN (nq+1)) g ys:=hrw.keep rfl;have hr2:=hr1.set hjl x0;have hr3:=hr2.set (i:=j') (by rw [List.length_set];omega) x1;unfold gl_;rw [← HX.out.1,← HX.out.2];exact hr3
      have htn2:Turn (fun k=>k = g) w (((wr.drewN (nq+1)).setCell ⟨g,j' + 1,none⟩ (.int .i64 x0)).setCell ⟨g,j',none⟩ (.int .i64 x1)):=by
       have t0:Turn (fun k=>k = g) w (wr.drewN (nq+1)):=⟨htn.os,htn.tape,htn.output,htn.size,htn.block⟩;exact (t0.trans (cE_ _ _ _ _) (fun _ _ e=>e)).trans (cE_ _ _ _ _) (fun _ _ e=>e)
      go_roundw
      case rel=>exact ⟨j',gl_ ys j' hjl,by omega,by go_num,(k5_ ys j' hjl).trans HPS.out.1,HB.out,hrw2,htn2⟩
      case measure=>simp [intOf]
     ·have hd:decide (x1 < x0) = false:=by simpa using hless
      have HF:Hid (b7_ ys (k+1)):=hbo.done (fun _ _=>by simp only [Nat.add_sub_cancel];rw [← hx1,← hx0];omega);clear hpm hbo hyl hx1 hx0 hless;go_wp2
      go_quiet ((go_at_call 188;exact Calls.quiet_of_same (hv_ _ _ _)))
      go_wp2
      go_roundw
      case rel=>exact ⟨k+1,ys,by omega,.inl (by omega),by go_num,HPS.out.1,HF.out,hrw.keep rfl,⟨htn.os,htn.tape,htn.output,htn.size,htn.block⟩⟩
      case measure=>simp [intOf];omega
  ·go_wp2
   go_end0
   exact ⟨⟨_,rfl⟩,ys,HPS.out.1,fun a b h1 hb h2=>HPS.out.2.1 a b h1 hb (by have:=HPS.out.2.2;omega),hrw,htn⟩
theorem lH_ (n:Nat) (w:World) (h12:n≤12):Calls Tryz.prog 192 #[.int .u64 n] w fun e w'=>(∃ k:Int,e = .returned (.int .i64 k))∧w' = w:=by
 have h:n = 0∨n = 1∨n = 2∨n = 3∨n = 4∨n = 5∨n = 6∨n = 7∨n = 8∨n = 9∨n = 10∨n = 11∨n = 12:=by omega
 rcases h with rfl | rfl | rfl | rfl | rfl | rfl | rfl | rfl | rfl | rfl | rfl | rfl | rfl
 all_goals
  go_enter Tryz.func192,Tryz.ntmps192;go_wp2
  go_ret
  exact ⟨⟨_,rfl⟩,rfl⟩
theorem lI_ (n:Nat) (w:World) (h12:n≤12):Calls Tryz.prog 168 #[.int .u64 n] w fun e w'=>(∃ k:Int,e = .returned (.int .i64 k))∧w' = w:=by
 go_enter Tryz.func168,Tryz.ntmps168;go_wp2_with (go_at_call 192;refine (lH_ _ _ h12).mono ?_;rintro e w' ⟨⟨k,rfl⟩,rfl⟩)
 go_ret
 exact ⟨⟨_,rfl⟩,rfl⟩
theorem oe_ (zs:List Int) (g n c:Nat) (k:Int) (w:World) (hn:zs.length = n) (h12:n≤12) (hrow:aL_ w g zs) :
 Calls Tryz.prog 167 #[.slice (some ⟨g,0,none⟩) n c,.int .i64 0,.int .i64 n,.int .i64 k] w fun e w'=>(∃ v,e = .returned v)∧∃ ys,ys.Perm zs∧b7_ ys n∧aL_ w' g ys∧Turn (fun k=>k = g) w w':=by
 have HI:=aN_ (n7_ zs g n c w hn h12 hrow);have h12':(n:Int)≤12:=by omega
 have hw:IntKind.i64.wrap ((n:Int) - 0) = (n:Int):=by rw [IntKind.wrap_i64];omega
 clear hn hrow h12;go_enter Tryz.func167,Tryz.ntmps167;go_wp2_with fail
 go_loopw [1,2] (fun x y wr=>x = .int .i64 0∧y = .int .i64 n∧wr = w) (fun _ _ _=>0)
 case atStart=>exact ⟨rfl,rfl,rfl⟩
 case round=>
  obtain ⟨rfl,rfl,rfl⟩:=hrel;go_wp2_with fail
  refine HI.out.mono ?_;rintro e w2 ⟨⟨u,rfl⟩,hr⟩;go_wp2_with fail
  refine bodyPost_ret (results_none rfl _ _ _) rfl ?_;exact ⟨⟨_,rfl⟩,hr⟩
theorem nF_ (zs:List Int) (g n c:Nat) (w:World) (hn:zs.length = n) (h12:n≤12) (hrow:aL_ w g zs) :
 Calls Tryz.prog 137 #[.slice (some ⟨g,0,none⟩) n c] w fun e w'=>(∃ v,e = .returned v)∧∃ ys,ys.Perm zs∧b7_ ys n∧aL_ w' g ys∧Turn (fun k=>k = g) w w':=by
 have HI:=aN_ (fun k=>oe_ zs g n c k w hn h12 hrow);have hw:IntKind.u64.wrap (n:Int) = (n:Int):=by rw [IntKind.wrap_u64];omega
 clear hn hrow;go_enter Tryz.func137,Tryz.ntmps137;go_wp2_with fail
 refine (lI_ n _ h12).mono ?_;rintro e w2 ⟨⟨k,rfl⟩,rfl⟩;go_wp2_with fail
 refine (HI.out _).mono ?_;rintro e w3 ⟨⟨u,rfl⟩,hr⟩;go_wp2_with fail
 go_end0
 exact ⟨⟨_,rfl⟩,hr⟩
theorem mr_ {a:Option Addr} {m n c:Nat} (h:m = n):Ending.returned (.slice a m c) = .returned (.slice a n c):=by rw [h]
theorem aL_.out {W:World} {g:Nat} {zs:List Int} (h:aL_ W g zs) {i:Nat} (hi:zs.length≤i) (v:Value):aL_ (W.setCell ⟨g,i,none⟩ v) g zs:=by
 obtain ⟨cur,h1,h2⟩:=h;refine ⟨_,heap_setCell_same W g i cur 3 _ h1,fun j hj=>?_⟩;rw [Array.getElem?_setIfInBounds_ne (by omega),h2 j hj]
theorem aL_.outs {g:Nat} {zs:List Int}:∀ (vs:List Value) (o:Nat) {W:World},aL_ W g zs→zs.length≤o→aL_ (W.setCells g o vs) g zs
 | [],_,_,h,_=>h
 | v :: r,o,W,h,ho=>by unfold World.setCells;exact aL_.outs r (o+1) (h.out ho v) (by omega)
theorem eQ_ (g:Nat):∀ (vs:List Value) (o:Nat) (W:World),Turn (fun k=>k = g) W (W.setCells g o vs)
 | [],_,_=>Turn.refl _ _
 | v :: r,o,W=>by unfold World.setCells;exact (cE_ W g o v).trans (eQ_ g r (o+1) _) (fun _ _ e=>e)
theorem aL_.take {W:World} {g:Nat} {zs:List Int} (h:aL_ W g zs) (k:Nat):aL_ W g (zs.take k):=by
 obtain ⟨cur,h1,h2⟩:=h;exact ⟨cur,h1,fun i hi=>by rw [List.length_take] at hi;rw [h2 i (by omega),List.getElem_take]⟩
structure Comp (zs ys:List Int) (k q:Nat):Prop where
 len:ys.length = zs.length
 k0:1≤k
 kq:k≤q - 1
 qn:q≤zs.length
 same:∀ i (h:i < zs.length),q - 1≤i→ys[i]'(by omega) = zs[i]
 rise:(ys.take k).Pairwise (· < ·)
 mem:∀ z,z ∈ ys.take k↔z ∈ zs.take q
 last:∀ (h:k - 1 < ys.length) (h2:q - 1 < zs.length),ys[k - 1] = zs[q - 1]
theorem Comp.skip {zs ys:List Int} {k q:Nat} (h:Comp zs ys k q) (hq:q < zs.length) (e:zs[q] = zs[q - 1]'(by omega)):Comp zs ys k (q+1):=by
 have hk:=h.k0;have hkq:=h.kq;refine ⟨h.len,h.k0,by omega,by omega,fun i hi h1=>h.same i hi (by omega),h.rise,fun z=>?_,fun h1 h2=>?_⟩
 ·rw [h.mem,List.take_succ_eq_append_getElem hq,List.mem_append];constructor
  ·exact .inl
  ·rintro (h1 | h1)
   ·exact h1
   ·rw [List.mem_singleton] at h1;subst h1;rw [e];have:zs[q - 1]'(by omega) = (zs.take q)[q - 1]'(by rw [List.length_take];omega):=by rw [List.getElem_take]
    rw [this];exact List.getElem_mem _
 ·have:=h.last h1 (by omega);simp only [Nat.add_sub_cancel];rw [e];exact this
theorem mJ_ {ys:List Int} {k:Nat} (h:(ys.take k).Pairwise (· < ·)) (hk:1≤k) (hl:k≤ys.length):∀ a ∈ ys.take k,a≤ys[k - 1]'(by omega):=by
 intro a ha;obtain ⟨i,hi,rfl⟩:=List.mem_iff_getElem.1 ha;rw [List.length_take] at hi;rw [List.getElem_take];by_cases e:i = k - 1
 ·subst e;exact Int.le_refl _
 ·have:=List.pairwise_iff_getElem.1 h i (k - 1) (by rw [List.length_take];omega) (by rw [List.length_take];omega) (by omega);rw [List.getElem_take,List.getElem_take] at this;omega
theorem Comp.take {zs ys:List Int} {k q:Nat} (h:Comp zs ys k q) (hq:q < zs.length) (e:zs[q - 1]'(by omega) < zs[q]):Comp zs (ys.set k zs[q]) (k+1) (q+1):=by
 have hk:=h.k0;have hkq:=h.kq;have hl:=h.len;have ht:(ys.set k zs[q]).take (k+1) = ys.take k ++ [zs[q]]:=by
  rw [List.take_succ_eq_append_getElem (by simp;omega),List.take_set_of_le (by omega)];simp
 refine ⟨by simp [hl],by omega,by omega,by omega,fun i hi h1=>?_,?_,fun z=>?_,fun h1 h2=>?_⟩
 ·rw [List.getElem_set_ne (by omega)];exact h.same i hi (by omega)
 ·rw [ht,List.pairwise_append];refine ⟨h.rise,by simp,fun a ha b hb=>?_⟩;rw [List.mem_singleton] at hb;subst hb;have h3:=mJ_ h.rise hk (by omega) a ha;have h4:=h.last (by omega) (by omega);omega
 ·rw [ht,List.mem_append,h.mem,List.take_succ_eq_append_getElem hq,List.mem_append]
 ·simp
theorem Comp.first {zs:List Int} {k:Nat} (hk:1≤k) (hl:k < zs.length) (hr:(zs.take k).Pairwise (· < ·)) (e:zs[k] = zs[k - 1]'(by omega)):Comp zs zs k (k+1):=by
 refine ⟨rfl,hk,by omega,by omega,fun _ _ _=>rfl,hr,fun z=>?_,fun h1 h2=>?_⟩
 ·rw [List.take_succ_eq_append_getElem hl,List.mem_append];constructor
  ·exact .inl
  ·rintro (h1 | h1)
   ·exact h1
   ·rw [List.mem_singleton] at h1;subst h1;rw [e];have:zs[k - 1]'(by omega) = (zs.take k)[k - 1]'(by rw [List.length_take];omega):=by rw [List.getElem_take]
    rw [this];exact List.getElem_mem _
 ·simp only [Nat.add_sub_cancel];exact e.symm
theorem iR_ (zs:List Int) (g n c:Nat) (w:World) (hn:zs.length = n) (h12:n≤12) (hnc:n≤c) (hso:b7_ zs n) (hrow:aL_ w g zs) :
 Calls Tryz.prog 138 #[.slice (some ⟨g,0,none⟩) n c] w fun e w'=>∃ ys:List Int,∃ c',e = .returned (.slice (some ⟨g,0,none⟩) ys.length c')∧ys.length≤12∧ys.Pairwise (· < ·)∧(∀ z,z ∈ ys↔z ∈ zs)∧aL_ w' g ys∧Turn (fun k=>k = g) w w':=by
 have HN:Hid (zs.length = n):=hn;have HSO:Hid (b7_ zs n):=hso;by_cases h2:(n:Int) < 2
 ·have hp:zs.Pairwise (· < ·):=by
   match zs,hn with
   | [],_=>simp
   | [x],_=>simp
   | x :: y :: r,h=>simp at h;omega
  have HP:Hid (zs.Pairwise (· < ·)):=hp;clear hn hso hp;go_enter Tryz.func138,Tryz.ntmps138;go_wp2
  go_ret
  exact ⟨zs,c,mr_ HN.out.symm,by have:=HN.out;omega,HP.out,fun z=>Iff.rfl,hrow,Turn.refl _ _⟩
 ·clear hn hso;go_enter Tryz.func138,Tryz.ntmps138;go_wp2
  go_loopw [3] (fun i wr=>∃ (k:Nat),1≤k∧k≤n∧i = .int .i64 k∧(zs.take k).Pairwise (· < ·)∧aL_ wr g zs∧Turn (fun k=>k = g) w wr) (fun i _=>n - (intOf i).toNat)
  case atStart=>exact ⟨1,by omega,by omega,rfl,by match zs with | []=>simp | x :: r=>simp,hrow,Turn.refl _ _⟩
  case round=>
   clear hrow;obtain ⟨k,hk1,hk2,rfl,hri,hrw,htn⟩:=hrel;have HRI:Hid ((zs.take k).Pairwise (· < ·)):=hri;clear hri;by_cases hlt:k < n
   ·obtain ⟨k',rfl⟩:∃ k',k = k' + 1:=⟨k - 1,by omega⟩
    have hkl:k' + 1 < zs.length:=by rw [HN.out];exact hlt
    have cc1:=hrw.cell hkl;have cc0:=hrw.cell (show k' < zs.length by omega);obtain ⟨x1,hx1⟩:∃ x,x = zs[k' + 1]:=⟨_,rfl⟩
    obtain ⟨x0,hx0⟩:∃ x,x = zs[k']:=⟨_,rfl⟩
    rw [← hx1] at cc1;rw [← hx0] at cc0;have HX:Hid (x1 = zs[k' + 1]∧x0 = zs[k']):=⟨hx1,hx0⟩;have hle:x0≤x1:=by rw [hx0,hx1];exact HSO.out k' (k' + 1) (by omega) hkl (by omega)
    have j1:(k':Int)+1 < n:=by omega
    have j0:(k':Int) < n:=by omega
    have jz:(0:Int)≤(k':Int)+1:=by omega
    have jw2:IntKind.i64.wrap (k':Int) = (k':Int):=by rw [IntKind.wrap_i64];omega
    by_cases he:x1 = x0
    ·have hd:(x1 == x0) = true:=by simpa using he
     have HCo:Hid (Comp zs zs (k' + 1) (k' + 1+1)):=Comp.first (by omega) hkl HRI.out (by simp only [Nat.add_sub_cancel];rw [← hx1,← hx0];exact he)
     have hck:¬ c = k' + 1:=by omega
     have jc:(k':Int)+1≤n:=by omega
     have jn:(n:Int)≤c:=by omega
     clear hx1 hx0 he hle;go_wp2
     go_quiet (fail)
     go_wp2_with fail
     go_loopw [3,5] (fun kv qv wr2=>∃ (k q:Nat) (ys:List Int),1≤q∧q≤n - (k' + 1)∧kv = .int .i64 k∧qv = .int .i64 q∧Comp zs ys k (k' + 1+q)∧aL_ wr2 g ys∧Turn (fun k=>k = g) w wr2) (fun _ qv _=>n - (intOf qv).toNat)
     case atStart=>exact ⟨k' + 1,1,zs,by omega,by omega,rfl,rfl,HCo.out,hrw.keep rfl,⟨htn.os,htn.tape,htn.output,htn.size,htn.block⟩⟩
     case round=>
      clear hrw htn HCo HX cc0 cc1;obtain ⟨k,q,ys,hq1,hq2,rfl,rfl,hco,hrw,htn⟩:=hrel;have HCo:Hid (Comp zs ys k (k' + 1+q)):=hco;have hk0:=hco.k0;have hkq:=hco.kq;have hyl:ys.length = n:=by rw [hco.len,HN.out]
      have HYL:Hid (ys.length = n):=hyl;by_cases hql:q < n - (k' + 1)
      ·obtain ⟨q',rfl⟩:∃ q',q = q' + 1:=⟨q - 1,by omega⟩
       have hzl:k' + 1+(q' + 1) < zs.length:=by rw [HN.out];omega
       have e1:=hco.same (k' + 1+(q' + 1)) hzl (by omega);have e0:=hco.same (k' + 1+q') (by omega) (by omega);have cc1:=hrw.cell (show k' + 1+(q' + 1) < ys.length by omega);have cc0:=hrw.cell (show k' + 1+q' < ys.length by omega);rw [e1] at cc1;rw [e0] at cc0;have ff:=hrw.free k;have ck:=hrw.cell (show k < ys.length by omega);obtain ⟨x1,hx1⟩:∃ x,x = zs[k' + 1+(q' + 1)]:=⟨_,rfl⟩
       obtain ⟨x0,hx0⟩:∃ x,x = zs[k' + 1+q']:=⟨_,rfl⟩
       rw [← hx1] at cc1;rw [← hx0] at cc0;obtain ⟨xk,hxk⟩:∃ x,x = ys[k]:=⟨_,rfl⟩
       rw [← hxk] at ck;have hle:x0≤x1:=by rw [hx0,hx1];exact HSO.out _ _ (by omega) hzl (by omega)
       have i1:(q':Int)+1 < ((n - (k' + 1):Nat):Int):=by omega
       have i2:(q':Int) < ((n - (k' + 1):Nat):Int):=by omega
       have i3:(0:Int)≤(q':Int)+1:=by omega
       have i4:IntKind.i64.wrap (q':Int) = (q':Int):=by rw [IntKind.wrap_i64];omega
       have i5:(k:Int) < n:=by omega
       have i6:(0:Int)≤(k:Int):=by omega
       by_cases he:x1 = x0
       ·have hd:(x1 != x0) = false:=by simpa using he
        have HS:Hid (Comp zs ys k (k' + 1+(q' + 1+1))):=hco.skip hzl (by simp only [← Nat.add_assoc,Nat.add_sub_cancel];simp only [← Nat.add_assoc] at hx1;rw [← hx1,← hx0];exact he);clear hx1 hx0 hxk he hle hco e1 e0 hyl;go_wp2
        go_quiet (fail)
        go_wp2
        go_roundw
        case rel=>exact ⟨k,q' + 1+1,ys,by omega,by omega,rfl,by go_num,HS.out,hrw.keep rfl,⟨htn.os,htn.tape,htn.output,htn.size,htn.block⟩⟩
        case measure=>simp [intOf];omega
       ·have hd:(x1 != x0) = true:=by simpa using he
        have HS:Hid (Comp zs (ys.set k x1) (k+1) (k' + 1+(q' + 1+1))):=by
         have:=hco.take hzl (by simp only [← Nat.add_assoc,Nat.add_sub_cancel];simp only [← Nat.add_assoc] at hx1;rw [← hx1,← hx0];omega);rw [← hx1] at this;exact this
        clear hx1 hx0 hxk he hle hco e1 e0 hyl;go_wp2
        go_quiet (fail)
        go_wp2
        have hr2:aL_ ((wr.drewN nq).setCell ⟨g,k,none⟩ (.int .i64 x1)) g (ys.set k x1):=aL_.set (W:=wr.drewN nq) (hrw.keep rfl) (by have:=HYL.out;omega) x1;have ht2:Turn (fun k=>k = g) w ((wr.drewN nq).setCell ⟨g,k,none⟩ (.int .i64 x1)):=Turn.trans (B:=wr.drewN nq) ⟨htn.os,htn.tape,htn.output,htn.size,htn.block⟩ (cE_ _ _ _ _) (fun _ _ e=>e);go_roundw
        case rel=>exact ⟨k+1,q' + 1+1,ys.set k x1,by omega,by omega,by go_num,by go_num,HS.out,hr2,ht2⟩
        case measure=>simp [intOf];omega
      ·have hqe:k' + 1+q = n:=by omega
       have hclear:∀ ty,(Builtin.clear_ #[32] ty #[.slice (some ⟨g,k,none⟩) (n - k) (c - k)]).run Tryz.prog wr = .ok (.tuple #[]) (wr.setCells g k (List.replicate (n - k) (.int .i64 0))):=fun ty=>
        Lib.run_clear_slice wr 32 3 ty (.int .i64 0) Tryz.underlying32 zero3 rfl rfl g k (n - k) (c - k) (by omega) (fun j hj=>by rw [hrw.cell (show k+j < ys.length by omega)];rfl) (fun j hj=>hrw.free _)
       have hck2:¬ c = k:=by omega
       have i5:(k:Int)≤n:=by omega
       have i6:(0:Int)≤(k:Int):=by omega
       have i7:(k:Int)≤c:=by omega
       have hr2:aL_ (wr.setCells g k (List.replicate (n - k) (.int .i64 0))) g (ys.take k):=aL_.outs _ k (hrw.take k) (by rw [List.length_take];omega);have ht2:Turn (fun k=>k = g) w (wr.setCells g k (List.replicate (n - k) (.int .i64 0))):=htn.trans (eQ_ g _ _ _) (fun _ _ e=>e);have HR2:=aN_ (And.intro hr2 ht2);clear hr2 ht2 hco hyl;go_wp2
       go_ret
       have hco:=HCo.out;exact ⟨ys.take k,c,mr_ (by rw [List.length_take,HYL.out];omega),by rw [List.length_take,HYL.out];omega,hco.rise,fun z=>by rw [hco.mem,List.take_of_length_le (by rw [HN.out];omega)],HR2.out.1,HR2.out.2⟩
    ·have hd:(x1 == x0) = false:=by simpa using he
     have HNx:Hid ((zs.take (k' + 1+1)).Pairwise (· < ·)):=by
      show (zs.take (k' + 1+1)).Pairwise (· < ·);rw [List.take_succ_eq_append_getElem hkl,List.pairwise_append];refine ⟨HRI.out,by simp,fun a ha b hb=>?_⟩;rw [List.mem_singleton] at hb;subst hb;have h3:=mJ_ HRI.out (by omega) (by omega) a ha;simp only [Nat.add_sub_cancel] at h3;rw [← hx0] at h3;rw [← hx1];omega
     clear hx1 hx0 he hle;go_wp2
     go_quiet (fail)
     go_wp2
     go_roundw
     case rel=>exact ⟨k' + 1+1,by omega,by omega,by go_num,HNx.out,hrw.keep rfl,⟨htn.os,htn.tape,htn.output,htn.size,htn.block⟩⟩
     case measure=>simp [intOf];omega
   ·have hkn:k = n:=by omega
    have HP:Hid (zs.Pairwise (· < ·)):=by have:=HRI.out;rw [List.take_of_length_le (by rw [HN.out];omega)] at this;exact this
    go_wp2
    go_ret
    exact ⟨zs,c,mr_ HN.out.symm,by have:=HN.out;omega,HP.out,fun z=>Iff.rfl,hrw,htn⟩
theorem nd_ (a:Option Addr) (c:Nat) (w:World):Calls Tryz.prog 182 #[.slice a 0 c,.int .i64 0,.int .i64 0] w fun e w'=>(∃ v,e = .returned v)∧w' = w:=by
 go_enter Tryz.func182,Tryz.ntmps182;go_wp2
 go_loopw [6,7] (fun i _ wr=>i = .int .i64 1∧wr = w) (fun _ _ _=>0)
 case atStart=>exact ⟨rfl,rfl⟩
 case round=>
  obtain ⟨rfl,rfl⟩:=hrel;go_wp2
  go_end0
  exact ⟨⟨_,rfl⟩,rfl⟩
theorem nl_ (a:Option Addr) (c:Nat) (k:Int) (w:World):Calls Tryz.prog 167 #[.slice a 0 c,.int .i64 0,.int .i64 0,.int .i64 k] w fun e w'=>(∃ v,e = .returned v)∧w' = w:=by
 go_enter Tryz.func167,Tryz.ntmps167;go_wp2_with fail
 go_loopw [1,2] (fun x y wr=>x = .int .i64 0∧y = .int .i64 0∧wr = w) (fun _ _ _=>0)
 case atStart=>exact ⟨rfl,rfl,rfl⟩
 case round=>
  obtain ⟨rfl,rfl,rfl⟩:=hrel;go_wp2_with fail
  refine (nd_ _ _ _).mono ?_;rintro e w2 ⟨⟨u,rfl⟩,rfl⟩;go_wp2_with fail
  refine bodyPost_ret (results_none rfl _ _ _) rfl ?_;exact ⟨⟨_,rfl⟩,rfl⟩
theorem mD_ (a:Option Addr) (c:Nat) (w:World):Calls Tryz.prog 137 #[.slice a 0 c] w fun e w'=>(∃ v,e = .returned v)∧w' = w:=by
 go_enter Tryz.func137,Tryz.ntmps137;go_wp2_with fail
 refine (lI_ 0 _ (by omega)).mono ?_;rintro e w2 ⟨⟨k,rfl⟩,rfl⟩;go_wp2_with fail
 refine (nl_ _ _ _ _).mono ?_;rintro e w3 ⟨⟨u,rfl⟩,rfl⟩;go_wp2_with fail
 go_end0
 exact ⟨⟨_,rfl⟩,rfl⟩
theorem hZ_ (a:Option Addr) (c:Nat) (w:World):Calls Tryz.prog 138 #[.slice a 0 c] w fun e w'=>e = .returned (.slice a 0 c)∧w' = w:=by
 go_enter Tryz.func138,Tryz.ntmps138;go_wp2
 go_ret
 exact ⟨rfl,rfl⟩
end Go.Proofs.YtlbnkpicnokgoaaGreat
namespace Go.Proofs.YtlbnkpicnokgoaaGreat
open Go.RowKit Go.Maps
set_option linter.unusedVariables false
set_option maxRecDepth 100000
def dH_ (W:World) (a:Option Addr) (zs:List Int):Prop:=zs = []∨∃ g,a = some ⟨g,0,none⟩∧g < W.heap.size∧∀ i (h:i < zs.length),W.cell? ⟨g,i,none⟩ = some (.int .i64 zs[i])
theorem dH_.keep {W W':World} {a:Option Addr} {zs:List Int} (h:dH_ W a zs) (hB:Below W.heap.size W W'):dH_ W' a zs:=by
 rcases h with h | ⟨g,ha,hg,h⟩
 ·exact .inl h
 ·exact .inr ⟨g,ha,Nat.lt_of_lt_of_le hg hB.size,fun i hi=>(hB.cell (p:=⟨g,i,none⟩) hg).trans (h i hi)⟩
theorem aL_.ints {W:World} {g:Nat} {zs:List Int} (h:aL_ W g zs):dH_ W (some ⟨g,0,none⟩) zs:=.inr ⟨g,rfl,h.lt,fun i hi=>h.cell hi⟩
theorem hE_ {W:World} {base:Nat} {u:Value} {zs:List Int} {n:Nat} (h:W.ownsRow base 3 1 u n (zs.map (Value.int .i64))) (hne:zs≠[]):∃ g c,u = .slice (some ⟨g,0,none⟩) zs.length c∧base≤g∧zs.length≤c∧c≤maxLen∧aL_ W g zs:=by
 have hn:n = zs.length:=by have:=h.1;simp at this;omega
 subst hn;rcases h.2 with ⟨rfl,h0⟩ | ⟨g,cap,cur,rfl,hb,hg,h1,h2,_⟩
 ·exact absurd (List.length_eq_zero_iff.1 h0) hne
 ·refine ⟨g,cap,rfl,hb,h1,h2,cur,hg,fun i hi=>?_⟩;have hc:=h.cells (g:=g) rfl i (.int .i64 zs[i]) (by simp [hi]);rw [hQ_,Nat.zero_add,aX_ hg] at hc;exact hc
structure g9_ (p:ad_) (key:ByteArray) (v:Nat) (zs:List Int):Prop where
 rise:zs.Pairwise (· < ·)
 mem:∀ z,z ∈ zs↔∃ x:Nat,z = x∧∃ s,Path (bE_ p key) v s x
theorem ms_ {xs ys:List Int} (hx:xs.Pairwise (· < ·)) (hy:ys.Pairwise (· < ·)) (h:∀ z,z ∈ xs↔z ∈ ys):xs = ys:=by
 have nx:xs.Nodup:=hx.imp (fun h=>by omega);have ny:ys.Nodup:=hy.imp (fun h=>by omega);exact ((List.perm_ext_iff_of_nodup nx ny).2 h).eq_of_pairwise (le:=(· < ·)) (fun a b _ _ h1 h2=>by omega) hx hy
def eF_ (L:Trails):List Int:=L.map (fun x=>(x.1:Int))
theorem n8_ (L:Trails):ints L = (eF_ L).map (Value.int .i64):=by simp [ints,eF_]
theorem on_ {p:ad_} {v:Int} {key:ByteArray} (h:rtE p v key = 0):chkP p = 0∧kerr key.data.toList = 0∧0≤v∧v < p.posts.length:=by
 unfold rtE at h;by_cases h1:chkP p = 0
 ·rw [if_pos h1] at h;by_cases h2:ar_ v p.posts.length = true
  ·rw [if_pos h2] at h;have:=aB_.1 h2;exact ⟨h1,h,this⟩
  ·rw [if_neg h2] at h;cases h
 ·rw [if_neg h1] at h;exact absurd h h1
def qL (p:ad_) (J:List Nat):List Int:=(J.filter (fun n=>!(bAt p n).toPost)).map (fun n=>(bAt p n).dst)
theorem mk_ {p:ad_} {J:List Nat} {n:Nat} (h:(bAt p n).toPost = false):qL p (J ++ [n]) = qL p J ++ [(bAt p n).dst]:=by unfold qL;rw [List.filter_append];simp [h]
theorem mj_ {p:ad_} {J:List Nat} {n:Nat} (h:(bAt p n).toPost = true):qL p (J ++ [n]) = qL p J:=by unfold qL;rw [List.filter_append];simp [h]
theorem nT_ (p:ad_) (J:List Nat):(qL p J).length≤J.length:=by unfold qL;rw [List.length_map];exact List.length_filter_le _ _
def aW_ (p:ad_) (key:ByteArray) (L:Trails):List Nat:=L.flatMap (fun x=>bS_ p key (x.1:Nat))
theorem gJ_ {p:ad_} {key:ByteArray} {v:Int} {n:Nat}:n ∈ bS_ p key v↔n < p.binds.length∧(bAt p n).src = v∧fitP p n key = true:=by
 unfold bS_ b9_ dO_;simp
theorem eo_ {p:ad_} {key:ByteArray} {L:Trails} {n:Nat}:n ∈ aW_ p key L↔∃ x ∈ L,n < p.binds.length∧(bAt p n).src = (x.1:Nat)∧fitP p n key = true:=by
 unfold aW_;simp [gJ_]
theorem ey_ {p:ad_} {key:ByteArray}:∀ {L:Trails},(L.map Prod.fst).Nodup→(aW_ p key L).Nodup
 | [],_=>by simp [aW_]
 | x :: r, h => by
   rw [List.map_cons,List.nodup_cons] at h;have e:aW_ p key (x :: r) = bS_ p key (x.1:Nat) ++ aW_ p key r:=by simp [aW_]
   rw [e,List.nodup_append];refine ⟨?_,ey_ h.2,fun a ha b hb hab=>?_⟩
   ·unfold bS_ b9_;exact List.Pairwise.filter _ List.nodup_range
   ·subst hab;obtain ⟨_,h1,_⟩:=gJ_.1 ha;obtain ⟨y,hy,_,h2,_⟩:=eo_.1 hb;exact h.1 (List.mem_map.2 ⟨y,hy,by omega⟩)
theorem fQ_ {p:ad_} {key:ByteArray} {L:Trails} (h:(L.map Prod.fst).Nodup):(aW_ p key L).length≤p.binds.length:=
 fH_ _ _ (ey_ h) (fun n hn=>by obtain ⟨_,_,h1,_⟩:=eo_.1 hn;exact h1)
theorem hU_ {p:ad_} {key:ByteArray} {L:Trails} {i:Nat} (h:i < L.length):aW_ p key (L.take (i+1)) = aW_ p key (L.take i) ++ bS_ p key (L[i].1:Nat):=by
 unfold aW_;rw [List.take_succ_eq_append_getElem h,List.flatMap_append];simp
structure cu_ (p:ad_) (key:ByteArray) (v:Nat) (zs:List Int):Prop where
 rise:zs.Pairwise (· < ·)
 mem:∀ z,z ∈ zs↔∃ n,n < p.binds.length∧fitP p n key = true∧(bAt p n).toPost = false∧(bAt p n).dst = z∧∃ s,Path (bE_ p key) v s (bAt p n).src.toNat
theorem cu_.uniq {p:ad_} {key:ByteArray} {v:Nat} {xs ys:List Int} (hx:cu_ p key v xs) (hy:cu_ p key v ys):xs = ys:=
 ms_ hx.rise hy.rise (fun z=>by rw [hx.mem,hy.mem])
theorem ix_ {p:ad_} {key:ByteArray} (hr:bx_ p) {v:Nat} {L:Trails} {i:Nat} (h:Reached (bE_ p key) p.binds.length v L i) (hi:¬ i < L.length) {ys:List Int} (hs:ys.Pairwise (· < ·)) (hm:∀ z,z ∈ ys↔z ∈ qL p (aW_ p key L)):cu_ p key v ys:=by
 have hf:=h.found fn_ hi;refine ⟨hs,fun z=>?_⟩;rw [hm];unfold qL;simp only [List.mem_map,List.mem_filter,eo_,Bool.not_eq_true'];constructor
 ·rintro ⟨n,⟨⟨x,hx,h1,h2,h3⟩,h4⟩,h5⟩;refine ⟨n,h1,h3,h4,h5,hf.mem.1 ?_⟩;rw [h2,Int.toNat_natCast];exact List.mem_map.2 ⟨x,hx,rfl⟩
 ·rintro ⟨n,h1,h3,h4,h5,h6⟩;obtain ⟨x,hx,h7⟩:=List.mem_map.1 (hf.mem.2 h6);have hs:0≤(bAt p n).src:=by rw [db_ h1];exact (hr.src _ (List.getElem_mem h1)).1
  exact ⟨n,⟨⟨x,hx,h1,by omega,h3⟩,h4⟩,h5⟩
structure QSt (w4:World) (b2:Nat) (u:Value) (l:List Int) (Ds:List Nat) (W:World):Prop where
 keep:Turn (fun k=>k = b2) w4 W
 lbox:Boxed W b2 32 u
 row:W.ownsRow w4.heap.size 3 1 u l.length (l.map (Value.int .i64))
 marks:Marks w4.heap.size Ds W
theorem QSt.rowAt {w4:World} {b2:Nat} {u:Value} {l:List Int} {Ds:List Nat} {W:World} (h:QSt w4 b2 u l Ds W) {g:Nat} (hg:u.ownBlock = some g):w4.heap.size≤g∧(∃ cur,W.heap[g]? = some (.cells cur 3 (0,0))):=by
 rcases h.row.2 with ⟨rfl,_⟩ | ⟨g',cap,cur,rfl,h2,h3,_⟩
 ·simp [Value.ownBlock] at hg
 ·simp only [Value.ownBlock,Option.some.injEq] at hg;subst hg;exact ⟨h2,cur,h3⟩
theorem QSt.row_ne {w4:World} {b2:Nat} {u:Value} {l:List Int} {Ds:List Nat} {W:World} (h:QSt w4 b2 u l Ds W) {g:Nat} (hg:u.ownBlock = some g):g≠b2∧g ∉ Ds:=by
 obtain ⟨h1,cur,h2⟩:=h.rowAt hg;refine ⟨fun e=>?_,fun e=>?_⟩
 ·have:=h.lbox;unfold Boxed at this;rw [← e,h2] at this;simp at this
 ·have:=(h.marks.there g e).2;rw [h2] at this;simp at this
theorem QSt.mark_ne {w4:World} {b2:Nat} {u:Value} {l:List Int} {Ds:List Nat} {W:World} (h:QSt w4 b2 u l Ds W) {D:Nat} (hD:D ∈ Ds):D≠b2:=fun e=>by
 have h2:=(h.marks.there D hD).2;have:=h.lbox;unfold Boxed at this;rw [← e,h2] at this;simp at this
theorem QSt.turn {w4:World} {b2:Nat} {u:Value} {l:List Int} {Ds:List Nat} {W W':World} {X:Nat→Prop} (h:QSt w4 b2 u l Ds W) (t:Turn X W W') (hx:∀ k,k < w4.heap.size→¬ X k) (h2:¬ X b2)
 (hg:∀ g,u.ownBlock = some g→¬ X g) (hD:∀ D ∈ Ds,¬ X D):QSt w4 b2 u l Ds W':=
 ⟨h.keep.trans t (fun i hi e=>absurd e (hx i hi)),t.boxed h.lbox h2,t.row h.row hg,h.marks.turn t hD⟩
theorem QSt.below {w4:World} {b2:Nat} {u:Value} {l:List Int} {Ds:List Nat} {W W':World} (h:QSt w4 b2 u l Ds W) (hB:Below W.heap.size W W'):QSt w4 b2 u l Ds W':=
 h.turn (X:=fun _=>False) (Turn.of_below _ hB) (fun _ _=>id) id (fun _ _=>id) (fun _ _=>id)
theorem QSt.other {w4:World} {b2:Nat} {u:Value} {l:List Int} {Ds:List Nat} {W W':World} {row:Option Nat} {S:Nat} (h:QSt w4 b2 u l Ds W) (hg:W.grownBy W' row) (hr:∀ r,row = some r→S≤r∧∃ o:Obj,W.heap[r]? = some o∧o.isCells = false)
 (hS:w4.heap.size≤S) (hb:b2 < S) (hDs:∀ D ∈ Ds,D < S):QSt w4 b2 u l Ds W':=by
 refine h.turn (X:=fun k=>row = some k) (Turn.of_grown hg (fun r e=>e)) (fun k hk e=>by have:=(hr k e).1;omega) (fun e=>by have:=(hr _ e).1;omega) (fun g hg' e=>?_) (fun D hD e=>by have:=(hr _ e).1;have:=hDs D hD;omega);obtain ⟨_,cur,h2⟩:=h.rowAt hg';obtain ⟨_,o,h3,h4⟩:=hr g e;rw [h2] at h3;cases h3;cases h4
theorem QSt.push {w4:World} {b2:Nat} {u u':Value} {l:List Int} {Ds:List Nat} {W Wc:World} {z:Int} {tmp:Obj} (h:QSt w4 b2 u l Ds W) (hb:b2 < w4.heap.size)
 (hc:(W.alloc tmp).grownBy Wc u.ownBlock) (hr:Wc.ownsRow w4.heap.size 3 1 u' (l.length+1) (l.map (Value.int .i64) ++ [.int .i64 z])) :
 Boxed Wc b2 32 u∧QSt w4 b2 u' (l ++ [z]) Ds (Wc.setCell ⟨b2,0,none⟩ u')∧Turn (fun k=>k = b2∨u.ownBlock = some k) W (Wc.setCell ⟨b2,0,none⟩ u'):=by
 have t2:Turn (fun _=>False) W (W.alloc tmp):=Turn.of_grown (World.grownBy_alloc W tmp none) (fun r e=>by cases e);have t3:Turn (fun k=>u.ownBlock = some k) (W.alloc tmp) Wc:=Turn.of_grown hc (fun r e=>e);have t4:Turn (fun k=>k = b2) Wc (Wc.setCell ⟨b2,0,none⟩ u'):=Turn.of_grown (grownBy_setCell' Wc _ u') (fun r e=>by cases e;rfl);have t23:Turn (fun k=>u.ownBlock = some k) W Wc:=(t2.mono (fun _ _ e=>e.elim)).trans t3 (fun _ _ e=>e);have t:Turn (fun k=>k = b2∨u.ownBlock = some k) W (Wc.setCell ⟨b2,0,none⟩ u'):=(t23.mono (fun _ _ e=>.inr e)).trans t4 (fun _ _ e=>.inl e);have hlb:Boxed Wc b2 32 u:=t23.boxed h.lbox (fun e=>(h.row_ne e).1 rfl);have hu':∀ g,u'.ownBlock = some g→g≠b2:=fun g hg e=>by have:=(hr.lt g hg).1;omega
 refine ⟨hlb,⟨h.keep.trans t (fun i hi e=>?_),hlb.set u',?_,h.marks.turn t (fun D hD e=>?_)⟩,t⟩
 ·rcases e with e | e
  ·exact e
  ·have:=(h.rowAt e).1;omega
 ·have:=t4.row hr (fun g hg=>hu' g hg);simpa using this
 ·rcases e with e | e
  ·exact h.mark_ne hD e
  ·exact (h.row_ne e).2 hD
theorem QSt.keepF {w4:World} {n0 b2 B:Nat} {u:Value} {l:List Int} {Ds:List Nat} {W W':World} (h:QSt w4 b2 u l Ds W) (t:Turn (fun k=>k = b2∨u.ownBlock = some k) W W')
 (hn:n0≤b2) (hw:n0≤w4.heap.size) (hb:b2 < w4.heap.size) (hB:w4.heap.size≤B) (hW:B+3≤W.heap.size) (hg:∀ g,u.ownBlock = some g→g < B∨B+3≤g):cF_ n0 B W W':=by
 refine ⟨t.below (by omega) (fun k e=>?_),fun j hj=>t.block _ (by omega) (fun e=>?_)⟩
 ·rcases e with rfl | e
  ·exact hn
  ·have:=(h.rowAt e).1;omega
 ·rcases e with e | e
  ·omega
  ·have:=hg _ e;omega
theorem QSt.keepsFrom {w4:World} {b2 S:Nat} {u:Value} {l:List Int} {Ds:List Nat} {W W':World} (h:QSt w4 b2 u l Ds W) (t:Turn (fun k=>k = b2∨u.ownBlock = some k) W W') (hS:b2 < S):KeepsFrom S W W':=by
 refine ⟨t.size,fun k o hk ho hc=>(t.block k (Array.getElem?_eq_some_iff.1 ho).1 (fun e=>?_)).trans ho⟩;rcases e with e | e
 ·omega
 ·obtain ⟨_,cur,h2⟩:=h.rowAt e;rw [h2] at ho;cases ho;cases hc
end Go.Proofs.YtlbnkpicnokgoaaGreat
