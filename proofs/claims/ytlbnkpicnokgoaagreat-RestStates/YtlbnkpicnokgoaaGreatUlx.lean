import Derived.Test.YtlbnkpicnokgoaaGreatUex
import Derived.Test.YtlbnkpicnokgoaaGreatUjx
import Derived.Test.YtlbnkpicnokgoaaGreatCJa
import Derived.Test.YtlbnkpicnokgoaaGreatCAc
import Derived.Test.YtlbnkpicnokgoaaGreatUfx
import Derived.Deep.RegionHeld3
namespace Go.Proofs.YtlbnkpicnokgoaaGreat
open Go.RowKit Go.Maps
set_option linter.unusedVariables false
set_option maxRecDepth 100000
set_option maxHeartbeats 4000000
def oDef:OutD:=⟨0,0,0,iDef⟩
def outIdx (s:ab_) (tag:Int):Nat:=s.outs.findIdx (fun o=>decide (o.tag = tag))
def eK_ (s:ab_) (tag:Int):OutD:=s.outs.getD (outIdx s tag) oDef
def bg_ (s:ab_) (tag:Int):ab_:={ s with outs:=s.outs.eraseIdx (outIdx s tag) }
def ackE (p:ad_) (s:ab_) (tag:Int):Int:=if stE p s≠0 then stE p s else if outIdx s tag = s.outs.length then 5 else 0
def ackS (s:ab_) (tag:Int):ab_:={ bg_ s tag with acked:=s.acked+1 }
def rejE (p:ad_) (s:ab_) (tag:Int):Int:=if ackE p s tag≠0 then ackE p s tag else if 524288 < s.nextSeq then 2 else 0
def hR_ (x:ae_):ae_:={ x with again:=true }
def rejM (p:ad_) (s:ab_) (tag:Int) (back:Bool):ab_:=if back = true then putS p (bg_ s tag) (eK_ s tag).queue.toNat (hR_ (eK_ s tag).item) else { bg_ s tag with dropped:=s.dropped+1 }
def rejA (p:ad_) (s:ab_) (tag:Int) (back:Bool):List ArrD:=if back = true then putB p (bg_ s tag) (eK_ s tag).queue.toNat (hR_ (eK_ s tag).item) else dieL p (eK_ s tag).queue.toNat (eK_ s tag).item
def rejS (p:ad_) (s:ab_) (tag:Int) (back:Bool):ab_:=arrS p 600 (rejM p s tag back) (rejA p s tag back)
theorem eJ_ (s:ab_) (tag:Int):outIdx s tag≤s.outs.length:=List.findIdx_le_length
theorem iZ_ {α:Type} {xs:List α} {i:Nat} (h:i < xs.length):xs = xs.take i ++ xs[i] :: xs.drop (i+1)∧xs.eraseIdx i = xs.take i ++ xs.drop (i+1):=
 ⟨(iE_ h xs[i]).1,List.eraseIdx_eq_take_drop_succ _ _⟩
structure bR_ (s:ab_) (tag:Int) (i:Nat) (o:OutD):Prop where
 idx:outIdx s tag = i
 lt:i < s.outs.length
 get:s.outs[i]'lt = o
 out:eK_ s tag = o
 tag:o.tag = tag
theorem jP_ {s:ab_} {tag:Int} (h:outIdx s tag≠s.outs.length):∃ i o,bR_ s tag i o:=by
 have hl:outIdx s tag < s.outs.length:=by have:=eJ_ s tag;omega
 refine ⟨outIdx s tag,s.outs[outIdx s tag],rfl,hl,rfl,?_,?_⟩
 ·unfold eK_;rw [List.getD_eq_getElem?_getD,List.getElem?_eq_getElem hl];rfl
 ·have:=List.findIdx_getElem (w:=hl) (p:=fun o:OutD=>decide (o.tag = tag));exact of_decide_eq_true this
theorem bR_.mem {s:ab_} {tag:Int} {i:Nat} {o:OutD} (h:bR_ s tag i o):o ∈ s.outs:=by rw [← h.get];exact List.getElem_mem h.lt
theorem bR_.less {s:ab_} {tag:Int} {i:Nat} {o:OutD} (h:bR_ s tag i o):(bg_ s tag).outs = s.outs.eraseIdx i:=by unfold bg_;simp only;rw [h.idx]
theorem bR_.perm {s:ab_} {tag:Int} {i:Nat} {o:OutD} (h:bR_ s tag i o):(o :: (bg_ s tag).outs).Perm s.outs:=by
 obtain ⟨e1,e2⟩:=iZ_ h.lt;rw [h.less,e2,← h.get];refine List.perm_middle.symm.trans ?_;rw [← e1]
theorem bR_.seqs {s:ab_} {tag:Int} {i:Nat} {o:OutD} (h:bR_ s tag i o):(o.item.seq :: as_ (bg_ s tag)).Perm (as_ s):=by
 have e:as_ (bg_ s tag) = s.ready.flatMap (fun l=>l.map ae_.seq) ++ (bg_ s tag).outs.map (fun o=>o.item.seq):=rfl;have hp:((o :: (bg_ s tag).outs).map (fun o=>o.item.seq)).Perm (s.outs.map (fun o=>o.item.seq)):=h.perm.map _;rw [List.map_cons] at hp;rw [e];refine List.perm_middle.symm.trans ?_;exact hp.append_left _
theorem bR_.held {s:ab_} {tag:Int} {i:Nat} {o:OutD} (h:bR_ s tag i o) (t:Int):heldN (bg_ s tag) t+(if o.taker = t then 1 else 0) = heldN s t:=by
 have hp:=(h.perm.filter (fun o=>decide (o.taker = t))).length_eq;unfold heldN;rw [← hp,List.filter_cons];by_cases e:o.taker = t <;> simp [e]
theorem ak_.less {p:ad_} {s:ab_} (h:ak_ p s 0) {tag:Int} {i:Nat} {o:OutD} (ho:bR_ s tag i o):ak_ p (bg_ s tag) 1:=by
 have hs:=ho.seqs;have hnd:=hs.nodup_iff.2 h.nodup;have hsub:(bg_ s tag).outs.Sublist s.outs:=by rw [ho.less];exact List.eraseIdx_sublist _ _
 refine ⟨h.pl,h.tk,h.len,h.line,h.tok,?_,h.ns,h.nt,h.ak,h.dr,(List.nodup_cons.1 hnd).2,fun z hz=>h.lt z (hs.mem_iff.1 (List.mem_cons_of_mem _ hz)),h.room,fun k hk=>?_,?_,h.cs⟩
 ·exact bB_.2 ⟨fun o ho=>(bB_.1 h.outs).1 o (hsub.mem ho),h.rise.sublist hsub⟩
 ·have h1:=h.hold k hk;have h2:=ho.held (k:Int);show (heldN (bg_ s tag) k:Int)≤(s.takers.getD k ⟨0,0⟩).most;omega
 ·have h1:=h.sum;have h2:=hs.length_eq;simp only [List.length_cons] at h2;show s.came = ((as_ (bg_ s tag)).length:Int)+1+s.acked+s.dropped;omega
theorem bR_.notin {p:ad_} {s:ab_} {tag:Int} {i:Nat} {o:OutD} (ho:bR_ s tag i o) (h:ak_ p s 0):o.item.seq ∉ as_ (bg_ s tag):=(List.nodup_cons.1 (ho.seqs.nodup_iff.2 h.nodup)).1
theorem ak_.ack {p:ad_} {s:ab_} (h:ak_ p s 0) {tag:Int} {i:Nat} {o:OutD} (ho:bR_ s tag i o):ak_ p (ackS s tag) 0:=by
 have g:=h.less ho;exact ⟨g.pl,g.tk,g.len,g.line,g.tok,g.outs,g.ns,g.nt,by show 0≤s.acked+1;have:=h.ak;omega,g.dr,g.nodup,g.lt,g.room,g.hold,by have:=g.sum;show s.came = ((as_ (bg_ s tag)).length:Int)+0+(s.acked+1)+s.dropped;have e:(bg_ s tag).came = s.came:=rfl;have e2:(bg_ s tag).acked = s.acked:=rfl;have e3:(bg_ s tag).dropped = s.dropped:=rfl;omega,g.cs⟩
theorem ha_ {p:ad_} {s:ab_} {tag:Int} (h:ackE p s tag = 0):ak_ p s 0∧∃ i o,bR_ s tag i o:=by
 unfold ackE at h;by_cases h1:stE p s = 0
 ·rw [if_neg (by simp [h1])] at h;by_cases h2:outIdx s tag = s.outs.length
  ·rw [if_pos h2] at h;cases h
  ·exact ⟨aK_ h1,jP_ h2⟩
 ·rw [if_pos h1] at h;exact absurd h h1
theorem j2_ {p:ad_} {s:ab_} {tag:Int} (h:rejE p s tag = 0):ak_ p s 0∧(∃ i o,bR_ s tag i o)∧s.nextSeq≤524288:=by
 unfold rejE at h;by_cases h1:ackE p s tag = 0
 ·rw [if_neg (by simp [h1])] at h;by_cases h2:524288 < s.nextSeq
  ·rw [if_pos h2] at h;cases h
  ·exact ⟨(ha_ h1).1,(ha_ h1).2,by omega⟩
 ·rw [if_pos h1] at h;exact absurd h h1
theorem bR_.queue {p:ad_} {s:ab_} {n:Int} {tag:Int} {i:Nat} {o:OutD} (ho:bR_ s tag i o) (h:ak_ p s n):0≤o.queue∧o.queue.toNat < s.ready.length∧o.queue < p.queues.length:=by
 obtain ⟨_,hf⟩:=h.fine ho.mem;obtain ⟨t,ht,h1,h2⟩:=hf.tk;have:=(ct_.1 (h.tok t (List.mem_of_getElem? ht))).1;have hl:=h.len;omega
theorem ak_.rejM {p:ad_} {s:ab_} (h:ak_ p s 0) {tag:Int} {i:Nat} {o:OutD} (ho:bR_ s tag i o) (back:Bool):ak_ p (rejM p s tag back) 0∧(∀ a ∈ rejA p s tag back,c9_ p a)∧(rejA p s tag back).length≤4:=by
 have g:=h.less ho;have hi:=(h.fine ho.mem).2.item;have hf:=h.rp.few.2.1;cases back with
 | true =>
   unfold Go.Proofs.YtlbnkpicnokgoaaGreat.rejM Go.Proofs.YtlbnkpicnokgoaaGreat.rejA;rw [if_pos rfl,if_pos rfl,ho.out];have hq:o.queue.toNat < (bg_ s tag).ready.length:=(ho.queue h).2.1;have hi':am_ (hR_ o.item) = true:=hi;have hl:=g.line _ (a7_ hq);have hn:(hR_ o.item).seq ∉ as_ (bg_ s tag):=ho.notin h;refine ⟨g.put hq hi' hn (h.lt _ (ho.seqs.mem_iff.1 List.mem_cons_self)),?_⟩;obtain ⟨a1,a2⟩:=mh_ (p:=p) (q:=o.queue.toNat) (ds_ hl hi' (cD_ hq hl hn));exact ⟨a1,Nat.le_trans a2 hf⟩
 | false =>
   unfold Go.Proofs.YtlbnkpicnokgoaaGreat.rejM Go.Proofs.YtlbnkpicnokgoaaGreat.rejA;rw [if_neg (by decide),if_neg (by decide),ho.out];obtain ⟨a1,a2⟩:=iY_ (p:=p) (q:=o.queue.toNat) hi;refine ⟨⟨g.pl,g.tk,g.len,g.line,g.tok,g.outs,g.ns,g.nt,g.ak,by show 0≤s.dropped+1;have:=h.dr;omega,g.nodup,g.lt,g.room,g.hold,?_,g.cs⟩,a1,Nat.le_trans a2 hf⟩;have:=g.sum;show s.came = ((as_ (bg_ s tag)).length:Int)+0+s.acked+(s.dropped+1);have e:(bg_ s tag).came = s.came:=rfl;have e2:(bg_ s tag).acked = s.acked:=rfl;have e3:(bg_ s tag).dropped = s.dropped:=rfl;omega
theorem ec_ (p:ad_) (s:ab_) (tag:Int) (back:Bool):(rejM p s tag back).nextSeq = s.nextSeq∧(rejM p s tag back).outs = (bg_ s tag).outs∧(rejM p s tag back).takers = s.takers∧(rejM p s tag back).acked = s.acked∧(rejM p s tag back).nextTag = s.nextTag∧(rejM p s tag back).came = s.came∧(rejM p s tag back).ready.length = s.ready.length:=by
 cases back with
 | true=>refine ⟨rfl,rfl,rfl,rfl,rfl,rfl,?_⟩;unfold rejM putS;simp [bg_]
 | false=>exact ⟨rfl,rfl,rfl,rfl,rfl,rfl,rfl⟩
theorem nt_ {p:ad_} {s:ab_} (h:ak_ p s 0) {tag:Int} {i:Nat} {o:OutD} (ho:bR_ s tag i o) (back:Bool) (hs:s.nextSeq≤524288):∃ n,n≤600∧Arrived p (rejM p s tag back) (rejS p s tag back) n:=by
 obtain ⟨g1,g2,g3⟩:=h.rejM ho back;have hph:=l7_ g1 g3;obtain ⟨a1,a2,a3⟩:=hd_ 600 g1 g2 (by omega) (by rw [(ec_ p s tag back).1];omega);exact ⟨_,a3,a1⟩
def cd_ (p:ad_) (t:Int):List OutD→ab_→Int
 | [],_=>0
 | o :: r,s=>if o.taker = t then (if rejE p s o.tag≠0 then rejE p s o.tag else cd_ p t r (rejS p s o.tag true)) else cd_ p t r s
def cm_ (p:ad_) (t:Int):List OutD→ab_→ab_
 | [],s=>s
 | o :: r,s=>if o.taker = t then cm_ p t r (rejS p s o.tag true) else cm_ p t r s
def dB_ (p:ad_) (s:ab_) (t:Int):Int:=
 if stE p s≠0 then stE p s else if ar_ t s.takers.length = false then 5 else if (tAt s t.toNat).queue = -1 then 5 else cd_ p t s.outs s
def dQ_ (ts:List aj_) (t:Nat):List aj_:=ts.set t ⟨-1,(ts.getD t ⟨0,0⟩).most⟩
def e6_ (p:ad_) (s:ab_) (t:Int):ab_:={ cm_ p t s.outs s with takers:=dQ_ (cm_ p t s.outs s).takers t.toNat }
theorem fO_ (p:ad_):∀ (f:Nat) (s:ab_) (l:List ArrD),(arrS p f s l).takers = s.takers
 | 0,_,_=>rfl
 | _ + 1,_,[]=>rfl
 | f+1,s,a :: l=>by unfold arrS;rw [fO_ p f];rfl
theorem ge_ (p:ad_) (s:ab_) (tag:Int) (back:Bool):(rejS p s tag back).takers = s.takers:=by
 unfold rejS;rw [fO_];exact (ec_ p s tag back).2.2.1
structure Rejected (p:ad_) (s t:ab_) (tag:Int) (i:Nat) (o:OutD) (n:Nat):Prop where
 right:ak_ p t 0
 outs:t.outs = s.outs.eraseIdx i
 takers:t.takers = s.takers
 tag:t.nextTag = s.nextTag
 acked:t.acked = s.acked
 came:t.came = s.came+n
 seq:t.nextSeq = s.nextSeq+n
 dropped:s.dropped≤t.dropped
 len:t.ready.length = s.ready.length
theorem iz_ (p:ad_) (s:ab_) (tag:Int) (back:Bool):s.dropped≤(rejM p s tag back).dropped:=by
 cases back with
 | true =>
   unfold rejM;rw [if_pos rfl];show s.dropped≤s.dropped + _;have:∀ q l,0≤putD p q l:=fun q l=>by unfold putD;split <;> omega
   have:=this (eK_ s tag).queue.toNat (ay_ (af_ (bg_ s tag) (eK_ s tag).queue.toNat) (hR_ (eK_ s tag).item));omega
 | false=>unfold rejM;rw [if_neg (by decide)];show s.dropped≤s.dropped+1;omega
theorem rejected {p:ad_} {s:ab_} {tag:Int} (h:rejE p s tag = 0) (back:Bool):∃ i o n,bR_ s tag i o∧n≤600∧Rejected p s (rejS p s tag back) tag i o n:=by
 obtain ⟨hR,⟨i,o,ho⟩,hs⟩:=j2_ h;obtain ⟨n,hn,ha⟩:=nt_ hR ho back hs;obtain ⟨g1,g2,g3,g4,g5,g6,g7⟩:=ec_ p s tag back;have g8:=iz_ p s tag back;exact ⟨i,o,n,ho,hn,ha.right,by rw [ha.outs,g2,ho.less],by rw [ha.takers,g3],by rw [ha.tag,g5],by rw [ha.acked,g4],by rw [ha.came,g6],by rw [ha.seq,g1],Int.le_trans g8 ha.dropped,by rw [ha.len,g7]⟩
theorem nu_ {xs:List OutD} (h:xs.Pairwise (fun a b=>a.tag < b.tag)) {i j:Nat} (hi:i < xs.length) (hj:j < xs.length) (e:xs[i].tag = xs[j].tag):i = j:=by
 rw [List.pairwise_iff_getElem] at h;rcases Nat.lt_trichotomy i j with hl | hl | hl
 ·have:=h i j hi hj hl;omega
 ·exact hl
 ·have:=h j i hj hi hl;omega
structure Left (p:ad_) (t:Int) (pre r:List OutD) (s s':ab_):Prop where
 right:ak_ p s' 0
 takers:s'.takers = s.takers
 outs:s'.outs = pre ++ r.filter (fun o=>decide (o.taker≠t))
 tag:s'.nextTag = s.nextTag
 acked:s'.acked = s.acked
 came:s.came≤s'.came
 dropped:s.dropped≤s'.dropped
 len:s'.ready.length = s.ready.length
theorem hu_ {p:ad_} {t:Int}:∀ (r pre:List OutD) (s:ab_),ak_ p s 0→s.outs = pre ++ r→cd_ p t r s = 0→Left p t pre r s (cm_ p t r s)
 | [],pre,s,h,ho,_=>⟨h,rfl,by show s.outs = _;simpa using ho,rfl,rfl,Int.le_refl _,Int.le_refl _,rfl⟩
 | o :: r, pre, s, h, ho, he => by
   unfold cd_ at he;unfold cm_;by_cases ht:o.taker = t
   ·rw [if_pos ht] at he ⊢;by_cases hz:rejE p s o.tag = 0
    ·rw [if_neg (by simp [hz])] at he;obtain ⟨i,o',n,hi,_,hr⟩:=rejected hz true;have hlen:pre.length < s.outs.length:=by rw [ho];simp
     have hget:s.outs[pre.length] = o:=by simp [ho]
     have hii:i = pre.length:=nu_ h.rise hi.lt hlen (by rw [hi.get,hget,hi.tag]);have hout:(rejS p s o.tag true).outs = pre ++ r:=by
      rw [hr.outs,hii,ho,List.eraseIdx_append_of_length_le (Nat.le_refl _)];simp
     have ih:=hu_ r pre (rejS p s o.tag true) hr.right hout he;exact ⟨ih.right,by rw [ih.takers,hr.takers],by rw [ih.outs,List.filter_cons,if_neg (by simp [ht])],by rw [ih.tag,hr.tag],by rw [ih.acked,hr.acked],by have:=ih.came;have:=hr.came;omega,Int.le_trans hr.dropped ih.dropped,by rw [ih.len,hr.len]⟩
    ·rw [if_pos hz] at he;exact absurd he hz
   ·rw [if_neg ht] at he ⊢;have ih:=hu_ r (pre ++ [o]) s h (by rw [ho];simp) he;exact ⟨ih.right,ih.takers,by rw [ih.outs,List.filter_cons,if_pos (by simp [ht])];simp,ih.tag,ih.acked,ih.came,ih.dropped,ih.len⟩
theorem lF_ {p:ad_} {s:ab_} {t:Int} (h:dB_ p s t = 0):ak_ p s 0∧0≤t∧t < s.takers.length∧(tAt s t.toNat).queue≠-1∧cd_ p t s.outs s = 0:=by
 unfold dB_ at h;by_cases h1:stE p s = 0
 ·rw [if_neg (by simp [h1])] at h;by_cases h2:ar_ t s.takers.length = false
  ·rw [if_pos h2] at h;cases h
  ·rw [if_neg h2] at h;have h2':=aB_.1 (by simpa using h2:ar_ t s.takers.length = true);by_cases h3:(tAt s t.toNat).queue = -1
   ·rw [if_pos h3] at h;cases h
   ·rw [if_neg h3] at h;exact ⟨aK_ h1,h2'.1,h2'.2,h3,h⟩
 ·rw [if_pos h1] at h;exact absurd h h1
theorem cT_ (ts:List aj_) (k:Nat):(dQ_ ts k).length = ts.length:=by unfold dQ_;simp
theorem fW_ {ts:List aj_} {k i:Nat} (h:i≠k):(dQ_ ts k)[i]? = ts[i]?:=by
 unfold dQ_;rw [List.getElem?_set,if_neg (fun e=>h e.symm)]
theorem jN_ {ts:List aj_} {k:Nat} (h:k < ts.length):(dQ_ ts k)[k]? = some ⟨-1,(ts.getD k ⟨0,0⟩).most⟩:=by
 unfold dQ_;rw [List.getElem?_set,if_pos rfl,if_pos h]
theorem ak_.gone {p:ad_} {s:ab_} (h:ak_ p s 0) {t:Int} (h0:0≤t) (hl:t < s.takers.length) (hn:∀ o ∈ s.outs,o.taker≠t):ak_ p { s with takers:=dQ_ s.takers t.toNat } 0:=by
 have hk:t.toNat < s.takers.length:=by omega
 refine ⟨h.pl,by show (dQ_ _ _).length≤4;rw [cT_];exact h.tk,h.len,h.line,?_,?_,h.ns,h.nt,h.ak,h.dr,h.nodup,h.lt,h.room,?_,h.sum,h.cs⟩
 ·intro u hu;have hu':u ∈ dQ_ s.takers t.toNat:=hu;obtain ⟨i,hi,rfl⟩:=List.mem_iff_getElem.1 hu';rw [cT_] at hi;by_cases e:i = t.toNat
  ·subst e;have:=jN_ hk;rw [List.getElem?_eq_getElem (by rw [cT_];exact hi)] at this;rw [Option.some.inj this];have:=ct_.1 (h.tok _ (List.getElem_mem hi));refine ct_.2 ⟨.inl rfl,?_⟩;rw [List.getD_eq_getElem?_getD,List.getElem?_eq_getElem hi];exact this.2
  ·have:=fW_ (ts:=s.takers) e;rw [List.getElem?_eq_getElem (by rw [cT_];exact hi),List.getElem?_eq_getElem hi] at this;rw [Option.some.inj this];exact h.tok _ (List.getElem_mem hi)
 ·refine bB_.2 ⟨fun o ho=>?_,h.rise⟩;obtain ⟨h1,h2⟩:=h.fine ho;have h3:=hn o ho;have h4:=h2.rng;refine ⟨by omega,h2.tag,by show _∧o.taker < ((dQ_ s.takers t.toNat).length:Nat);rw [cT_];exact h4,?_,h2.item⟩;show ∃ u,(dQ_ s.takers t.toNat)[o.taker.toNat]? = some u∧_
  rw [fW_ (by omega)];exact h2.tk
 ·intro k hk';have hk2:k < s.takers.length:=by have:k < (dQ_ s.takers t.toNat).length:=hk';rwa [cT_] at this
  have h1:=h.hold k hk2;show (heldN s k:Int)≤((dQ_ s.takers t.toNat).getD k ⟨0,0⟩).most;rw [List.getD_eq_getElem?_getD];by_cases e:k = t.toNat
  ·subst e;rw [jN_ hk];exact h1
  ·rw [fW_ e,← List.getD_eq_getElem?_getD];exact h1
theorem eC_ (t:Int):∀ xs:List OutD,((xs.filter (fun o=>decide (o.taker≠t))).length:Int) = xs.length - ((xs.filter (fun o=>decide (o.taker = t))).length:Int)
 | []=>rfl
 | o :: r => by
   have ih:=eC_ t r;rw [List.filter_cons,List.filter_cons];by_cases h:o.taker = t <;> simp [h] <;> simp at ih <;> omega
structure Gone (p:ad_) (s s':ab_) (t:Int):Prop where
 right:ak_ p s' 0
 was:ak_ p s 0
 rng:0≤t∧t < s.takers.length
 held:heldN s' t = 0
 outs:(s'.outs.length:Int) = s.outs.length - heldN s t
 tlen:s'.takers.length = s.takers.length
 tag:s'.nextTag = s.nextTag
 acked:s'.acked = s.acked
 came:s.came≤s'.came
 dropped:s.dropped≤s'.dropped
 len:s'.ready.length = s.ready.length
theorem leaves {p:ad_} {s:ab_} {t:Int} (h:dB_ p s t = 0):Gone p s (e6_ p s t) t:=by
 obtain ⟨hR,h0,hl,hq,he⟩:=lF_ h;have g:=hu_ s.outs [] s hR (by simp) he;have hn:∀ o ∈ (cm_ p t s.outs s).outs,o.taker≠t:=by
  intro o ho;rw [g.outs,List.nil_append] at ho;have:=(List.mem_filter.1 ho).2;simpa using this
 have hl':t < (cm_ p t s.outs s).takers.length:=by rw [g.takers];exact hl
 refine ⟨g.right.gone h0 hl' hn,hR,⟨h0,hl⟩,?_,?_,?_,g.tag,g.acked,g.came,g.dropped,g.len⟩
 ·show (((cm_ p t s.outs s).outs).filter _).length = 0;rw [List.length_eq_zero_iff,List.filter_eq_nil_iff];intro o ho e;exact hn o ho (by simpa using e)
 ·show (((cm_ p t s.outs s).outs).length:Int) = _;rw [g.outs,List.nil_append,eC_];rfl
 ·show (dQ_ _ _).length = _;rw [cT_,g.takers]
theorem js_ (tag:Int) (B:Nat) (x:OutD) (w:World) (hb:w.heap[B]? = some (.cells #[.int .i64 tag] 3 (0,0))):Calls Tryz.prog 146 (#[x.val] ++ #[.pointer (some ⟨B,0,none⟩)]) w fun e w'=>e = .returned (.bool (decide (x.tag = tag)))∧Below w.heap.size w w':=by
 have h:(#[x.val] ++ #[.pointer (some ⟨B,0,none⟩)]:Array Value) = #[.agg #[.int .i64 x.tag,.int .i64 x.taker,.int .i64 x.queue,.int .i64 x.item.seq,.string x.item.key,.string x.item.body,.bool x.item.again,.int .i64 x.item.deaths],.pointer (some ⟨B,0,none⟩)]:=rfl;rw [h];clear h;obtain ⟨a,b,c,d⟩:=x;dsimp only;have hc:=coc_ hb 0;simp at hc;have hl:=lth_ hb;clear hb;go_enter Tryz.func146,Tryz.ntmps146;go_wp2_with fail
 go_ret
 exact ⟨aq_ (by by_cases h:a = tag <;> simp [h]),(Below.refl _ _).alloc (Nat.le_refl _) _⟩
theorem cells8 {W:World} {B:Nat} {v0 v1 v2 v3 v4 v5 v6 v7:Value} {T:TypeId} (h:W.heap[B]? = some (.cells #[v0,v1,v2,v3,v4,v5,v6,v7] T (0,0))):W.cell? ⟨B,0,none⟩ = some v0∧W.cell? ⟨B,1,none⟩ = some v1∧W.cell? ⟨B,2,none⟩ = some v2∧W.cell? ⟨B,3,none⟩ = some v3∧W.cell? ⟨B,4,none⟩ = some v4∧W.cell? ⟨B,5,none⟩ = some v5∧W.cell? ⟨B,6,none⟩ = some v6∧W.cell? ⟨B,7,none⟩ = some v7:=
 ⟨coc_ h 0,coc_ h 1,coc_ h 2,coc_ h 3,coc_ h 4,coc_ h 5,coc_ h 6,coc_ h 7⟩
theorem aZ_.frame {n t g:Nat} {A B C:World} (h:ac_ n t A B) (k:aZ_ g B C) (hg:n≤g) (hn:n≤B.heap.size):ac_ n t A C:=
 h.trans ⟨k.os,k.tape,k.output,k.size,fun i h1 h2=>k.block i (by omega) (by omega)⟩
theorem aM_.turnO {W W':World} {n B g:Nat} {b1 b3:Option Addr} {m1 d1 m2 d2 m3 d3:Nat} {s:ab_} {cur:Array Value} (h:aM_ W n b1 (some ⟨g,0,none⟩) b3 m1 d1 m2 d2 m3 d3 s) (hB:W.heap[B]? = some (.cells cur 67 (0,0))) (hne:g≠B) (k:aZ_ B W W'):aM_ W' n b1 (some ⟨g,0,none⟩) b3 m1 d1 m2 d2 m3 d3 s:=by
 obtain ⟨vs,h1,h2⟩:=h.r1;have KR:∀ {T':TypeId} {size m:Nat} {v:Value} {cs:List Value},W.ownsRow n T' size v m cs→T'≠67→W'.ownsRow n T' size v m cs:=fun h hne=>ch_ h (fun j hj=>k.block j (h.lt j hj).2 (fun e=>eP_ h hB hne (by rw [hj,e])))
 refine ⟨h.l1,h.l2,h.l3,h.x2,⟨vs,KR h1 (by decide),h2.keepT ⟨k.size,fun i cur' _ hi=>k.block i (lth_ hi) (fun e=>?_)⟩⟩,ch_ h.r2 (fun j hj=>k.block j (h.r2.lt j hj).2 (fun e=>?_)),KR h.r3 (by decide)⟩
 ·rw [e,hB] at hi;cases hi
 ·have:g = j:=by simpa [Value.ownBlock] using hj
  omega
theorem jh_ (s:ab_) (tag:Int):idxF (fun o:OutD=>decide (o.tag = tag)) s.outs = if outIdx s tag < s.outs.length then (outIdx s tag:Int) else -1:=rfl
theorem g6_ (s:ab_) (tag:Int) (n t:Nat) (W:World) (htn:t < n) (hnW:n≤W.heap.size) (hm:s.outs.length≤1000) (hbx:StBox W n t s) :
 Calls Tryz.prog 107 #[.pointer (some ⟨t,0,none⟩),.int .i64 tag] W fun e W'=>ac_ n t W W'∧((outIdx s tag = s.outs.length∧e = panE 5)∨(outIdx s tag≠s.outs.length∧e = .returned (eK_ s tag).val∧StBox W' n t (bg_ s tag))):=by
 obtain ⟨b1,b2,b3,m1,d1,m2,d2,m3,d3,hb,ho⟩:=hbx;obtain ⟨hz2,hg2,hB2⟩:=aD_ [.cells #[.int .i64 tag] 3,.cells #[.int .i64 0,.int .i64 0,.int .i64 0,.int .i64 0,.string ⟨#[]⟩,.string ⟨#[]⟩,.bool false,.int .i64 0] 67] W;obtain ⟨W2,hW2⟩:∃ W2,W2 = List.foldl World.alloc W [.cells #[.int .i64 tag] 3,.cells #[.int .i64 0,.int .i64 0,.int .i64 0,.int .i64 0,.string ⟨#[]⟩,.string ⟨#[]⟩,.bool false,.int .i64 0] 67]:=⟨_,rfl⟩
 rw [← hW2] at hz2 hg2 hB2;have HW2:Hid (W2 = ((W.alloc (.cells #[.int .i64 tag] 3)).alloc (.cells #[.int .i64 0,.int .i64 0,.int .i64 0,.int .i64 0,.string ⟨#[]⟩,.string ⟨#[]⟩,.bool false,.int .i64 0] 67))):=hW2;have X0:=hidI (hg2 0 _ rfl);have X1:=hidI (hg2 1 _ rfl);have HZ2:Hid (W2.heap.size = W.heap.size+2):=by show _ = _;rw [hz2];rfl
 have K2:=hidI hB2;have HM2:Hid (s.outs.length = m2):=ho.l2;have HMM:Hid (m2≤1000):=by show m2≤1000;rw [← ho.l2];exact hm
 have HO:=hidI (ho.keep hB2);have HGL:Hid (∀ j,(Value.slice b2 m2 d2).ownBlock = some j→j < W.heap.size):=fun j hj=>(ho.r2.lt j hj).2
 have HOA:=hidI (c5_.2 (dx_ (ho.keep hB2).r2));have HB:=hidI (pkp_ hb hB2);obtain ⟨y0,y1,y2,y3,y4,y5,y6,y7⟩:=aa_ hb;have ht:=lth_ hb;clear hz2 hg2 hB2 hW2 ho hb hm;go_enter Tryz.func107,Tryz.ntmps107;go_wp2_with fail
 rw [← HW2.out];refine (ic_ 146 (fun _ _=>rfl) #[.pointer (some ⟨W.heap.size,0,none⟩)] (fun o=>decide (o.tag = tag)) s.outs b2 m2 d2 W2 HM2.out (by have:=HMM.out;omega) HOA.out (fun x W' hB=>js_ tag W.heap.size x W' (pkp_ X0.out hB))).mono ?_;rintro e w3 ⟨rfl,k3'⟩;rw [jh_];have k3:=K2.out.trans (k3'.mono K2.out.size);have K3:=hidI k3;have K3':=hidI k3';have s3:=k3.size;clear y0 y1 y2 y3 y4 y5 y6 y7 k3 k3';by_cases hi:outIdx s tag < s.outs.length
 rotate_left
 ·rw [if_neg hi];have hie:outIdx s tag = s.outs.length:=by have:=eJ_ s tag;omega
  have HIE:=hidI hie;clear hi hie;go_wp2_with fail
  refine (ax_ 5 [true] _ _ (by simp) (bng_ w3 _ rfl) (by simp)).mono ?_;rintro e w4 ⟨rfl,rfl⟩;exact ⟨rfl,ac_.of_below (K3.out.alloc s3 _) hnW,.inl ⟨HIE.out,rfl⟩⟩
 rw [if_pos hi];have HNE:Hid (outIdx s tag≠s.outs.length):=Nat.ne_of_lt hi;obtain ⟨k,hk⟩:∃ k,k = outIdx s tag:=⟨_,rfl⟩
 rw [← hk] at hi ⊢;have HK:=hidI hk;have HKL:=hidI hi;have hkm:k < m2:=by rw [← HM2.out];exact hi
 have j0:¬ (k:Int) < 0:=by omega
 have j0':decide ((k:Int) < 0) = false:=by rw [decide_eq_false_iff_not];omega
 clear hk hi;go_wp2_with fail
 refine (aF_ 5 [decide ((k:Int) < 0)] _ _ (by simp) (bng_ w3 _ (by simp)) (by simp)).mono ?_;rintro e w4 ⟨rfl,hw4⟩;have k4:Below w3.heap.size w3 w4:=by rw [hw4];exact (Below.refl _ _).alloc (Nat.le_refl _) _
 have K4':Hid (Below W2.heap.size W2 w4):=K3'.out.trans (k4.mono K3'.out.size);have K4:Hid (Below W.heap.size W w4):=K3.out.trans (k4.mono K3.out.size);have HO4:=hidI (HO.out.keep K4'.out);have HB4:=hidI (pkp_ HB.out K4'.out);have X4:=hidI (pkp_ X1.out K4'.out);clear hw4 k4 j0 j0';have hr4:=HO4.out.r2;obtain ⟨g,rfl⟩:∃ g,b2 = some ⟨g,0,none⟩:=by
  rcases hr4.2 with ⟨e,e0⟩ | ⟨g,cap,cur,e,_⟩
  ·exfalso;omega
  ·cases e;exact ⟨g,rfl⟩
 obtain ⟨o,hoo⟩:∃ o,o = s.outs[k]'HKL.out:=⟨_,rfl⟩
 have HOO:Hid (o = eK_ s tag):=by
  show o = _;unfold eK_;rw [List.getD_eq_getElem?_getD,← HK.out,List.getElem?_eq_getElem HKL.out,hoo];rfl
 have hcell:∀ j (hj:j < 8) v,(OutD.cells o)[j]? = some v→w4.cell? ⟨g,k * 8+j,none⟩ = some v:=by
  intro j hj v hv;rw [hr4.cellAt (k * 8+j) (by omega)];have:=bJ_ (f:=OutD.cells) (k:=8) (fun _=>rfl) s.outs k HKL.out j hj;rw [← hoo] at this;exact this.trans hv
 have c0:=hcell 0 (by omega) _ rfl;have c1:=hcell 1 (by omega) _ rfl;have c2:=hcell 2 (by omega) _ rfl;have c3:=hcell 3 (by omega) _ rfl;have c4:=hcell 4 (by omega) _ rfl;have c5:=hcell 5 (by omega) _ rfl;have c6:=hcell 6 (by omega) _ rfl;have c7:=hcell 7 (by omega) _ rfl;rw [Nat.add_zero] at c0;obtain ⟨y0,y1,y2,y3,y4,y5,y6,y7⟩:=aa_ HB4.out;have f1:=foc_ HB4.out 1;have j1:(0:Int)≤(k:Int):=by omega
 have j2:(k:Int) < m2:=by omega
 have j3:IntKind.i64.wrap ((k:Int)+1) = (k:Int)+1:=by rw [IntKind.wrap_i64];have:=HMM.out;omega
 have htw:t < w4.heap.size:=by have:=K4.out.size;omega
 have hgW:=HGL.out g rfl;have hgn:=(aT_ hr4).1;obtain ⟨w5,hw5⟩:∃ w5,w5 = w4.alloc (.cells #[.int .i64 o.tag,.int .i64 o.taker,.int .i64 o.queue,.int .i64 o.item.seq,.string o.item.key,.string o.item.body,.bool o.item.again,.int .i64 o.item.deaths] 67):=⟨_,rfl⟩
 have l5:Below w4.heap.size w4 w5:=by rw [hw5];exact (Below.refl _ _).alloc (Nat.le_refl _) _
 have b5:w5.heap[w4.heap.size]? = some (.cells #[.int .i64 o.tag,.int .i64 o.taker,.int .i64 o.queue,.int .i64 o.item.seq,.string o.item.key,.string o.item.body,.bool o.item.again,.int .i64 o.item.deaths] 67 (0,0)):=by rw [hw5];exact World.alloc_heap_new w4 _
 have B5:=hidI b5;have HW5:=hidI hw5;have L5:=hidI l5;have HO5:=hidI (HO4.out.keep l5);clear hcell hoo hr4 hw5 b5 l5;go_wp2_with fail
 rw [← HW5.out];refine (kg_ s.outs n g m2 d2 k (k+1) _ HO5.out.r2 HM2.out hkm rfl (by have:=HMM.out;omega)).mono ?_;rintro e w6 ⟨rfl,hr6,t6⟩;have HR6:=hidI hr6;have T6:=hidI t6;have hs6:=t6.size;have h4z:=K4.out.size;have h5z:=L5.out.size;have b6:=(t6.block t (by omega) (by omega)).trans (pkp_ HB4.out L5.out);have HB6:=hidI b6;clear y0 y1 y2 y3 y4 y5 y6 y7 f1 c0 c1 c2 c3 c4 c5 c6 c7 hr6 t6;have f1:=foc_ b6 1;have y1:=(aa_ b6).2.1;clear b6;go_upto_region 5 with fail
 generalize hw7:w6.setCell ⟨t,1,none⟩ (.slice (some ⟨g,0,none⟩) (m2 - 1) d2) = w7;have b7:w7.heap[t]? = some (.cells #[.slice b1 m1 d1,.slice (some ⟨g,0,none⟩) (m2 - 1) d2,.slice b3 m3 d3,.int .i64 s.nextSeq,.int .i64 s.nextTag,.int .i64 s.came,.int .i64 s.acked,.int .i64 s.dropped] 31 (0,0)):=by rw [← hw7];exact scb_ HB6.out (j:=1) _
 have t7:aZ_ t w6 w7:=by rw [← hw7];exact sct_ w6 t 1 _
 have kt6:av_ 67 w5 w6:=by
  obtain ⟨_,cur,hg⟩:=aT_ HO5.out.r2;exact ⟨T6.out.size,fun i cur' T' hi hT=>T6.out.block i (lth_ hi) (fun e=>by rw [e,hg] at hi;cases hi;exact hT rfl)⟩
 have ho6:aM_ w6 n b1 (some ⟨g,0,none⟩) b3 m1 d1 (m2 - 1) d2 m3 d3 { s with outs:=s.outs.eraseIdx k }:=HO5.out.outs kt6 (by have:=HMM.out;omega) HR6.out;have ho7:=ho6.turn HB6.out (by decide) t7;have hF7:ac_ n t W w7:=(((ac_.of_below K4.out hnW).trans (ac_.of_below L5.out (by omega))).trans ⟨T6.out.os,T6.out.tape,T6.out.output,T6.out.size,fun i h1 h2=>T6.out.block i (by omega) (by omega)⟩).turnB t7 (by omega);have q7:=(t7.block w4.heap.size (by have:=lth_ B5.out;omega) (by omega)).trans ((T6.out.block w4.heap.size (lth_ B5.out) (by omega)).trans B5.out);have hz2:=HZ2.out;have r7:=(t7.block (W.heap.size+1) (by have:=K4'.out.size;omega) (by omega)).trans ((T6.out.block (W.heap.size+1) (by have:=K4'.out.size;omega) (by omega)).trans (pkp_ X4.out L5.out));have R7:=hidI r7;have B7:=hidI b7;have HO7:=hidI ho7;have HF7:=hidI hF7;obtain ⟨c0,c1,c2,c3,c4,c5,c6,c7⟩:=cells8 q7;obtain ⟨z0,z1,z2,z3,z4,z5,z6,z7⟩:=cells8 r7
 have e0:=foc_ r7 0;have e1:=foc_ r7 1;have e2:=foc_ r7 2;have e3:=foc_ r7 3;have e4:=foc_ r7 4;have e5:=foc_ r7 5;have e6:=foc_ r7 6;have e7:=foc_ r7 7;have h7z:=t7.size;have HH:Hid (n≤W.heap.size+1∧n≤w7.heap.size):=⟨by omega,by omega⟩;have HTN:Hid (t≠W.heap.size+1):=by show t≠_;omega
 have HGN:Hid (g≠W.heap.size+1):=by show g≠_;omega
 clear b7 t7 kt6 ho6 ho7 hF7 q7 r7 hw7 hz2 y1 f1 htw hgW hs6 h4z h5z h7z;go_wp2_with fail
 generalize hW8:World.setCell (World.setCell (World.setCell (World.setCell (World.setCell (World.setCell (World.setCell (World.setCell w7 _ _) _ _) _ _) _ _) _ _) _ _) _ _) _ _ = W8;obtain ⟨b8,t8⟩:=store8 R7.out hW8;obtain ⟨z0,z1,z2,z3,z4,z5,z6,z7⟩:=cells8 b8;have hb8:=(t8.block t (lth_ B7.out) HTN.out).trans B7.out;have ho8:=HO7.out.turnO R7.out HGN.out t8;have hls:bg_ s tag = { s with outs:=s.outs.eraseIdx k }:=by unfold bg_;rw [← HK.out]
 exact bodyPost_ret (v:=o.val) (by simp [results,Tryz.results107,go_sem,z0,z1,z2,z3,z4,z5,z6,z7,OutD.val]) rfl ⟨aZ_.frame HF7.out t8 HH.out.1 HH.out.2,.inr ⟨HNE.out,by rw [HOO.out],by rw [hls];exact ⟨_,_,_,_,_,_,_,_,_,hb8,ho8⟩⟩⟩
def hL_ (f:FuncId) (cap:Array Value) (w:World) (s:ab_) (E:Int) (S':ab_):Prop:=
 ∀ (W : World) (n t : Nat), Below w.heap.size w W → w.heap.size ≤ t → t < n → n ≤ W.heap.size → StBox W n t s →
   Calls Tryz.prog f (#[.pointer (some ⟨t,0,none⟩)] ++ cap) W fun e W'=>ac_ n t W W'∧((E≠0∧e = panE E)∨(E = 0∧e = okE∧StBox W' n t S'))
theorem hL_.up {f:FuncId} {cap:Array Value} {w w':World} {s S':ab_} {E:Int} (h:hL_ f cap w s E S') (hB:Below w.heap.size w w'):hL_ f cap w' s E S':=
 fun W n t h1 h2 h3 h4 h5=>h W n t (hB.trans (h1.mono hB.size)) (Nat.le_trans hB.size h2) h3 h4 h5
theorem kF_ (f:FuncId) (hf:Goes f) (cap:Array Value) (w:World) (s:ab_) (E:Int) (S':ab_) (B:Nat) (x:w.heap[B]? = some (.cells #[.func (.func f) #[] cap] 77 (0,0))) (h:hL_ f cap w s E S'):Does 73 #[.pointer (some ⟨B,0,none⟩)] w s E 0 S':=by
 intro W n t hBW hwt htn hnW hbx;have HC:=hidI (h W n t hBW hwt htn hnW hbx);have hf':∀ (args:Array Value) (w:World),Sem.run Tryz.prog (callFunc f args) w = .ok (.enter f args) w:=hf
 have hap:(#[Value.pointer (some ⟨t,0,none⟩)] ++ #[Value.pointer (some ⟨B,0,none⟩)]:Array Value) = #[.pointer (some ⟨t,0,none⟩),.pointer (some ⟨B,0,none⟩)]:=rfl;rw [hap];have c0:=coc_ (pkp_ x hBW) 0;simp at c0;clear hap x h hbx hf;go_enter Tryz.func73,Tryz.ntmps73;go_wp2_with fail
 refine HC.out.mono ?_;rintro e w1 ⟨hF,hc⟩;have HF:=hidI hF;clear hF c0;rcases hc with ⟨hne,rfl⟩ | ⟨rfl,rfl,hb⟩
 ·unfold panE;exact ⟨rfl,HF.out,.inl ⟨hne,rfl⟩⟩
 ·have HB:=hidI hb;unfold okE;clear hb;go_wp2_with fail
  go_ret
  exact ⟨HF.out,rfl,HB.out⟩
theorem hy_ (p:ad_) (a1 a2 a3:Option Addr) (n1 c1 n2 c2 n3 c3:Nat) (s:ab_) (b1 b2 b3:Option Addr) (m1 d1 m2 d2 m3 d3:Nat) (f:FuncId) (hf:Goes f) (cap:Array Value) (E:Int) (S':ab_) (w:World) (hp:ap_ w a1 a2 a3 n1 n2 n3 p) (hs:an_ w b1 b2 b3 m1 m2 m3 s) (hn2:b2 = none→d2 = 0) (hn3:b3 = none→d3 = 0) (hE0:stE p s≠0→E = stE p s) (hdo:stE p s = 0→hL_ f cap w s E S') :
 Calls Tryz.prog 28 #[.agg #[.slice a1 n1 c1,.slice a2 n2 c2,.slice a3 n3 c3],.agg #[.slice b1 m1 d1,.slice b2 m2 d2,.slice b3 m3 d3,.int .i64 s.nextSeq,.int .i64 s.nextTag,.int .i64 s.came,.int .i64 s.acked,.int .i64 s.dropped],.func (.func f) #[] cap] w fun e w'=>∃ v,e = .returned (.tuple #[v,.int .i64 E])∧bn_ w' w.heap.size v E S'∧Below w.heap.size w w':=by
 obtain ⟨hz4,hg4,hB4⟩:=aD_ [.cells #[.slice a1 n1 c1,.slice a2 n2 c2,.slice a3 n3 c3] 26,.cells #[.slice b1 m1 d1,.slice b2 m2 d2,.slice b3 m3 d3,.int .i64 s.nextSeq,.int .i64 s.nextTag,.int .i64 s.came,.int .i64 s.acked,.int .i64 s.dropped] 31,.cells #[.func (.func f) #[] cap] 77,.cells #[.slice none 0 0,.slice none 0 0,.slice none 0 0,.int .i64 0,.int .i64 0,.int .i64 0,.int .i64 0,.int .i64 0] 31] w;obtain ⟨W4,hW4⟩:∃ W4,W4 = List.foldl World.alloc w [.cells #[.slice a1 n1 c1,.slice a2 n2 c2,.slice a3 n3 c3] 26,.cells #[.slice b1 m1 d1,.slice b2 m2 d2,.slice b3 m3 d3,.int .i64 s.nextSeq,.int .i64 s.nextTag,.int .i64 s.came,.int .i64 s.acked,.int .i64 s.dropped] 31,.cells #[.func (.func f) #[] cap] 77,.cells #[.slice none 0 0,.slice none 0 0,.slice none 0 0,.int .i64 0,.int .i64 0,.int .i64 0,.int .i64 0,.int .i64 0] 31]:=⟨_,rfl⟩
 rw [← hW4] at hz4 hg4 hB4;have HW4:Hid (W4 = ((((w.alloc (.cells #[.slice a1 n1 c1,.slice a2 n2 c2,.slice a3 n3 c3] 26)).alloc (.cells #[.slice b1 m1 d1,.slice b2 m2 d2,.slice b3 m3 d3,.int .i64 s.nextSeq,.int .i64 s.nextTag,.int .i64 s.came,.int .i64 s.acked,.int .i64 s.dropped] 31)).alloc (.cells #[.func (.func f) #[] cap] 77)).alloc (.cells #[.slice none 0 0,.slice none 0 0,.slice none 0 0,.int .i64 0,.int .i64 0,.int .i64 0,.int .i64 0,.int .i64 0] 31))):=hW4;have hz4':W4.heap.size = w.heap.size+4:=by rw [hz4];rfl
 have x2:=hg4 2 _ rfl;have x3:=hg4 3 _ rfl;have T:=eU_ p a1 a2 a3 n1 c1 n2 c2 n3 c3 s b1 b2 b3 m1 d1 m2 d2 m3 d3 73 (fun _ _=>rfl) #[.pointer (some ⟨w.heap.size+2,0,none⟩)] E 0 S' W4 (hp.keep hB4) (hs.keep hB4) hn2 hn3 hE0 (fun h=>kF_ f hf cap W4 s E S' _ x2 ((hdo h).up hB4));rw [show (if E = 0 then (0:Int) else 0) = 0 by split <;> rfl] at T;have HT:=hidI T;have X3:=hidI x3;have HZ4:=hidI hz4';have HB4:=hidI hB4;have hmf:∀ (fn:Fn) (first cap:Array Value) (w:World),(Instr.makeFunc fn first cap).run Tryz.prog w = .ok (.func fn first cap) w:=fun _ _ _ _=>rfl
 clear T hW4 hz4 hz4' hg4 hB4 x2 x3 hp hs hn2 hn3 hE0 hdo hf;go_enter Tryz.func28,Tryz.ntmps28;go_wp2_with fail
 rw [← HW4.out];refine HT.out.mono ?_;rintro e w6 ⟨v,rfl,hres,hB6⟩;have x6:=pkp_ X3.out hB6;obtain ⟨y0,y1,y2,y3,y4,y5,y6,y7⟩:=aa_ x6;have f0:=foc_ x6 0;have f1:=foc_ x6 1;have f2:=foc_ x6 2;have f3:=foc_ x6 3;have f4:=foc_ x6 4;have f5:=foc_ x6 5;have f6:=foc_ x6 6;have f7:=foc_ x6 7;obtain ⟨x1,x2,x3,k1,e1,k2,e2,k3,e3,i1,i2,i3,i4,i5,rfl⟩:=hres.shape;have X6:=hidI x6;have HRES:=hidI hres;have HB6:=hidI hB6;have hlt:=lth_ x6;clear x6 hres hB6;go_wp2_with fail
 generalize hW7:World.setCell (World.setCell (World.setCell (World.setCell (World.setCell (World.setCell (World.setCell (World.setCell w6 _ _) _ _) _ _) _ _) _ _) _ _) _ _) _ _ = W7;obtain ⟨b7,t7⟩:=store8 X6.out hW7;have l8:Below W7.heap.size W7 (W7.alloc (.cells #[.slice x1 k1 e1,.slice x2 k2 e2,.slice x3 k3 e3,.int .i64 i1,.int .i64 i2,.int .i64 i3,.int .i64 i4,.int .i64 i5] 31)):=(Below.refl _ _).alloc (Nat.le_refl _) _;obtain ⟨z0,z1,z2,z3,z4,z5,z6,z7⟩:=aa_ (pkp_ b7 l8);have hB7:Below w.heap.size w W7:=HB4.out.trans ((HB6.out.mono HB4.out.size).trans (t7.below (by have:=HB6.out.size;have:=HZ4.out;omega) (by omega)));exact bodyPost_ret (v:=.tuple #[.agg #[.slice x1 k1 e1,.slice x2 k2 e2,.slice x3 k3 e3,.int .i64 i1,.int .i64 i2,.int .i64 i3,.int .i64 i4,.int .i64 i5],.int .i64 E]) (by simp [results,Tryz.results28,go_sem,z0,z1,z2,z3,z4,z5,z6,z7]) rfl ⟨_,rfl,((HRES.out.turn X6.out t7).keep l8).lower (by have:=HZ4.out;omega),hB7.trans (l8.mono hB7.size)⟩
def outX (s:ab_) (tag:Int):Int:=if outIdx s tag = s.outs.length then 5 else 0
theorem hK_ {x:Int} (h0:0≤x) (h1:x≤100000000):IntKind.i64.wrap (x+1) = x+1:=by rw [IntKind.wrap_i64];omega
theorem ak_.acked_le {p:ad_} {s:ab_} (h:ak_ p s 0):0≤s.acked∧s.acked≤1048576:=by
 have h1:=h.ak;have h2:=h.dr;have h3:=h.sum;have h4:=h.cs;have h5:=h.ns;omega
theorem ak_.dropped_le {p:ad_} {s:ab_} (h:ak_ p s 0):0≤s.dropped∧s.dropped≤1048576:=by
 have h1:=h.ak;have h2:=h.dr;have h3:=h.sum;have h4:=h.cs;have h5:=h.ns;omega
theorem lc_ (p:ad_) (s:ab_) (tag:Int) (B:Nat) (w:World) (x:w.heap[B]? = some (.cells #[.int .i64 tag] 3 (0,0))) (hR:ak_ p s 0):hL_ 106 #[.pointer (some ⟨B,0,none⟩)] w s (outX s tag) (ackS s tag):=by
 intro W n t hBW hwt htn hnW hbx;have HT:=hidI (g6_ s tag n t W htn hnW (bM_ hR).2.2.1 hbx);have hap:(#[Value.pointer (some ⟨t,0,none⟩)] ++ #[Value.pointer (some ⟨B,0,none⟩)]:Array Value) = #[.pointer (some ⟨t,0,none⟩),.pointer (some ⟨B,0,none⟩)]:=rfl;rw [hap];have c0:=coc_ (pkp_ x hBW) 0;simp at c0;have HA:=hidI hR.acked_le;clear hap x hbx hR;go_enter Tryz.func106,Tryz.ntmps106;go_wp2_with fail
 refine HT.out.mono ?_;rintro e w1 ⟨hF,hc⟩;have HF:=hidI hF;clear hF c0;rcases hc with ⟨he,rfl⟩ | ⟨hne,rfl,hb⟩
 ·unfold panE;exact ⟨rfl,HF.out,.inl ⟨by unfold outX;rw [if_pos he];decide,by unfold outX;rw [if_pos he];rfl⟩⟩
 ·have HB:=hidI hb;have HNE:=hidI hne;obtain ⟨b1,b2,b3,m1,d1,m2,d2,m3,d3,hb1,ho1⟩:=hb;obtain ⟨y0,y1,y2,y3,y4,y5,y6,y7⟩:=aa_ hb1;have f6:=foc_ hb1 6;have j1:IntKind.i64.wrap ((bg_ s tag).acked+1) = s.acked+1:=hK_ HA.out.1 (by have:=HA.out.2;show s.acked≤_;omega);obtain ⟨ac,hac⟩:∃ ac,ac = (bg_ s tag).acked:=⟨_,rfl⟩
  rw [← hac] at y6 j1;unfold OutD.val;clear hne hb1 ho1 hac;go_wp2_with fail
  go_end0
  exact ⟨HF.out.setCell (.inr rfl) _,.inr ⟨by unfold outX;rw [if_neg HNE.out],rfl,HB.out.field6 _⟩⟩
theorem nW_ (p:ad_) (a1 a2 a3:Option Addr) (n1 c1 n2 c2 n3 c3:Nat) (s:ab_) (b1 b2 b3:Option Addr) (m1 d1 m2 d2 m3 d3:Nat) (tag:Int) (w:World) (hp:ap_ w a1 a2 a3 n1 n2 n3 p) (hs:an_ w b1 b2 b3 m1 m2 m3 s) (hn2:b2 = none→d2 = 0) (hn3:b3 = none→d3 = 0) :
 Calls Tryz.prog 59 #[.agg #[.slice a1 n1 c1,.slice a2 n2 c2,.slice a3 n3 c3],.agg #[.slice b1 m1 d1,.slice b2 m2 d2,.slice b3 m3 d3,.int .i64 s.nextSeq,.int .i64 s.nextTag,.int .i64 s.came,.int .i64 s.acked,.int .i64 s.dropped],.int .i64 tag] w fun e w'=>∃ v,e = .returned (.tuple #[v,.int .i64 (ackE p s tag)])∧bn_ w' w.heap.size v (ackE p s tag) (ackS s tag)∧Below w.heap.size w w':=by
 obtain ⟨hz5,hg5,hB5⟩:=aD_ [.cells #[.slice a1 n1 c1,.slice a2 n2 c2,.slice a3 n3 c3] 26,.cells #[.slice b1 m1 d1,.slice b2 m2 d2,.slice b3 m3 d3,.int .i64 s.nextSeq,.int .i64 s.nextTag,.int .i64 s.came,.int .i64 s.acked,.int .i64 s.dropped] 31,.cells #[.int .i64 tag] 3,.cells #[.slice none 0 0,.slice none 0 0,.slice none 0 0,.int .i64 0,.int .i64 0,.int .i64 0,.int .i64 0,.int .i64 0] 31] w;obtain ⟨W5,hW5⟩:∃ W5,W5 = List.foldl World.alloc w [.cells #[.slice a1 n1 c1,.slice a2 n2 c2,.slice a3 n3 c3] 26,.cells #[.slice b1 m1 d1,.slice b2 m2 d2,.slice b3 m3 d3,.int .i64 s.nextSeq,.int .i64 s.nextTag,.int .i64 s.came,.int .i64 s.acked,.int .i64 s.dropped] 31,.cells #[.int .i64 tag] 3,.cells #[.slice none 0 0,.slice none 0 0,.slice none 0 0,.int .i64 0,.int .i64 0,.int .i64 0,.int .i64 0,.int .i64 0] 31]:=⟨_,rfl⟩
 rw [← hW5] at hz5 hg5 hB5;have HW5:Hid (W5 = ((((w.alloc (.cells #[.slice a1 n1 c1,.slice a2 n2 c2,.slice a3 n3 c3] 26)).alloc (.cells #[.slice b1 m1 d1,.slice b2 m2 d2,.slice b3 m3 d3,.int .i64 s.nextSeq,.int .i64 s.nextTag,.int .i64 s.came,.int .i64 s.acked,.int .i64 s.dropped] 31)).alloc (.cells #[.int .i64 tag] 3)).alloc (.cells #[.slice none 0 0,.slice none 0 0,.slice none 0 0,.int .i64 0,.int .i64 0,.int .i64 0,.int .i64 0,.int .i64 0] 31))):=hW5;have hz5':W5.heap.size = w.heap.size+4:=by rw [hz5];rfl
 have x0:=hg5 0 _ rfl;have x1:=hg5 1 _ rfl;have x2:=hg5 2 _ rfl;have x3:=hg5 3 _ rfl;obtain ⟨E,hE⟩:∃ E,E = ackE p s tag:=⟨_,rfl⟩
 rw [← hE];have T:=hy_ p a1 a2 a3 n1 c1 n2 c2 n3 c3 s b1 b2 b3 m1 d1 m2 d2 m3 d3 106 (fun _ _=>rfl) #[.pointer (some ⟨w.heap.size+2,0,none⟩)] E (ackS s tag) W5 (hp.keep hB5) (hs.keep hB5) hn2 hn3
  (fun h=>by rw [hE];unfold ackE;rw [if_pos h])
  (fun h=>by
   have e:E = outX s tag:=by rw [hE];unfold ackE outX;rw [if_neg (by simp [h])]
   rw [e];exact lc_ p s tag _ W5 x2 (aK_ h))
 have HT:=hidI T;have X4:=hidI x3;have HZ5:=hidI hz5';have HB5:=hidI hB5;have hmf:∀ (fn:Fn) (first cap:Array Value) (w:World),(Instr.makeFunc fn first cap).run Tryz.prog w = .ok (.func fn first cap) w:=fun _ _ _ _=>rfl
 clear T hW5 hz5 hz5' hg5 hB5 x0 x1 x2 x3 hE hp hs hn2 hn3;go_enter Tryz.func59,Tryz.ntmps59;go_wp2_with fail
 rw [← HW5.out];refine HT.out.mono ?_;rintro e w6 ⟨v,rfl,hres,hB6⟩;have x6:=pkp_ X4.out hB6;obtain ⟨y0,y1,y2,y3,y4,y5,y6,y7⟩:=aa_ x6;have f0:=foc_ x6 0;have f1:=foc_ x6 1;have f2:=foc_ x6 2;have f3:=foc_ x6 3;have f4:=foc_ x6 4;have f5:=foc_ x6 5;have f6:=foc_ x6 6;have f7:=foc_ x6 7;obtain ⟨x1,x2,x3,k1,e1,k2,e2,k3,e3,i1,i2,i3,i4,i5,rfl⟩:=hres.shape;have X6:=hidI x6;have HRES:=hidI hres;have HB6:=hidI hB6;clear x6 hres hB6;go_wp2_with fail
 generalize hW4:World.setCell (World.setCell (World.setCell (World.setCell (World.setCell (World.setCell (World.setCell (World.setCell w6 _ _) _ _) _ _) _ _) _ _) _ _) _ _) _ _ = W4;obtain ⟨b4,t4⟩:=store8 X6.out hW4;obtain ⟨z0,z1,z2,z3,z4,z5,z6,z7⟩:=aa_ b4;exact bodyPost_ret (v:=.tuple #[.agg #[.slice x1 k1 e1,.slice x2 k2 e2,.slice x3 k3 e3,.int .i64 i1,.int .i64 i2,.int .i64 i3,.int .i64 i4,.int .i64 i5],.int .i64 E]) (by simp [results,Tryz.results59,go_sem,z0,z1,z2,z3,z4,z5,z6,z7]) rfl ⟨_,rfl,(HRES.out.turn X6.out t4).lower (by have:=HZ5.out;omega),HB5.out.trans ((HB6.out.mono HB5.out.size).trans (t4.below (by have:=HB6.out.size;have:=HZ5.out;omega) (by omega)))⟩
structure Hall (W:World) (N H t:Nat) (v1 v2 v3:Value) (xs:List ArrD) (a:Option Addr) (m c:Nat):Prop where
 box:W.heap[H]? = some (.cells #[.pointer (some ⟨t,0,none⟩),v1,v2,v3,.slice a m c] 168 (0,0))
 row:W.ownsRow N 150 4 (.slice a m c) m (aw_ xs)
theorem Hall.len {W:World} {N H t:Nat} {v1 v2 v3:Value} {xs:List ArrD} {a:Option Addr} {m c:Nat} (h:Hall W N H t v1 v2 v3 xs a m c):m = xs.length:=by
 have:=h.row.1;rw [aV_] at this;omega
theorem Hall.keep {W W':World} {N H t:Nat} {v1 v2 v3:Value} {xs:List ArrD} {a:Option Addr} {m c:Nat} (h:Hall W N H t v1 v2 v3 xs a m c) (hB:Below W.heap.size W W'):Hall W' N H t v1 v2 v3 xs a m c:=⟨pkp_ h.box hB,cp2_ h.row hB⟩
theorem Hall.keep2 {W W':World} {N H t:Nat} {v1 v2 v3:Value} {xs:List ArrD} {a:Option Addr} {m c:Nat} (h:Hall W N H t v1 v2 v3 xs a m c) (k:Keep2 W W'):Hall W' N H t v1 v2 v3 xs a m c:=by
 refine ⟨(k H _ _ h.box (by decide) (by decide)).trans h.box,h.row.1,?_⟩;rcases h.row.2 with e | ⟨g,cap,cur,h1,h2,h3,h4⟩
 ·exact .inl e
 ·exact .inr ⟨g,cap,cur,h1,h2,(k g cur _ h3 (by decide) (by decide)).trans h3,h4⟩
structure nV_ (N H:Nat) (row:Option Nat) (W W':World):Prop where
 os:W'.os = W.os
 tape:W'.tape = W.tape
 output:W'.output = W.output
 size:W.heap.size≤W'.heap.size
 low:∀ k,k < N→k≠H→W'.heap[k]? = W.heap[k]?
 blk:∀ k,k < W.heap.size→k≠H→row≠some k→W'.heap[k]? = W.heap[k]?
 typ:∀ (k:Nat) (cur:Array Value) (T:TypeId),W.heap[k]? = some (Obj.cells cur T (0,0))→T≠150→k≠H→W'.heap[k]? = W.heap[k]?
theorem nV_.stBox {N H n t:Nat} {row:Option Nat} {W W':World} {s:ab_} (h:nV_ N H row W W') (hb:StBox W n t s) (hH:∃ cur,W.heap[H]? = some (.cells cur 168 (0,0))):StBox W' n t s:=by
 obtain ⟨b1,b2,b3,m1,d1,m2,d2,m3,d3,hb,ho⟩:=hb;obtain ⟨cu,hcu⟩:=hH;have ne:∀ (k:Nat) (cur:Array Value) (T:TypeId),W.heap[k]? = some (Obj.cells cur T (0,0))→T≠168→k≠H:=fun k cur T hk hT e=>by rw [e,hcu] at hk;cases hk;exact hT rfl
 have kr:∀ {T:TypeId} {base size m:Nat} {v:Value} {cs:List Value},W.ownsRow base T size v m cs→T≠150→T≠168→W'.ownsRow base T size v m cs:=fun hr h1 h2=>by
  refine ⟨hr.1,?_⟩;rcases hr.2 with e | ⟨g,cap,cur,q1,q2,q3,q4⟩
  ·exact .inl e
  ·exact .inr ⟨g,cap,cur,q1,q2,(h.typ g cur _ q3 h1 (ne g cur _ q3 h2)).trans q3,q4⟩
 obtain ⟨vs,r1,r2⟩:=ho.r1;exact ⟨b1,b2,b3,m1,d1,m2,d2,m3,d3,(h.typ t _ _ hb (by decide) (ne t _ _ hb (by decide))).trans hb,ho.l1,ho.l2,ho.l3,ho.x2,⟨vs,kr r1 (by decide) (by decide),r2.keepT ⟨h.size,fun g cur _ hg=>h.typ g cur _ hg (by decide) (ne g cur _ hg (by decide))⟩⟩,kr ho.r2 (by decide) (by decide),kr ho.r3 (by decide) (by decide)⟩
theorem hJ_ (N H t:Nat) (v1 v2 v3:Value) (xs ys:List ArrD) (a b:Option Addr) (m c mb cb:Nat) (w:World) (hh:Hall w N H t v1 v2 v3 xs a m c) (hH:H < N) (hN:N≤w.heap.size) (hy:bh_ w b ys) (hyl:ys.length = mb) (hyn:b = none→cb = 0∧mb = 0) (hm:m+mb≤1000000) :
 Calls Tryz.prog 141 #[.pointer (some ⟨H,0,none⟩),.slice b mb cb] w fun e w'=>∃ a' c',e = okE∧Hall w' N H t v1 v2 v3 (xs ++ ys) a' (m+mb) c'∧nV_ N H (Value.slice a m c).ownBlock w w':=by
 have HH:=hidI hh;have HY:=hidI hy;have HYL:Hid ((aw_ ys).length = mb * 4):=by show (aw_ ys).length = mb * 4;rw [aV_,hyl]
 have HYN:=hidI hyn;have c4:=coc_ hh.box 4;simp at c4;clear hh hy hyl hyn;go_enter Tryz.func141,Tryz.ntmps141;go_wp2_with (at_builtin;refine a1_ eq_ (by kernel_rfl) _ _ rfl N _ m (aw_ xs) rfl HH.out.row b mb cb (aw_ ys) rfl HYL.out HYN.out HY.out (bI_ _) (by unfold maxLen;omega) (by omega) hN ?_;intro v6 w6 ho6 hg6 _;have hb6:=(hg6.block H (by omega) (fun e=>by have:=HH.out.row.lt H e.symm;omega)).trans HH.out.box;clear c4;have c4:=coc_ hb6 4;have f4:=foc_ hb6 4;simp at c4;have HB6:=hidI hb6;have HO6:=hidI ho6;have HG6:=hidI hg6;obtain ⟨a6,c6,hv6,-⟩:=aH_ ho6;subst hv6;clear hb6 ho6 hg6)
 go_end0
 have hT:=sct_ w6 H 4 (.slice a6 (m+mb) c6);refine ⟨a6,c6,rfl,⟨scb_ HB6.out (j:=4) _,gg_ (by rw [br_];exact HO6.out) hT hH⟩,⟨hT.os.trans HG6.out.os,hT.tape.trans HG6.out.tape,hT.output.trans HG6.out.output,Nat.le_trans HG6.out.size hT.size,fun k h1 h2=>?_,fun k h1 h2 h3=>?_,fun k cur T hk h1 h2=>?_⟩⟩
 ·exact (hT.block k (by have:=HG6.out.size;omega) h2).trans (HG6.out.block k (by omega) (fun e=>by have:=HH.out.row.lt k e.symm;omega))
 ·exact (hT.block k (by have:=HG6.out.size;omega) h2).trans (HG6.out.block k h1 (fun e=>h3 e.symm))
 ·exact (hT.block k (by have:=HG6.out.size;have:=lth_ hk;omega) h2).trans (HG6.out.block k (lth_ hk) (fun e=>eP_ HH.out.row hk (fun e=>h1 e.symm) e.symm))
theorem e7_ (q d seq:Int) (ky b:ByteArray) (w:World) :
 Calls Tryz.prog 169 #[.agg #[.int .i64 q,.string ky,.string b,.int .i64 d],.int .i64 seq] w fun e w'=>e = .returned (.agg #[.int .i64 seq,.string ky,.string b,.bool false,.int .i64 d])∧Below w.heap.size w w':=by
 obtain ⟨W2,hW2⟩:∃ W2,W2 = (w.alloc (.cells #[.int .i64 q,.string ky,.string b,.int .i64 d] 150)).alloc (.cells #[.int .i64 0,.string ⟨#[]⟩,.string ⟨#[]⟩,.bool false,.int .i64 0] 48):=⟨_,rfl⟩
 obtain ⟨hz2,hb1,hb2,hB2⟩:=cz_ w _ _ _ hW2;have HW2:=hidI hW2;have HB2:=hidI hB2;have HX2:=hidI hb2;have c0:=coc_ hb1 0;have c1:=coc_ hb1 1;have c2:=coc_ hb1 2;have c3:=coc_ hb1 3;have d0:=coc_ hb2 0;have d1:=coc_ hb2 1;have d2:=coc_ hb2 2;have d3:=coc_ hb2 3;have d4:=coc_ hb2 4;have f0:=foc_ hb2 0;have f1:=foc_ hb2 1;have f2:=foc_ hb2 2;have f3:=foc_ hb2 3;have f4:=foc_ hb2 4;simp at c0 c1 c2 c3 d0 d1 d2 d3 d4;have hs:=hB2.size;clear hW2 hz2 hb1 hb2 hB2;go_enter Tryz.func169,Tryz.ntmps169;go_upto_region 1 with fail
 rw [← HW2.out];go_wp2_with fail
 generalize hW4:World.setCell (World.setCell (World.setCell (World.setCell (World.setCell W2 _ _) _ _) _ _) _ _) _ _ = W4;have b4:W4.heap[w.heap.size+1]? = some (.cells #[.int .i64 seq,.string ky,.string b,.bool false,.int .i64 d] 48 (0,0)):=by rw [← hW4];exact scb_ (scb_ (scb_ (scb_ (scb_ HX2.out (j:=0) _) (j:=1) _) (j:=2) _) (j:=3) _) (j:=4) _
 have t4:aZ_ (w.heap.size+1) W2 W4:=by rw [← hW4];exact ((((sct_ _ _ _ _).trans (sct_ _ _ _ _)).trans (sct_ _ _ _ _)).trans (sct_ _ _ _ _)).trans (sct_ _ _ _ _)
 have z0:=coc_ b4 0;have z1:=coc_ b4 1;have z2:=coc_ b4 2;have z3:=coc_ b4 3;have z4:=coc_ b4 4;simp at z0 z1 z2 z3 z4;exact bodyPost_ret (v:=.agg #[.int .i64 seq,.string ky,.string b,.bool false,.int .i64 d]) (by simp [results,Tryz.results169,go_sem,z0,z1,z2,z3,z4]) rfl ⟨rfl,HB2.out.trans (t4.below hs (by omega))⟩
end Go.Proofs.YtlbnkpicnokgoaaGreat
