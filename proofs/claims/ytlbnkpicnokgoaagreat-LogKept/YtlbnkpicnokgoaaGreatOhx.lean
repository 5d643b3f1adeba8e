import Derived.Deep.DeepCutAuto
import Derived.Test.YtlbnkpicnokgoaaGreatOgx
import Derived.Test.YtlbnkpicnokgoaaGreatWKw
import Derived.Test.YtlbnkpicnokgoaaGreatOex
namespace Go.Proofs.YtlbnkpicnokgoaaGreat
open Go.RowKit Go.Maps
set_option linter.unusedVariables false
set_option maxRecDepth 100000
set_option maxHeartbeats 4000000
theorem om_ (l:List a6_) (a:Option Addr) (n c:Nat) (w:World) (hn:l.length = n) (hm:n≤100000) (hT:jE_ w a l) (hlt:∀ g o,a = some ⟨g,o,none⟩→g < w.heap.size) :
 Calls Tryz.prog 66 #[.slice a n c] w fun e w'=>e = .returned (.tuple #[.string (putV l),.int .i64 (putE l)])∧Below w.heap.size w w':=by
 obtain ⟨E,hE⟩:∃ E,E = putE l:=⟨_,rfl⟩
 obtain ⟨V,hV⟩:∃ V,V = putV l:=⟨_,rfl⟩
 rw [← hE,← hV];obtain ⟨W6,hW6⟩:∃ W6,W6 = (w.alloc (.cells #[.slice a n c] 143)).alloc (.cells #[.slice none 0 0] 144):=⟨_,rfl⟩
 obtain ⟨hz6,x0,x1,hB6⟩:W6.heap.size = w.heap.size+2∧W6.heap[w.heap.size]? = some (.cells #[.slice a n c] 143 (0,0))∧W6.heap[w.heap.size+1]? = some (.cells #[.slice none 0 0] 144 (0,0))∧Below w.heap.size w W6:=cm_ w _ _ _ hW6;have l8:Below W6.heap.size W6 (W6.alloc (.cells #[.int .i64 0] 33)):=(Below.refl _ _).alloc (Nat.le_refl _) _;have x8:=World.alloc_heap_new W6 (.cells #[.int .i64 0] 33);have RD:=ns_ l a n c w.heap.size (w.heap.size+1) (W6.alloc (.cells #[.int .i64 0] 33)) hn hm (aJ_.keep (aJ_.keep hT hB6) l8) (fun g o h=>by have:=hlt g o h;omega) (pkp_ x0 l8) (pkp_ x1 l8);have TR:=e6_ 115 (fun _ _=>rfl) #[.pointer (some ⟨w.heap.size,0,none⟩),.pointer (some ⟨w.heap.size+1,0,none⟩)]
  (fun D w1=>D = E∧ac_ (W6.heap.size+1) (w.heap.size+1) (W6.alloc (.cells #[.int .i64 0] 33)) w1∧(E = 0→∃ b m c,cP_ w1 (W6.heap.size+1) (w.heap.size+1) (b7_ l) b m c)) W6
  (RD.mono (by
   rintro e w' ⟨g1,g2,g3⟩;rw [World.size_alloc] at g1 g3;rw [← hE] at g2 g3;exact ⟨E,g2,⟨rfl,g1,g3⟩,(g1.block W6.heap.size (Nat.lt_succ_self _) (by omega)).trans x8⟩))
 have HTR:=hidI TR;have HW6:=hidI hW6;have HB6:=hidI hB6;have HZ6:=hidI hz6;have HV:Hid (V = if E = 0 then gI_ (b7_ l) else ⟨#[]⟩):=by show V = _;rw [hV,hE];rfl
 have hmf:∀ (fn:Fn) (first cap:Array Value) (w:World),(Instr.makeFunc fn first cap).run Tryz.prog w = .ok (.func fn first cap) w:=fun _ _ _ _=>rfl
 clear TR RD hz6 hB6 hW6 x0 x1 x8 l8 hE hV hT hn hlt;go_enter Tryz.func66,Tryz.ntmps66;go_wp2_with fail
 rw [← HW6.out];refine HTR.out.mono ?_;rintro e w8 ⟨D,w1,rfl,⟨rfl,hF,hP⟩,hbx,rfl⟩;have t8:=sct_ w1 W6.heap.size 0 (.int .i64 D);have hF8:Below w.heap.size w w1:=HB6.out.trans ⟨hF.os,hF.tape,hF.output,Nat.le_trans (by simp) hF.size,fun k hk=>(hF.block k (by have:=HZ6.out;omega) (by omega)).trans (Below.heap_alloc _ _ _ (by have:=HZ6.out;omega))⟩;have hF9:Below w.heap.size w (w1.setCell ⟨W6.heap.size,0,none⟩ (.int .i64 D)):=hF8.trans (t8.below hF8.size (by have:=HZ6.out;omega));generalize hw8:w1.setCell ⟨W6.heap.size,0,none⟩ (.int .i64 D) = w8 at t8 hF9 ⊢;have HF9:=hidI hF9;by_cases hD:D = 0
 ·subst hD;obtain ⟨b,m,c',hb⟩:=hP rfl;have hb8:=(t8.block _ (lth_ hb.box) (by have:=HZ6.out;omega)).trans hb.box;have ho8:=cj_ hb.row (W':=w8) (fun g hg=>t8.block g (hb.row.lt g hg).2 (by have:=(hb.row.lt g hg).1;omega));have hcv:=ny_ w8 ho8;have c0:=coc_ hb8 0;simp at c0;have HV0:Hid (V = gI_ (b7_ l)):=by show V = _;rw [HV.out,if_pos rfl]
  clear hb hb8 ho8 hP hF hF8 hF9 t8 hw8 hbx;go_wp2_with fail
  go_ret2
  exact ⟨by rw [HV0.out];rfl,HF9.out⟩
 ·have hD':(D != 0) = true:=bne_iff_ne.2 hD;have HV0:Hid (V = ⟨#[]⟩):=by show V = _;rw [HV.out,if_neg hD]
  clear hD hP hF hF8 hF9 t8 hw8 hbx;go_wp2_with fail
  go_ret2
  exact ⟨by rw [HV0.out];rfl,HF9.out⟩
structure iQ_ (ts:List ak_) (nt:Int) (o:OutD):Prop where
 tag:o.tag < nt
 rng:0≤o.taker∧o.taker < ts.length
 tk:∃ t,ts[o.taker.toNat]? = some t∧t.queue≠-1∧t.queue = o.queue
 item:am_ o.item = true
theorem ma_ {ts:List ak_} {nt l:Int} {o:OutD}:cL_ ts nt l o = true↔l < o.tag∧iQ_ ts nt o:=by
 unfold cL_;simp only [Bool.and_eq_true,decide_eq_true_eq];constructor
 ·rintro ⟨⟨⟨⟨h1,h2⟩,h3⟩,h4⟩,h5⟩;refine ⟨h1,h2,aB_.1 h3,?_,h5⟩;cases ht:ts[o.taker.toNat]? with
  | none=>rw [ht] at h4;cases h4
  | some t=>rw [ht] at h4;simp only [Bool.and_eq_true,decide_eq_true_eq] at h4;exact ⟨t,rfl,h4.1,h4.2⟩
 ·rintro ⟨h1,h2⟩;refine ⟨⟨⟨⟨h1,h2.tag⟩,aB_.2 h2.rng⟩,?_⟩,h2.item⟩;obtain ⟨t,ht,h3,h4⟩:=h2.tk;rw [ht];simp only [Bool.and_eq_true,decide_eq_true_eq];exact ⟨h3,h4⟩
theorem bC_ {ts:List ak_} {nt:Int}:∀ {xs:List OutD} {l:Int},ap_ ts nt l xs = true↔(∀ o ∈ xs,l < o.tag∧iQ_ ts nt o)∧xs.Pairwise (fun a b=>a.tag < b.tag)
 | [],l=>by simp [ap_]
 | x :: r, l => by
   unfold ap_;rw [Bool.and_eq_true,ma_,bC_];constructor
   ·rintro ⟨h1,h2,h3⟩;refine ⟨fun o ho=>?_,List.pairwise_cons.2 ⟨fun b hb=>(h2 b hb).1,h3⟩⟩;rcases List.mem_cons.1 ho with rfl | ho
    ·exact h1
    ·have:=h2 o ho;exact ⟨by have:=h1.1;omega,this.2⟩
   ·rintro ⟨h1,h2⟩;obtain ⟨h3,h4⟩:=List.pairwise_cons.1 h2;exact ⟨h1 x List.mem_cons_self,fun o ho=>⟨h3 o ho,(h1 o (List.mem_cons_of_mem _ ho)).2⟩,h4⟩
theorem aj_.fine {p:ad_} {s:ab_} {n:Int} (h:aj_ p s n) {o:OutD} (ho:o ∈ s.outs):0≤o.tag∧iQ_ s.takers s.nextTag o:=by
 have:=(bC_.1 h.outs).1 o ho;exact ⟨by omega,this.2⟩
theorem aj_.rise {p:ad_} {s:ab_} {n:Int} (h:aj_ p s n):s.outs.Pairwise (fun a b=>a.tag < b.tag):=(bC_.1 h.outs).2
theorem cw_ {nq:Nat} {t:ak_}:aI_ nq t = true↔(t.queue = -1∨0≤t.queue∧t.queue < nq)∧1≤t.most∧t.most≤4:=by
 unfold aI_ as_;simp
theorem lD_ (s:ab_) (o:OutD) (t:Int):heldN { s with outs:=s.outs ++ [o] } t = heldN s t+if o.taker = t then 1 else 0:=by
 unfold heldN;simp only;rw [List.filter_append];by_cases h:o.taker = t <;> simp [h]
def goneIdx (ts:List ak_):Nat:=ts.findIdx (fun t=>decide (t.queue = -1))
def hy_ (nq:Nat) (s:ab_) (q most:Int):Int:=if as_ q nq = false then 5 else if inR most 1 4 = false then 3 else if goneIdx s.takers = s.takers.length∧4≤s.takers.length then 2 else 0
def ds_ (p:ad_) (s:ab_) (q most:Int):Int:=if stE p s≠0 then stE p s else hy_ p.queues.length s q most
def d1_ (ts:List ak_) (q most:Int):List ak_:=if goneIdx ts < ts.length then ts.set (goneIdx ts) ⟨q,most⟩ else ts ++ [⟨q,most⟩]
def d0_ (s:ab_) (q most:Int):ab_:={ s with takers:=d1_ s.takers q most }
theorem fb_ (ts:List ak_):goneIdx ts≤ts.length:=List.findIdx_le_length
theorem ky_ {ts:List ak_} (h:goneIdx ts < ts.length):ts[goneIdx ts].queue = -1:=by
 have:=List.findIdx_getElem (w:=h) (p:=fun t:ak_=>decide (t.queue = -1));exact of_decide_eq_true this
theorem eR_ (ts:List ak_) (q most:Int):(d1_ ts q most).length = if goneIdx ts < ts.length then ts.length else ts.length+1:=by
 unfold d1_;split <;> simp
theorem f9_ {ts:List ak_} {q most:Int} {i:Nat} (hi:i≠goneIdx ts) (hl:i < ts.length):(d1_ ts q most)[i]? = ts[i]?:=by
 unfold d1_;split
 ·rw [List.getElem?_set,if_neg (fun e=>hi e.symm)]
 ·rw [List.getElem?_append_left hl]
theorem ik_ (ts:List ak_) (q most:Int):(d1_ ts q most)[goneIdx ts]? = some ⟨q,most⟩:=by
 unfold d1_;split
 ·rename_i h;rw [List.getElem?_set,if_pos rfl,if_pos h]
 ·rename_i h;have:=fb_ ts;have e:goneIdx ts = ts.length:=by omega
  rw [e,List.getElem?_append_right (Nat.le_refl _)];simp
theorem gd_ {p:ad_} {s:ab_} {n:Int} (h:aj_ p s n) {o:OutD} (ho:o ∈ s.outs):o.taker.toNat≠goneIdx s.takers∧o.taker.toNat < s.takers.length:=by
 obtain ⟨_,hf⟩:=h.fine ho;obtain ⟨t,ht,h1,h2⟩:=hf.tk;have hr:=hf.rng;refine ⟨fun e=>?_,by omega⟩;have hl:goneIdx s.takers < s.takers.length:=by omega
 rw [e,List.getElem?_eq_getElem hl] at ht;have:=ky_ hl;cases ht;exact h1 this
theorem hw_ {p:ad_} {s:ab_} {n:Int} (h:aj_ p s n):heldN s (goneIdx s.takers:Nat) = 0:=by
 unfold heldN;rw [List.length_eq_zero_iff,List.filter_eq_nil_iff];intro o ho e;have e':o.taker = (goneIdx s.takers:Nat):=by simpa using e
 have:=(gd_ h ho).1;rw [e'] at this;simp at this
theorem aj_.join {p:ad_} {s:ab_} (h:aj_ p s 0) {q most:Int} (hq:as_ q p.queues.length = true) (hm:inR most 1 4 = true) (hk:¬ (goneIdx s.takers = s.takers.length∧4≤s.takers.length)):aj_ p (d0_ s q most) 0:=by
 have hq':=aB_.1 hq;have hm':1≤most∧most≤4:=by unfold inR at hm;simpa using hm
 have hg:=fb_ s.takers;refine ⟨h.pl,?_,h.len,h.line,?_,?_,h.ns,h.nt,h.ak,h.dr,h.nodup,h.lt,h.room,?_,h.sum,h.cs⟩
 ·show (d1_ s.takers q most).length≤4;rw [eR_];have:=h.tk;split <;> omega
 ·intro t ht;have ht':t ∈ d1_ s.takers q most:=ht;obtain ⟨i,hi,rfl⟩:=List.mem_iff_getElem.1 ht';by_cases e:i = goneIdx s.takers
  ·have:=ik_ s.takers q most;rw [← e,List.getElem?_eq_getElem hi] at this;rw [Option.some.inj this];exact cw_.2 ⟨.inr hq',hm'⟩
  ·have hl:i < s.takers.length:=by
    rw [eR_] at hi;split at hi <;> omega
   have:=f9_ (q:=q) (most:=most) e hl;rw [List.getElem?_eq_getElem hi,List.getElem?_eq_getElem hl] at this;rw [Option.some.inj this];exact h.tok _ (List.getElem_mem hl)
 ·refine bC_.2 ⟨fun o ho=>?_,h.rise⟩;obtain ⟨h1,h2⟩:=h.fine ho;obtain ⟨g1,g2⟩:=gd_ h ho;refine ⟨by omega,h2.tag,?_,?_,h2.item⟩
  ·have:=h2.rng;show 0≤o.taker∧o.taker < ((d1_ s.takers q most).length:Nat);rw [eR_];split <;> omega
  ·show ∃ t,(d1_ s.takers q most)[o.taker.toNat]? = some t∧_
   rw [f9_ g1 g2];exact h2.tk
 ·intro k hk';show (heldN s k:Int)≤((d1_ s.takers q most).getD k ⟨0,0⟩).most;rw [List.getD_eq_getElem?_getD];by_cases e:k = goneIdx s.takers
  ·subst e;rw [ik_,hw_ h];simp;omega
  ·have hl:k < s.takers.length:=by
    have hk2:k < (d1_ s.takers q most).length:=hk';rw [eR_] at hk2;split at hk2 <;> omega
   rw [f9_ e hl];have:=h.hold k hl;rw [List.getD_eq_getElem?_getD] at this;exact this
def tAt (s:ab_) (k:Nat):ak_:=s.takers.getD k ⟨0,0⟩
def cK_ (s:ab_) (q:Int) (k:Nat):Bool:=decide ((tAt s k).queue = q) && decide ((heldN s k:Int) < (tAt s k).most)
def lbTo (s:ab_) (q:Int):Nat→Int × Int
 | 0=>(-1,4)
 | k+1=>if cK_ s q k = true∧(heldN s k:Int) < (lbTo s q k).2 then ((k:Int),(heldN s k:Int)) else lbTo s q k
def cf_ (s:ab_) (q:Int):Int:=(lbTo s q s.takers.length).1
def dh_ (p:ad_) (s:ab_) (q:Int):Int:=
 if stE p s≠0 then stE p s else if as_ q p.queues.length = false then 5 else if af_ s q.toNat = [] then 8 else if cf_ s q = -1 then 9 else 0
structure Least (s:ab_) (q:Int) (n k:Nat):Prop where
 lt:k < n
 free:cK_ s q k = true
 few:heldN s k < 4
 least:∀ j,j < n→cK_ s q j = true→heldN s k≤heldN s j
 first:∀ j,j < k→cK_ s q j = true→heldN s k < heldN s j
theorem of_ (s:ab_) (q:Int):∀ n,(lbTo s q n = (-1,4)∧∀ j,j < n→cK_ s q j = true→4≤heldN s j)∨∃ k:Nat,lbTo s q n = ((k:Int),(heldN s k:Int))∧Least s q n k
 | 0=>.inl ⟨rfl,fun j hj=>by omega⟩
 | n + 1 => by
   rcases of_ s q n with ⟨h1,h2⟩ | ⟨k,h1,h2⟩
   ·unfold lbTo;rw [h1];split
    ·rename_i hc;have hc2:(heldN s n:Int) < 4:=hc.2;exact .inr ⟨n,rfl,by omega,hc.1,by omega,fun j hj hf=>by
      by_cases e:j = n
      ·subst e;omega
      ·have:=h2 j (by omega) hf;omega,fun j hj hf=>by have:=h2 j hj hf;omega⟩
    ·rename_i hc;exact .inl ⟨rfl,fun j hj hf=>by
      by_cases e:j = n
      ·subst e;apply Classical.byContradiction
       intro hlt;exact hc ⟨hf,by show (heldN s j:Int) < 4;omega⟩
      ·exact h2 j (by omega) hf⟩
   ·unfold lbTo;rw [h1];split
    ·rename_i hc;have hc2:(heldN s n:Int) < (heldN s k:Int):=hc.2;have:=h2.few;exact .inr ⟨n,rfl,by omega,hc.1,by omega,fun j hj hf=>by
      by_cases e:j = n
      ·subst e;omega
      ·have:=h2.least j (by omega) hf;omega,fun j hj hf=>by have:=h2.least j hj hf;omega⟩
    ·rename_i hc;exact .inr ⟨k,rfl,by have:=h2.lt;omega,h2.free,h2.few,fun j hj hf=>by
      by_cases e:j = n
      ·subst e;apply Classical.byContradiction
       intro hlt;exact hc ⟨hf,by show (heldN s j:Int) < (heldN s k:Int);omega⟩
      ·exact h2.least j (by omega) hf,h2.first⟩
theorem aj_.few {p:ad_} {s:ab_} {n:Int} (h:aj_ p s n) {q:Int} {j:Nat} (hj:j < s.takers.length) (hf:cK_ s q j = true):heldN s j < 4:=by
 unfold cK_ tAt at hf;simp only [Bool.and_eq_true,decide_eq_true_eq] at hf;rw [List.getD_eq_getElem?_getD,List.getElem?_eq_getElem hj] at hf;have:=(cw_.1 (h.tok _ (List.getElem_mem hj))).2;have h2:=hf.2;simp only [Option.getD_some] at h2;omega
theorem jn_ {p:ad_} {s:ab_} {n:Int} (h:aj_ p s n) (q:Int):(cf_ s q = -1∧∀ j,j < s.takers.length→cK_ s q j = false)∨∃ k:Nat,cf_ s q = k∧Least s q s.takers.length k:=by
 rcases of_ s q s.takers.length with ⟨h1,h2⟩ | ⟨k,h1,h2⟩
 ·refine .inl ⟨by unfold cf_;rw [h1],fun j hj=>?_⟩;rw [Bool.eq_false_iff];intro hf;have:=h.few hj hf;have:=h2 j hj hf;omega
 ·exact .inr ⟨k,by unfold cf_;rw [h1],h2⟩
theorem Least.uniq {s:ab_} {q:Int} {n k j:Nat} (h:Least s q n k) (g:Least s q n j):k = j:=by
 rcases Nat.lt_trichotomy k j with e | e | e
 ·have:=g.first k e h.free;have:=h.least j g.lt g.free;omega
 ·exact e
 ·have:=h.first j e g.free;have:=g.least k h.lt h.free;omega
def delE (p:ad_) (s:ab_) (q:Int):Int:=if dh_ p s q≠0 then dh_ p s q else if s.nextTag = 1048576 then 2 else 0
def iDef:ae_:=⟨0,⟨#[]⟩,⟨#[]⟩,false,0⟩
def delO (s:ab_) (q:Int):OutD:=⟨s.nextTag,cf_ s q,q,(af_ s q.toNat).headD iDef⟩
def delS (s:ab_) (q:Int):ab_:={ s with ready:=s.ready.set q.toNat (af_ s q.toNat).tail,outs:=s.outs ++ [delO s q],nextTag:=s.nextTag+1 }
structure Delivers (p:ad_) (s:ab_) (q:Int) (k:Nat) (x:ae_) (r:List ae_):Prop where
 right:aj_ p s 0
 q0:0≤q
 ql:q.toNat < s.ready.length
 line:af_ s q.toNat = x :: r
 key:cf_ s q = k
 least:Least s q s.takers.length k
 tag:s.nextTag < 1048576
theorem gc_ {p:ad_} {s:ab_} {q:Int} (h:dh_ p s q = 0):aj_ p s 0∧0≤q∧q < p.queues.length∧(∃ x r,af_ s q.toNat = x :: r)∧∃ k:Nat,cf_ s q = k∧Least s q s.takers.length k:=by
 unfold dh_ at h;by_cases h1:stE p s = 0
 ·rw [if_neg (by simp [h1])] at h;by_cases h2:as_ q p.queues.length = false
  ·rw [if_pos h2] at h;cases h
  ·rw [if_neg h2] at h;by_cases h3:af_ s q.toNat = []
   ·rw [if_pos h3] at h;cases h
   ·rw [if_neg h3] at h;by_cases h4:cf_ s q = -1
    ·rw [if_pos h4] at h;cases h
    ·have hr:=aM_ h1;have hq:=aB_.1 (by simpa using h2);refine ⟨hr,hq.1,hq.2,?_,?_⟩
     ·cases hl:af_ s q.toNat with
      | nil=>exact absurd hl h3
      | cons x r=>exact ⟨x,r,rfl⟩
     ·rcases jn_ hr q with ⟨e,_⟩ | hk
      ·exact absurd e h4
      ·exact hk
 ·rw [if_pos h1] at h;exact absurd h h1
theorem m3_ {p:ad_} {s:ab_} {q:Int} (h:delE p s q = 0):∃ k x r,Delivers p s q k x r:=by
 unfold delE at h;by_cases h1:dh_ p s q = 0
 ·rw [if_neg (by simp [h1])] at h;by_cases h2:s.nextTag = 1048576
  ·rw [if_pos h2] at h;cases h
  ·obtain ⟨hr,q0,q1,⟨x,r,hl⟩,k,hk,hL⟩:=gc_ h1;have:=hr.nt;exact ⟨k,x,r,hr,q0,by rw [hr.len];omega,hl,hk,hL,by omega⟩
 ·rw [if_pos h1] at h;exact absurd h h1
theorem Delivers.out {p:ad_} {s:ab_} {q:Int} {k:Nat} {x:ae_} {r:List ae_} (h:Delivers p s q k x r):delO s q = ⟨s.nextTag,(k:Int),q,x⟩:=by
 unfold delO;rw [h.key,h.line];rfl
theorem nz_ {p:ad_} {s:ab_} {q:Int} {k:Nat} {x:ae_} {r:List ae_} (h:Delivers p s q k x r):(ar_ (delS s q)).Perm (ar_ s):=by
 obtain ⟨A,B,h1,h2⟩:=hv_ (fun l=>l.map ae_.seq) h.ql r;have e:s.ready[q.toNat]'h.ql = x :: r:=by rw [← a4_ h.ql];exact h.line
 have e1:ar_ s = A ++ (x.seq :: (r.map ae_.seq ++ (B ++ s.outs.map fun o=>o.item.seq))):=by
  unfold ar_;rw [h1,e];simp only [List.map_cons,List.append_assoc,List.cons_append]
 have e2:ar_ (delS s q) = A ++ (r.map ae_.seq ++ (B ++ s.outs.map fun o=>o.item.seq)) ++ [x.seq]:=by
  have:ar_ (delS s q) = ((s.ready.set q.toNat (af_ s q.toNat).tail).flatMap fun l=>l.map ae_.seq) ++ (s.outs ++ [delO s q]).map fun o=>o.item.seq:=rfl
  rw [this,h.line,List.tail_cons,h2,h.out,List.map_append];simp only [List.map_cons,List.map_nil,List.append_assoc]
 rw [e1,e2];refine List.perm_append_comm.trans ?_;rw [List.singleton_append];exact List.perm_middle.symm
theorem Delivers.done {p:ad_} {s:ab_} {q:Int} {k:Nat} {x:ae_} {r:List ae_} (h:Delivers p s q k x r):aj_ p (delS s q) 0:=by
 have hR:=h.right;have hp:=nz_ h;have hlx:=hR.line _ (ba_ h.ql);rw [h.line] at hlx;obtain ⟨l1,l2⟩:=bv_.1 hlx;have hfree:=h.least.free;unfold cK_ at hfree;simp only [Bool.and_eq_true,decide_eq_true_eq] at hfree;have htk:s.takers[k]? = some (tAt s k):=by unfold tAt;rw [List.getD_eq_getElem?_getD,List.getElem?_eq_getElem h.least.lt];rfl
 have hkl:=h.least.lt;refine ⟨hR.pl,hR.tk,by simpa [delS] using hR.len,?_,hR.tok,?_,hR.ns,?_,hR.ak,hR.dr,hp.nodup_iff.2 hR.nodup,fun z hz=>hR.lt z (hp.mem_iff.1 hz),?_,?_,?_,hR.cs⟩
 ·intro l hl;rcases List.mem_or_eq_of_mem_set hl with h' | h'
  ·exact hR.line l h'
  ·rw [h',h.line,List.tail_cons];exact bv_.2 ⟨fun z hz=>l1 z (List.mem_cons_of_mem _ hz),(List.pairwise_cons.1 l2).2⟩
 ·show ap_ s.takers (s.nextTag+1) (-1) (s.outs ++ [delO s q]) = true;rw [h.out];refine bC_.2 ⟨fun o ho=>?_,?_⟩
  ·rcases List.mem_append.1 ho with ho | ho
   ·obtain ⟨g1,g2⟩:=hR.fine ho;exact ⟨by omega,by have:=g2.tag;omega,g2.rng,g2.tk,g2.item⟩
   ·rw [List.mem_singleton.1 ho];refine ⟨by have:=hR.nt;simp only;omega,by simp only;omega,by simp only;omega,⟨tAt s k,by simp only [Int.toNat_natCast];exact htk,by rw [hfree.1];have:=h.q0;omega,hfree.1⟩,l1 x List.mem_cons_self⟩
  ·rw [List.pairwise_append];exact ⟨hR.rise,by simp,fun a ha b hb=>by rw [List.mem_singleton.1 hb];exact (hR.fine ha).2.tag⟩
 ·show 0≤s.nextTag+1∧s.nextTag+1≤1048576;have:=hR.nt;have:=h.tag;omega
 ·intro j hj;have hj':j < s.ready.length:=by simpa [delS] using hj
  have:af_ (delS s q) j = if j = q.toNat then (af_ s q.toNat).tail else af_ s j:=gZ_ (s:=s) h.ql (af_ s q.toNat).tail 0
  rw [this];split
  ·rename_i e;subst e;have:=hR.room q.toNat hj';rw [List.length_tail];omega
  ·exact hR.room j hj'
 ·intro j hj;show (heldN { s with outs:=s.outs ++ [delO s q] } j:Int)≤(s.takers.getD j ⟨0,0⟩).most;rw [lD_,h.out];by_cases e:k = j
  ·subst e;have:=hfree.2;unfold tAt at this;simp only [if_true];omega
  ·rw [if_neg (by simp only;omega)];exact hR.hold j hj
 ·show s.came = _;have:=hR.sum;rw [hp.length_eq];exact this
def ak_.val (x:ak_):Value:=.agg #[.int .i64 x.queue,.int .i64 x.most]
def OutD.val (o:OutD):Value:=.agg #[.int .i64 o.tag,.int .i64 o.taker,.int .i64 o.queue,.int .i64 o.item.seq,.string o.item.key,.string o.item.body,.bool o.item.again,.int .i64 o.item.deaths]
def idxF {α:Type} (P:α→Bool) (xs:List α):Int:=if xs.findIdx P < xs.length then (xs.findIdx P:Int) else -1
theorem fN_ {α:Type} {P:α→Bool} {xs:List α} {k:Nat} (hk:k < xs.length) (ha:∀ x ∈ xs.take k,P x = false) (hx:P xs[k] = true):idxF P xs = k:=by
 have e:xs.findIdx P = k:=by
  rw [List.findIdx_eq hk];exact ⟨hx,fun j hj=>ha _ (by rw [List.mem_take_iff_getElem];exact ⟨j,by omega,rfl⟩)⟩
 unfold idxF;rw [e,if_pos hk]
theorem f4_ {α:Type} {P:α→Bool} {xs:List α} (ha:∀ x ∈ xs,P x = false):idxF P xs = -1:=by
 have e:xs.findIdx P = xs.length:=List.findIdx_eq_length.2 ha;unfold idxF;rw [e,if_neg (Nat.lt_irrefl _)]
theorem gB_ (f:FuncId) (hf:Goes f) (cap:Array Value) (P:ak_→Bool) (xs:List ak_) (a:Option Addr) (n c:Nat) (w:World) (hn:xs.length = n) (hm:n≤100000000) (hp:cQ_ w a xs)
 (hcl:∀ (x:ak_) (W:World),Below w.heap.size w W→Calls Tryz.prog f (#[x.val] ++ cap) W fun e w'=>e = .returned (.bool (P x))∧Below W.heap.size W w') :
 Calls Tryz.prog 75 #[.slice a n c,.func (.func f) #[] cap] w fun e w'=>e = .returned (.int .i64 (idxF P xs))∧Below w.heap.size w w':=by
 have HN:=hidI hn;have HP:=hidI hp;have HCL:=hidI hcl;have hf':∀ (args:Array Value) (w:World),Sem.run Tryz.prog (callFunc f args) w = .ok (.enter f args) w:=hf
 clear hn hp hcl hf;go_enter Tryz.func75,Tryz.ntmps75;go_wp2
 go_loopw [8] (fun i wr=>∃ (k:Nat),k≤n∧i = .int .i64 k∧(∀ x ∈ xs.take k,P x = false)∧Below w.heap.size w wr) (fun i _=>n - (intOf i).toNat)
 case atStart=>exact ⟨0,Nat.zero_le _,rfl,by simp,Below.refl _ _⟩
 case round=>
  obtain ⟨k,hk,rfl,ha,hBl⟩:=hrel;have HA:=hidI ha;have hBs:=hBl.size;clear ha;by_cases hlt:k < n
  ·have hkl:k < xs.length:=by rw [HN.out];exact hlt
   obtain ⟨g,o,rfl,hg,hc⟩:=(HP.out.keep hBl).get hkl;have HX:Hid (P xs[k] = true→idxF P xs = k):=fun h=>fN_ hkl HA.out h
   have HT:Hid (P xs[k] = false→∀ x ∈ xs.take (k+1),P x = false):=fun h x hx=>by
    rw [List.take_succ_eq_append_getElem hkl,List.mem_append,List.mem_singleton] at hx;rcases hx with hx | rfl
    ·exact HA.out x hx
    ·exact h
   have HCX:=hidI (HCL.out xs[k] wr hBl);obtain ⟨x,hxx⟩:∃ x,x = xs[k]:=⟨_,rfl⟩
   rw [← hxx] at hc HX HT HCX;obtain ⟨y,hy⟩:∃ y,y = P x:=⟨_,rfl⟩
   rw [← hy] at HX HT HCX;clear hxx hy HA;obtain ⟨c0,c1⟩:=hc;have j1:(0:Int)≤(k:Int):=by omega
   have j2:(k:Int) < n:=by omega
   cases y with
   | true =>
     go_wp2_with fail
     refine HCX.out.mono ?_;rintro e w2 ⟨rfl,hB2⟩;go_wp2_with fail
     go_ret
     exact ⟨au_ (HX.out (by first | rfl | trivial)).symm,hBl.trans (hB2.mono hBs)⟩
   | false =>
     go_wp2_with fail
     refine HCX.out.mono ?_;rintro e w2 ⟨rfl,hB2⟩;go_wp2_with fail
     go_roundw
     case rel=>exact ⟨k+1,by omega,by go_num,HT.out (by first | rfl | trivial),hBl.trans (hB2.mono hBs)⟩
     case measure=>simp [intOf];omega
  ·have HF:Hid (idxF P xs = -1):=f4_ (fun x hx=>HA.out x (by rw [List.take_of_length_le (by rw [HN.out];omega)];exact hx));go_wp2
   go_ret
   exact ⟨au_ HF.out.symm,hBl⟩
theorem ii_ (f:FuncId) (hf:Goes f) (cap:Array Value) (P:OutD→Bool) (xs:List OutD) (a:Option Addr) (n c:Nat) (w:World) (hn:xs.length = n) (hm:n≤100000000) (hp:eH_ w a xs)
 (hcl:∀ (x:OutD) (W:World),Below w.heap.size w W→Calls Tryz.prog f (#[x.val] ++ cap) W fun e w'=>e = .returned (.bool (P x))∧Below W.heap.size W w') :
 Calls Tryz.prog 145 #[.slice a n c,.func (.func f) #[] cap] w fun e w'=>e = .returned (.int .i64 (idxF P xs))∧Below w.heap.size w w':=by
 have HN:=hidI hn;have HP:=hidI hp;have HCL:=hidI hcl;have hf':∀ (args:Array Value) (w:World),Sem.run Tryz.prog (callFunc f args) w = .ok (.enter f args) w:=hf
 clear hn hp hcl hf;go_enter Tryz.func145,Tryz.ntmps145;go_wp2
 go_loopw [8] (fun i wr=>∃ (k:Nat),k≤n∧i = .int .i64 k∧(∀ x ∈ xs.take k,P x = false)∧Below w.heap.size w wr) (fun i _=>n - (intOf i).toNat)
 case atStart=>exact ⟨0,Nat.zero_le _,rfl,by simp,Below.refl _ _⟩
 case round=>
  obtain ⟨k,hk,rfl,ha,hBl⟩:=hrel;have HA:=hidI ha;have hBs:=hBl.size;clear ha;by_cases hlt:k < n
  ·have hkl:k < xs.length:=by rw [HN.out];exact hlt
   obtain ⟨g,o,rfl,hg,hc⟩:=(HP.out.keep hBl).get hkl;have HX:Hid (P xs[k] = true→idxF P xs = k):=fun h=>fN_ hkl HA.out h
   have HT:Hid (P xs[k] = false→∀ x ∈ xs.take (k+1),P x = false):=fun h x hx=>by
    rw [List.take_succ_eq_append_getElem hkl,List.mem_append,List.mem_singleton] at hx;rcases hx with hx | rfl
    ·exact HA.out x hx
    ·exact h
   have HCX:=hidI (HCL.out xs[k] wr hBl);obtain ⟨x,hxx⟩:∃ x,x = xs[k]:=⟨_,rfl⟩
   rw [← hxx] at hc HX HT HCX;obtain ⟨y,hy⟩:∃ y,y = P x:=⟨_,rfl⟩
   rw [← hy] at HX HT HCX;clear hxx hy HA;obtain ⟨c0,c1,c2,c3,c4,c5,c6,c7⟩:=hc;have j1:(0:Int)≤(k:Int):=by omega
   have j2:(k:Int) < n:=by omega
   cases y with
   | true =>
     go_wp2_with fail
     refine HCX.out.mono ?_;rintro e w2 ⟨rfl,hB2⟩;go_wp2_with fail
     go_ret
     exact ⟨au_ (HX.out (by first | rfl | trivial)).symm,hBl.trans (hB2.mono hBs)⟩
   | false =>
     go_wp2_with fail
     refine HCX.out.mono ?_;rintro e w2 ⟨rfl,hB2⟩;go_wp2_with fail
     go_roundw
     case rel=>exact ⟨k+1,by omega,by go_num,HT.out (by first | rfl | trivial),hBl.trans (hB2.mono hBs)⟩
     case measure=>simp [intOf];omega
  ·have HF:Hid (idxF P xs = -1):=f4_ (fun x hx=>HA.out x (by rw [List.take_of_length_le (by rw [HN.out];omega)];exact hx));go_wp2
   go_ret
   exact ⟨au_ HF.out.symm,hBl⟩
theorem fx_ (p:ad_) (a1 a2 a3:Option Addr) (n1 c1 n2 c2 n3 c3:Nat) (q:Int) (w:World) (hp:ao_ w a1 a2 a3 n1 n2 n3 p) :
 Calls Tryz.prog 102 #[.agg #[.slice a1 n1 c1,.slice a2 n2 c2,.slice a3 n3 c3],.int .i64 q] w fun e w'=>e = askE (if as_ q n2 = false then 5 else 0)∧Below w.heap.size w w':=by
 obtain ⟨E,hE⟩:∃ E:Int,E = if as_ q n2 = false then 5 else 0:=⟨_,rfl⟩
 rw [← hE];obtain ⟨W1,hW1,hBw,hs1,hbx⟩:=cu_ w (.slice a1 n1 c1) (.slice a2 n2 c2) (.slice a3 n3 c3) 26;have HW1:=hidI hW1;have HE:=hidI hE;have HS1:=hidI hs1;have s0:=hBw.size;obtain ⟨x0,x1,x2⟩:=hbx W1 (Below.refl _ _);clear hW1 hbx hE hs1;go_enter Tryz.func102,Tryz.ntmps102;go_wp2_with fail
 rw [← HW1.out];by_cases h:0≤q∧q < n2
 ·have HE0:Hid (E = 0):=by show E = 0;rw [HE.out,if_neg (by rw [aB_.2 h];decide)]
  refine (aG_ 5 [decide (q < 0),decide ((n2:Int)≤q)] _ _ (by simp) (bng_ W1 _ HS1.out.symm) (by simp;omega)).mono ?_;rintro e w2 ⟨rfl,rfl⟩;go_wp2_with fail
  go_end0
  exact ⟨by rw [HE0.out];rfl,hBw.trans ((Below.refl _ _).alloc s0 _)⟩
 ·have HE0:Hid (E = 5):=by show E = 5;rw [HE.out,if_pos (ec_.2 h)]
  refine (ax_ 5 [decide (q < 0),decide ((n2:Int)≤q)] _ _ (by simp) (bng_ W1 _ HS1.out.symm) (by simp;omega)).mono ?_;rintro e w2 ⟨rfl,rfl⟩;exact ⟨rfl,by rw [HE0.out];rfl,hBw.trans ((Below.refl _ _).alloc s0 _)⟩
structure av_ (T:TypeId) (W W':World):Prop where
 size:W.heap.size≤W'.heap.size
 block:∀ (k:Nat) (cur:Array Value) (T':TypeId),W.heap[k]? = some (Obj.cells cur T' (0,0))→T'≠T→W'.heap[k]? = W.heap[k]?
theorem av_.of_below {T:TypeId} {W W':World} (h:Below W.heap.size W W'):av_ T W W':=⟨h.size,fun k cur T' hk _=>h.block k (lth_ hk)⟩
theorem av_.trans {T:TypeId} {A B C:World} (h:av_ T A B) (k:av_ T B C):av_ T A C:=⟨Nat.le_trans h.size k.size,fun i cur T' hi hT=>(k.block i cur T' ((h.block i cur T' hi hT).trans hi) hT).trans (h.block i cur T' hi hT)⟩
theorem av_.setCell {T:TypeId} {W:World} {B i:Nat} {cur:Array Value} (hB:W.heap[B]? = some (.cells cur T (0,0))) (u:Value):av_ T W (W.setCell ⟨B,i,none⟩ u):=
 ⟨by simp [World.setCell],fun k cur' T' hk hT=>heap_setCell_other _ _ _ _ (fun e=>by
  have e':k = B:=e;rw [e',hB] at hk;cases hk;exact hT rfl)⟩
theorem av_.grown {T:TypeId} {W W':World} {base size n:Nat} {v:Value} {cs:List Value} (h:W.ownsRow base T size v n cs) (hg:W.grownBy W' v.ownBlock):av_ T W W':=
 ⟨hg.size,fun k cur' T' hk hT=>hg.block k (lth_ hk) (fun e=>e0_ h hk (fun e=>hT e.symm) e.symm)⟩
theorem av_.row {T T':TypeId} {W W':World} {base size n:Nat} {v:Value} {cs:List Value} (k:av_ T W W') (h:W.ownsRow base T' size v n cs) (hT:T'≠T):W'.ownsRow base T' size v n cs:=by
 refine ⟨h.1,?_⟩;rcases h.2 with h | ⟨g,cap,cur,h1,h2,h3,h4⟩
 ·exact .inl h
 ·exact .inr ⟨g,cap,cur,h1,h2,(k.block g cur T' h3 hT).trans h3,h4⟩
theorem av_.keepI {T:TypeId} {n:Nat} {W W':World} (k:av_ T W W') (hT:48≠T):dN_ n W W':=⟨k.size,fun g cur _ hg=>k.block g cur _ hg hT⟩
theorem aP_.typeT {T:TypeId} {W W':World} {n:Nat} {b1 b2 b3:Option Addr} {m1 d1 m2 d2 m3 d3:Nat} {s:ab_} (h:aP_ W n b1 b2 b3 m1 d1 m2 d2 m3 d3 s) (k:av_ T W W') (hT:48≠T∧67≠T∧69≠T∧46≠T):aP_ W' n b1 b2 b3 m1 d1 m2 d2 m3 d3 s:=by
 obtain ⟨vs,h1,h2⟩:=h.r1;exact ⟨h.l1,h.l2,h.l3,h.x2,⟨vs,k.row h1 hT.2.2.2,h2.keepT (k.keepI hT.1)⟩,k.row h.r2 hT.2.1,k.row h.r3 hT.2.2.1⟩
theorem bF_ (xs:List ak_):(tkC_ xs).length = xs.length * 2:=bL_ (f:=ak_.cells) (fun _=>rfl) xs
theorem aL_ (xs:List OutD):(ah_ xs).length = xs.length * 8:=bL_ (f:=OutD.cells) (fun _=>rfl) xs
theorem do_ (xs ys:List ak_):tkC_ (xs ++ ys) = tkC_ xs ++ tkC_ ys:=by unfold tkC_;rw [List.flatMap_append]
theorem aT_ (xs ys:List OutD):ah_ (xs ++ ys) = ah_ xs ++ ah_ ys:=by unfold ah_;rw [List.flatMap_append]
theorem aP_.takers {W W':World} {n:Nat} {b1 b2 b3 b3':Option Addr} {m1 d1 m2 d2 m3 d3 m3' d3':Nat} {s:ab_} {ts:List ak_} (h:aP_ W n b1 b2 b3 m1 d1 m2 d2 m3 d3 s) (k:av_ 69 W W') (r:W'.ownsRow n 69 2 (.slice b3' m3' d3') m3' (tkC_ ts)):aP_ W' n b1 b2 b3' m1 d1 m2 d2 m3' d3' { s with takers:=ts }:=by
 obtain ⟨vs,h1,h2⟩:=h.r1;refine ⟨h.l1,h.l2,?_,h.x2,⟨vs,k.row h1 (by decide),h2.keepT (k.keepI (by decide))⟩,k.row h.r2 (by decide),r⟩;have:=r.1;rw [bF_] at this;show ts.length = m3';omega
theorem aP_.outs {W W':World} {n:Nat} {b1 b2 b3 b2':Option Addr} {m1 d1 m2 d2 m3 d3 m2' d2':Nat} {s:ab_} {os:List OutD} (h:aP_ W n b1 b2 b3 m1 d1 m2 d2 m3 d3 s) (k:av_ 67 W W') (hx:m2'≤100000000) (r:W'.ownsRow n 67 8 (.slice b2' m2' d2') m2' (ah_ os)):aP_ W' n b1 b2' b3 m1 d1 m2' d2' m3 d3 { s with outs:=os }:=by
 obtain ⟨vs,h1,h2⟩:=h.r1;refine ⟨h.l1,?_,h.l3,hx,⟨vs,k.row h1 (by decide),h2.keepT (k.keepI (by decide))⟩,r,k.row h.r3 (by decide)⟩;have:=r.1;rw [aL_] at this;show os.length = m2';omega
theorem aP_.line {W W':World} {n g:Nat} {b2 b3:Option Addr} {m1 d1 m2 d2 m3 d3:Nat} {s:ab_} (h:aP_ W n (some ⟨g,0,none⟩) b2 b3 m1 d1 m2 d2 m3 d3 s) {q:Nat} (hq:q < s.ready.length) {xs:List ae_} {v:Value} {b:Option Addr} {c:Nat} (hv:cJ_ W n xs v b c) (hW:W' = W.setCell ⟨g,q,none⟩ v):aP_ W' n (some ⟨g,0,none⟩) b2 b3 m1 d1 m2 d2 m3 d3 { s with ready:=s.ready.set q xs }:=by
 obtain ⟨vs,h1,h2⟩:=h.r1;obtain ⟨_,cur,hg⟩:=a7_ h1;have k:av_ 46 W W':=by rw [hW];exact av_.setCell hg v
 have hs:=h1.stored q v;have ki:dN_ n W W':=k.keepI (by decide);refine ⟨by show (s.ready.set q xs).length = m1;rw [List.length_set];exact h.l1,h.l2,h.l3,h.x2,⟨vs.set q v,by rw [hW];exact hs.1,?_⟩,k.row h.r2 (by decide),k.row h.r3 (by decide)⟩;refine ⟨by show (vs.set q v).length = (s.ready.set q xs).length;rw [List.length_set,List.length_set];exact h2.len,fun i hi=>?_⟩;have hi':i < s.ready.length:=by simpa using hi
 by_cases e:i = q
 ·subst e;refine ⟨v,b,c,by rw [List.getElem?_set,if_pos rfl,if_pos (by rw [h2.len];exact hi')],?_⟩;have:(s.ready.set i xs)[i]'hi = xs:=List.getElem_set_self _;rw [this];exact hv.keepT ki
 ·obtain ⟨u,b',c',e1,e2⟩:=h2.get i hi';refine ⟨u,b',c',by rw [List.getElem?_set,if_neg (fun e'=>e e'.symm)];exact e1,?_⟩;have:(s.ready.set q xs)[i]'hi = s.ready[i]:=List.getElem_set_ne (fun e'=>e e'.symm) _;rw [this];exact e2.keepT ki
theorem eu_ {xs:List ak_} {k:Nat} (hk:k < xs.length) (x:ak_):((tkC_ xs).set (k * 2) (.int .i64 x.queue)).set (k * 2+1) (.int .i64 x.most) = tkC_ (xs.set k x):=by
 apply List.ext_getElem?
 intro j;rw [List.getElem?_set,List.getElem?_set];rcases Nat.lt_or_ge j (xs.length * 2) with h | h
 ·obtain ⟨h1,h2,h3⟩:=jV_ (k:=2) (by omega) h;have e1:=bI_ (f:=ak_.cells) (k:=2) (fun _=>rfl) xs _ h1 _ h2;have e2:=bI_ (f:=ak_.cells) (k:=2) (fun _=>rfl) (xs.set k x) (j / 2) (by rw [List.length_set];exact h1) _ h2;rw [h3] at e1 e2;have e3:(tkC_ (xs.set k x))[j]? = _:=e2;have e4:(tkC_ xs)[j]? = _:=e1;have hl:j < (tkC_ xs).length:=by rw [bF_];exact h
  have hl2:j < ((tkC_ xs).set (k * 2) (.int .i64 x.queue)).length:=by rw [List.length_set];exact hl
  rw [e3,e4];by_cases c1:k * 2+1 = j
  ·have a1:j / 2 = k:=by omega
   have a2:j % 2 = 1:=by omega
   rw [if_pos c1,if_pos (by rw [c1];exact hl2)];simp [a1,a2,ak_.cells]
  ·rw [if_neg c1];by_cases c2:k * 2 = j
   ·have a1:j / 2 = k:=by omega
    have a2:j % 2 = 0:=by omega
    rw [if_pos c2,if_pos (by rw [c2];exact hl)];simp [a1,a2,ak_.cells]
   ·rw [if_neg c2];have a1:j / 2≠k:=by omega
    rw [List.getElem_set_ne (fun e=>a1 e.symm)]
 ·have hl:(tkC_ xs).length≤j:=by rw [bF_];exact h
  rw [if_neg (by omega),if_neg (by omega),List.getElem?_eq_none hl,List.getElem?_eq_none (by rw [bF_,List.length_set];exact h)]
theorem aP_.taker {W W':World} {n g:Nat} {b1 b2:Option Addr} {m1 d1 m2 d2 m3 d3:Nat} {s:ab_} (h:aP_ W n b1 b2 (some ⟨g,0,none⟩) m1 d1 m2 d2 m3 d3 s) {k:Nat} (hk:k < s.takers.length) (x:ak_) (hW:W' = (W.setCell ⟨g,k * 2,none⟩ (.int .i64 x.queue)).setCell ⟨g,k * 2+1,none⟩ (.int .i64 x.most)):aP_ W' n b1 b2 (some ⟨g,0,none⟩) m1 d1 m2 d2 m3 d3 { s with takers:=s.takers.set k x }∧av_ 69 W W'∧n≤g:=by
 obtain ⟨hn,cur,hg⟩:=a7_ h.r3;have s1:=h.r3.stored (k * 2) (.int .i64 x.queue);obtain ⟨_,cur1,hg1⟩:=a7_ s1.1;have s2:=s1.1.stored (k * 2+1) (.int .i64 x.most);have kt:av_ 69 W W':=by rw [hW];exact (av_.setCell hg _).trans (av_.setCell hg1 _)
 refine ⟨h.takers kt ?_,kt,hn⟩;rw [hW,← eu_ hk];exact s2.1
theorem StBox.keep {W W':World} {n t:Nat} {s:ab_} (h:StBox W n t s) (hB:Below W.heap.size W W'):StBox W' n t s:=by
 obtain ⟨b1,b2,b3,m1,d1,m2,d2,m3,d3,h1,h2⟩:=h;exact ⟨b1,b2,b3,m1,d1,m2,d2,m3,d3,pkp_ h1 hB,h2.keep hB⟩
theorem StBox.drew {W:World} {n t:Nat} {s:ab_} (h:StBox W n t s):StBox W.drew n t s:=h.keep (Below.refl _ _).drew
theorem ac_.drew {n t:Nat} {A B:World} (h:ac_ n t A B):ac_ n t A B.drew:=⟨h.os,h.tape,h.output,h.size,h.block⟩
theorem ac_.typeSet {n t:Nat} {A B:World} (h:ac_ n t A B) {g i:Nat} (hg:n≤g) (u:Value):ac_ n t A (B.setCell ⟨g,i,none⟩ u):=h.setCell (p:=⟨g,i,none⟩) (.inl hg) u
theorem bq_.turn {W W':World} {n t:Nat} {v:Value} {E:Int} {s:ab_} {cur:Array Value} (h:bq_ W n v E s) (ht:W.heap[t]? = some (.cells cur 31 (0,0))) (k:aX_ t W W'):bq_ W' n v E s:=by
 refine ⟨fun e=>?_,h.2⟩;obtain ⟨b1,b2,b3,m1,d1,m2,d2,m3,d3,h1,h2⟩:=h.1 e;exact ⟨b1,b2,b3,m1,d1,m2,d2,m3,d3,h1,h2.turn ht (by decide) k⟩
theorem bq_.shape {W:World} {n:Nat} {v:Value} {E:Int} {s:ab_} (h:bq_ W n v E s):∃ (x1 x2 x3:Option Addr) (k1 e1 k2 e2 k3 e3:Nat) (i1 i2 i3 i4 i5:Int),v = .agg #[.slice x1 k1 e1,.slice x2 k2 e2,.slice x3 k3 e3,.int .i64 i1,.int .i64 i2,.int .i64 i3,.int .i64 i4,.int .i64 i5]:=by
 by_cases hE:E = 0
 ·obtain ⟨_,_,_,_,_,_,_,_,_,rfl,_⟩:=h.1 hE;exact ⟨_,_,_,_,_,_,_,_,_,_,_,_,_,_,rfl⟩
 ·rw [h.2 hE];exact ⟨_,_,_,_,_,_,_,_,_,_,_,_,_,_,rfl⟩
theorem aP_.same {W:World} {n:Nat} {b1 b2 b3:Option Addr} {m1 d1 m2 d2 m3 d3:Nat} {s s':ab_} (h:aP_ W n b1 b2 b3 m1 d1 m2 d2 m3 d3 s) (h1:s'.ready = s.ready) (h2:s'.outs = s.outs) (h3:s'.takers = s.takers):aP_ W n b1 b2 b3 m1 d1 m2 d2 m3 d3 s':=by
 refine ⟨by rw [h1];exact h.l1,by rw [h2];exact h.l2,by rw [h3];exact h.l3,h.x2,by rw [h1];exact h.r1,by rw [h2];exact h.r2,by rw [h3];exact h.r3⟩
end Go.Proofs.YtlbnkpicnokgoaaGreat
