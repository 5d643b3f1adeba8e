import Derived.Deep.RegionHeld3
import Derived.Test.YtlbnkpicnokgoaaGreatCAe
import Derived.Test.YtlbnkpicnokgoaaGreatUax
import Derived.Test.YtlbnkpicnokgoaaGreatUfx
namespace Go.Proofs.YtlbnkpicnokgoaaGreat
open Go.RowKit Go.Maps
set_option linter.unusedVariables false
set_option maxRecDepth 100000
set_option maxHeartbeats 8000000
def arrI (a:ArrD):ae_:=⟨0,a.key,a.body,false,a.deaths⟩
def arrQ (nq:Nat) (a:ArrD):Bool:=ar_ a.queue nq
def arE (p:ad_) (s:ab_) (l:List ArrD):Int:=
 if 4 < l.length then 2 else if l.all (arrQ p.queues.length) = false then 5 else if l.all (fun a=>am_ (arrI a)) = false then 1 else if 524288 < s.nextSeq then 2 else 0
theorem hb_ {p:ad_} {s:ab_} {l:List ArrD} (h:arE p s l = 0):l.length≤4∧(∀ a ∈ l,c9_ p a)∧s.nextSeq≤524288:=by
 unfold arE at h;by_cases h1:4 < l.length
 ·rw [if_pos h1] at h;cases h
 rw [if_neg h1] at h;by_cases h2:l.all (arrQ p.queues.length) = false
 ·rw [if_pos h2] at h;cases h
 rw [if_neg h2] at h;by_cases h3:l.all (fun a=>am_ (arrI a)) = false
 ·rw [if_pos h3] at h;cases h
 rw [if_neg h3] at h;by_cases h4:524288 < s.nextSeq
 ·rw [if_pos h4] at h;cases h
 simp only [Bool.not_eq_false,List.all_eq_true] at h2 h3;refine ⟨by omega,fun a ha=>?_,by omega⟩;obtain ⟨_,_,q3,q4,q5,q6⟩:=by_ (h3 a ha);exact ⟨aB_.1 (h2 a ha),q3,q4,q5,q6⟩
theorem eT_ {α:Type} {P:α→Bool} {l:List α} {k:Nat} (hk:k < l.length) (h:(l.take k).all P = true) (hx:P l[k] = true):(l.take (k+1)).all P = true:=by
 rw [List.take_succ_eq_append_getElem hk,List.all_append,h];simp [hx]
theorem le_ {α:Type} {P:α→Bool} {l:List α} {k:Nat} (hk:k < l.length) (hx:P l[k] = false):l.all P = false:=by
 rw [List.all_eq_false];exact ⟨l[k],List.getElem_mem hk,by simp [hx]⟩
theorem lK_ (x:ae_):bw_ [x] = if am_ x = true then 0 else 1:=by
 unfold bw_;have:at_ [x] = am_ x:=by
  rw [Bool.eq_iff_iff,bv_];simp
 rw [this]
theorem kp_ (p:ad_) (s:ab_) (l:List ArrD) (b:Option Addr) (mb cb N H n t n2 c2:Nat) (v1 v3:Value) (a2:Option Addr) (xs:List ArrD) (ab:Option Addr) (am ac:Nat) (w:World) (hn2:p.queues.length = n2) (hl:bh_ w b l) (hll:l.length = mb) (hmb:mb≤maxLen) (hh:Hall w N H t v1 (.slice a2 n2 c2) v3 xs ab am ac) (hbx:StBox w n t s) :
 Calls Tryz.prog 140 #[.pointer (some ⟨H,0,none⟩),.slice b mb cb] w fun e w'=>e = askE (arE p s l)∧Below w.heap.size w w':=by
 obtain ⟨E,hE⟩:∃ E,E = arE p s l:=⟨_,rfl⟩
 rw [← hE];have HE:=hidI hE;have HN2:=hidI hn2;have HL:=hidI hl;have HLL:=hidI hll;have HH:=hidI hh;have HBX:=hidI hbx;clear hE hn2 hl hll hh hbx;go_enter Tryz.func140,Tryz.ntmps140;go_wp2_with fail
 by_cases h4:4 < mb
 ·refine (ax_ 2 [decide ((4:Int) < (mb:Int))] _ _ (by simp) (bk_ w [decide ((4:Int) < (mb:Int))]) (by simp;omega)).mono ?_;rintro e w2 ⟨rfl,rfl⟩;exact ⟨rfl,by rw [HE.out];unfold arE;rw [if_pos (by rw [HLL.out];exact h4)];rfl,(Below.refl _ _).alloc (Nat.le_refl _) _⟩
 refine (aF_ 2 [decide ((4:Int) < (mb:Int))] _ _ (by simp) (bk_ w [decide ((4:Int) < (mb:Int))]) (by simp;omega)).mono ?_;rintro e w2 ⟨rfl,hw2⟩;have k2:Below w.heap.size w w2:=by rw [hw2];exact (Below.refl _ _).alloc (Nat.le_refl _) _
 have K2:=hidI k2;have HE2:Hid (E = if l.all (arrQ p.queues.length) = false then 5 else if l.all (fun a=>am_ (arrI a)) = false then 1 else if 524288 < s.nextSeq then 2 else 0):=by show E = _;rw [HE.out];unfold arE;rw [if_neg (by rw [HLL.out];exact h4)]
 clear hw2 k2;go_wp2_with fail
 go_loopw [15] (fun i wr=>∃ k:Nat,k≤mb∧i = .int .i64 k∧(l.take k).all (arrQ p.queues.length) = true∧Below w.heap.size w wr) (fun i _=>mb - (intOf i).toNat)
 case atStart=>exact ⟨0,Nat.zero_le _,rfl,by simp,K2.out⟩
 case round=>
  obtain ⟨k,hk,rfl,hal,hB⟩:=hrel;have HAL:=hidI hal;have HB:=hidI hB;have hBs:=hB.size;clear hal;by_cases hlt:k < mb
  ·have HLT:=hidI hlt;have hkl:k < l.length:=by rw [HLL.out];exact hlt
   have HKL:=hidI hkl;obtain ⟨g,o,hga,hgl,e0,e1,e2,e3⟩:=bh_.get (HL.out.keep hB) hkl;obtain ⟨x,hx⟩:∃ x,x = l[k]'HKL.out:=⟨_,rfl⟩
   rw [← hx] at e0 e1 e2 e3;have HX:=hidI hx;subst hga;obtain ⟨W4,hW4⟩:∃ W4,W4 = wr.alloc (.cells #[.int .i64 x.queue,.string x.key,.string x.body,.int .i64 x.deaths] 150):=⟨_,rfl⟩
   have k4:Below wr.heap.size wr W4:=by rw [hW4];exact (Below.refl _ _).alloc (Nat.le_refl _) _
   have b4:W4.heap[wr.heap.size]? = some (.cells #[.int .i64 x.queue,.string x.key,.string x.body,.int .i64 x.deaths] 150 (0,0)):=by rw [hW4];exact World.alloc_heap_new wr _
   have HZ4:Hid (W4.heap.size = wr.heap.size+1):=by show W4.heap.size = _;rw [hW4];simp
   have K4:=hidI (hB.trans (k4.mono hBs));have HSS:Hid (∀ W',Below W4.heap.size W4 W'→W'.cell? ⟨wr.heap.size,0,none⟩ = some (.int .i64 x.queue)∧W'.cell? ⟨H,2,none⟩ = some (.slice a2 n2 c2)):=fun W' h=>⟨coc_ (pkp_ b4 h) 0,coc_ (pkp_ HH.out.box (K4.out.trans (h.mono K4.out.size))) 2⟩
   have HW4:=hidI hW4;have j1:(0:Int)≤(k:Int):=by omega
   have j2:(k:Int) < mb:=by omega
   have s4:=K4.out.size;clear hx hW4 k4 b4 hkl;go_upto_region 4 with fail
   rw [← HW4.out];refine wp_region_held_drew (S:=fun W'=>W'.cell? ⟨wr.heap.size,0,none⟩ = some (.int .i64 x.queue)∧W'.cell? ⟨H,2,none⟩ = some (.slice a2 n2 c2)) (by kernel_rfl) (HSS.out _ (Below.refl _ _).drew) (fun hHeld=>?_);refine tk 0 ?_;refine tk 1 ?_;refine tk 2 ?_;refine tk 3 ?_;refine tk 4 ?_;refine tk 5 ?_;refine tk 6 ?_;refine tk 7 ?_;refine tk 8 ?_;refine tk 9 ?_;refine tk 10 ?_;refine tk 11 ?_;refine rdy 12 (fun K hK=>?_);go_simp;refine hK.out _ _ (HSS.out _ (by repeat (first | exact Below.refl _ _ | assumption | refine Below.drew ?_ | refine Below.alloc ?_ (by first | (simp;done) | (simp;omega) | omega) _ | refine Below.setCell ?_ (by first | (simp;done) | (simp;omega) | omega) _))) (fun _=>?_);clear hK K hHeld;try refine nrm ?_
   refine rdy 13 (fun K hK=>?_);go_simp;have hbn:be_ (W4.alloc (Obj.cells #[Value.bool (decide (x.queue < 0)),Value.bool (decide ((n2:Int)≤x.queue))] 4)).drew W4.heap.size 0 [decide (x.queue < 0),decide ((n2:Int)≤x.queue)]:=bk_ W4 [decide (x.queue < 0),decide ((n2:Int)≤x.queue)];have k5:Below W4.heap.size W4 (W4.alloc (Obj.cells #[Value.bool (decide (x.queue < 0)),Value.bool (decide ((n2:Int)≤x.queue))] 4)).drew:=(by repeat (first | exact Below.refl _ _ | assumption | refine Below.drew ?_ | refine Below.alloc ?_ (by first | (simp;done) | (simp;omega) | omega) _ | refine Below.setCell ?_ (by first | (simp;done) | (simp;omega) | omega) _));by_cases hc:0≤x.queue∧x.queue < (n2:Int)
   ·have HOKX:Hid (arrQ p.queues.length (l[k]'HKL.out) = true):=by show arrQ p.queues.length (l[k]'HKL.out) = true;rw [← HX.out,HN2.out];exact aB_.2 hc
    refine (aF_ 5 [decide (x.queue < 0),decide ((n2:Int)≤x.queue)] _ _ (by simp) hbn (by simp;omega)).mono ?_;rintro e w5 ⟨rfl,hw5⟩;have k5':Below W4.heap.size W4 w5:=by rw [hw5];exact k5
    refine hK.out _ _ (HSS.out _ k5') (fun _=>?_);have K5:=hidI (K4.out.trans (k5'.mono s4));clear hK K hw5 hbn k5 k5' hc;try refine nrm ?_
    refine wpAnyH_done (by kernel_rfl) ?_ _;go_wp2_with fail
    go_roundw
    case rel=>exact ⟨k+1,HLT.out,by have:=HLT.out;go_num,eT_ HKL.out HAL.out HOKX.out,K5.out⟩
    case measure=>have:=HLT.out;simp [intOf];omega
   ·have HBAD:Hid (E = 5):=by
     show E = 5;rw [HE2.out,if_pos];refine le_ HKL.out ?_;rw [← HX.out,HN2.out];exact d6_.2 hc
    refine (ax_ 5 [decide (x.queue < 0),decide ((n2:Int)≤x.queue)] _ _ (by simp) hbn (by simp;omega)).mono ?_;rintro e w5 ⟨rfl,rfl⟩;exact ⟨rfl,by rw [HBAD.out];rfl,K4.out.trans (k5.mono s4)⟩
  ·have hke:k = mb:=by omega
   obtain rfl:=hke.symm;have HE3:Hid (E = if l.all (fun a=>am_ (arrI a)) = false then 1 else if 524288 < s.nextSeq then 2 else 0):=by
    show E = _;have:=HAL.out;rw [List.take_of_length_le (by rw [HLL.out];exact Nat.le_refl _)] at this;rw [HE2.out,if_neg (by rw [this];decide)]
   clear hlt hk;go_wp2_with fail
   go_loopw [36] (fun i wr=>∃ k:Nat,k≤mb∧i = .int .i64 k∧(l.take k).all (fun a=>am_ (arrI a)) = true∧Below w.heap.size w wr) (fun i _=>mb - (intOf i).toNat)
   case atStart=>exact ⟨0,Nat.zero_le _,rfl,by simp,HB.out⟩
   case round=>
    clear hB hBs HAL HB;obtain ⟨k,hk,rfl,hal,hB⟩:=hrel;have HAL:=hidI hal;have HB:=hidI hB;have hBs:=hB.size;clear hal;by_cases hlt:k < mb
    ·have HLT:=hidI hlt;have hkl:k < l.length:=by rw [HLL.out];exact hlt
     have HKL:=hidI hkl;obtain ⟨g,o,hga,hgl,e0,e1,e2,e3⟩:=bh_.get (HL.out.keep hB) hkl;obtain ⟨x,hx⟩:∃ x,x = l[k]'HKL.out:=⟨_,rfl⟩
     rw [← hx] at e0 e1 e2 e3;have HX:=hidI hx;subst hga;obtain ⟨W4,hW4⟩:∃ W4,W4 = wr.alloc (.cells #[.int .i64 x.queue,.string x.key,.string x.body,.int .i64 x.deaths] 150):=⟨_,rfl⟩
     have k4:Below wr.heap.size wr W4:=by rw [hW4];exact (Below.refl _ _).alloc (Nat.le_refl _) _
     have b4:W4.heap[wr.heap.size]? = some (.cells #[.int .i64 x.queue,.string x.key,.string x.body,.int .i64 x.deaths] 150 (0,0)):=by rw [hW4];exact World.alloc_heap_new wr _
     have K4:=hidI (hB.trans (k4.mono hBs));have HW4:=hidI hW4;have j1:(0:Int)≤(k:Int):=by omega
     have j2:(k:Int) < mb:=by omega
     have s4:=K4.out.size;have d0:=coc_ b4 0;have d1:=coc_ b4 1;have d2:=coc_ b4 2;have d3:=coc_ b4 3;simp at d0 d1 d2 d3;clear hx hW4 k4 b4 hkl;go_upto_region 9 with fail
     rw [← HW4.out];go_wp2_with fail
     refine (e7_ x.queue x.deaths 0 x.key x.body W4).mono ?_;rintro e w5 ⟨rfl,k5⟩;obtain ⟨W6,hW6⟩:∃ W6,W6 = w5.alloc (.cells #[.int .i64 0,.string x.key,.string x.body,.bool false,.int .i64 x.deaths] 48):=⟨_,rfl⟩
     have k6:Below w5.heap.size w5 W6:=by rw [hW6];exact (Below.refl _ _).alloc (Nat.le_refl _) _
     have HIT:Hid (ai_ W6 (some ⟨w5.heap.size,0,none⟩) [arrI x]):=by
      show ai_ W6 _ _;rw [hW6];exact cc_.2 (gf_ (cs:=[.int .i64 0,.string x.key,.string x.body,.bool false,.int .i64 x.deaths]))
     have K6:=hidI (K4.out.trans ((k5.trans (k6.mono k5.size)).mono s4));have HW6:=hidI hW6;have s6:=K6.out.size;clear hW6 k5 k6 d0 d1 d2 d3 e0 e1 e2 e3;go_wp2_with (rw [← HW6.out])
     refine (bu_ [arrI x] _ _ _ W6 rfl (by unfold maxLen;simp) HIT.out).mono ?_;rintro e w7 ⟨rfl,k7⟩;rw [lK_];have k7':=K6.out.trans (k7.mono s6);have k8:=k7'.alloc k7'.size (.cells #[.int .i64 0] 33);cases hio:am_ (arrI x) with
     | true =>
       rw [if_pos rfl];have HOKX:Hid (am_ (arrI (l[k]'HKL.out)) = true):=by show am_ (arrI (l[k]'HKL.out)) = true;rw [← HX.out];exact hio
       clear hio k7;go_wp2_with (go_at_call 47;refine (dY_ _ _ (aP_ _ _ _) (by simp)).mono ?_;rintro e w9 ⟨rfl,hB9⟩;have k9:=k8.trans (hB9.mono k8.size);have K9:=hidI k9;clear hB9 k9)
       go_roundw
       case rel=>exact ⟨k+1,HLT.out,by have:=HLT.out;go_num,eT_ (P:=fun a=>am_ (arrI a)) HKL.out HAL.out HOKX.out,K9.out⟩
       case measure=>have:=HLT.out;simp [intOf];omega
     | false =>
       rw [if_neg (by decide)];have HBAD:Hid (E = 1):=by
        show E = 1;rw [HE3.out,if_pos];exact le_ (P:=fun a=>am_ (arrI a)) HKL.out (by rw [← HX.out];exact hio)
       clear hio k7;go_wp2_with (go_at_call 47;refine (dw_ 1 _ _ (aP_ _ _ _) (by simp) (by decide)).mono ?_;rintro e w9 ⟨rfl,hB9⟩)
       have k8':=k7'.alloc k7'.size (.cells #[.int .i64 1] 33);exact ⟨rfl,by rw [HBAD.out];rfl,k8'.trans (hB9.mono k8'.size)⟩
    ·have hke:k = mb:=by omega
     obtain rfl:=hke.symm;have HE4:Hid (E = if 524288 < s.nextSeq then 2 else 0):=by
      show E = _;have:=HAL.out;rw [List.take_of_length_le (by rw [HLL.out];exact Nat.le_refl _)] at this;rw [HE3.out,if_neg (by rw [this];decide)]
     obtain ⟨_,_,_,_,_,_,_,_,_,hbt,_⟩:=HBX.out.keep hB;have t3:=coc_ hbt 3;have p0:=coc_ (pkp_ HH.out.box hB) 0;simp at t3 p0;clear hlt hk hbt;go_wp2_with fail
     by_cases hc:524288 < s.nextSeq
     ·refine (ax_ 2 [decide (524288 < s.nextSeq)] _ _ (by simp) (bk_ wr [decide (524288 < s.nextSeq)]) (by simp [hc])).mono ?_;rintro e w5 ⟨rfl,rfl⟩;exact ⟨rfl,by rw [HE4.out,if_pos hc];rfl,HB.out.alloc hBs _⟩
     ·refine (aF_ 2 [decide (524288 < s.nextSeq)] _ _ (by simp) (bk_ wr [decide (524288 < s.nextSeq)]) (by simp;omega)).mono ?_;rintro e w5 ⟨rfl,hw5⟩;have K5:Hid (Below w.heap.size w w5):=by show Below w.heap.size w w5;rw [hw5];exact HB.out.alloc hBs _
      have HE5:Hid (E = 0):=by show E = 0;rw [HE4.out,if_neg hc]
      clear hw5 hc;go_wp2_with fail
      go_end0
      exact ⟨by rw [HE5.out];rfl,K5.out⟩
structure dF_ (p:ad_) (s:ab_) (l:List ArrD) (i:Nat) (xs:List ArrD) (si:ab_):Prop where
 right:ak_ p si 0
 ok:∀ a ∈ xs.drop i,c9_ p a
 fuel:i+phi si (xs.drop i)≤564
 seq:si.nextSeq = s.nextSeq+i
 le:i≤xs.length
 few:xs.length≤4+4 * i
 S:arrS p (600 - i) si (xs.drop i) = arrS p 600 s l
 N:i+arrN p (600 - i) si (xs.drop i) = arrN p 600 s l
theorem dF_.start {p:ad_} {s:ab_} {l:List ArrD} (hR:ak_ p s 0) (h1:l.length≤4) (h2:∀ a ∈ l,c9_ p a):dF_ p s l 0 l s:=
 ⟨hR,by simpa using h2,by have:=l7_ hR h1;simpa using this,by simp,Nat.zero_le _,by omega,by simp,by simp⟩
theorem dF_.step {p:ad_} {s:ab_} {l:List ArrD} {i:Nat} {xs:List ArrD} {si:ab_} (h:dF_ p s l i xs si) (hs:s.nextSeq≤524288) (hi:i < xs.length):c9_ p xs[i]∧si.nextSeq < 1048576∧i < 564∧dF_ p s l (i+1) (xs ++ df_ p si xs[i]) (dC_ p si xs[i]):=by
 have hd:xs.drop i = xs[i] :: xs.drop (i+1):=List.drop_eq_getElem_cons hi;have hf:=h.fuel;have hok:=h.ok;have hS:=h.S;have hN:=h.N;rw [hd] at hf hok hS hN;have ha:=hok _ List.mem_cons_self;have hpos:=l8_ (s:=si) (a:=xs[i]) (l:=xs.drop (i+1));have hsq:si.nextSeq < 1048576:=by rw [h.seq];omega
 have hph:=jY_ (l:=xs.drop (i+1)) h.right ha hsq;obtain ⟨r1,r2⟩:=eM_ h.right ha hsq;have hd2:(xs ++ df_ p si xs[i]).drop (i+1) = xs.drop (i+1) ++ df_ p si xs[i]:=List.drop_append_of_le_length (by omega);have hfu:600 - i = (600 - (i+1))+1:=by omega
 have hq:=h.right.rp.few.2.1;have hfew:=h.few;refine ⟨ha,hsq,by omega,h.right.recv ha hsq,?_,?_,?_,?_,?_,?_,?_⟩
 ·intro b hb;rw [hd2] at hb;rcases List.mem_append.1 hb with hb | hb
  ·exact hok b (List.mem_cons_of_mem _ hb)
  ·exact r1 b hb
 ·rw [hd2];omega
 ·rw [j1_,h.seq];omega
 ·rw [List.length_append];omega
 ·rw [List.length_append];omega
 ·rw [hd2,← hS,hfu];rfl
 ·rw [hd2,← hN,hfu];show i+1 + _ = i+(arrN p (600 - (i+1)) _ _ + 1);omega
theorem dF_.done {p:ad_} {s:ab_} {l:List ArrD} {i:Nat} {xs:List ArrD} {si:ab_} (h:dF_ p s l i xs si) (hi:¬ i < xs.length):si = arrS p 600 s l∧(xs.length:Int) = arrN p 600 s l:=by
 have hd:xs.drop i = []:=List.drop_eq_nil_of_le (by omega);have hS:=h.S;have hN:=h.N;have hle:=h.le;rw [hd] at hS hN;rw [jB_] at hS;rw [jA_] at hN;exact ⟨hS,by omega⟩
theorem hw_ (p:ad_) (a1 a2 a3:Option Addr) (n1 c1 n2 c2 n3 c3:Nat) (s:ab_) (l:List ArrD) (b:Option Addr) (mb cb Bp Bl:Nat) (w:World) (hp:ap_ w a1 a2 a3 n1 n2 n3 p) (x0:w.heap[Bp]? = some (.cells #[.slice a1 n1 c1,.slice a2 n2 c2,.slice a3 n3 c3] 26 (0,0))) (x1:w.heap[Bl]? = some (.cells #[.slice b mb cb] 132 (0,0))) (hl:bh_ w b l) (hll:l.length = mb) (hmb:mb≤maxLen) (hbn:b = none→cb = 0∧mb = 0) (hR:ak_ p s 0) :
 Does 139 #[.pointer (some ⟨Bp,0,none⟩),.pointer (some ⟨Bl,0,none⟩)] w s (arE p s l) (arrN p 600 s l) (arrS p 600 s l):=by
 intro W n t hBW hwt htn hnW hbx;obtain ⟨E,hE⟩:∃ E,E = arE p s l:=⟨_,rfl⟩
 obtain ⟨NN,hNN⟩:∃ NN:Int,NN = arrN p 600 s l:=⟨_,rfl⟩
 rw [← hE,← hNN];have HE:=hidI hE;have HNN:=hidI hNN;have HP:=hidI hp;have HR:=hidI hR;have HBX:=hidI hbx;have HL:=hidI hl;have HLL:=hidI hll;have HBN:=hidI hbn;have HBW:=hidI hBW;have hlp:=lth_ x0;have hlb:=lth_ x1;have hsz:=hBW.size;have X0:=hidI (pkp_ x0 hBW);have X1:=hidI (pkp_ x1 hBW);have hap:(#[Value.pointer (some ⟨t,0,none⟩)] ++ #[Value.pointer (some ⟨Bp,0,none⟩),Value.pointer (some ⟨Bl,0,none⟩)]:Array Value) = #[.pointer (some ⟨t,0,none⟩),.pointer (some ⟨Bp,0,none⟩),.pointer (some ⟨Bl,0,none⟩)]:=rfl;rw [hap];obtain ⟨H,hH⟩:∃ H,H = W.heap.size:=⟨_,rfl⟩
 obtain ⟨W1,hW1⟩:∃ W1,W1 = W.alloc (.cells #[.pointer (some ⟨t,0,none⟩),.slice a1 n1 c1,.slice a2 n2 c2,.slice a3 n3 c3,.slice none 0 0] 168):=⟨_,rfl⟩
 have k1:Below W.heap.size W W1:=by rw [hW1];exact (Below.refl _ _).alloc (Nat.le_refl _) _
 have hh1:Hall W1 (H+1) H t (.slice a1 n1 c1) (.slice a2 n2 c2) (.slice a3 n3 c3) [] none 0 0:=⟨by rw [hW1,hH];exact World.alloc_heap_new W _,World.ownsRow_nil _ _ _ _⟩;have hz1:W1.heap.size = H+1:=by rw [hW1,hH];simp
 have HZ1:=hidI hz1;have HW1:=hidI hW1;have K1:=hidI k1;have HH1:=hidI hh1;have HHH:=hidI hH;obtain ⟨p0,p1,p2⟩:=ag_ X0.out;have y1:=coc_ (pkp_ X1.out k1) 0;simp at y1;clear hE hNN hp x0 x1 hl hll hbn hR hbx hap hBW hW1 k1 hh1 hz1 hH;go_enter Tryz.func139,Tryz.ntmps139;go_upto_region 2 with fail
 rw [← HW1.out,← HHH.out];have HA1:=hidI ((HL.out.keep HBW.out).keep K1.out);have HCK:=hidI (kp_ p s l b mb cb (H+1) H n t n2 c2 (.slice a1 n1 c1) (.slice a3 n3 c3) a2 [] none 0 0 W1 HP.out.l2 HA1.out HLL.out hmb HH1.out (HBX.out.keep K1.out));clear p0 p1 p2;go_wp2_with fail
 refine HCK.out.mono ?_;rintro e w2 ⟨rfl,k2⟩;rw [← HE.out];have hHn:n≤H:=by have:=HHH.out;omega
 have K2:=hidI (K1.out.trans (k2.mono (by have:=HZ1.out;have:=HHH.out;omega)));by_cases hz:E = 0
 rotate_left
 ·rw [cO_ hz];unfold panE;exact ⟨rfl,ac_.of_below K2.out hnW,.inl ⟨hz,rfl⟩⟩
 subst hz;rw [b8_];unfold okE;obtain ⟨q1,q2,q3⟩:=hb_ HE.out.symm;have HQ2:=hidI q2;have HQ3:=hidI q3;have HINV:=hidI (dF_.start HR.out q1 q2);have HH2:=hidI (HH1.out.keep k2);have s2:=k2.size;have hz2:H+1≤w2.heap.size:=by have:=HZ1.out;omega
 have HBX2:=hidI (HBX.out.keep K2.out);have y2:=coc_ (pkp_ X1.out K2.out) 0;simp at y2;have hmb4:mb≤4:=by have:=HLL.out;omega
 have HWT:=hidI (hJ_ (H+1) H t (.slice a1 n1 c1) (.slice a2 n2 c2) (.slice a3 n3 c3) [] l none b 0 0 mb cb w2 HH2.out (Nat.lt_succ_self _) hz2 (HA1.out.keep k2) HLL.out HBN.out (by omega));clear k2 y1 q1 q2 q3;go_wp2_with fail
 refine HWT.out.mono ?_;rintro e w3 ⟨a3',c3',rfl,hh3,hHF3⟩;have HBX3:=hidI (hHF3.stBox HBX2.out ⟨_,HH2.out.box⟩);have F3:Hid (ac_ n t W w3):=(ac_.of_below K2.out hnW).trans ⟨hHF3.os,hHF3.tape,hHF3.output,hHF3.size,fun k h1 h2=>hHF3.low k (by omega) (by omega)⟩;have HS3:Hid (H+1≤w3.heap.size):=by have:=hHF3.size;show H+1≤w3.heap.size;omega
 have HH3:=hidI hh3;unfold okE;clear hh3 hHF3 y2;go_wp2_with fail
 go_loopw [6] (fun i wr=>∃ (k:Nat) (xs:List ArrD) (si:ab_) (ab:Option Addr) (am ac:Nat),i = .int .i64 k∧dF_ p s l k xs si∧Hall wr (H+1) H t (.slice a1 n1 c1) (.slice a2 n2 c2) (.slice a3 n3 c3) xs ab am ac∧StBox wr n t si∧ac_ n t W wr∧H+1≤wr.heap.size) (fun i _=>600 - (intOf i).toNat)
 case atStart=>exact ⟨0,l,s,a3',0+mb,c3',rfl,HINV.out,HH3.out,HBX3.out,F3.out,HS3.out⟩
 case round=>
  obtain ⟨k,xs,si,ab,am,ac,rfl,hinv,hh,hbx,hF,hsz2⟩:=hrel;have HI:=hidI hinv;have HH:=hidI hh;have HBX4:=hidI hbx;have HF:=hidI hF;have hc4:=coc_ hh.box 4;simp at hc4;have HAM:=hidI hh.len;have hfew:=hinv.few;have hkl0:=hinv.le;clear hinv hh hbx hF;by_cases hlt:k < am
  ·have hkl:k < xs.length:=by rw [← HAM.out];exact hlt
   obtain ⟨r1,r2,r3,r4⟩:=HI.out.step HQ3.out hkl;obtain ⟨g,o,hga,hgl,e0,e1,e2,e3⟩:=bh_.get (dx_ HH.out.row) hkl;have HNXT:=hidI r4;obtain ⟨x,hx⟩:∃ x,x = xs[k]'hkl:=⟨_,rfl⟩
   rw [← hx] at e0 e1 e2 e3 r1 HNXT;subst hga;have hdr:si.dropped≤10000000:=by have h1:=HI.out.right.sum;have h2:=HI.out.right.cs;have h3:=HI.out.right.ns;have h4:=HI.out.right.ak;have h5:(0:Int)≤((as_ si).length:Int):=Int.natCast_nonneg _;omega
   have HRC:=hidI (jp_ p a1 a2 a3 n1 c1 n2 c2 n3 c3 si x xs (some ⟨g,o,none⟩) am ac (H+1) H n t w wr HP.out (HBW.out.trans (HF.out.below (by omega) hwt)) hwt htn hHn (Nat.lt_succ_self _) hsz2 HI.out.right r1 r2 hdr HH.out (by omega) HBX4.out);have j1:(0:Int)≤(k:Int):=by omega
   have j2:(k:Int) < am:=by omega
   have hk600:k < 564:=r3;have HLT:=hidI hlt;clear hx r1 r2 r3 r4 hdr;go_wp2_with fail
   refine HRC.out.mono ?_;rintro e w5 ⟨a5,m5,c5,rfl,hh5,hbx5,hF5⟩;have HH5:=hidI hh5;have HBX5:=hidI hbx5;have HF5:=hidI (HF.out.trans ⟨hF5.os,hF5.tape,hF5.output,hF5.size,hF5.block⟩);have s5:=hF5.size;unfold okE;clear hh5 hbx5 hF5 hc4 e0 e1 e2 e3;go_wp2_with fail
   go_roundw
   case rel=>exact ⟨k+1,_,_,a5,m5,c5,by go_num,HNXT.out,HH5.out,HBX5.out,HF5.out,by omega⟩
   case measure=>simp [intOf];omega
  ·have hkl:¬ k < xs.length:=by rw [← HAM.out];exact hlt
   obtain ⟨d1,d2⟩:=HI.out.done hkl;have HD1:=hidI d1;have HD2:Hid ((am:Int) = NN):=by show (am:Int) = NN;rw [HNN.out,HAM.out];exact d2
   clear d1 d2;go_wp2_with fail
   go_ret
   exact ⟨HF.out,by rw [← HD2.out];rfl,by rw [← HD1.out];exact HBX4.out⟩
theorem ks_ (x:aj_) (w:World):Calls Tryz.prog 103 (#[x.val] ++ #[]) w fun e w'=>e = .returned (.bool (decide (x.queue = -1)))∧Below w.heap.size w w':=by
 have h:(#[x.val] ++ #[]:Array Value) = #[.agg #[.int .i64 x.queue,.int .i64 x.most]]:=rfl;rw [h];clear h;obtain ⟨q,m⟩:=x;dsimp only;go_enter Tryz.func103,Tryz.ntmps103;go_wp2_with fail
 go_ret
 exact ⟨aq_ (by by_cases h:q = -1 <;> simp [h]),(Below.refl _ _).alloc (Nat.le_refl _) _⟩
theorem jO_ (ts:List aj_):idxF (fun t:aj_=>decide (t.queue = -1)) ts = if goneIdx ts < ts.length then (goneIdx ts:Int) else -1:=rfl
theorem kt_ (p:ad_) (a1 a2 a3:Option Addr) (n1 c1 n2 c2 n3 c3:Nat) (s:ab_) (q most:Int) (Bp Bq Bm:Nat) (w:World) (hp:ap_ w a1 a2 a3 n1 n2 n3 p) (x0:w.heap[Bp]? = some (.cells #[.slice a1 n1 c1,.slice a2 n2 c2,.slice a3 n3 c3] 26 (0,0))) (x1:w.heap[Bq]? = some (.cells #[.int .i64 q] 3 (0,0))) (x2:w.heap[Bm]? = some (.cells #[.int .i64 most] 3 (0,0))) (hR:ak_ p s 0) :
 Does 101 #[.pointer (some ⟨Bp,0,none⟩),.pointer (some ⟨Bq,0,none⟩),.pointer (some ⟨Bm,0,none⟩)] w s (hs_ n2 s q most) (goneIdx s.takers) (dT_ s q most):=by
 intro W n t hBW hwt htn hnW hbx;obtain ⟨b1,b2,b3,m1,d1,m2,d2,m3,d3,hb,ho⟩:=hbx;obtain ⟨E,hE⟩:∃ E,E = hs_ n2 s q most:=⟨_,rfl⟩
 rw [← hE];have HE:=hidI hE;have HO:=hidI ho;have HB:=hidI hb;have HP:=hidI (hp.keep hBW);have HR:=hidI hR;have X0:=hidI (pkp_ x0 hBW);have X1:=hidI (pkp_ x1 hBW);have X2:=hidI (pkp_ x2 hBW);have hlp:=lth_ x0;have hlq:=lth_ x1;have hlm:=lth_ x2;have hm3:m3≤4:=by rw [← ho.l3];exact hR.tk
 have HM3:Hid (s.takers.length = m3):=ho.l3;have HTK:=hidI (b5_.2 (dx_ ho.r3));have hsz:=hBW.size;have hap:(#[Value.pointer (some ⟨t,0,none⟩)] ++ #[Value.pointer (some ⟨Bp,0,none⟩),Value.pointer (some ⟨Bq,0,none⟩),Value.pointer (some ⟨Bm,0,none⟩)]:Array Value) = #[.pointer (some ⟨t,0,none⟩),.pointer (some ⟨Bp,0,none⟩),.pointer (some ⟨Bq,0,none⟩),.pointer (some ⟨Bm,0,none⟩)]:=rfl;rw [hap];obtain ⟨p0,p1,p2⟩:=ag_ X0.out;have cq:=coc_ X1.out 0;have cm:=coc_ X2.out 0;simp at cq cm;clear hE ho hb hp hR x0 x1 x2 hap hBW;go_enter Tryz.func101,Tryz.ntmps101;go_wp2_with fail
 refine (fo_ p _ _ _ _ _ _ _ _ _ q _ HP.out).mono ?_;rintro e w1 ⟨rfl,k1⟩;have s1:=k1.size;by_cases h1:ar_ q n2 = false
 ·rw [if_pos h1,cO_ (by decide)];unfold panE;have HE5:E = 5:=by rw [HE.out];unfold hs_;rw [if_pos h1]
  exact ⟨rfl,ac_.of_below k1 hnW,.inl ⟨by rw [HE5];decide,by rw [HE5];rfl⟩⟩
 ·rw [if_neg h1,b8_];unfold okE;have HEX:Hid (E = if inR most 1 4 = false then 3 else if goneIdx s.takers = s.takers.length∧4≤s.takers.length then 2 else 0):=by show E = _;rw [HE.out];unfold hs_;rw [if_neg h1]
  have cm1:=(k1.cell (p:=⟨Bm,0,none⟩) (by show Bm < W.heap.size;omega)).trans cm;clear h1 p0 p1 p2 cq cm HE;by_cases h2:inR most 1 4 = false
  ·have h2':most < 1∨4 < most:=by unfold inR at h2;simp at h2;omega
   go_wp2_with fail
   refine (ax_ 3 [decide (most < 1),decide ((4:Int) < most)] _ _ (by simp) (bng_ w1 _ rfl) (by simp;omega)).mono ?_;rintro e w2 ⟨rfl,rfl⟩;have HE3:E = 3:=by rw [HEX.out,if_pos h2]
   exact ⟨rfl,ac_.of_below (k1.alloc s1 _) hnW,.inl ⟨by rw [HE3];decide,by rw [HE3];rfl⟩⟩
  ·have h2':¬ (most < 1∨4 < most):=by unfold inR at h2;simp at h2;omega
   go_wp2_with fail
   refine (aF_ 3 [decide (most < 1),decide ((4:Int) < most)] _ _ (by simp) (bng_ w1 _ rfl) (by simp;omega)).mono ?_;rintro e w2 ⟨rfl,hw2⟩;have HEY:Hid (E = if goneIdx s.takers = s.takers.length∧4≤s.takers.length then 2 else 0):=by show E = _;rw [HEX.out,if_neg h2]
   have k2:Below W.heap.size W w2:=by rw [hw2];exact k1.alloc s1 _
   have s2:=k2.size;have K2:=hidI k2;obtain ⟨y0,y1,y2,y3,y4,y5,y6,y7⟩:=aa_ (pkp_ HB.out k2);have f2:=foc_ (pkp_ HB.out k2) 2;clear h2 h2' hw2 HEX cm1 k1 s1;go_wp2_with fail
   refine (gv_ 103 (fun _ _=>rfl) #[] (fun x=>decide (x.queue = -1)) s.takers b3 m3 d3 w2 HM3.out (by omega) (HTK.out.keep K2.out) (fun x W' _=>ks_ x W')).mono ?_;rintro e w3 ⟨rfl,k3'⟩;have k3:=K2.out.trans (k3'.mono s2);have K3:=hidI k3;have s3:=k3.size;rw [jO_];clear k3' y0 y1 y2 y3 y4 y5 y6 y7 f2 k2;obtain ⟨y0,y1,y2,y3,y4,y5,y6,y7⟩:=aa_ (pkp_ HB.out k3);have f2:=foc_ (pkp_ HB.out k3) 2;by_cases hg:goneIdx s.takers < s.takers.length
   ·rw [if_pos hg];have HE0:Hid (E = 0):=by show E = 0;rw [HEY.out,if_neg (by omega)]
    have HG:=hidI hg;have hr3:=cp2_ HO.out.r3 k3;obtain ⟨g,rfl⟩:∃ g,b3 = some ⟨g,0,none⟩:=by
     rcases hr3.2 with ⟨e,e0⟩ | ⟨g,cap,cur,e,_⟩
     ·exfalso;rw [HM3.out] at hg;omega
     ·cases e;exact ⟨g,rfl⟩
    obtain ⟨k,hk⟩:∃ k,k = goneIdx s.takers:=⟨_,rfl⟩
    rw [← hk] at hg ⊢;have HK:=hidI hk;have hkm:k < m3:=by rw [← HM3.out];exact hg
    have cc0:=hr3.cellAt (k * 2) (by omega);have cc1:=hr3.cellAt (k * 2+1) (by omega);have e0:=bJ_ (f:=aj_.cells) (k:=2) (fun _=>rfl) s.takers k hg 0 (by omega);have e1:=bJ_ (f:=aj_.cells) (k:=2) (fun _=>rfl) s.takers k hg 1 (by omega);rw [show (tkC_ s.takers)[k * 2]? = some (.int .i64 s.takers[k].queue) from e0] at cc0;rw [show (tkC_ s.takers)[k * 2+1]? = some (.int .i64 s.takers[k].most) from e1] at cc1;have ff0:=hr3.frozenAt (k * 2);have ff1:=hr3.frozenAt (k * 2+1);have cq3:=coc_ (pkp_ X1.out k3) 0;have cm3:=coc_ (pkp_ X2.out k3) 0;simp at cq3 cm3;have j0:¬ (k:Int) < 0:=by omega
    have j1:(0:Int)≤(k:Int):=by omega
    have j2:(k:Int) < m3:=by omega
    have HR3:=hidI hr3;have HKL:=hidI hg;clear e0 e1 hr3 hk k3;go_wp2_with fail
    go_region
    go_wp2_with fail
    go_ret
    have ho3:=HO.out.keep K3.out;obtain ⟨h1,h2,h3⟩:=ho3.taker HKL.out ⟨q,most⟩ rfl;have hbt:=(h2.block t _ _ (pkp_ HB.out K3.out) (by decide)).trans (pkp_ HB.out K3.out);refine ⟨(((ac_.of_below K3.out hnW).typeSet h3 _).typeSet h3 _).drew,.inr ⟨HE0.out,by first | rfl | exact au_ (by rw [HK.out]),?_⟩⟩;refine StBox.drew ⟨_,_,_,_,_,_,_,_,_,hbt,?_⟩;have e:dT_ s q most = { s with takers:=s.takers.set k ⟨q,most⟩ }:=by unfold dT_ dU_;rw [if_pos (by rw [← HK.out];exact HKL.out),← HK.out]
    rw [e];exact h1
   ·rw [if_neg hg];have hge:goneIdx s.takers = s.takers.length:=by have:=e3_ s.takers;omega
    have HGE:=hidI hge;have HNG:=hidI hg;by_cases h4:4≤m3
    ·have HE2:E = 2:=by rw [HEY.out,if_pos ⟨hge,by rw [HM3.out];exact h4⟩]
     clear hg hge;go_wp2_with fail
     refine (ax_ 2 [decide ((4:Int)≤(m3:Int))] _ _ (by simp) (bng_ w3 _ rfl) (by simp;omega)).mono ?_;rintro e w4 ⟨rfl,rfl⟩;exact ⟨rfl,ac_.of_below (K3.out.alloc s3 _) hnW,.inl ⟨by rw [HE2];decide,by rw [HE2];rfl⟩⟩
    ·have HE0:Hid (E = 0):=by show E = 0;rw [HEY.out,if_neg (by rw [HM3.out];omega)]
     clear hg hge;go_wp2_with fail
     refine (aF_ 2 [decide ((4:Int)≤(m3:Int))] _ _ (by simp) (bng_ w3 _ rfl) (by simp;omega)).mono ?_;rintro e w4 ⟨rfl,hw4⟩;have k4:Below W.heap.size W w4:=by rw [hw4];exact K3.out.alloc s3 _
     have s4:=k4.size;have K4:=hidI k4;clear hw4 y0 y1 y2 y3 y4 y5 y6 y7 f2 k3;obtain ⟨y0,y1,y2,y3,y4,y5,y6,y7⟩:=aa_ (pkp_ HB.out k4);have f2:=foc_ (pkp_ HB.out k4) 2;have l5:Below w4.heap.size w4 (w4.alloc (.cells #[.int .i64 0,.int .i64 0] 69)):=(Below.refl _ _).alloc (Nat.le_refl _) _;have HO5:=hidI ((HO.out.keep k4).keep l5);have HL5:=hidI l5;have HRW:Hid (aO_ (w4.alloc (.cells #[.int .i64 0,.int .i64 0] 69)) (some ⟨w4.heap.size,0,none⟩) (tkC_ [⟨0,0⟩])):=.inr ⟨_,0,rfl,by simp,fun j u hj=>by
      rw [coc_ (World.alloc_heap_new w4 _),Nat.zero_add];have:(tkC_ [⟨0,0⟩])[j]? = (#[Value.int .i64 0,Value.int .i64 0]:Array Value)[j]?:=by simp [tkC_,aj_.cells]
      rw [← this];exact hj⟩
     clear l5;go_wp2_with (at_builtin;refine a1_ eB_ (by kernel_rfl) _ _ rfl n _ m3 (tkC_ s.takers) rfl HO5.out.r3 (some ⟨w4.heap.size,0,none⟩) 1 1 (tkC_ [⟨0,0⟩]) rfl rfl (fun h=>by cases h) HRW.out (cy_ _) (by unfold maxLen;omega) (by omega) (by simp;omega) ?_;intro v6 w6 hown6 hgrow6 hblk6;obtain ⟨a6,c6,rfl,l6,l6',l6n,r6⟩:=aH_ hown6;have kt6:=av_.grown HO5.out.r3 hgrow6;have hb6:=(kt6.block t _ _ (pkp_ (pkp_ HB.out K4.out) HL5.out) (by decide)).trans (pkp_ (pkp_ HB.out K4.out) HL5.out);clear y0 y1 y2 y3 y4 y5 y6 y7 f2;obtain ⟨y0,y1,y2,y3,y4,y5,y6,y7⟩:=aa_ hb6;have f2:=foc_ hb6 2;have HB6:=hidI hb6;have HO6:=hidI hown6;have KT6:=hidI kt6;have HG6:=hidI hgrow6;clear hb6 l6 l6' l6n r6 kt6 hgrow6 hblk6)
     generalize hW7:w6.setCell ⟨t,2,none⟩ (.slice a6 (m3+1) c6) = W7;have b7:W7.heap[t]? = some (.cells #[.slice b1 m1 d1,.slice b2 m2 d2,.slice a6 (m3+1) c6,.int .i64 s.nextSeq,.int .i64 s.nextTag,.int .i64 s.came,.int .i64 s.acked,.int .i64 s.dropped] 31 (0,0)):=by rw [← hW7];exact scb_ HB6.out (j:=2) _
     have kt7:av_ 31 w6 W7:=by rw [← hW7];exact av_.setCell HB6.out _
     have hf6:ac_ n t W w6:=((ac_.of_below K4.out hnW).trans (ac_.of_below HL5.out (by have:=K4.out.size;omega))).grown HG6.out (by simp;have:=K4.out.size;omega) (fun j hj=>(HO5.out.r3.lt j hj).1);have hf7:ac_ n t W W7:=by rw [← hW7];exact hf6.setCell (.inr rfl) _
     have ho6:aM_ w6 n b1 b2 a6 m1 d1 m2 d2 (m3+1) c6 { s with takers:=s.takers ++ [⟨0,0⟩] }:=HO5.out.takers KT6.out (by rw [dj_];exact HO6.out);have ho7:=ho6.typeT kt7 (by decide);have q7:W7.heap[Bq]? = _:=(hf7.block Bq (by omega) (by omega)).trans X1.out;have mm7:W7.heap[Bm]? = _:=(hf7.block Bm (by omega) (by omega)).trans X2.out;have hr7:=ho7.r3;obtain ⟨g,rfl⟩:∃ g,a6 = some ⟨g,0,none⟩:=by
      rcases hr7.2 with ⟨e,e0⟩ | ⟨g,cap,cur,e,_⟩
      ·omega
      ·cases e;exact ⟨g,rfl⟩
     have hkl:m3 < (s.takers ++ [(⟨0,0⟩:aj_)]).length:=by rw [List.length_append,HM3.out];simp
     have cc0:=hr7.cellAt (m3 * 2) (by omega);have cc1:=hr7.cellAt (m3 * 2+1) (by omega);have e0:=bJ_ (f:=aj_.cells) (k:=2) (fun _=>rfl) (s.takers ++ [(⟨0,0⟩:aj_)]) m3 hkl 0 (by omega);have e1:=bJ_ (f:=aj_.cells) (k:=2) (fun _=>rfl) (s.takers ++ [(⟨0,0⟩:aj_)]) m3 hkl 1 (by omega);rw [show (tkC_ (s.takers ++ [(⟨0,0⟩:aj_)]))[m3 * 2]? = some (.int .i64 (s.takers ++ [(⟨0,0⟩:aj_)])[m3].queue) from e0] at cc0;rw [show (tkC_ (s.takers ++ [(⟨0,0⟩:aj_)]))[m3 * 2+1]? = some (.int .i64 (s.takers ++ [(⟨0,0⟩:aj_)])[m3].most) from e1] at cc1;have ff0:=hr7.frozenAt (m3 * 2);have ff1:=hr7.frozenAt (m3 * 2+1);have cq3:=coc_ q7 0;have cm3:=coc_ mm7 0;simp at cq3 cm3;clear y0 y1 y2 y3 y4 y5 y6 y7 f2;obtain ⟨y0,y1,y2,y3,y4,y5,y6,y7⟩:=aa_ b7;have j1:(0:Int)≤(m3:Int):=by omega
     have j2:(m3:Int) < ((m3+1:Nat):Int):=by omega
     have j3:(m3:Int) < (m3:Int)+1:=by omega
     obtain ⟨u0,hu0⟩:∃ u0,u0 = (s.takers ++ [(⟨0,0⟩:aj_)])[m3].queue:=⟨_,rfl⟩
     obtain ⟨u1,hu1⟩:∃ u1,u1 = (s.takers ++ [(⟨0,0⟩:aj_)])[m3].most:=⟨_,rfl⟩
     rw [← hu0] at cc0;rw [← hu1] at cc1;have HF7:=hidI hf7;have B7:=hidI b7;have HO7:=hidI ho7;have HKL:=hidI hkl;clear hu0 hu1 e0 e1 hr7 hf6 hf7 b7 ho6 ho7 q7 mm7 kt7 hW7 k4;go_region
     go_wp2_with fail
     go_ret
     obtain ⟨h1,h2,h3⟩:=HO7.out.taker HKL.out ⟨q,most⟩ rfl;have hbt:=(h2.block t _ _ B7.out (by decide)).trans B7.out;refine ⟨((HF7.out.typeSet h3 _).typeSet h3 _).drew,.inr ⟨HE0.out,by first | rfl | exact au_ (by rw [HGE.out,HM3.out]),?_⟩⟩;refine StBox.drew ⟨_,_,_,_,_,_,_,_,_,hbt,?_⟩;have e:dT_ s q most = { s with takers:=(s.takers ++ [(⟨0,0⟩:aj_)]).set m3 ⟨q,most⟩ }:=by
      unfold dT_ dU_;rw [if_neg HNG.out];have:(s.takers ++ [(⟨0,0⟩:aj_)]).set m3 ⟨q,most⟩ = s.takers ++ [⟨q,most⟩]:=by
       rw [List.set_append_right _ _ (by rw [HM3.out];exact Nat.le_refl _),HM3.out];simp
      rw [this]
     rw [e];exact h1
def a9_ (E:Int) (N:Int):Int:=if E = 0 then N else 0
theorem ne_ (p:ad_) (a1 a2 a3:Option Addr) (n1 c1 n2 c2 n3 c3:Nat) (s:ab_) (b1 b2 b3:Option Addr) (m1 d1 m2 d2 m3 d3:Nat) (q most:Int) (w:World) (hp:ap_ w a1 a2 a3 n1 n2 n3 p) (hs:an_ w b1 b2 b3 m1 m2 m3 s) (hn2:b2 = none→d2 = 0) (hn3:b3 = none→d3 = 0) :
 Calls Tryz.prog 57 #[.agg #[.slice a1 n1 c1,.slice a2 n2 c2,.slice a3 n3 c3],.agg #[.slice b1 m1 d1,.slice b2 m2 d2,.slice b3 m3 d3,.int .i64 s.nextSeq,.int .i64 s.nextTag,.int .i64 s.came,.int .i64 s.acked,.int .i64 s.dropped],.int .i64 q,.int .i64 most] w fun e w'=>∃ v,e = .returned (.tuple #[v,.int .i64 (a9_ (dn_ p s q most) (goneIdx s.takers)),.int .i64 (dn_ p s q most)])∧bn_ w' w.heap.size v (dn_ p s q most) (dT_ s q most)∧Below w.heap.size w w':=by
 obtain ⟨hz5,hg5,hB5⟩:=aD_ [.cells #[.slice a1 n1 c1,.slice a2 n2 c2,.slice a3 n3 c3] 26,.cells #[.slice b1 m1 d1,.slice b2 m2 d2,.slice b3 m3 d3,.int .i64 s.nextSeq,.int .i64 s.nextTag,.int .i64 s.came,.int .i64 s.acked,.int .i64 s.dropped] 31,.cells #[.int .i64 q] 3,.cells #[.int .i64 most] 3,.cells #[.slice none 0 0,.slice none 0 0,.slice none 0 0,.int .i64 0,.int .i64 0,.int .i64 0,.int .i64 0,.int .i64 0] 31] w;obtain ⟨W5,hW5⟩:∃ W5,W5 = List.foldl World.alloc w [.cells #[.slice a1 n1 c1,.slice a2 n2 c2,.slice a3 n3 c3] 26,.cells #[.slice b1 m1 d1,.slice b2 m2 d2,.slice b3 m3 d3,.int .i64 s.nextSeq,.int .i64 s.nextTag,.int .i64 s.came,.int .i64 s.acked,.int .i64 s.dropped] 31,.cells #[.int .i64 q] 3,.cells #[.int .i64 most] 3,.cells #[.slice none 0 0,.slice none 0 0,.slice none 0 0,.int .i64 0,.int .i64 0,.int .i64 0,.int .i64 0,.int .i64 0] 31]:=⟨_,rfl⟩
 rw [← hW5] at hz5 hg5 hB5;have HW5:Hid (W5 = (((((w.alloc (.cells #[.slice a1 n1 c1,.slice a2 n2 c2,.slice a3 n3 c3] 26)).alloc (.cells #[.slice b1 m1 d1,.slice b2 m2 d2,.slice b3 m3 d3,.int .i64 s.nextSeq,.int .i64 s.nextTag,.int .i64 s.came,.int .i64 s.acked,.int .i64 s.dropped] 31)).alloc (.cells #[.int .i64 q] 3)).alloc (.cells #[.int .i64 most] 3)).alloc (.cells #[.slice none 0 0,.slice none 0 0,.slice none 0 0,.int .i64 0,.int .i64 0,.int .i64 0,.int .i64 0,.int .i64 0] 31))):=hW5;have hz5':W5.heap.size = w.heap.size+5:=by rw [hz5];rfl
 have x0:=hg5 0 _ rfl;have x1:=hg5 1 _ rfl;have x2:=hg5 2 _ rfl;have x3:=hg5 3 _ rfl;have x4:=hg5 4 _ rfl;obtain ⟨E,hE⟩:∃ E,E = dn_ p s q most:=⟨_,rfl⟩
 rw [← hE];obtain ⟨N,hN⟩:∃ N,N = a9_ E (goneIdx s.takers):=⟨_,rfl⟩
 rw [← hN];have hl2:=hp.l2;have T:=eU_ p a1 a2 a3 n1 c1 n2 c2 n3 c3 s b1 b2 b3 m1 d1 m2 d2 m3 d3 101 (fun _ _=>rfl) #[.pointer (some ⟨w.heap.size,0,none⟩),.pointer (some ⟨w.heap.size+2,0,none⟩),.pointer (some ⟨w.heap.size+3,0,none⟩)] E (goneIdx s.takers) (dT_ s q most) W5 (hp.keep hB5) (hs.keep hB5) hn2 hn3
  (fun h=>by rw [hE];unfold dn_;rw [if_pos h])
  (fun h=>by
   have e:E = hs_ n2 s q most:=by rw [hE,← hl2];unfold dn_;rw [if_neg (by simp [h])]
   rw [e];exact kt_ p a1 a2 a3 n1 c1 n2 c2 n3 c3 s q most _ _ _ W5 (hp.keep hB5) x0 x2 x3 (aK_ h))
 rw [show (if E = 0 then ((goneIdx s.takers:Nat):Int) else 0) = N from hN.symm] at T;have HT:=hidI T;have X4:=hidI x4;have HZ5:=hidI hz5';have HB5:=hidI hB5;have hmf:∀ (fn:Fn) (first cap:Array Value) (w:World),(Instr.makeFunc fn first cap).run Tryz.prog w = .ok (.func fn first cap) w:=fun _ _ _ _=>rfl
 clear T hW5 hz5 hz5' hg5 hB5 x0 x1 x2 x3 x4 hE hN hp hs hn2 hn3 hl2;go_enter Tryz.func57,Tryz.ntmps57;go_wp2_with fail
 rw [← HW5.out];refine HT.out.mono ?_;rintro e w6 ⟨v,rfl,hres,hB6⟩;have x6:=pkp_ X4.out hB6;obtain ⟨y0,y1,y2,y3,y4,y5,y6,y7⟩:=aa_ x6;have f0:=foc_ x6 0;have f1:=foc_ x6 1;have f2:=foc_ x6 2;have f3:=foc_ x6 3;have f4:=foc_ x6 4;have f5:=foc_ x6 5;have f6:=foc_ x6 6;have f7:=foc_ x6 7;obtain ⟨x1,x2,x3,k1,e1,k2,e2,k3,e3,i1,i2,i3,i4,i5,rfl⟩:=hres.shape;have X6:=hidI x6;have HRES:=hidI hres;have HB6:=hidI hB6;clear x6 hres hB6;go_wp2_with fail
 generalize hW4:World.setCell (World.setCell (World.setCell (World.setCell (World.setCell (World.setCell (World.setCell (World.setCell w6 _ _) _ _) _ _) _ _) _ _) _ _) _ _) _ _ = W4;obtain ⟨b4,t4⟩:=store8 X6.out hW4;obtain ⟨z0,z1,z2,z3,z4,z5,z6,z7⟩:=aa_ b4;exact bodyPost_ret (v:=.tuple #[.agg #[.slice x1 k1 e1,.slice x2 k2 e2,.slice x3 k3 e3,.int .i64 i1,.int .i64 i2,.int .i64 i3,.int .i64 i4,.int .i64 i5],.int .i64 N,.int .i64 E]) (by simp [results,Tryz.results57,go_sem,z0,z1,z2,z3,z4,z5,z6,z7]) rfl ⟨_,rfl,(HRES.out.turn X6.out t4).lower (by have:=HZ5.out;omega),HB5.out.trans ((HB6.out.mono HB5.out.size).trans (t4.below (by have:=HB6.out.size;have:=HZ5.out;omega) (by omega)))⟩
def letE (p:ad_) (s:ab_) (l:List ArrD):Int:=if stE p s≠0 then stE p s else arE p s l
theorem b0_ (p:ad_) (a1 a2 a3:Option Addr) (n1 c1 n2 c2 n3 c3:Nat) (s:ab_) (b1 b2 b3:Option Addr) (m1 d1 m2 d2 m3 d3:Nat) (l:List ArrD) (b:Option Addr) (mb cb:Nat) (w:World) (hp:ap_ w a1 a2 a3 n1 n2 n3 p) (hs:an_ w b1 b2 b3 m1 m2 m3 s) (hn2:b2 = none→d2 = 0) (hn3:b3 = none→d3 = 0) (hl:bh_ w b l) (hll:l.length = mb) (hmb:mb≤maxLen) (hbn:b = none→cb = 0∧mb = 0) :
 Calls Tryz.prog 99 #[.agg #[.slice a1 n1 c1,.slice a2 n2 c2,.slice a3 n3 c3],.agg #[.slice b1 m1 d1,.slice b2 m2 d2,.slice b3 m3 d3,.int .i64 s.nextSeq,.int .i64 s.nextTag,.int .i64 s.came,.int .i64 s.acked,.int .i64 s.dropped],.slice b mb cb] w fun e w'=>∃ v,e = .returned (.tuple #[v,.int .i64 (a9_ (letE p s l) ((arrN p 600 s l:Nat))),.int .i64 (letE p s l)])∧bn_ w' w.heap.size v (letE p s l) (arrS p 600 s l)∧Below w.heap.size w w':=by
 obtain ⟨hz5,hg5,hB5⟩:=aD_ [.cells #[.slice a1 n1 c1,.slice a2 n2 c2,.slice a3 n3 c3] 26,.cells #[.slice b1 m1 d1,.slice b2 m2 d2,.slice b3 m3 d3,.int .i64 s.nextSeq,.int .i64 s.nextTag,.int .i64 s.came,.int .i64 s.acked,.int .i64 s.dropped] 31,.cells #[.slice b mb cb] 132,.cells #[.slice none 0 0,.slice none 0 0,.slice none 0 0,.int .i64 0,.int .i64 0,.int .i64 0,.int .i64 0,.int .i64 0] 31] w;obtain ⟨W5,hW5⟩:∃ W5,W5 = List.foldl World.alloc w [.cells #[.slice a1 n1 c1,.slice a2 n2 c2,.slice a3 n3 c3] 26,.cells #[.slice b1 m1 d1,.slice b2 m2 d2,.slice b3 m3 d3,.int .i64 s.nextSeq,.int .i64 s.nextTag,.int .i64 s.came,.int .i64 s.acked,.int .i64 s.dropped] 31,.cells #[.slice b mb cb] 132,.cells #[.slice none 0 0,.slice none 0 0,.slice none 0 0,.int .i64 0,.int .i64 0,.int .i64 0,.int .i64 0,.int .i64 0] 31]:=⟨_,rfl⟩
 rw [← hW5] at hz5 hg5 hB5;have HW5:Hid (W5 = ((((w.alloc (.cells #[.slice a1 n1 c1,.slice a2 n2 c2,.slice a3 n3 c3] 26)).alloc (.cells #[.slice b1 m1 d1,.slice b2 m2 d2,.slice b3 m3 d3,.int .i64 s.nextSeq,.int .i64 s.nextTag,.int .i64 s.came,.int .i64 s.acked,.int .i64 s.dropped] 31)).alloc (.cells #[.slice b mb cb] 132)).alloc (.cells #[.slice none 0 0,.slice none 0 0,.slice none 0 0,.int .i64 0,.int .i64 0,.int .i64 0,.int .i64 0,.int .i64 0] 31))):=hW5;have hz5':W5.heap.size = w.heap.size+4:=by rw [hz5];rfl
 have x0:=hg5 0 _ rfl;have x1:=hg5 1 _ rfl;have x2:=hg5 2 _ rfl;have x3:=hg5 3 _ rfl;obtain ⟨E,hE⟩:∃ E,E = letE p s l:=⟨_,rfl⟩
 rw [← hE];obtain ⟨N,hN⟩:∃ N,N = a9_ E ((arrN p 600 s l:Nat)):=⟨_,rfl⟩
 rw [← hN];have T:=eU_ p a1 a2 a3 n1 c1 n2 c2 n3 c3 s b1 b2 b3 m1 d1 m2 d2 m3 d3 139 (fun _ _=>rfl) #[.pointer (some ⟨w.heap.size,0,none⟩),.pointer (some ⟨w.heap.size+2,0,none⟩)] E ((arrN p 600 s l:Nat)) (arrS p 600 s l) W5 (hp.keep hB5) (hs.keep hB5) hn2 hn3
  (fun h=>by rw [hE];unfold letE;rw [if_pos h])
  (fun h=>by
   have e:E = arE p s l:=by rw [hE];unfold letE;rw [if_neg (by simp [h])]
   rw [e];exact hw_ p a1 a2 a3 n1 c1 n2 c2 n3 c3 s l b mb cb _ _ W5 (hp.keep hB5) x0 x2 (hl.keep hB5) hll hmb hbn (aK_ h))
 rw [show (if E = 0 then (((arrN p 600 s l:Nat):Int)) else 0) = N from hN.symm] at T;have HT:=hidI T;have X4:=hidI x3;have HZ5:=hidI hz5';have HB5:=hidI hB5;have hmf:∀ (fn:Fn) (first cap:Array Value) (w:World),(Instr.makeFunc fn first cap).run Tryz.prog w = .ok (.func fn first cap) w:=fun _ _ _ _=>rfl
 clear T hW5 hz5 hz5' hg5 hB5 x0 x1 x2 x3 hE hN hp hs hn2 hn3 hl hll hmb hbn;go_enter Tryz.func99,Tryz.ntmps99;go_wp2_with fail
 rw [← HW5.out];refine HT.out.mono ?_;rintro e w6 ⟨v,rfl,hres,hB6⟩;have x6:=pkp_ X4.out hB6;obtain ⟨y0,y1,y2,y3,y4,y5,y6,y7⟩:=aa_ x6;have f0:=foc_ x6 0;have f1:=foc_ x6 1;have f2:=foc_ x6 2;have f3:=foc_ x6 3;have f4:=foc_ x6 4;have f5:=foc_ x6 5;have f6:=foc_ x6 6;have f7:=foc_ x6 7;obtain ⟨x1,x2,x3,k1,e1,k2,e2,k3,e3,i1,i2,i3,i4,i5,rfl⟩:=hres.shape;have X6:=hidI x6;have HRES:=hidI hres;have HB6:=hidI hB6;clear x6 hres hB6;go_wp2_with fail
 generalize hW4:World.setCell (World.setCell (World.setCell (World.setCell (World.setCell (World.setCell (World.setCell (World.setCell w6 _ _) _ _) _ _) _ _) _ _) _ _) _ _) _ _ = W4;obtain ⟨b4,t4⟩:=store8 X6.out hW4;obtain ⟨z0,z1,z2,z3,z4,z5,z6,z7⟩:=aa_ b4;exact bodyPost_ret (v:=.tuple #[.agg #[.slice x1 k1 e1,.slice x2 k2 e2,.slice x3 k3 e3,.int .i64 i1,.int .i64 i2,.int .i64 i3,.int .i64 i4,.int .i64 i5],.int .i64 N,.int .i64 E]) (by simp [results,Tryz.results99,go_sem,z0,z1,z2,z3,z4,z5,z6,z7]) rfl ⟨_,rfl,(HRES.out.turn X6.out t4).lower (by have:=HZ5.out;omega),HB5.out.trans ((HB6.out.mono HB5.out.size).trans (t4.below (by have:=HB6.out.size;have:=HZ5.out;omega) (by omega)))⟩
end Go.Proofs.YtlbnkpicnokgoaaGreat
