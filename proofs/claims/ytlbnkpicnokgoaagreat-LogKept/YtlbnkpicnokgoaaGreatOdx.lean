import Derived.Deep.QuietTactic
import Derived.BigQuiet
import Derived.Test.YtlbnkpicnokgoaaGreatOcx
import Derived.WalkLawsBesides
import Derived.Maps.AppendAt
import Derived.Defers
import Derived.Recover
namespace Go.Proofs.YtlbnkpicnokgoaaGreat
open Go.RowKit
set_option linter.unusedVariables false
set_option maxRecDepth 100000
set_option maxHeartbeats 4000000
theorem eP_ {s:Int}:∀ {xs:List ae_} {j:Nat},j < idxSeq s xs→∃ h:j < xs.length,xs[j].seq < s
 | [],j,h=>by simp [idxSeq] at h
 | x :: r, j, h => by
   unfold idxSeq at h;by_cases hx:s≤x.seq
   ·rw [if_pos hx] at h;omega
   ·rw [if_neg hx] at h;cases j with
    | zero=>exact ⟨by simp,by simp;omega⟩
    | succ j=>obtain ⟨h1,h2⟩:=eP_ (s:=s) (xs:=r) (j:=j) (by omega);exact ⟨by simp;omega,by simpa using h2⟩
theorem j0_ {s:Int}:∀ {xs:List ae_} (h:idxSeq s xs < xs.length),s≤xs[idxSeq s xs].seq
 | [],h=>by simp at h
 | x :: r, h => by
   by_cases hx:s≤x.seq
   ·have e:idxSeq s (x :: r) = 0:=by unfold idxSeq;rw [if_pos hx]
    simp [e,hx]
   ·have e : idxSeq s (x :: r) = idxSeq s r + 1 := by conv => lhs; unfold idxSeq
                                                      rw [if_neg hx]
    have h':idxSeq s r < r.length:=by rw [e] at h;simpa using h
    have:=j0_ h';simpa [e] using this
def cn_ (xs:List ae_) (x:ae_) (k:Nat):List ae_:=if idxSeq x.seq xs < k then (ay_ xs x).take (k+1) else xs.take k
theorem iB_ (xs:List ae_) (x:ae_):(ay_ xs x).length = xs.length+1:=by
 have:=dY_ x.seq xs;unfold ay_;simp;omega
theorem iA_ {xs:List ae_} {x:ae_} {k:Nat} (h:idxSeq x.seq xs≤k) (hk:k < xs.length):(ay_ xs x)[k+1]? = some xs[k]:=by
 have h1:=dY_ x.seq xs;unfold ay_;rw [List.getElem?_append_right (by simp;omega),List.getElem?_drop];have e:idxSeq x.seq xs+(k+1 - (List.take (idxSeq x.seq xs) xs ++ [x]).length) = k:=by simp;omega
 rw [e,List.getElem?_eq_getElem hk]
theorem k0_ (xs:List ae_) (x:ae_):cn_ xs x 0 = []:=by unfold cn_;simp
theorem jr_ {xs:List ae_} {x:ae_} {k:Nat} (hk:k < xs.length) (h:idxSeq x.seq xs≠k):cn_ xs x (k+1) = cn_ xs x k ++ [xs[k]]:=by
 unfold cn_;by_cases h1:idxSeq x.seq xs < k
 ·rw [if_pos h1,if_pos (by omega),List.take_add_one,iA_ (by omega) hk];rfl
 ·rw [if_neg h1,if_neg (by omega),List.take_succ_eq_append_getElem hk]
theorem kZ_ {xs:List ae_} {x:ae_} {k:Nat} (hk:k < xs.length) (h:idxSeq x.seq xs = k):cn_ xs x (k+1) = cn_ xs x k ++ [x] ++ [xs[k]]:=by
 unfold cn_;rw [if_pos (show idxSeq x.seq xs < k+1 by omega),if_neg (show ¬ idxSeq x.seq xs < k by omega),List.take_add_one,iA_ (by omega) hk];have e:(ay_ xs x).take (k+1) = xs.take k ++ [x]:=by
  unfold ay_;rw [h,List.take_append_of_le_length (by simp;omega),List.take_of_length_le (by simp;omega)]
 rw [e];rfl
theorem mj_ {xs:List ae_} {x:ae_} {k:Nat} (hk:k≤xs.length):(cn_ xs x k).length≤xs.length+1:=by
 unfold cn_;split
 ·rw [List.length_take,iB_];omega
 ·rw [List.length_take];omega
theorem mh_ {xs:List ae_} {x:ae_} (h:idxSeq x.seq xs < xs.length):cn_ xs x xs.length = ay_ xs x:=by
 unfold cn_;rw [if_pos h,List.take_of_length_le (by rw [iB_];omega)]
theorem mi_ {xs:List ae_} {x:ae_} (h:¬ idxSeq x.seq xs < xs.length):ay_ xs x = cn_ xs x xs.length ++ [x]:=by
 have:=dY_ x.seq xs;have e:idxSeq x.seq xs = xs.length:=by omega
 unfold cn_;rw [if_neg h];unfold ay_;rw [e];simp
theorem cW_ {b n:Nat} {W w':World} (h:Below b W w'):Below b W (w'.drewN n):=⟨h.os,h.tape,h.output,h.size,h.block⟩
theorem dR_ {W1 wq w3:World} {o:Obj} {v:Value} {T:TypeId} {m:Nat} {xs:List Value} (hB:Below W1.heap.size W1 wq) (hrow:wq.ownsRow W1.heap.size T 5 v m xs) (hg:(wq.alloc o).grownBy w3 v.ownBlock):Below W1.heap.size W1 w3:=
 (hB.alloc hB.size o).grown hg (by have:=hB.size;simp;omega) (ch_ hrow)
theorem iH_ (xs:List ae_) (a:Option Addr) (n c:Nat) (s d:Int) (ky b:ByteArray) (ag:Bool) (w:World) (hn:xs.length = n) (hf:n≤1048576) (hp:ai_ w a xs) (hh:bM_ s xs = false) :
 Calls Tryz.prog 121 #[.slice a n c,.agg #[.int .i64 s,.string ky,.string b,.bool ag,.int .i64 d]] w fun e w'=>∃ v m,e = .returned v∧w'.ownsRow w.heap.size 48 5 v m (al_ (ay_ xs ⟨s,ky,b,ag,d⟩))∧Below w.heap.size w w':=by
 obtain ⟨W1,hW1,hBw,hs1,hbx⟩:=c6_ w (.int .i64 s) (.string ky) (.string b) (.bool ag) (.int .i64 d) 48;have HW1:Hid (W1 = _):=hW1;have BX:Hid (∀ W,Below W1.heap.size W1 W→_):=hbx;have HP:Hid (ai_ W1 a xs):=hp.keep hBw;have HN:Hid (xs.length = n):=hn;have HH:Hid (bM_ s xs = false):=hh;obtain ⟨x,hx⟩:∃ x:ae_,x = ⟨s,ky,b,ag,d⟩:=⟨_,rfl⟩
 have HX:Hid (x = ⟨s,ky,b,ag,d⟩):=hx;have HQ:Hid (x.seq = s):=by show x.seq = s;rw [hx]
 rw [← hx];clear hW1 hbx hp hn hh hx;have hBs1:=hBw.size;go_enter Tryz.func121,Tryz.ntmps121;go_wp2_with fail
 rw [← HW1.out];go_loopw [5,6,7] (fun l dn i wr=>∃ (k m:Nat),k≤n∧i = .int .i64 k∧dn = .bool (decide (idxSeq s xs < k))∧wr.ownsRow W1.heap.size 48 5 l m (al_ (cn_ xs x k))∧Below W1.heap.size W1 wr) (fun _ _ i _=>n - (intOf i).toNat)
 case atStart=>exact ⟨0,0,Nat.zero_le _,rfl,by simp,by rw [k0_];exact World.ownsRow_nil _ _ _ _,Below.refl _ _⟩
 case round=>
  obtain ⟨k,m,hk,rfl,rfl,hrow,hB⟩:=hrel;have hBs:=hB.size;have hml:m = (cn_ xs x k).length:=(iy_ hrow).1;have hmk:m≤n+1:=by rw [hml,← HN.out];exact mj_ (by rw [HN.out];exact hk)
  obtain ⟨d0,d1,d2,d3,d4⟩:=BX.out wr hB;clear hml;by_cases hlt:k < n
  ·have hkl:k < xs.length:=by rw [HN.out];exact hlt
   obtain ⟨g,o,rfl,hg,hx⟩:=HP.out.cells (by omega);obtain ⟨y,hyy⟩:∃ y,y = xs[k]:=⟨_,rfl⟩
   have hc:=(hx k hkl).keep hB hg;rw [← hyy] at hc;have HY:Hid (y = xs[k]):=hyy;have HC:Hid (aS_ W1 g (o+k * 5) y):=by show aS_ W1 g (o+k * 5) y;rw [hyy];exact hx k hkl
   clear hx hyy;obtain ⟨s',ky',b',ag',d'⟩:=y;obtain ⟨c0,c1,c2,c3,c4⟩:=hc;dsimp only at c0 c1 c2 c3 c4;have j1:(0:Int)≤(k:Int):=by omega
   have j2:(k:Int) < n:=by omega
   have hgw:g < wr.heap.size:=by omega
   by_cases hd:idxSeq s xs = k
   ·have hq:s < s':=by
     have h1:=j0_ (s:=s) (xs:=xs) (by rw [hd];exact hkl);have h2:s≤s':=by simp only [hd] at h1;rw [← HY.out] at h1;exact h1
     have h3:¬ s' = s:=by
      intro e;have:=HH.out;unfold bM_ at this;rw [hd,List.getElem?_eq_getElem hkl,← HY.out] at this;simp [e] at this
     omega
    have HF:Hid (cn_ xs x (k+1) = cn_ xs x k ++ [x] ++ [⟨s',ky',b',ag',d'⟩]):=by
     show cn_ xs x (k+1) = _;rw [kZ_ hkl (by rw [HQ.out];exact hd),← HY.out]
    have hdd:decide (idxSeq s xs < k) = false:=by simp;omega
    have HD1:Hid (decide (idxSeq s xs < k+1) = true):=by show decide _ = true;simp;omega
    rw [hdd];clear hdd hd;go_wp2_with fail
    go_quiet (fail)
    obtain ⟨wq,hwq⟩:∃ wq,wq = wr.drewN nq:=⟨_,rfl⟩
    have hBq:Below W1.heap.size W1 wq:=by rw [hwq];exact cW_ hB
    have hrq:wq.ownsRow W1.heap.size 48 5 u5 m (al_ (cn_ xs x k)):=by rw [hwq];exact hrow
    rw [← hwq];clear hwq hrow d0 d1 d2 d3 d4 hB;obtain ⟨d0,d1,d2,d3,d4⟩:=BX.out wq hBq;have hBqs:=hBq.size;go_wp2_with (first
     | (at_builtin;refine bo_ rfl _ _ rfl W1.heap.size _ _ _ rfl (hrq.alloc _) (some ⟨wq.heap.size,0,none⟩) 1 1 [x] rfl rfl (fun e=>by cases e) (by rw [HX.out];exact ai_.single (World.alloc_heap_new _ _)) (by omega) (by simp;omega) ?_;intro v' w3 hown3 hgrow3;have hB3:=dR_ hBq hrq hgrow3;have hB3s:=hB3.size;clear d0 d1 d2 d3 d4;obtain ⟨e0,e1,e2,e3,e4⟩:=HC.out.keep hB3 hg)
     | (at_builtin;refine bo_ rfl _ _ rfl W1.heap.size _ _ _ rfl (hown3.alloc _) (some ⟨w3.heap.size,0,none⟩) 1 1 [⟨s',ky',b',ag',d'⟩] rfl rfl (fun e=>by cases e) (ai_.single (World.alloc_heap_new _ _)) (by omega) (by simp;omega) ?_;intro v4 w4 hown4 hgrow4))
    have hB4:=dR_ hB3 hown3 hgrow4;go_roundw
    case rel=>exact ⟨k+1,_,by omega,by go_num,by rw [HD1.out],by rw [HF.out];exact hown4,hB4⟩
    case measure=>simp [intOf];omega
   ·have HF:Hid (cn_ xs x (k+1) = cn_ xs x k ++ [⟨s',ky',b',ag',d'⟩]):=by
     show cn_ xs x (k+1) = _;rw [jr_ hkl (by rw [HQ.out];exact hd),← HY.out]
    have hdn:(decide (idxSeq s xs < k) = true∧decide (idxSeq s xs < k+1) = true)∨(decide (idxSeq s xs < k) = false∧decide (idxSeq s xs < k+1) = false∧s' < s):=by
     rcases Nat.lt_or_ge (idxSeq s xs) k with h | h
     ·left;simp;omega
     ·right
      obtain ⟨_,h2⟩:=eP_ (s:=s) (xs:=xs) (j:=k) (by omega);rw [← HY.out] at h2;refine ⟨by simp;omega,by simp;omega,h2⟩
    clear hd;rcases hdn with ⟨h1,h2⟩ | ⟨h1,h2,h3⟩
    all_goals
     rw [h1];have HD1:Hid (decide (idxSeq s xs < k+1) = _):=h2;clear h1 h2
    ·go_wp2_with fail
     go_quiet (fail)
     obtain ⟨wq,hwq⟩:∃ wq,wq = wr.drewN nq:=⟨_,rfl⟩
     have hBq:Below W1.heap.size W1 wq:=by rw [hwq];exact cW_ hB
     have hrq:wq.ownsRow W1.heap.size 48 5 u5 m (al_ (cn_ xs x k)):=by rw [hwq];exact hrow
     rw [← hwq];clear hwq hrow d0 d1 d2 d3 d4 hB c0 c1 c2 c3 c4;have hBqs:=hBq.size;obtain ⟨e0,e1,e2,e3,e4⟩:=HC.out.keep hBq hg;go_wp2_with (at_builtin;refine bo_ rfl _ _ rfl W1.heap.size _ _ _ rfl (hrq.alloc _) (some ⟨wq.heap.size,0,none⟩) 1 1 [⟨s',ky',b',ag',d'⟩] rfl rfl (fun e=>by cases e) (ai_.single (World.alloc_heap_new _ _)) (by omega) (by simp;omega) ?_;intro v4 w4 hown4 hgrow4)
     have hB4:=dR_ hBq hrq hgrow4;go_roundw
     case rel=>exact ⟨k+1,_,by omega,by go_num,by rw [HD1.out],by rw [HF.out];exact hown4,hB4⟩
     case measure=>simp [intOf];omega
    ·have h4:decide (s < s') = false:=by simp;omega
     clear h3;go_wp2_with fail
     go_quiet (fail)
     obtain ⟨wq,hwq⟩:∃ wq,wq = wr.drewN nq:=⟨_,rfl⟩
     have hBq:Below W1.heap.size W1 wq:=by rw [hwq];exact cW_ hB
     have hrq:wq.ownsRow W1.heap.size 48 5 u5 m (al_ (cn_ xs x k)):=by rw [hwq];exact hrow
     rw [← hwq];clear hwq hrow d0 d1 d2 d3 d4 hB c0 c1 c2 c3 c4;have hBqs:=hBq.size;obtain ⟨e0,e1,e2,e3,e4⟩:=HC.out.keep hBq hg;go_wp2_with (at_builtin;refine bo_ rfl _ _ rfl W1.heap.size _ _ _ rfl (hrq.alloc _) (some ⟨wq.heap.size,0,none⟩) 1 1 [⟨s',ky',b',ag',d'⟩] rfl rfl (fun e=>by cases e) (ai_.single (World.alloc_heap_new _ _)) (by omega) (by simp;omega) ?_;intro v4 w4 hown4 hgrow4)
     have hB4:=dR_ hBq hrq hgrow4;go_roundw
     case rel=>exact ⟨k+1,_,by omega,by go_num,by rw [HD1.out],by rw [HF.out];exact hown4,hB4⟩
     case measure=>simp [intOf];omega
  ·have hkn:k = xs.length:=by rw [HN.out];omega
   by_cases hd:idxSeq s xs < k
   ·have HF:Hid (cn_ xs x k = ay_ xs x):=by show cn_ xs x k = _;rw [hkn];exact mh_ (by rw [HQ.out,← hkn];exact hd)
    have hdd:decide (idxSeq s xs < k) = true:=by simpa using hd
    rw [hdd];clear hdd hd hkn;go_wp2_with fail
    go_ret
    exact ⟨_,m,rfl,by rw [← HF.out];exact bn_ hrow (by omega),hBw.trans (hB.mono hBs1)⟩
   ·have HF:Hid (ay_ xs x = cn_ xs x k ++ [x]):=by show ay_ xs x = _;rw [hkn];exact mi_ (by rw [HQ.out,← hkn];exact hd)
    have hdd:decide (idxSeq s xs < k) = false:=by simpa using hd
    rw [hdd];clear hdd hd hkn;go_wp2_with (at_builtin;refine bo_ rfl _ _ rfl W1.heap.size _ _ _ rfl (hrow.alloc _) (some ⟨wr.heap.size,0,none⟩) 1 1 [x] rfl rfl (fun e=>by cases e) (by rw [HX.out];exact ai_.single (World.alloc_heap_new _ _)) (by omega) (by simp;omega) ?_;intro v4 w4 hown4 hgrow4)
    have hB4:=dR_ hB hrow hgrow4;go_ret
    exact ⟨_,_,rfl,by rw [HF.out];exact bn_ hown4 (by omega),hBw.trans (hB4.mono hBs1)⟩
theorem dv_:∀ {xs:List ae_} {last:Int},aK_ last xs = true→xs.Pairwise (fun x y=>x.seq < y.seq)∧∀ x ∈ xs,last < x.seq
 | [],last,_=>⟨List.Pairwise.nil,by simp⟩
 | x :: r, last, h => by
   unfold aK_ at h;simp only [Bool.and_eq_true,decide_eq_true_eq] at h;obtain ⟨⟨h1,h2⟩,h3⟩:=h;obtain ⟨h4,h5⟩:=dv_ h3;refine ⟨List.pairwise_cons.2 ⟨h5,h4⟩,?_⟩;intro y hy;rcases List.mem_cons.1 hy with rfl | hy
   ·exact h2
   ·have:=h5 y hy;omega
theorem gb_ {xs:List ae_} (h:at_ xs = true) {i j:Nat} (hj:j < xs.length) (hij:i < j):(xs[i]'(by omega)).seq < xs[j].seq:=
 List.pairwise_iff_getElem.1 (dv_ h).1 i j (by omega) hj hij
theorem lB_ {xs:List ae_} (hl:at_ xs = true) {k:Nat} {s:Int} (hk:k < xs.length) (h:xs[k].seq = s):bM_ s xs = true:=by
 have h1:idxSeq s xs≤k:=by
  rcases Nat.lt_or_ge k (idxSeq s xs) with h1 | h1
  ·obtain ⟨_,h2⟩:=eP_ h1;omega
  ·exact h1
 have h2:=j0_ (s:=s) (xs:=xs) (by omega);have h3:idxSeq s xs = k:=by
  rcases Nat.lt_or_ge (idxSeq s xs) k with h3 | h3
  ·have:=gb_ hl hk h3;omega
  ·omega
 unfold bM_;rw [h3,List.getElem?_eq_getElem hk];simp [h]
def ep_ (xs:List ae_) (limit:Int):Int:=if at_ xs = true then (if limit < 0 then 3 else 0) else 1
def gH_ (n:Nat) (limit:Int):Nat:=((n:Int) - limit).toNat
def mH_ (xs:List ae_) (limit:Int):List ae_:=if ep_ xs limit = 0 then xs.drop (gH_ xs.length limit) else []
def hP_ (xs:List ae_) (limit:Int):List ae_:=if ep_ xs limit = 0 then xs.take (gH_ xs.length limit) else []
theorem nD_ {n:Nat} {limit:Int} (h:0≤limit):gH_ n limit≤n:=by unfold gH_;omega
theorem cp2_ {w1 w2:World} {base:Nat} {v:Value} {n:Nat} {xs:List Value} {e:TypeId} {size:Nat} (h:w1.ownsRow base e size v n xs) (hB:Below w1.heap.size w1 w2):w2.ownsRow base e size v n xs:=by
 refine ⟨h.1,?_⟩;rcases h.2 with h | ⟨g,cap,cur,h1,h2,h3,h4⟩
 ·exact .inl h
 ·exact .inr ⟨g,cap,cur,h1,h2,(hB.block g (Array.getElem?_eq_some_iff.1 h3).1).trans h3,h4⟩
theorem ot_ (xs:List ae_) (a:Option Addr) (n c i:Nat) (limit:Int) (w:World) (hn:xs.length = n) (hnc:n≤c) (hcm:c≤maxLen) (hz:a = none→c = 0) (hp:ai_ w a xs) (hl:at_ xs = true) (h0:0≤limit) (h1:limit≤9223372036854775807) (hi:i = gH_ n limit) :
 Calls Tryz.prog 149 #[.slice a n c,.int .i64 limit] w fun e w'=>∃ v u,e = .returned (.tuple #[v,u,.int .i64 0])∧w'.ownsRow w.heap.size 48 5 v (n - i) (al_ (xs.drop i))∧w'.ownsRow w.heap.size 48 5 u i (al_ (xs.take i))∧Below w.heap.size w w':=by
 have hf:=ed_ hl;rw [hn] at hf;have HL:Hid (bx_ xs = 0):=by show bx_ xs = 0;unfold bx_;rw [if_pos hl]
 have HP:Hid (ai_ w a xs):=hp;have HN:Hid (xs.length = n):=hn;have HM:Hid (n≤maxLen):=Nat.le_trans hnc hcm;have hin:i≤n:=by rw [hi];exact nD_ h0
 have HI:Hid (max ((n:Int) - limit) 0 = i):=by show max ((n:Int) - limit) 0 = i;rw [hi];unfold gH_;omega
 have HZ:Hid (a = none→c = 0):=hz;have q0:¬ limit < 0:=by omega
 have qw:IntKind.i64.wrap ((n:Int) - limit) = (n:Int) - limit:=by rw [IntKind.wrap_i64];omega
 clear hp hl hn hi hz;go_enter Tryz.func149,Tryz.ntmps149;go_wp2_with fail
 refine (bu_ xs _ _ _ _ HN.out HM.out HP.out).mono ?_;rintro e w2 ⟨rfl,hB2⟩;rw [HL.out];go_wp2_with fail
 rw [HI.out];have q1:(0:Int)≤(i:Int):=by omega
 have q2:(i:Int)≤(n:Int):=by omega
 have q3:(i:Int)≤(c:Int):=by omega
 have q4:(n:Int)≤(c:Int):=by omega
 refine wp_region_held_drew (S:=fun w'=>True) (by kernel_rfl) trivial (fun hHeld=>?_);refine tk 0 ?_;refine tk 1 ?_;refine tk 2 ?_;refine tk 4 ?_;refine tk 5 ?_;refine tk 6 ?_;refine rdy 3 (fun K hK=>?_);go_simp;have hB2s:=hB2.size;have hp2:ai_ w2 a xs:=HP.out.keep hB2;have ha0:a = none→xs = []:=fun e=>List.length_eq_zero_iff.1 (by have:=HZ.out e;have:=HN.out;omega)
 refine (gL_ (xs.drop i) _ (n - i) (c - i) w2.drew (by rw [List.length_drop,HN.out]) (by omega) (fun e=>?_) (hp2.drop i c (by rw [HN.out];exact hnc))).mono ?_
 ·have e2:a = none:=by
   split at e
   ·exact e
   ·simpa using e
  exact ⟨by have:=HZ.out e2;omega,by rw [ha0 e2];simp⟩
 rintro e w3 ⟨v,rfl,hown3,hB3'⟩;have hB3:Below w2.heap.size w2 w3:=bud_ hB3';have hown3b:w3.ownsRow w2.heap.size 48 5 v (n - i) (al_ (xs.drop i)):=hown3;refine hK.out _ _ trivial (fun hHeld2=>?_);clear hHeld hK K hown3 hB3';try simp only [Act.put,List.getElem_toArray,List.getElem_cons_succ,List.getElem_cons_zero,List.setIfInBounds_toArray,List.set_cons_zero,List.set_cons_succ]
 refine rdy 7 (fun K hK=>?_);go_simp;have hB3s:=hB3.size;refine (gL_ (xs.take i) _ i c w3 (by rw [List.length_take,HN.out];omega) (by omega) (fun e=>⟨HZ.out e,by rw [ha0 e];simp⟩) ((hp2.keep hB3).take i)).mono ?_;rintro e w4 ⟨u,rfl,hown4,hB4⟩;refine hK.out _ _ trivial (fun hHeld3=>?_);clear hHeld2 hK K;try simp only [Act.put,List.getElem_toArray,List.getElem_cons_succ,List.getElem_cons_zero,List.setIfInBounds_toArray,List.set_cons_zero,List.set_cons_succ]
 refine tk 8 ?_;refine tk 9 ?_;refine tk 10 ?_;refine wpAnyH_done (by kernel_rfl) ?_ _;go_wp2_with fail
 all_goals
  exact bodyPost_ret (v:=.tuple #[v,u,.int .i64 0]) (by simp [results,Tryz.results149,go_sem]) rfl ⟨v,u,rfl,bn_ (cp2_ hown3b hB4) (by omega),bn_ hown4 (by omega),hB2.trans ((hB3.trans (hB4.mono hB3s)).mono hB2s)⟩
theorem nF_ (xs:List ae_) (a:Option Addr) (n c:Nat) (limit:Int) (w:World) (hn:xs.length = n) (hm:n≤maxLen) (hp:ai_ w a xs) (he:ep_ xs limit≠0) :
 Calls Tryz.prog 149 #[.slice a n c,.int .i64 limit] w fun e w'=>e = .returned (.tuple #[.slice none 0 0,.slice none 0 0,.int .i64 (ep_ xs limit)])∧Below w.heap.size w w':=by
 have HP:Hid (ai_ w a xs):=hp;have HN:Hid (xs.length = n):=hn;have HM:Hid (n≤maxLen):=hm;cases hl:at_ xs with
 | false =>
   have e1:ep_ xs limit = 1:=by unfold ep_;rw [hl];rfl
   have HL:Hid (bx_ xs = 1):=by show bx_ xs = 1;unfold bx_;rw [hl];rfl
   rw [e1];clear hp hn hm he hl e1;go_enter Tryz.func149,Tryz.ntmps149;go_wp2_with fail
   refine (bu_ xs _ _ _ _ HN.out HM.out HP.out).mono ?_;rintro e w2 ⟨rfl,hB2⟩;rw [HL.out];go_wp2_with fail
   exact bodyPost_ret (v:=.tuple #[.slice none 0 0,.slice none 0 0,.int .i64 1]) (by simp [results,Tryz.results149,go_sem]) rfl ⟨rfl,hB2⟩
 | true =>
   have h0:limit < 0:=by
    rcases Int.lt_or_le limit 0 with h | h
    ·exact h
    ·exfalso;apply he;unfold ep_;rw [if_pos hl,if_neg (by omega)]
   have e1:ep_ xs limit = 3:=by unfold ep_;rw [if_pos hl,if_pos h0]
   have HL:Hid (bx_ xs = 0):=by show bx_ xs = 0;unfold bx_;rw [if_pos hl]
   rw [e1];clear hp hn hm he hl e1;go_enter Tryz.func149,Tryz.ntmps149;go_wp2_with fail
   refine (bu_ xs _ _ _ _ HN.out HM.out HP.out).mono ?_;rintro e w2 ⟨rfl,hB2⟩;rw [HL.out];go_wp2_with fail
   exact bodyPost_ret (v:=.tuple #[.slice none 0 0,.slice none 0 0,.int .i64 3]) (by simp [results,Tryz.results149,go_sem]) rfl ⟨rfl,hB2⟩
theorem nE_ (xs:List ae_) (a:Option Addr) (n c:Nat) (limit:Int) (w:World) (hn:xs.length = n) (hnc:n≤c) (hcm:c≤maxLen) (hz:a = none→c = 0) (hp:ai_ w a xs) (h1:limit≤9223372036854775807) :
 Calls Tryz.prog 149 #[.slice a n c,.int .i64 limit] w fun e w'=>∃ v u m1 m2,e = .returned (.tuple #[v,u,.int .i64 (ep_ xs limit)])∧w'.ownsRow w.heap.size 48 5 v m1 (al_ (mH_ xs limit))∧w'.ownsRow w.heap.size 48 5 u m2 (al_ (hP_ xs limit))∧Below w.heap.size w w':=by
 by_cases he:ep_ xs limit = 0
 ·have hl:at_ xs = true:=by
   cases hl:at_ xs with
   | true=>rfl
   | false=>unfold ep_ at he;rw [hl] at he;simp at he
  have h0:0≤limit:=by
   rcases Int.lt_or_le limit 0 with h | h
   ·unfold ep_ at he;rw [if_pos hl,if_pos h] at he;cases he
   ·exact h
  refine (ot_ xs a n c _ limit w hn hnc hcm hz hp hl h0 h1 rfl).mono ?_;rintro e w' ⟨v,u,rfl,o1,o2,hB⟩;exact ⟨v,u,_,_,by rw [he],by unfold mH_;rw [if_pos he,hn];exact o1,by unfold hP_;rw [if_pos he,hn];exact o2,hB⟩
 ·refine (nF_ xs a n c limit w hn (Nat.le_trans hnc hcm) hp he).mono ?_;rintro e w' ⟨rfl,hB⟩;exact ⟨_,_,0,0,rfl,by unfold mH_;rw [if_neg he];exact World.ownsRow_nil _ _ _ _,by unfold hP_;rw [if_neg he];exact World.ownsRow_nil _ _ _ _,hB⟩
def cg_:ad_:={
 posts:=[⟨⟨#[109,97,105,110]⟩,3⟩,⟨⟨#[97,108,108]⟩,2⟩,⟨⟨#[100,101,97,100]⟩,1⟩]
 queues:=[⟨⟨#[97]⟩,2,2⟩,⟨⟨#[98]⟩,3,-1⟩,⟨⟨#[100]⟩,2,-1⟩]
 binds:=[⟨0,false,0,⟨#[120,46,35]⟩⟩,⟨0,true,1,⟨#[42,46,121]⟩⟩,⟨1,false,1,⟨#[35]⟩⟩,⟨1,true,0,⟨#[35]⟩⟩,⟨2,false,2,⟨#[120,46,121]⟩⟩] }
def oJ_:Array Value:=#[.string ⟨#[109,97,105,110]⟩,.int .i64 3,.string ⟨#[97,108,108]⟩,.int .i64 2,.string ⟨#[100,101,97,100]⟩,.int .i64 1]
def oh_:Array Value:=#[.string ⟨#[97]⟩,.int .i64 2,.int .i64 2,.string ⟨#[98]⟩,.int .i64 3,.int .i64 (-1),.string ⟨#[100]⟩,.int .i64 2,.int .i64 (-1)]
def iv_:Array Value:=#[.int .i64 0,.bool false,.int .i64 0,.string ⟨#[120,46,35]⟩,.int .i64 0,.bool true,.int .i64 1,.string ⟨#[42,46,121]⟩,.int .i64 1,.bool false,.int .i64 1,.string ⟨#[35]⟩,.int .i64 1,.bool true,.int .i64 0,.string ⟨#[35]⟩,.int .i64 2,.bool false,.int .i64 2,.string ⟨#[120,46,121]⟩]
theorem lC_ (w:World) (A B C D:Obj):((((w.alloc A).alloc B).alloc C).alloc D).heap.size = w.heap.size+4∧((((w.alloc A).alloc B).alloc C).alloc D).heap[w.heap.size+1]? = some B∧((((w.alloc A).alloc B).alloc C).alloc D).heap[w.heap.size+1+1]? = some C∧((((w.alloc A).alloc B).alloc C).alloc D).heap[w.heap.size+1+1+1]? = some D:=by
 have hB:=World.alloc_heap_new (w.alloc A) B;have hC:=World.alloc_heap_new ((w.alloc A).alloc B) C;have hD:=World.alloc_heap_new (((w.alloc A).alloc B).alloc C) D;simp only [World.size_alloc] at hB hC hD;refine ⟨by simp only [World.size_alloc],?_,?_,hD⟩
 ·rw [Below.heap_alloc _ _ _ (by simp only [World.size_alloc];omega),Below.heap_alloc _ _ _ (by simp only [World.size_alloc];omega)];exact hB
 ·rw [Below.heap_alloc _ _ _ (by simp only [World.size_alloc];omega)];exact hC
theorem coc_ {W:World} {b:Nat} {cs:Array Value} {t:TypeId} (h:W.heap[b]? = some (.cells cs t (0,0))) (i:Nat):W.cell? ⟨b,i,none⟩ = cs[i]?:=by
 unfold World.cell?;simp only;rw [h];simp
theorem foc_ {W:World} {b:Nat} {cs:Array Value} {t:TypeId} (h:W.heap[b]? = some (.cells cs t (0,0))) (i:Nat):W.frozen? ⟨b,i,none⟩ = false:=by
 simp [World.frozen?,h]
theorem lth_ {W:World} {b:Nat} {o:Obj} (h:W.heap[b]? = some o):b < W.heap.size:=(Array.getElem?_eq_some_iff.1 h).1
theorem no_ {W:World} {b:Nat} {cs:Array Value} {t:TypeId} (h:W.heap[b]? = some (.cells cs t (0,0))) (xs:List bX_)
 (hc:∀ i (hi:i < xs.length),cs[i * 2]? = some (.string xs[i].name)∧cs[i * 2+1]? = some (.int .i64 xs[i].kind)):bH_ W (some ⟨b,0,none⟩) xs:=
 .inr ⟨b,0,rfl,lth_ h,fun i hi=>by simp only [Nat.zero_add,coc_ h];exact hc i hi⟩
theorem js_ {W:World} {b:Nat} {cs:Array Value} {t:TypeId} (h:W.heap[b]? = some (.cells cs t (0,0))) (xs:List bd_)
 (hc:∀ i (hi:i < xs.length),cs[i * 3]? = some (.string xs[i].name)∧cs[i * 3+1]? = some (.int .i64 xs[i].limit)∧cs[i * 3+2]? = some (.int .i64 xs[i].dead)):a9_ W (some ⟨b,0,none⟩) xs:=
 .inr ⟨b,0,rfl,lth_ h,fun i hi=>by simp only [Nat.zero_add,coc_ h];exact hc i hi⟩
theorem mZ_ {W:World} {b:Nat} {cs:Array Value} {t:TypeId} (h:W.heap[b]? = some (.cells cs t (0,0))) (xs:List dF_)
 (hc:∀ i (hi:i < xs.length),cs[i * 4]? = some (.int .i64 xs[i].src)∧cs[i * 4+1]? = some (.bool xs[i].toPost)∧cs[i * 4+2]? = some (.int .i64 xs[i].dst)∧cs[i * 4+3]? = some (.string xs[i].pat)):bG_ W (some ⟨b,0,none⟩) xs:=
 .inr ⟨b,0,rfl,lth_ h,fun i hi=>by simp only [Nat.zero_add,coc_ h];exact hc i hi⟩
theorem kX_ (w:World):Calls Tryz.prog 42 #[] w fun e w'=>e = .returned (.agg #[.slice (some ⟨w.heap.size+1,0,none⟩) 3 3,.slice (some ⟨w.heap.size+1+1,0,none⟩) 3 3,.slice (some ⟨w.heap.size+1+1+1,0,none⟩) 5 5]) ∧
 Below w.heap.size w w'∧w'.heap.size = w.heap.size+4∧w'.heap[w.heap.size+1]? = some (.cells oJ_ 95 (0,0))∧w'.heap[w.heap.size+1+1]? = some (.cells oh_ 80 (0,0))∧w'.heap[w.heap.size+1+1+1]? = some (.cells iv_ 100 (0,0)):=by
 go_enter Tryz.func42,Tryz.ntmps42;go_wp2_with fail
 exact bodyPost_ret (v:=.agg #[.slice (some ⟨w.heap.size+1,0,none⟩) 3 3,.slice (some ⟨w.heap.size+1+1,0,none⟩) 3 3,.slice (some ⟨w.heap.size+1+1+1,0,none⟩) 5 5]) (by simp [results,Tryz.results42,go_sem]) rfl ⟨rfl,(by repeat (first | exact Below.refl _ _ | assumption | refine Below.drew ?_ | refine Below.alloc ?_ (by first | (simp;done) | (simp;omega) | omega) _ | refine Below.setCell ?_ (by first | (simp;done) | (simp;omega) | omega) _)),lC_ w _ _ _ _⟩
theorem jy_ {p:ad_} (h:((p.posts.map bX_.name).all (fun x=>decide (x.size≤100)) && (p.queues.map bd_.name).all (fun x=>decide (x.size≤100))) = true):Sized p:=by
 rw [Bool.and_eq_true,List.all_eq_true,List.all_eq_true] at h;unfold Sized maxLen;exact ⟨fun x hx=>by have:=h.1 x hx;simp at this;omega,fun x hx=>by have:=h.2 x hx;simp at this;omega⟩
theorem posts3 {cs:Array Value} {x y z:bX_} (h:cs = #[.string x.name,.int .i64 x.kind,.string y.name,.int .i64 y.kind,.string z.name,.int .i64 z.kind]):∀ i (hi:i < [x,y,z].length),cs[i * 2]? = some (.string [x,y,z][i].name)∧cs[i * 2+1]? = some (.int .i64 [x,y,z][i].kind):=by
 subst h;intro i hi;match i,hi with
 | 0,_=>exact ⟨rfl,rfl⟩
 | 1,_=>exact ⟨rfl,rfl⟩
 | 2,_=>exact ⟨rfl,rfl⟩
theorem queues3 {cs:Array Value} {x y z:bd_} (h:cs = #[.string x.name,.int .i64 x.limit,.int .i64 x.dead,.string y.name,.int .i64 y.limit,.int .i64 y.dead,.string z.name,.int .i64 z.limit,.int .i64 z.dead]):∀ i (hi:i < [x,y,z].length),cs[i * 3]? = some (.string [x,y,z][i].name)∧cs[i * 3+1]? = some (.int .i64 [x,y,z][i].limit)∧cs[i * 3+2]? = some (.int .i64 [x,y,z][i].dead):=by
 subst h;intro i hi;match i,hi with
 | 0,_=>exact ⟨rfl,rfl,rfl⟩
 | 1,_=>exact ⟨rfl,rfl,rfl⟩
 | 2,_=>exact ⟨rfl,rfl,rfl⟩
theorem binds5:∀ i (hi:i < cg_.binds.length),iv_[i * 4]? = some (.int .i64 cg_.binds[i].src)∧iv_[i * 4+1]? = some (.bool cg_.binds[i].toPost)∧iv_[i * 4+2]? = some (.int .i64 cg_.binds[i].dst)∧iv_[i * 4+3]? = some (.string cg_.binds[i].pat):=by
 intro i hi;match i,hi with
 | 0,_=>exact ⟨rfl,rfl,rfl,rfl⟩
 | 1,_=>exact ⟨rfl,rfl,rfl,rfl⟩
 | 2,_=>exact ⟨rfl,rfl,rfl,rfl⟩
 | 3,_=>exact ⟨rfl,rfl,rfl,rfl⟩
 | 4,_=>exact ⟨rfl,rfl,rfl,rfl⟩
theorem g2_ (w:World):Calls Tryz.prog 42 #[] w fun e w'=>e = .returned (.agg #[.slice (some ⟨w.heap.size+1,0,none⟩) 3 3,.slice (some ⟨w.heap.size+1+1,0,none⟩) 3 3,.slice (some ⟨w.heap.size+1+1+1,0,none⟩) 5 5]) ∧
 Below w.heap.size w w'∧ao_ w' (some ⟨w.heap.size+1,0,none⟩) (some ⟨w.heap.size+1+1,0,none⟩) (some ⟨w.heap.size+1+1+1,0,none⟩) 3 3 5 cg_:=by
 refine (kX_ w).mono ?_;rintro e w' ⟨rfl,hB,hs,h1,h2,h3⟩;exact ⟨rfl,hB,⟨rfl,rfl,rfl,jy_ (by decide +kernel),no_ h1 _ (posts3 rfl),js_ h2 _ (queues3 rfl),mZ_ h3 _ binds5⟩⟩
theorem scb_ {W:World} {b j:Nat} {cs:Array Value} {t:TypeId} (h:W.heap[b]? = some (.cells cs t (0,0))) (u:Value):(W.setCell ⟨b,j,none⟩ u).heap[b]? = some (.cells (cs.setIfInBounds j u) t (0,0)):=heap_setCell_same W b j cs t u h
def panE (d:Int):Ending:=.panicked [{ v:=.iface 33 (.int .i64 d),recovered:=false }]
def okE:Ending:=.returned (.tuple #[])
def askE (d:Int):Ending:=if d = 0 then okE else panE d
theorem b9_:askE 0 = okE:=rfl
theorem cS_ {d:Int} (h:d≠0):askE d = panE d:=if_neg h
theorem bl_ (w:World) (bs:List Bool):bg_ (w.alloc (.cells (bs.map Value.bool).toArray 4)) w.heap.size 0 bs:=by
 intro i hi;have h:=World.alloc_heap_new w (.cells (bs.map Value.bool).toArray 4);rw [coc_ h];simp [hi]
theorem gT_ (bs:List Bool) (g n c:Nat) (w:World) (hn:bs.length = n) (hm:n≤100) (h:bg_ w g 0 bs) :
 Calls Tryz.prog 127 #[.slice (some ⟨g,0,none⟩) n c,.bool true] w fun e w'=>∃ i:Int,e = .returned (.int .i64 i)∧(0≤i↔true ∈ bs)∧w' = w:=by
 have HN:Hid (bs.length = n):=hn;have H:Hid (bg_ w g 0 bs):=h;clear hn h;go_enter Tryz.func127,Tryz.ntmps127;go_wp2_with fail
 go_loopw [5,8] (fun _ i wr=>∃ (k:Nat),k≤n∧i = .int .i64 k∧(true ∉ bs.take k)∧wr = w) (fun _ i _=>n - (intOf i).toNat)
 case atStart=>exact ⟨0,Nat.zero_le _,rfl,by simp,rfl⟩
 case round=>
  obtain ⟨k,hk,rfl,hno,rfl⟩:=hrel;have HNO:Hid (true ∉ bs.take k):=hno;clear hno;by_cases hlt:k < n
  ·have hkl:k < bs.length:=by rw [HN.out];exact hlt
   have d1:=H.out k hkl;rw [Nat.zero_add] at d1;have HKM:Hid (bs[k] ∈ bs):=List.getElem_mem hkl;have HTK:Hid (bs.take (k+1) = bs.take k ++ [bs[k]]):=List.take_succ_eq_append_getElem hkl;obtain ⟨y,hy⟩:∃ y,y = bs[k]:=⟨_,rfl⟩
   rw [← hy] at d1 HKM HTK;have j1:(0:Int)≤(k:Int):=by omega
   have j2:(k:Int) < n:=by omega
   clear hy;cases y with
   | true =>
     go_wp2_with fail
     go_ret
     exact ⟨k,rfl,⟨fun _=>HKM.out,fun _=>by omega⟩,rfl⟩
   | false =>
     go_wp2_with fail
     go_roundw
     case rel=>exact ⟨k+1,by omega,by go_num,by rw [HTK.out,List.mem_append,List.mem_singleton];exact fun h=>h.elim HNO.out (fun e=>nomatch e),by first | trivial | rfl⟩
     case measure=>simp [intOf];omega
  ·have hke:k = n:=by omega
   subst hke;clear hlt hk;go_wp2_with fail
   go_ret
   refine ⟨-1,rfl,⟨fun h=>by omega,fun h=>?_⟩,rfl⟩;have:=HNO.out;rw [← HN.out,List.take_length] at this;exact absurd h this
theorem ax_ (d:Int) (bs:List Bool) (g:Nat) (w:World) (hm:bs.length≤100) (h:bg_ w g 0 bs) (hb:true ∈ bs) :
 Calls Tryz.prog 30 #[.int .i64 d,.slice (some ⟨g,0,none⟩) bs.length bs.length] w fun e w'=>e = .panicked [{ v:=.iface 33 (.int .i64 d),recovered:=false }]∧w' = w:=by
 obtain ⟨n,hn⟩:∃ n,n = bs.length:=⟨_,rfl⟩
 rw [← hn] at hm ⊢;have HN:Hid (n = bs.length):=hn;have H:Hid (bg_ w g 0 bs):=h;have HB:Hid (true ∈ bs):=hb;clear hn h hb;go_enter Tryz.func30,Tryz.ntmps30;go_wp2_with (first | (go_at_call 127;refine (gT_ bs g _ _ _ HN.out.symm hm H.out).mono ?_;rintro e w2 ⟨i,rfl,hi,rfl⟩;have hi0:(0:Int)≤i:=hi.2 HB.out;clear hi) | go_in)
 first
  | exact ⟨rfl,rfl,rfl⟩
  | (go_end0;exact ⟨rfl,rfl⟩)
theorem aG_ (d:Int) (bs:List Bool) (g:Nat) (w:World) (hm:bs.length≤100) (h:bg_ w g 0 bs) (hb:true ∉ bs) :
 Calls Tryz.prog 30 #[.int .i64 d,.slice (some ⟨g,0,none⟩) bs.length bs.length] w fun e w'=>e = .returned (.tuple #[])∧w' = w:=by
 obtain ⟨n,hn⟩:∃ n,n = bs.length:=⟨_,rfl⟩
 rw [← hn] at hm ⊢;have HN:Hid (n = bs.length):=hn;have H:Hid (bg_ w g 0 bs):=h;have HB:Hid (true ∉ bs):=hb;clear hn h hb;go_enter Tryz.func30,Tryz.ntmps30;go_wp2_with (first | (go_at_call 127;refine (gT_ bs g _ _ _ HN.out.symm hm H.out).mono ?_;rintro e w2 ⟨i,rfl,hi,rfl⟩;have hi0:¬ (0:Int)≤i:=fun h=>HB.out (hi.1 h);clear hi) | go_in)
 first
  | exact ⟨rfl,rfl,rfl⟩
  | (go_end0;exact ⟨rfl,rfl⟩)
theorem dB_ (d:Int) (g:Nat) (w:World) (hc:w.cell? ⟨g,0,none⟩ = some (.int .i64 d)) (hg:g < w.heap.size) (hd:d≠0) :
 Calls Tryz.prog 47 #[.slice (some ⟨g,0,none⟩) 1 1] w fun e w'=>e = .panicked [{ v:=.iface 33 (.int .i64 d),recovered:=false }]∧Below w.heap.size w w':=by
 have hd':(d != 0) = true:=bne_iff_ne.2 hd;go_enter Tryz.func47,Tryz.ntmps47;go_wp2_with fail
 go_loopw [3,6] (fun _ i wr=>i = .int .i64 0∧wr = w) (fun _ _ _=>0)
 case atStart=>exact ⟨rfl,rfl⟩
 case round=>
  obtain ⟨rfl,rfl⟩:=hrel;go_wp2_with (go_at_call 30;refine (ax_ d [true] _ _ (by simp) (bl_ _ [true]) (by simp)).mono ?_;rintro e w2 ⟨rfl,rfl⟩)
  exact ⟨rfl,rfl,(Below.refl _ _).alloc (Nat.le_refl _) _⟩
theorem d5_ (g:Nat) (w:World) (hc:w.cell? ⟨g,0,none⟩ = some (.int .i64 0)) (hg:g < w.heap.size) :
 Calls Tryz.prog 47 #[.slice (some ⟨g,0,none⟩) 1 1] w fun e w'=>e = .returned (.tuple #[])∧Below w.heap.size w w':=by
 go_enter Tryz.func47,Tryz.ntmps47;go_wp2_with fail
 go_loopw [3,6] (fun _ i wr=>∃ k:Nat,k≤1∧i = .int .i64 k∧Below w.heap.size w wr) (fun _ i _=>1 - (intOf i).toNat)
 case atStart=>exact ⟨0,by omega,rfl,Below.refl _ _⟩
 case round=>
  obtain ⟨k,hk,rfl,hB⟩:=hrel;have hB':=hB.size;by_cases hlt:k < 1
  ·have hk0:k = 0:=by omega
   subst hk0;have hc':=(hB.cell (p:=⟨g,0,none⟩) hg).trans hc;go_wp2_with (go_at_call 30;refine (aG_ 0 [false] _ _ (by simp) (bl_ _ [false]) (by simp)).mono ?_;rintro e w2 ⟨rfl,rfl⟩)
   go_roundw
   case rel=>exact ⟨1,by omega,rfl,hB.alloc hB' _⟩
   case measure=>simp [intOf]
  ·have hk1:k = 1:=by omega
   subst hk1;go_wp2_with fail
   go_end0
   exact ⟨rfl,hB⟩
structure OutD where
 tag:Int
 taker:Int
 queue:Int
 item:ae_
structure ak_ where
 queue:Int
 most:Int
structure ab_ where
 ready:List (List ae_)
 outs:List OutD
 takers:List ak_
 nextSeq:Int
 nextTag:Int
 came:Int
 acked:Int
 dropped:Int
structure d9_ (W:World) (g o:Nat) (xs:List ae_) (b:Option Addr) (c:Nat):Prop where
 cell:W.cell? ⟨g,o,none⟩ = some (.slice b xs.length c)
 le:xs.length≤c
 cm:c≤maxLen
 nil:b = none→c = 0
 it:ai_ W b xs
def bW_ (W:World) (a:Option Addr) (xss:List (List ae_)):Prop:=xss = []∨∃ g o,a = some ⟨g,o,none⟩∧g < W.heap.size∧∀ i (h:i < xss.length),∃ b c,d9_ W g (o+i) xss[i] b c
def eH_ (W:World) (a:Option Addr) (xs:List OutD):Prop:=xs = []∨∃ g o,a = some ⟨g,o,none⟩∧g < W.heap.size∧∀ i (h:i < xs.length),W.cell? ⟨g,o+i * 8,none⟩ = some (.int .i64 xs[i].tag)∧W.cell? ⟨g,o+i * 8+1,none⟩ = some (.int .i64 xs[i].taker)∧W.cell? ⟨g,o+i * 8+2,none⟩ = some (.int .i64 xs[i].queue)∧aS_ W g (o+i * 8+3) xs[i].item
def cQ_ (W:World) (a:Option Addr) (xs:List ak_):Prop:=xs = []∨∃ g o,a = some ⟨g,o,none⟩∧g < W.heap.size∧∀ i (h:i < xs.length),W.cell? ⟨g,o+i * 2,none⟩ = some (.int .i64 xs[i].queue)∧W.cell? ⟨g,o+i * 2+1,none⟩ = some (.int .i64 xs[i].most)
theorem d9_.keep {W W':World} {g o:Nat} {xs:List ae_} {b:Option Addr} {c:Nat} (h:d9_ W g o xs b c) (hg:g < W.heap.size) (hB:Below W.heap.size W W'):d9_ W' g o xs b c:=
 ⟨(hB.cell (p:=⟨g,o,none⟩) hg).trans h.cell,h.le,h.cm,h.nil,h.it.keep hB⟩
theorem bW_.keep {W W':World} {a:Option Addr} {xss:List (List ae_)} (h:bW_ W a xss) (hB:Below W.heap.size W W'):bW_ W' a xss:=by
 rcases h with h | ⟨g,o,ha,hg,h⟩
 ·exact .inl h
 ·exact .inr ⟨g,o,ha,Nat.lt_of_lt_of_le hg hB.size,fun i hi=>by obtain ⟨b,c,hl⟩:=h i hi;exact ⟨b,c,hl.keep hg hB⟩⟩
theorem eH_.keep {W W':World} {a:Option Addr} {xs:List OutD} (h:eH_ W a xs) (hB:Below W.heap.size W W'):eH_ W' a xs:=by
 rcases h with h | ⟨g,o,ha,hg,h⟩
 ·exact .inl h
 ·exact .inr ⟨g,o,ha,Nat.lt_of_lt_of_le hg hB.size,fun i hi=>⟨(hB.cell (p:=⟨g,_,none⟩) hg).trans (h i hi).1,(hB.cell (p:=⟨g,_,none⟩) hg).trans (h i hi).2.1,(hB.cell (p:=⟨g,_,none⟩) hg).trans (h i hi).2.2.1,(h i hi).2.2.2.keep hB hg⟩⟩
theorem cQ_.keep {W W':World} {a:Option Addr} {xs:List ak_} (h:cQ_ W a xs) (hB:Below W.heap.size W W'):cQ_ W' a xs:=by
 rcases h with h | ⟨g,o,ha,hg,h⟩
 ·exact .inl h
 ·exact .inr ⟨g,o,ha,Nat.lt_of_lt_of_le hg hB.size,fun i hi=>⟨(hB.cell (p:=⟨g,_,none⟩) hg).trans (h i hi).1,(hB.cell (p:=⟨g,_,none⟩) hg).trans (h i hi).2⟩⟩
structure an_ (W:World) (b1 b2 b3:Option Addr) (m1 m2 m3:Nat) (s:ab_):Prop where
 l1:s.ready.length = m1
 l2:s.outs.length = m2
 l3:s.takers.length = m3
 x1:m1≤maxLen
 x2:m2 * 80≤140737488351232
 x3:m3≤maxLen
 q1:bW_ W b1 s.ready
 q2:eH_ W b2 s.outs
 q3:cQ_ W b3 s.takers
theorem an_.keep {W W':World} {b1 b2 b3:Option Addr} {m1 m2 m3:Nat} {s:ab_} (h:an_ W b1 b2 b3 m1 m2 m3 s) (hB:Below W.heap.size W W'):an_ W' b1 b2 b3 m1 m2 m3 s:=
 ⟨h.l1,h.l2,h.l3,h.x1,h.x2,h.x3,h.q1.keep hB,h.q2.keep hB,h.q3.keep hB⟩
def aI_ (nq:Nat) (t:ak_):Bool:=(decide (t.queue = -1) || as_ t.queue nq) && decide (1≤t.most∧t.most≤4)
def a0_ (nq:Nat) (xss:List (List ae_)):Bool:=decide (xss.length = nq) && xss.all at_
def cL_ (ts:List ak_) (nt last:Int) (o:OutD):Bool:=
 decide (last < o.tag) && decide (o.tag < nt) && as_ o.taker ts.length && (match ts[o.taker.toNat]? with | none=>false | some t=>decide (t.queue≠-1) && decide (t.queue = o.queue)) && am_ o.item
def ap_ (ts:List ak_) (nt:Int):Int→List OutD→Bool
 | _,[]=>true
 | last,o :: r=>cL_ ts nt last o && ap_ ts nt o.tag r
def a3_ (n:Int):Bool:=decide (0≤n∧n≤1048576)
def bh_ (s:ab_):Bool:=a3_ s.nextSeq && a3_ s.nextTag && a3_ s.came && a3_ s.acked && a3_ s.dropped
def ar_ (s:ab_):List Int:=(s.ready.flatMap (fun l=>l.map ae_.seq)) ++ s.outs.map (fun o=>o.item.seq)
def ck_ (s:ab_):Bool:=decide (ar_ s).Nodup && (ar_ s).all (fun n=>decide (n < s.nextSeq))
def heldN (s:ab_) (t:Int):Nat:=(s.outs.filter (fun o=>decide (o.taker = t))).length
def dI_ (p:ad_) (s:ab_):Bool:=(List.range s.ready.length).all (fun q=>decide (((s.ready.getD q []).length:Int)≤(p.queues.getD q ⟨⟨#[]⟩,0,0⟩).limit))
def dJ_ (s:ab_):Bool:=(List.range s.takers.length).all (fun k=>decide ((heldN s k:Int)≤(s.takers.getD k ⟨0,0⟩).most))
def cl_ (s:ab_):Bool:=decide (s.came = (ar_ s).length+s.acked+s.dropped) && decide (s.came = s.nextSeq)
def bs_ (p:ad_) (s:ab_):Bool:=a0_ p.queues.length s.ready && s.takers.all (aI_ p.queues.length) && ap_ s.takers s.nextTag (-1) s.outs && bh_ s && ck_ s
def stE (p:ad_) (s:ab_):Int:=
 if chkP p≠0 then chkP p else if 4 < s.takers.length then 2 else if bs_ p s = false then 1 else if (dI_ p s && dJ_ s) = false then 3 else if cl_ s = false then 10 else 0
def aJ_ (W:World) (a:Option Addr) (cs:List Value):Prop:=cs = []∨∃ g o,a = some ⟨g,o,none⟩∧g < W.heap.size∧∀ j u,cs[j]? = some u→W.cell? ⟨g,o+j,none⟩ = some u
theorem aJ_.keep {W W':World} {a:Option Addr} {cs:List Value} (h:aJ_ W a cs) (hB:Below W.heap.size W W'):aJ_ W' a cs:=by
 rcases h with h | ⟨g,o,ha,hg,h⟩
 ·exact .inl h
 ·exact .inr ⟨g,o,ha,Nat.lt_of_lt_of_le hg hB.size,fun j u hj=>(hB.cell (p:=⟨g,o+j,none⟩) hg).trans (h j u hj)⟩
theorem aJ_.news {W:World} {ad:Addr} {cs:List Value} (h:aJ_ W (some ad) cs):∀ j u,cs[j]? = some u→W.cell? (ad.add j) = some u:=by
 intro j u hj;rcases h with rfl | ⟨g,o,ha,_,h⟩
 ·simp at hj
 ·cases ha;rw [cR_];exact h j u hj
theorem aD_ {W:World} {base:Nat} {T:TypeId} {size:Nat} {v:Value} {n:Nat} {cs:List Value} (h:W.ownsRow base T size v n cs) :
 ∃ a c,v = .slice a n c∧n≤c∧c≤maxLen∧(a = none→c = 0∧n = 0)∧aJ_ W a cs:=by
 rcases h.2 with ⟨rfl,h0⟩ | ⟨g,cap,cur,rfl,hb,hg,h1,h2,_⟩
 ·have hx:cs = []:=List.length_eq_zero_iff.1 (by have:=h.1;rw [h0] at this;simpa using this);exact ⟨none,0,by rw [h0],by omega,by unfold maxLen;omega,fun _=>⟨rfl,h0⟩,.inl hx⟩
 ·refine ⟨_,cap,rfl,h1,h2,(fun h=>by cases h),.inr ⟨g,0,rfl,(Array.getElem?_eq_some_iff.1 hg).1,fun j u hj=>?_⟩⟩;have:=h.cells (g:=g) rfl _ _ hj;rw [cR_] at this;exact this
theorem bL_ {α:Type} {f:α→List Value} {k:Nat} (hf:∀ x,(f x).length = k) (xs:List α):(xs.flatMap f).length = xs.length * k:=by
 induction xs with
 | nil=>simp
 | cons x r ih=>rw [List.flatMap_cons,List.length_append,hf,ih,List.length_cons,Nat.add_mul];omega
theorem bI_ {α:Type} {f:α→List Value} {k:Nat} (hf:∀ x,(f x).length = k):∀ (xs:List α) (i:Nat) (h:i < xs.length) (j:Nat),j < k→(xs.flatMap f)[i * k+j]? = (f xs[i])[j]?
 | x :: r, 0, _, j, hj => by
   rw [List.flatMap_cons,List.getElem?_append_left (by rw [hf];omega)];simp
 | x :: r, i + 1, h, j, hj => by
   have e:(i+1) * k+j = k+(i * k+j):=by rw [Nat.add_mul];omega
   rw [List.flatMap_cons,e,List.getElem?_append_right (by rw [hf];omega),hf,Nat.add_sub_cancel_left];exact bI_ hf r i (by simpa using h) j hj
theorem jV_ {k j n:Nat} (hk:0 < k) (h:j < n * k):j / k < n∧j % k < k∧j / k * k+j % k = j:=
 ⟨(Nat.div_lt_iff_lt_mul hk).2 h,Nat.mod_lt _ hk,by rw [Nat.mul_comm];exact Nat.div_add_mod j k⟩
theorem mA_ {α:Type} {f:α→List Value} {k:Nat} (hk:0 < k) (hf:∀ x,(f x).length = k) {W:World} {a:Option Addr} {xs:List α}
 (h:xs = []∨∃ g o,a = some ⟨g,o,none⟩∧g < W.heap.size∧∀ i (h:i < xs.length) j,j < k→W.cell? ⟨g,o+i * k+j,none⟩ = (f xs[i])[j]?):aJ_ W a (xs.flatMap f):=by
 rcases h with rfl | ⟨g,o,ha,hg,h⟩
 ·exact .inl rfl
 ·refine .inr ⟨g,o,ha,hg,fun j u hj=>?_⟩;have hjl:j < xs.length * k:=by
   rcases Nat.lt_or_ge j (xs.length * k) with h | h
   ·exact h
   ·rw [List.getElem?_eq_none (by rw [bL_ hf];exact h)] at hj;cases hj
  obtain ⟨h1,h2,h3⟩:=jV_ hk hjl;have hc:=h _ h1 _ h2;rw [← bI_ hf xs _ h1 _ h2,h3,Nat.add_assoc,h3,hj] at hc;exact hc
theorem aJ_.get {α:Type} {f:α→List Value} {k:Nat} (hf:∀ x,(f x).length = k) {W:World} {a:Option Addr} {xs:List α} (h:aJ_ W a (xs.flatMap f)) (hk:0 < k) :
 xs = []∨∃ g o,a = some ⟨g,o,none⟩∧g < W.heap.size∧∀ i (h:i < xs.length) j,j < k→W.cell? ⟨g,o+i * k+j,none⟩ = (f xs[i])[j]?:=by
 rcases h with h | ⟨g,o,ha,hg,h⟩
 ·refine .inl (List.length_eq_zero_iff.1 ?_);have:=congrArg List.length h;rw [bL_ hf,List.length_nil] at this;rcases Nat.mul_eq_zero.1 this with h | h
  ·exact h
  ·omega
 ·refine .inr ⟨g,o,ha,hg,fun i hi j hj=>?_⟩;have e:=bI_ hf xs i hi j hj;have hv:(f xs[i])[j]? = some ((f xs[i])[j]'(by rw [hf];exact hj)):=List.getElem?_eq_getElem _;rw [hv] at e ⊢;have:=h _ _ e;rw [Nat.add_assoc];exact this
def ak_.cells (t:ak_):List Value:=[.int .i64 t.queue,.int .i64 t.most]
def OutD.cells (o:OutD):List Value:=[.int .i64 o.tag,.int .i64 o.taker,.int .i64 o.queue,.int .i64 o.item.seq,.string o.item.key,.string o.item.body,.bool o.item.again,.int .i64 o.item.deaths]
def tkC_ (xs:List ak_):List Value:=xs.flatMap ak_.cells
def ah_ (xs:List OutD):List Value:=xs.flatMap OutD.cells
theorem b6_ {W:World} {a:Option Addr} {xs:List ak_}:cQ_ W a xs↔aJ_ W a (tkC_ xs):=by
 constructor
 ·intro h;refine mA_ (k:=2) (by omega) (fun _=>rfl) ?_;rcases h with h | ⟨g,o,ha,hg,h⟩
  ·exact .inl h
  ·refine .inr ⟨g,o,ha,hg,fun i hi j hj=>?_⟩;match j,hj with
   | 0,_=>exact (h i hi).1
   | 1,_=>exact (h i hi).2
 ·intro h;rcases aJ_.get (k:=2) (fun _=>rfl) h (by omega) with h | ⟨g,o,ha,hg,h⟩
  ·exact .inl h
  ·exact .inr ⟨g,o,ha,hg,fun i hi=>⟨h i hi 0 (by omega),h i hi 1 (by omega)⟩⟩
theorem da_ {W:World} {a:Option Addr} {xs:List OutD}:eH_ W a xs↔aJ_ W a (ah_ xs):=by
 constructor
 ·intro h;refine mA_ (k:=8) (by omega) (fun _=>rfl) ?_;rcases h with h | ⟨g,o,ha,hg,h⟩
  ·exact .inl h
  ·refine .inr ⟨g,o,ha,hg,fun i hi j hj=>?_⟩;obtain ⟨h0,h1,h2,h3⟩:=h i hi;match j,hj with
   | 0,_=>exact h0
   | 1,_=>exact h1
   | 2,_=>exact h2
   | 3,_=>exact h3.at (j:=0) (by omega)
   | 4,_=>exact h3.at (j:=1) (by omega)
   | 5,_=>exact h3.at (j:=2) (by omega)
   | 6,_=>exact h3.at (j:=3) (by omega)
   | 7,_=>exact h3.at (j:=4) (by omega)
 ·intro h;rcases aJ_.get (k:=8) (fun _=>rfl) h (by omega) with h | ⟨g,o,ha,hg,h⟩
  ·exact .inl h
  ·refine .inr ⟨g,o,ha,hg,fun i hi=>⟨h i hi 0 (by omega),h i hi 1 (by omega),h i hi 2 (by omega),aS_.of fun j hj=>?_⟩⟩;have:=h i hi (3+j) (by omega);rw [← Nat.add_assoc] at this;rw [this];match j,hj with
   | 0,_=>rfl
   | 1,_=>rfl
   | 2,_=>rfl
   | 3,_=>rfl
   | 4,_=>rfl
theorem cd_ {W:World} {a:Option Addr} {xs:List ae_}:ai_ W a xs↔aJ_ W a (al_ xs):=by
 constructor
 ·intro h;refine mA_ (k:=5) (by omega) (fun _=>rfl) ?_;rcases h with h | ⟨g,o,ha,hg,h⟩
  ·exact .inl h
  ·exact .inr ⟨g,o,ha,hg,fun i hi j hj=>(h i hi).at hj⟩
 ·intro h;rcases aJ_.get (k:=5) (fun _=>rfl) h (by omega) with h | ⟨g,o,ha,hg,h⟩
  ·exact .inl h
  ·exact .inr ⟨g,o,ha,hg,fun i hi=>aS_.of fun j hj=>h i hi j hj⟩
theorem cA_ (xs:List ak_):∀ u ∈ tkC_ xs,u.oneCell' = true:=by
 intro u hu;obtain ⟨x,_,hx⟩:=List.mem_flatMap.1 hu;simp [ak_.cells] at hx;rcases hx with rfl | rfl <;> rfl
theorem bB_ (xs:List OutD):∀ u ∈ ah_ xs,u.oneCell' = true:=by
 intro u hu;obtain ⟨x,_,hx⟩:=List.mem_flatMap.1 hu;simp [OutD.cells] at hx;rcases hx with rfl | rfl | rfl | rfl | rfl | rfl | rfl | rfl <;> rfl
structure eG_ (L E:TypeId) (size bytes:Nat):Prop where
 ex:∃ (i0:TypeInfo) (z:Value),Tryz.prog.underlying L = some (.slice E)∧Tryz.prog.info? E = some i0∧i0.zero = some z∧i0.size = size∧i0.bytes = bytes∧z.cells.size = size∧0 < size
theorem c5_ {L E:TypeId} {size bytes:Nat} {z:Value} (hu:Tryz.prog.underlying L = some (.slice E)) (hi:(Tryz.prog.info? E).map (fun i=>(i.zero,i.size,i.bytes)) = some (some z,size,bytes)) (hz:z.cells.size = size) (h0:0 < size):eG_ L E size bytes:=by
 obtain ⟨i0,h1,h2,h3,h4⟩:=info_parts hi;exact ⟨i0,z,hu,h1,h2,h3,h4,hz,h0⟩
theorem cU_ {L E:TypeId} {size bytes:Nat} (hE:eG_ L E size bytes) {w:World} {o:Oper} {act:Act} {K:Act→World→Prop} {Q:Exit→Act→World→Prop} (s x:Operand)
 (ho:o.op = .call { callee:=.builtin .append,args:=#[s,x],argTypes:=#[L,L] })
 (base:Nat) (v:Value) (n:Nat) (cs:List Value) (hs:act.eval s = v) (hown:w.ownsRow base E size v n cs)
 (a:Option Addr) (m c:Nat) (ds:List Value) (hx:act.eval x = .slice a m c) (hm:ds.length = m * size) (hz:a = none→c = 0∧m = 0) (hT:aJ_ w a ds) (h1:∀ u ∈ ds,u.oneCell' = true)
 (hb:n+m≤maxLen) (hby:(n+m) * bytes≤140737488355328) (hbase:base≤w.heap.size)
 (h:∀ v' w',w'.ownsRow base E size v' (n+m) (cs ++ ds)→w.grownBy w' v.ownBlock→(v'.ownBlock = v.ownBlock∨v'.ownBlock = some w.heap.size)→K (act.put o.dst v') w') :
 Oper.wp Tryz.prog o act w K Q:=by
 obtain ⟨i0,z,hu,hi,hz0,hz1,hz2,hzs,h0⟩:=hE.ex;cases a with
 | none =>
   obtain ⟨rfl,rfl⟩:=hz rfl;have hd:ds = []:=List.length_eq_zero_iff.1 (by rw [hm,Nat.zero_mul]);subst hd;have hrun:=run_append_owned_none (P:=Tryz.prog) (w:=w) base L o.type E i0 size hu hi v n _ hown;unfold Oper.wp;simp [execOp,ho,resolve,invoke,builtin,hs,hx,hrun,Result.andThen];exact h v w (by simpa using hown) (gR_ _ _) (.inl rfl)
 | some ad =>
   obtain ⟨v',w',hr,h2,h3,h4,h5⟩:=run_append_own_at (P:=Tryz.prog) w base L o.type E i0 z size bytes hu hi hz0 hz1 hz2 hzs h0 v n _ hown ad m c ds hm hT.news h1 hb hby hbase;unfold Oper.wp execOp;simp only [ho,resolve,invoke,builtin,Sem.run_bind,Sem.run_pure,Result.andThen_ok,List.map_toArray,List.map_cons,List.map_nil,hs,hx,hr];exact h v' w' h2 h3 h5
theorem aV_ {L E:TypeId} {size bytes:Nat} (hE:eG_ L E size bytes) {w:World} {ops:Array Oper} {rest:List Oper} {o:Oper} {act:Act} {Q:Exit→Act→World→Prop} (hw:Region.wanted o (yielded ops act.tmps) = true) (s x:Operand)
 (ho:o.op = .call { callee:=.builtin .append,args:=#[s,x],argTypes:=#[L,L] })
 (base:Nat) (v:Value) (n:Nat) (cs:List Value) (hs:act.eval s = v) (hown:w.ownsRow base E size v n cs)
 (a:Option Addr) (m c:Nat) (ds:List Value) (hx:act.eval x = .slice a m c) (hm:ds.length = m * size) (hz:a = none→c = 0∧m = 0) (hT:aJ_ w a ds) (h1:∀ u ∈ ds,u.oneCell' = true)
 (hb:n+m≤maxLen) (hby:(n+m) * bytes≤140737488355328) (hbase:base≤w.heap.size)
 (h:∀ v' w',w'.ownsRow base E size v' (n+m) (cs ++ ds)→w.grownBy w' v.ownBlock→(v'.ownBlock = v.ownBlock∨v'.ownBlock = some w.heap.size)→wpList Tryz.prog ops Q rest (act.put o.dst v') w'):wpList Tryz.prog ops Q (o :: rest) act w:=
 wpList_step fun K hK=>by
  rw [if_pos hw];exact cU_ hE s x ho base v n cs hs hown a m c ds hx hm hz hT h1 hb hby hbase (fun v' w' h1 h2 h3=>hK _ _ (h v' w' h1 h2 h3))
theorem fK_:eG_ 46 48 5 56:=c5_ Tryz.underlying46 Tryz.infoItem rfl (by omega)
theorem Tryz.infoTaker:(Tryz.prog.info? 69).map (fun i=>(i.zero,i.size,i.bytes)) = some (some (.agg #[.int .i64 0,.int .i64 0]),2,16):=by kernel_rfl
theorem eM_:eG_ 29 69 2 16:=c5_ Tryz.underlying29 Tryz.infoTaker rfl (by omega)
theorem Tryz.infoOut:(Tryz.prog.info? 67).map (fun i=>(i.zero,i.size,i.bytes)) = some (some (.agg #[.int .i64 0,.int .i64 0,.int .i64 0,.int .i64 0,.string ⟨#[]⟩,.string ⟨#[]⟩,.bool false,.int .i64 0]),8,80):=by kernel_rfl
theorem ez_:eG_ 28 67 8 80:=c5_ Tryz.underlying28 Tryz.infoOut rfl (by omega)
theorem mB_ (d:Int) (w:World):(Instr.typeAssert (.iface 33 (.int .i64 d)) 20 33 true).run Tryz.prog w = .ok (.tuple #[.int .i64 d,.bool true]) w:=by kernel_rfl
theorem gv_ (B:Nat) (w:World) :
 CallsD Tryz.prog 83 #[.pointer (some ⟨B,0,none⟩)] .returning w fun e u' w'=>e = .returned (.tuple #[])∧u' = .returning∧w' = w:=by
 refine callsD_of_wpS Tryz.func83 rfl fun c₀ cs hu=>?_
 apply wpS_seq
 apply wpS_region
 simp [wpOpsS,go_sem,recoverD,hu,Tryz.ntmps83,Exit.thenS];refine wpS_of_wp ?_;go_wp2
 cases c₀;simp_all [bodyPostS,results,Tryz.results83]
theorem hd_ (B:Nat) (d x:Int) (older:List PanicEntry) (w:World) (hc:w.cell? ⟨B,0,none⟩ = some (.int .i64 x)) (hz:w.frozen? ⟨B,0,none⟩ = false) :
 CallsD Tryz.prog 83 #[.pointer (some ⟨B,0,none⟩)] (.panicking ({ v:=.iface 33 (.int .i64 d),recovered:=false } :: older)) w fun e u' w'=>
  e = .returned (.tuple #[])∧u' = .panicking ({ v:=.iface 33 (.int .i64 d),recovered:=true } :: older)∧w' = w.setCell ⟨B,0,none⟩ (.int .i64 d):=by
 have hta:=mB_;refine callsD_of_wpS Tryz.func83 rfl fun c₀ cs hu=>?_
 apply wpS_seq
 apply wpS_region
 simp [wpOpsS,go_sem,recoverD,hu,Tryz.ntmps83,Exit.thenS];refine wpS_of_wp ?_;go_wp2
 cases c₀;simp_all [bodyPostS,results,Tryz.results83]
theorem jB_ (B1 B2:Nat) (D:Int) (w:World) (hdo:Calls Tryz.prog 46 #[.pointer (some ⟨B1,0,none⟩),.pointer (some ⟨B2,0,none⟩)] (w.alloc (.cells #[.int .i64 0] 33)) fun e w'=>e = askE D∧Below (w.heap.size+1) (w.alloc (.cells #[.int .i64 0] 33)) w') :
 Calls Tryz.prog 45 #[.func (.func 46) #[] #[.pointer (some ⟨B1,0,none⟩),.pointer (some ⟨B2,0,none⟩)]] w fun e w'=>e = .returned (.int .i64 D)∧Below w.heap.size w w':=by
 have hmf:∀ (fn:Fn) (first cap:Array Value) (w:World),(Instr.makeFunc fn first cap).run Tryz.prog w = .ok (.func fn first cap) w:=fun _ _ _ _=>rfl
 have HDO:Hid (Calls Tryz.prog 46 #[.pointer (some ⟨B1,0,none⟩),.pointer (some ⟨B2,0,none⟩)] (w.alloc (.cells #[.int .i64 0] 33)) fun e w'=>e = askE D∧Below (w.heap.size+1) (w.alloc (.cells #[.int .i64 0] 33)) w'):=hdo;clear hdo;go_enter_defers Tryz.func45,Tryz.ntmps45
 go_wp2_with fail
 refine HDO.out.mono ?_;rintro e w2 ⟨rfl,hB⟩;have hb:=(hB.block w.heap.size (by omega)).trans (World.alloc_heap_new w (.cells #[.int .i64 0] 33));have c0:=coc_ hb 0;have f0:=foc_ hb 0;simp at c0;have hBw:Below w.heap.size w w2:=((Below.refl _ _).alloc (Nat.le_refl _) _).trans (hB.mono (Nat.le_succ _));by_cases hD:D = 0
 ·subst hD;rw [b9_];unfold okE;go_wp2_with fail
  refine leaves_cons (f:=83) (args:=#[.pointer (some ⟨w.heap.size,0,none⟩)]) (by simp) (by simp [go_sem]) ?_;refine (gv_ w.heap.size _).mono ?_;rintro e u' w'' ⟨rfl,rfl,rfl⟩;have c1:=coc_ (scb_ hb (j:=0) (.int .i64 0)) 0;simp at c1;have hBe:=hBw.setCell (p:=⟨w.heap.size,0,none⟩) (Nat.le_refl _) (.int .i64 0);simp [Leaves,settle,results,Tryz.results45,go_sem,c1];exact hBe
 ·rw [cS_ hD];unfold panE;go_wp2_with fail
  refine leaves_cons (f:=83) (args:=#[.pointer (some ⟨w.heap.size,0,none⟩)]) (by simp) (by simp [go_sem]) ?_;refine (hd_ w.heap.size D 0 [] _ c0 f0).mono ?_;rintro e u' w'' ⟨rfl,rfl,rfl⟩;have c1:=coc_ (scb_ hb (j:=0) (.int .i64 D)) 0;simp at c1;have hBe:=hBw.setCell (p:=⟨w.heap.size,0,none⟩) (Nat.le_refl _) (.int .i64 D);simp [Leaves,settle,results,Tryz.results45,go_sem,c1];exact hBe
theorem hidI {p:Prop} (h:p):Hid p:=h
theorem bQ_ (w:World) (pv sv:Array Value):∃ W2,W2 = (w.alloc (.cells pv 26)).alloc (.cells sv 31)∧Below w.heap.size w W2∧W2.heap.size = w.heap.size+2 ∧
 ∀ W,Below W2.heap.size W2 W→W.heap[w.heap.size]? = some (.cells pv 26 (0,0))∧W.heap[w.heap.size+1]? = some (.cells sv 31 (0,0)):=by
 refine ⟨_,rfl,((Below.refl _ _).alloc (Nat.le_refl _) _).alloc (by simp) _,by simp,fun W hW=>⟨(hW.block _ (by simp;omega)).trans ?_,(hW.block _ (by simp)).trans ?_⟩⟩
 ·rw [Below.heap_alloc _ _ _ (by simp)];exact World.alloc_heap_new w _
 ·have:=World.alloc_heap_new (w.alloc (.cells pv 26)) (.cells sv 31);rw [World.size_alloc] at this;exact this
theorem dz_ (w:World) (sv:Array Value):∃ W1,W1 = w.alloc (.cells sv 31)∧Below w.heap.size w W1∧W1.heap.size = w.heap.size+1 ∧
 ∀ W,Below W1.heap.size W1 W→W.heap[w.heap.size]? = some (.cells sv 31 (0,0)):=by
 refine ⟨_,rfl,(Below.refl _ _).alloc (Nat.le_refl _) _,by simp,fun W hW=>(hW.block _ (by simp)).trans (World.alloc_heap_new w _)⟩
theorem ag_ {W:World} {B:Nat} {v1 v2 v3:Value} {t:TypeId} (h:W.heap[B]? = some (.cells #[v1,v2,v3] t (0,0))):W.cell? ⟨B,0,none⟩ = some v1∧W.cell? ⟨B,1,none⟩ = some v2∧W.cell? ⟨B,2,none⟩ = some v3:=
 ⟨coc_ h 0,coc_ h 1,coc_ h 2⟩
theorem aa_ {W:World} {B:Nat} {v0 v1 v2 v3 v4 v5 v6 v7:Value} {t:TypeId} (h:W.heap[B]? = some (.cells #[v0,v1,v2,v3,v4,v5,v6,v7] t (0,0))):W.cell? ⟨B,0,none⟩ = some v0∧W.cell? ⟨B,1,none⟩ = some v1∧W.cell? ⟨B,2,none⟩ = some v2∧W.cell? ⟨B,3,none⟩ = some v3∧W.cell? ⟨B,4,none⟩ = some v4∧W.cell? ⟨B,5,none⟩ = some v5∧W.cell? ⟨B,6,none⟩ = some v6∧W.cell? ⟨B,7,none⟩ = some v7:=
 ⟨coc_ h 0,coc_ h 1,coc_ h 2,coc_ h 3,coc_ h 4,coc_ h 5,coc_ h 6,coc_ h 7⟩
theorem bng_ (w:World) (bs:List Bool) {g:Nat} (hg:g = w.heap.size):bg_ (w.alloc (.cells (bs.map Value.bool).toArray 4)) g 0 bs:=by rw [hg];exact bl_ w bs
theorem aQ_ (w:World) (x:Value) (t:TypeId):(w.alloc (.cells #[x] t)).cell? ⟨w.heap.size,0,none⟩ = some x:=coc_ (World.alloc_heap_new w (.cells #[x] t)) 0
theorem bW_.get {W:World} {a:Option Addr} {xss:List (List ae_)} (h:bW_ W a xss) {k:Nat} (hk:k < xss.length):∃ g o b c,a = some ⟨g,o,none⟩∧g < W.heap.size∧d9_ W g (o+k) xss[k] b c:=by
 rcases h with h | ⟨g,o,ha,hg,h⟩
 ·rw [h] at hk;simp at hk
 ·obtain ⟨b,c,hl⟩:=h k hk;exact ⟨g,o,b,c,ha,hg,hl⟩
theorem hZ_ (p:ad_) (a1 a2 a3:Option Addr) (n1 c1 n2 c2 n3 c3:Nat) (s:ab_) (b1 b2 b3:Option Addr) (m1 d1 m2 d2 m3 d3:Nat) (w:World) (hp:ao_ w a1 a2 a3 n1 n2 n3 p) (hs:an_ w b1 b2 b3 m1 m2 m3 s) :
 Calls Tryz.prog 49 #[.agg #[.slice a1 n1 c1,.slice a2 n2 c2,.slice a3 n3 c3],.agg #[.slice b1 m1 d1,.slice b2 m2 d2,.slice b3 m3 d3,.int .i64 s.nextSeq,.int .i64 s.nextTag,.int .i64 s.came,.int .i64 s.acked,.int .i64 s.dropped]] w fun e w'=>e = askE (if a0_ n2 s.ready = true then 0 else 1)∧Below w.heap.size w w':=by
 obtain ⟨D,hD⟩:∃ D:Int,D = if a0_ n2 s.ready = true then 0 else 1:=⟨_,rfl⟩
 rw [← hD];have HD:=hidI hD;clear hD;obtain ⟨W2,hW2,hBw,hs2,hbx⟩:=bQ_ w #[.slice a1 n1 c1,.slice a2 n2 c2,.slice a3 n3 c3] #[.slice b1 m1 d1,.slice b2 m2 d2,.slice b3 m3 d3,.int .i64 s.nextSeq,.int .i64 s.nextTag,.int .i64 s.came,.int .i64 s.acked,.int .i64 s.dropped];have HW2:=hidI hW2;have BX:=hidI hbx;have HS:=hidI (hs.keep hBw);have HM1:Hid (s.ready.length = m1):=hs.l1;have hx1:=hs.x1;have s0:=hBw.size;have hs2':w.heap.size+1 < W2.heap.size:=by omega
 unfold maxLen at hx1;have HS2:Hid (w.heap.size+1+1 = W2.heap.size):=hs2.symm;clear hW2 hbx hs hp hs2;obtain ⟨p0,q0⟩:=BX.out W2 (Below.refl _ _);obtain ⟨x0,x1,x2⟩:=ag_ p0;obtain ⟨y0,y1,y2,y3,y4,y5,y6,y7⟩:=aa_ q0;clear p0 q0;by_cases hm:m1 = n2
 ·have hmb:((m1:Int) != (n2:Int)) = false:=by simp [hm]
  have HME:=hidI hm;clear hm;go_enter Tryz.func49,Tryz.ntmps49;go_wp2_with fail
  rw [← HW2.out];refine (aG_ 1 [false] _ _ (by simp) (bng_ W2 [false] HS2.out) (by simp)).mono ?_;rintro e w3 ⟨rfl,hw3⟩;have hB3:Below W2.heap.size W2 w3:=by rw [hw3];exact (Below.refl _ _).alloc (Nat.le_refl _) _
  obtain ⟨p0,q0⟩:=BX.out w3 hB3;clear x0 x1 x2 y0 y1 y2 y3 y4 y5 y6 y7;obtain ⟨y0,y1,y2,y3,y4,y5,y6,y7⟩:=aa_ q0;clear hw3 p0 q0;go_wp2_with fail
  go_loopw [5,18] (fun _ i wr=>∃ k:Nat,k≤m1∧i = .int .i64 k∧(∀ x ∈ s.ready.take k,at_ x = true)∧Below W2.heap.size W2 wr) (fun _ i _=>m1 - (intOf i).toNat)
  case atStart=>exact ⟨0,Nat.zero_le _,rfl,by simp,hB3⟩
  case round=>
   obtain ⟨k,hk,rfl,ha,hB⟩:=hrel;have HA:=hidI ha;have hBs:=hB.size;clear ha;by_cases hlt:k < m1
   ·have hkl:k < s.ready.length:=by rw [HM1.out];exact hlt
    obtain ⟨g,o,b,c,ha,hg,hl⟩:=(HS.out.q1.keep hB).get hkl;subst ha;have e1:=hl.cell;have HLI:=hidI hl;have HTK:=hidI (fun h1 h2=>aA_ (p:=at_) (xs:=s.ready) (k:=k) hkl h1 h2);have HNOT:=hidI (fun h2=>afg_ (p:=at_) (xs:=s.ready) (k:=k) hkl h2);obtain ⟨xs,hxs⟩:∃ xs,xs = s.ready[k]:=⟨_,rfl⟩
    rw [← hxs] at HLI e1 HTK HNOT;obtain ⟨n,hn⟩:∃ n,n = xs.length:=⟨_,rfl⟩
    rw [← hn] at e1;have HN:=hidI hn;have j1:(0:Int)≤(k:Int):=by omega
    have j2:(k:Int) < m1:=by omega
    clear hl hxs hn;go_wp2_with fail
    refine (bu_ xs b _ c _ HN.out.symm (Nat.le_trans (by rw [HN.out];exact HLI.out.le) HLI.out.cm) HLI.out.it).mono ?_;rintro e w4 ⟨rfl,hB4⟩;have k4:Below W2.heap.size W2 w4:=hB.trans (hB4.mono hBs);have s4:=k4.size;have k5:=k4.alloc s4 (.cells #[.int .i64 (bx_ xs)] 33);obtain ⟨ok,hok⟩:∃ ok,ok = at_ xs:=⟨_,rfl⟩
    have HOK:=hidI hok;unfold bx_ at k5 ⊢;rw [← hok] at k5 ⊢;clear hok hB4;cases ok with
    | true =>
      simp only [if_true] at k5 ⊢;go_wp2_with (go_at_call 47;refine (d5_ _ _ (aQ_ _ _ _) (by simp)).mono ?_;rintro e w5 ⟨rfl,hB5⟩)
      go_roundw
      case rel=>exact ⟨k+1,by omega,by go_num,HTK.out HA.out HOK.out.symm,k5.trans (hB5.mono k5.size)⟩
      case measure=>simp [intOf];omega
    | false =>
      simp only [Bool.false_eq_true,if_false] at k5 ⊢;have HNO:Hid (a0_ n2 s.ready = false):=by show a0_ n2 s.ready = false;unfold a0_;rw [HNOT.out HOK.out.symm];simp
      go_wp2_with (go_at_call 47;refine (dB_ 1 _ _ (aQ_ _ _ _) (by simp) (by decide)).mono ?_;rintro e w5 ⟨rfl,hB5⟩)
      exact ⟨rfl,by rw [HD.out,HNO.out];rfl,hBw.trans ((k5.trans (hB5.mono k5.size)).mono s0)⟩
   ·have hke:k = m1:=by omega
    subst hke;have HYES:Hid (a0_ n2 s.ready = true):=by
     show a0_ n2 s.ready = true;unfold a0_;rw [a2_ HM1.out (Nat.lt_irrefl _) HA.out,decide_eq_true (by rw [HM1.out];exact HME.out)];rfl
    clear hlt hk;go_wp2_with fail
    go_end0
    exact ⟨by rw [HD.out,HYES.out];rfl,hBw.trans (hB.mono s0)⟩
 ·have hmb:((m1:Int) != (n2:Int)) = true:=by simp;omega
  have HNO:Hid (a0_ n2 s.ready = false):=by show a0_ n2 s.ready = false;unfold a0_;rw [HM1.out,decide_eq_false hm];rfl
  clear hm;go_enter Tryz.func49,Tryz.ntmps49;go_wp2_with fail
  rw [← HW2.out];refine (ax_ 1 [true] _ _ (by simp) (bng_ W2 [true] HS2.out) (by simp)).mono ?_;rintro e w3 ⟨rfl,rfl⟩;exact ⟨rfl,by rw [HD.out,HNO.out];rfl,(hBw.alloc s0 _)⟩
theorem cQ_.get {W:World} {a:Option Addr} {xs:List ak_} (h:cQ_ W a xs) {k:Nat} (hk:k < xs.length):∃ g o,a = some ⟨g,o,none⟩∧g < W.heap.size∧W.cell? ⟨g,o+k * 2,none⟩ = some (.int .i64 xs[k].queue)∧W.cell? ⟨g,o+k * 2+1,none⟩ = some (.int .i64 xs[k].most):=by
 rcases h with h | ⟨g,o,ha,hg,h⟩
 ·rw [h] at hk;simp at hk
 ·exact ⟨g,o,ha,hg,h k hk⟩
theorem hk_ (p:ad_) (a1 a2 a3:Option Addr) (n1 c1 n2 c2 n3 c3:Nat) (s:ab_) (b1 b2 b3:Option Addr) (m1 d1 m2 d2 m3 d3:Nat) (w:World) (hs:an_ w b1 b2 b3 m1 m2 m3 s) :
 Calls Tryz.prog 50 #[.agg #[.slice a1 n1 c1,.slice a2 n2 c2,.slice a3 n3 c3],.agg #[.slice b1 m1 d1,.slice b2 m2 d2,.slice b3 m3 d3,.int .i64 s.nextSeq,.int .i64 s.nextTag,.int .i64 s.came,.int .i64 s.acked,.int .i64 s.dropped]] w fun e w'=>e = askE (if s.takers.all (aI_ n2) = true then 0 else 1)∧Below w.heap.size w w':=by
 obtain ⟨D,hD⟩:∃ D:Int,D = if s.takers.all (aI_ n2) = true then 0 else 1:=⟨_,rfl⟩
 rw [← hD];have HD:=hidI hD;clear hD;obtain ⟨W2,hW2,hBw,hs2,hbx⟩:=bQ_ w #[.slice a1 n1 c1,.slice a2 n2 c2,.slice a3 n3 c3] #[.slice b1 m1 d1,.slice b2 m2 d2,.slice b3 m3 d3,.int .i64 s.nextSeq,.int .i64 s.nextTag,.int .i64 s.came,.int .i64 s.acked,.int .i64 s.dropped];have HW2:=hidI hW2;have BX:=hidI hbx;have HS:=hidI (hs.keep hBw);have HM3:Hid (s.takers.length = m3):=hs.l3;have hx3:=hs.x3;have s0:=hBw.size;have hs2':w.heap.size+1 < W2.heap.size:=by omega
 unfold maxLen at hx3;clear hW2 hbx hs hs2;obtain ⟨p0,q0⟩:=BX.out W2 (Below.refl _ _);obtain ⟨x0,x1,x2⟩:=ag_ p0;obtain ⟨y0,y1,y2,y3,y4,y5,y6,y7⟩:=aa_ q0;clear p0 q0;go_enter Tryz.func50,Tryz.ntmps50;go_wp2_with fail
 rw [← HW2.out];go_loopw [5,9] (fun _ i wr=>∃ k:Nat,k≤m3∧i = .int .i64 k∧(∀ x ∈ s.takers.take k,aI_ n2 x = true)∧Below W2.heap.size W2 wr) (fun _ i _=>m3 - (intOf i).toNat)
 case atStart=>exact ⟨0,Nat.zero_le _,rfl,by simp,Below.refl _ _⟩
 case round=>
  obtain ⟨k,hk,rfl,ha,hB⟩:=hrel;have HA:=hidI ha;have hBs:=hB.size;clear ha x0 x1 x2 y0 y1 y2 y3 y4 y5 y6 y7;by_cases hlt:k < m3
  ·have hkl:k < s.takers.length:=by rw [HM3.out];exact hlt
   obtain ⟨g,o,ha,hg,e1,e2⟩:=(HS.out.q3.keep hB).get hkl;subst ha;have HTK:=hidI (fun h1 h2=>aA_ (p:=aI_ n2) (xs:=s.takers) (k:=k) hkl h1 h2);have HNOT:=hidI (fun h2=>afg_ (p:=aI_ n2) (xs:=s.takers) (k:=k) hkl h2);obtain ⟨x,hx⟩:∃ x,x = s.takers[k]:=⟨_,rfl⟩
   rw [← hx] at HTK HNOT e1 e2;obtain ⟨tq,tm⟩:=x;dsimp only at e1 e2;obtain ⟨p0,q0⟩:=BX.out wr hB;obtain ⟨x0,x1,x2⟩:=ag_ p0;have j1:(0:Int)≤(k:Int):=by omega
   have j2:(k:Int) < m3:=by omega
   have sk:w.heap.size < wr.heap.size:=by omega
   obtain ⟨W3,hW3⟩:∃ W3,W3 = wr.alloc (.cells #[.int .i64 tq,.int .i64 tm] 69):=⟨_,rfl⟩
   have HW3:=hidI hW3;have k3:Below W2.heap.size W2 W3:=by rw [hW3];exact hB.alloc hBs _
   have b3:W3.heap[wr.heap.size]? = some (.cells #[.int .i64 tq,.int .i64 tm] 69 (0,0)):=by rw [hW3];exact World.alloc_heap_new wr _
   have z3:wr.heap.size+1 = W3.heap.size:=by rw [hW3];simp
   have HZ3:=hidI z3;have HB3:=hidI b3;clear hx p0 q0 hW3 b3 z3;have hcase:(tq = -1)∨(tq≠-1∧tq < 0)∨(tq≠-1∧¬ tq < 0∧(n2:Int)≤tq)∨(tq≠-1∧¬ tq < 0∧¬ (n2:Int)≤tq):=by omega
   rcases hcase with q1 | ⟨q1,q2⟩ | ⟨q1,q2,q3⟩ | ⟨q1,q2,q3⟩
   ·have HBF:Hid ((decide (tq = -1) || as_ tq n2) = true):=by show (decide (tq = -1) || as_ tq n2) = true;rw [q1];rfl
    have q1':(tq != -1) = false:=by rw [q1];rfl
    clear q1;go_wp2_with fail
    rw [← HW3.out];refine (aG_ 1 [false] _ _ (by simp) (bng_ W3 [false] HZ3.out) (by simp)).mono ?_;rintro e w4 ⟨rfl,hw4⟩;have l4:Below W3.heap.size W3 w4:=by rw [hw4];exact (Below.refl _ _).alloc (Nat.le_refl _) _
    have k4:Below W2.heap.size W2 w4:=k3.trans (l4.mono k3.size);have s4:=k4.size;have b4:=(l4.block wr.heap.size (by have:=HZ3.out;omega)).trans HB3.out;have t0:=coc_ b4 0;have t1:=coc_ b4 1;simp at t0 t1;clear hw4 b4 l4;go_wp2_with fail
    by_cases hm1:tm < 1∨4 < tm
    ·have HNO:Hid (s.takers.all (aI_ n2) = false):=HNOT.out (by unfold aI_;dsimp only;rw [show decide (1≤tm∧tm≤4) = false from decide_eq_false (by omega)];simp);refine (ax_ 1 [decide (tm < 1),decide (4 < tm)] _ _ (by simp) (bng_ w4 _ rfl) (by simp;omega)).mono ?_;rintro e w5 ⟨rfl,hw5⟩;exact ⟨rfl,by rw [HD.out,HNO.out];rfl,by rw [hw5];exact hBw.trans ((k4.alloc s4 _).mono s0)⟩
    ·have HOK:Hid (aI_ n2 ⟨tq,tm⟩ = true):=by show aI_ n2 ⟨tq,tm⟩ = true;unfold aI_;dsimp only;rw [HBF.out,show decide (1≤tm∧tm≤4) = true from decide_eq_true (by omega)];rfl
     refine (aG_ 1 [decide (tm < 1),decide (4 < tm)] _ _ (by simp) (bng_ w4 _ rfl) (by simp;omega)).mono ?_;rintro e w5 ⟨rfl,hw5⟩;have k5:Below W2.heap.size W2 w5:=by rw [hw5];exact k4.alloc s4 _
     clear hw5;go_wp2_with fail
     go_roundw
     case rel=>exact ⟨k+1,by omega,by go_num,HTK.out HA.out HOK.out,k5⟩
     case measure=>simp [intOf];omega
   ·have HBF:Hid ((decide (tq = -1) || as_ tq n2) = false):=by show (decide (tq = -1) || as_ tq n2) = false;unfold as_;simp;omega
    have q1':(tq != -1) = true:=bne_iff_ne.2 q1;go_wp2_with fail
    rw [← HW3.out];refine (ax_ 1 [true] _ _ (by simp) (bng_ W3 [true] HZ3.out) (by simp)).mono ?_;rintro e w4 ⟨rfl,hw4⟩;exact ⟨rfl,by rw [HD.out,HNOT.out (by unfold aI_;dsimp only;rw [HBF.out];rfl)];rfl,by rw [hw4];exact hBw.trans ((k3.alloc k3.size _).mono s0)⟩
   ·have HBF:Hid ((decide (tq = -1) || as_ tq n2) = false):=by show (decide (tq = -1) || as_ tq n2) = false;unfold as_;simp;omega
    have q1':(tq != -1) = true:=bne_iff_ne.2 q1;go_wp2_with fail
    rw [← HW3.out];refine (ax_ 1 [true] _ _ (by simp) (bng_ W3 [true] HZ3.out) (by simp)).mono ?_;rintro e w4 ⟨rfl,hw4⟩;exact ⟨rfl,by rw [HD.out,HNOT.out (by unfold aI_;dsimp only;rw [HBF.out];rfl)];rfl,by rw [hw4];exact hBw.trans ((k3.alloc k3.size _).mono s0)⟩
   ·have HBF:Hid ((decide (tq = -1) || as_ tq n2) = true):=by show (decide (tq = -1) || as_ tq n2) = true;unfold as_;simp;omega
    have q1':(tq != -1) = true:=bne_iff_ne.2 q1;go_wp2_with fail
    rw [← HW3.out];refine (aG_ 1 [false] _ _ (by simp) (bng_ W3 [false] HZ3.out) (by simp)).mono ?_;rintro e w4 ⟨rfl,hw4⟩;have l4:Below W3.heap.size W3 w4:=by rw [hw4];exact (Below.refl _ _).alloc (Nat.le_refl _) _
    have k4:Below W2.heap.size W2 w4:=k3.trans (l4.mono k3.size);have s4:=k4.size;have b4:=(l4.block wr.heap.size (by have:=HZ3.out;omega)).trans HB3.out;have t0:=coc_ b4 0;have t1:=coc_ b4 1;simp at t0 t1;clear hw4 b4 l4;go_wp2_with fail
    by_cases hm1:tm < 1∨4 < tm
    ·have HNO:Hid (s.takers.all (aI_ n2) = false):=HNOT.out (by unfold aI_;dsimp only;rw [show decide (1≤tm∧tm≤4) = false from decide_eq_false (by omega)];simp);refine (ax_ 1 [decide (tm < 1),decide (4 < tm)] _ _ (by simp) (bng_ w4 _ rfl) (by simp;omega)).mono ?_;rintro e w5 ⟨rfl,hw5⟩;exact ⟨rfl,by rw [HD.out,HNO.out];rfl,by rw [hw5];exact hBw.trans ((k4.alloc s4 _).mono s0)⟩
    ·have HOK:Hid (aI_ n2 ⟨tq,tm⟩ = true):=by show aI_ n2 ⟨tq,tm⟩ = true;unfold aI_;dsimp only;rw [HBF.out,show decide (1≤tm∧tm≤4) = true from decide_eq_true (by omega)];rfl
     refine (aG_ 1 [decide (tm < 1),decide (4 < tm)] _ _ (by simp) (bng_ w4 _ rfl) (by simp;omega)).mono ?_;rintro e w5 ⟨rfl,hw5⟩;have k5:Below W2.heap.size W2 w5:=by rw [hw5];exact k4.alloc s4 _
     clear hw5;go_wp2_with fail
     go_roundw
     case rel=>exact ⟨k+1,by omega,by go_num,HTK.out HA.out HOK.out,k5⟩
     case measure=>simp [intOf];omega
  ·have hke:k = m3:=by omega
   subst hke;have HYES:Hid (s.takers.all (aI_ n2) = true):=a2_ HM3.out (Nat.lt_irrefl _) HA.out;clear hlt hk;go_wp2_with fail
   go_end0
   exact ⟨by rw [HD.out,HYES.out];rfl,hBw.trans (hB.mono s0)⟩
def cs_ (s:ab_):List Int:=[s.nextSeq,s.nextTag,s.came,s.acked,s.dropped]
theorem i2_ (s:ab_):bh_ s = (cs_ s).all a3_:=by simp [bh_,cs_,Bool.and_assoc]
theorem hj_ (s:ab_) (b1 b2 b3:Option Addr) (m1 d1 m2 d2 m3 d3:Nat) (w:World) :
 Calls Tryz.prog 52 #[.agg #[.slice b1 m1 d1,.slice b2 m2 d2,.slice b3 m3 d3,.int .i64 s.nextSeq,.int .i64 s.nextTag,.int .i64 s.came,.int .i64 s.acked,.int .i64 s.dropped]] w fun e w'=>e = askE (if bh_ s = true then 0 else 1)∧Below w.heap.size w w':=by
 rw [i2_];obtain ⟨D,hD⟩:∃ D:Int,D = if (cs_ s).all a3_ = true then 0 else 1:=⟨_,rfl⟩
 rw [← hD];have HD:=hidI hD;clear hD;obtain ⟨W1,hW1,hBw,hs1,hbx⟩:=dz_ w #[.slice b1 m1 d1,.slice b2 m2 d2,.slice b3 m3 d3,.int .i64 s.nextSeq,.int .i64 s.nextTag,.int .i64 s.came,.int .i64 s.acked,.int .i64 s.dropped];have HW1:=hidI hW1;have HS1:Hid (w.heap.size+1 = W1.heap.size):=hs1.symm;have s0:=hBw.size;obtain ⟨y0,y1,y2,y3,y4,y5,y6,y7⟩:=aa_ (hbx W1 (Below.refl _ _));obtain ⟨W2,hW2⟩:∃ W2,W2 = W1.alloc (.cells #[.int .i64 s.nextSeq,.int .i64 s.nextTag,.int .i64 s.came,.int .i64 s.acked,.int .i64 s.dropped] 3):=⟨_,rfl⟩
 have hB2:Below W1.heap.size W1 W2:=by rw [hW2];exact (Below.refl _ _).alloc (Nat.le_refl _) _
 have hb2:W2.heap[W1.heap.size]? = some (.cells #[.int .i64 s.nextSeq,.int .i64 s.nextTag,.int .i64 s.came,.int .i64 s.acked,.int .i64 s.dropped] 3 (0,0)):=by rw [hW2];exact World.alloc_heap_new W1 _
 have HC:Hid (∀ W,Below W2.heap.size W2 W→∀ k (hk:k < 5),W.cell? ⟨w.heap.size+1,k,none⟩ = some (.int .i64 ((cs_ s)[k]'(by simpa [cs_] using hk)))):=fun W hW k hk=>by
  rw [HS1.out];have:=(hW.block _ (lth_ hb2)).trans hb2;match k,hk with
  | 0,_=>exact coc_ this 0
  | 1,_=>exact coc_ this 1
  | 2,_=>exact coc_ this 2
  | 3,_=>exact coc_ this 3
  | 4,_=>exact coc_ this 4
 have HW2:=hidI hW2;have k02:Below w.heap.size w W2:=hBw.trans (hB2.mono s0);have s02:=k02.size;have HLL:Hid ((cs_ s).length = 5):=rfl;clear hW1 hbx hs1 hW2 hB2 hb2;go_enter Tryz.func52,Tryz.ntmps52;go_wp2_with fail
 rw [← HW1.out,← HW2.out];go_loopw [3,16] (fun _ i wr=>∃ k:Nat,k≤5∧i = .int .i64 k∧(∀ x ∈ (cs_ s).take k,a3_ x = true)∧Below W2.heap.size W2 wr) (fun _ i _=>5 - (intOf i).toNat)
 case atStart=>exact ⟨0,Nat.zero_le _,rfl,by simp,Below.refl _ _⟩
 case round=>
  obtain ⟨k,hk,rfl,ha,hB⟩:=hrel;have HA:=hidI ha;have hBs:=hB.size;clear ha;by_cases hlt:k < 5
  ·have hkl:k < (cs_ s).length:=hlt;have e1:=HC.out wr hB k hlt;have HTK:=hidI (fun h1 h2=>aA_ (p:=a3_) (xs:=cs_ s) (k:=k) hkl h1 h2);have HNOT:=hidI (fun h2=>afg_ (p:=a3_) (xs:=cs_ s) (k:=k) hkl h2);obtain ⟨x,hx⟩:∃ x,x = (cs_ s)[k]:=⟨_,rfl⟩
   rw [← hx] at HTK HNOT e1;have j1:(0:Int)≤(k:Int):=by omega
   have j2:(k:Int) < 5:=by omega
   clear hx;go_wp2_with fail
   by_cases hm1:x < 0∨1048576 < x
   ·have HNO:Hid ((cs_ s).all a3_ = false):=HNOT.out (by unfold a3_;simp;omega);refine (ax_ 1 [decide (x < 0),decide (1048576 < x)] _ _ (by simp) (bng_ wr _ rfl) (by simp;omega)).mono ?_;rintro e w5 ⟨rfl,hw5⟩;exact ⟨rfl,by rw [HD.out,HNO.out];rfl,by rw [hw5];exact k02.trans ((hB.alloc hBs _).mono s02)⟩
   ·have HOK:Hid (a3_ x = true):=by show a3_ x = true;unfold a3_;simp;omega
    refine (aG_ 1 [decide (x < 0),decide (1048576 < x)] _ _ (by simp) (bng_ wr _ rfl) (by simp;omega)).mono ?_;rintro e w5 ⟨rfl,hw5⟩;have k5:Below W2.heap.size W2 w5:=by rw [hw5];exact hB.alloc hBs _
    clear hw5;go_wp2_with fail
    go_roundw
    case rel=>exact ⟨k+1,by omega,by go_num,HTK.out HA.out HOK.out,k5⟩
    case measure=>simp [intOf];omega
  ·have hke:k = 5:=by omega
   subst hke;have HYES:Hid ((cs_ s).all a3_ = true):=a2_ HLL.out (Nat.lt_irrefl _) HA.out;go_wp2_with fail
   go_end0
   exact ⟨by rw [HD.out,HYES.out];rfl,k02.trans (hB.mono s02)⟩
theorem pkp_ {W W':World} {b:Nat} {cs:Array Value} {t:TypeId} (h:W.heap[b]? = some (.cells cs t (0,0))) (hB:Below W.heap.size W W'):W'.heap[b]? = some (.cells cs t (0,0)):=(hB.block b (lth_ h)).trans h
theorem eH_.get {W:World} {a:Option Addr} {xs:List OutD} (h:eH_ W a xs) {k:Nat} (hk:k < xs.length):∃ g o,a = some ⟨g,o,none⟩∧g < W.heap.size∧W.cell? ⟨g,o+k * 8,none⟩ = some (.int .i64 xs[k].tag)∧W.cell? ⟨g,o+k * 8+1,none⟩ = some (.int .i64 xs[k].taker)∧W.cell? ⟨g,o+k * 8+2,none⟩ = some (.int .i64 xs[k].queue)∧aS_ W g (o+k * 8+3) xs[k].item:=by
 rcases h with h | ⟨g,o,ha,hg,h⟩
 ·rw [h] at hk;simp at hk
 ·exact ⟨g,o,ha,hg,h k hk⟩
theorem kL_ (x:ae_):at_ [x] = am_ x:=by
 unfold at_ aK_ aK_;have h:am_ x = true→-1 < x.seq:=fun h=>by unfold am_ bN_ at h;simp at h;omega
 cases hi:am_ x with
 | false=>simp
 | true=>simp [h hi]
theorem lI_ (w:World) (x:ae_):ai_ (w.alloc (.cells #[.int .i64 x.seq,.string x.key,.string x.body,.bool x.again,.int .i64 x.deaths] 48)) (some ⟨w.heap.size,0,none⟩) [x]:=by
 have h:=World.alloc_heap_new w (.cells #[.int .i64 x.seq,.string x.key,.string x.body,.bool x.again,.int .i64 x.deaths] 48);refine .inr ⟨w.heap.size,0,rfl,by simp,fun i hi=>?_⟩;have e:i = 0:=by simp at hi;omega
 subst e;exact ⟨coc_ h 0,coc_ h 1,coc_ h 2,coc_ h 3,coc_ h 4⟩
theorem iT_ (s:ab_) (b1 b2 b3:Option Addr) (m1 d1 m2 d2 m3 d3:Nat) (w:World) (hs:an_ w b1 b2 b3 m1 m2 m3 s) :
 Calls Tryz.prog 51 #[.agg #[.slice b1 m1 d1,.slice b2 m2 d2,.slice b3 m3 d3,.int .i64 s.nextSeq,.int .i64 s.nextTag,.int .i64 s.came,.int .i64 s.acked,.int .i64 s.dropped]] w fun e w'=>e = askE (if ap_ s.takers s.nextTag (-1) s.outs = true then 0 else 1)∧Below w.heap.size w w':=by
 obtain ⟨D,hD⟩:∃ D:Int,D = if ap_ s.takers s.nextTag (-1) s.outs = true then 0 else 1:=⟨_,rfl⟩
 rw [← hD];have HD:=hidI hD;clear hD;obtain ⟨W1,hW1,hBw,hs1,hbx⟩:=dz_ w #[.slice b1 m1 d1,.slice b2 m2 d2,.slice b3 m3 d3,.int .i64 s.nextSeq,.int .i64 s.nextTag,.int .i64 s.came,.int .i64 s.acked,.int .i64 s.dropped];have HW1:=hidI hW1;have BX:=hidI hbx;have HS:=hidI (hs.keep hBw);have HM2:Hid (s.outs.length = m2):=hs.l2;have HM3:Hid (s.takers.length = m3):=hs.l3;have hx2:=hs.x2;have s0:=hBw.size;have hs1':w.heap.size < W1.heap.size:=by omega
 obtain ⟨y0,y1,y2,y3,y4,y5,y6,y7⟩:=aa_ (hbx W1 (Below.refl _ _));clear hW1 hbx hs1 hs;go_enter Tryz.func51,Tryz.ntmps51;go_wp2_with fail
 rw [← HW1.out];go_loopw [2,4,5,9] (fun la _ _ i wr=>∃ (k:Nat) (l:Int),k≤m2∧i = .int .i64 k∧la = .int .i64 l∧ap_ s.takers s.nextTag (-1) s.outs = ap_ s.takers s.nextTag l (s.outs.drop k)∧Below W1.heap.size W1 wr) (fun _ _ _ i _=>m2 - (intOf i).toNat)
 case atStart=>exact ⟨0,-1,Nat.zero_le _,rfl,rfl,by simp,Below.refl _ _⟩
 case round=>
  obtain ⟨k,l,hk,rfl,rfl,ha,hB⟩:=hrel;have HA:=hidI ha;have hBs:=hB.size;clear ha y0 y1 y2 y3 y4 y5 y6 y7;by_cases hlt:k < m2
  ·have hkl:k < s.outs.length:=by rw [HM2.out];exact hlt
   obtain ⟨g,o,ha,hg,e1,e2,e3,e4⟩:=(HS.out.q2.keep hB).get hkl;have hdr:s.outs.drop k = s.outs[k] :: s.outs.drop (k+1):=List.drop_eq_getElem_cons hkl;subst ha;obtain ⟨x,hx⟩:∃ x,x = s.outs[k]:=⟨_,rfl⟩
   rw [← hx] at e1 e2 e3 e4 hdr;have HDR:=hidI hdr;have HSTEP:Hid (ap_ s.takers s.nextTag (-1) s.outs = (cL_ s.takers s.nextTag l x && ap_ s.takers s.nextTag x.tag (s.outs.drop (k+1)))):=by
    show ap_ s.takers s.nextTag (-1) s.outs = _;rw [HA.out,HDR.out];rfl
   obtain ⟨tg,tk,qu,it⟩:=x;obtain ⟨sq,ky,bo,ag,de⟩:=it;dsimp only at e1 e2 e3 e4 HSTEP;obtain ⟨f0,f1,f2,f3,f4⟩:=e4;dsimp only at f0 f1 f2 f3 f4;have j1:(0:Int)≤(k:Int):=by omega
   have j2:(k:Int) < m2:=by omega
   have sk:w.heap.size < wr.heap.size:=by omega
   obtain ⟨y0,y1,y2,y3,y4,y5,y6,y7⟩:=aa_ (BX.out wr hB);obtain ⟨W3,hW3⟩:∃ W3,W3 = wr.alloc (.cells #[.int .i64 tg,.int .i64 tk,.int .i64 qu,.int .i64 sq,.string ky,.string bo,.bool ag,.int .i64 de] 67):=⟨_,rfl⟩
   have HW3:=hidI hW3;have k3:Below W1.heap.size W1 W3:=by rw [hW3];exact hB.alloc hBs _
   have b3':W3.heap[wr.heap.size]? = some (.cells #[.int .i64 tg,.int .i64 tk,.int .i64 qu,.int .i64 sq,.string ky,.string bo,.bool ag,.int .i64 de] 67 (0,0)):=by rw [hW3];exact World.alloc_heap_new wr _
   have HZ3:Hid (wr.heap.size+1 = W3.heap.size):=by show wr.heap.size+1 = W3.heap.size;rw [hW3];simp
   have HB3:=hidI b3';clear hx hdr hW3 b3';go_wp2_with fail
   rw [← HW3.out];by_cases hc1:tg≤l∨s.nextTag≤tg∨tk < 0∨(m3:Int)≤tk
   ·have HNO:Hid (ap_ s.takers s.nextTag (-1) s.outs = false):=by
     show ap_ s.takers s.nextTag (-1) s.outs = false;rw [HSTEP.out];unfold cL_ as_;rw [HM3.out];dsimp only;have:(decide (l < tg) && decide (tg < s.nextTag) && decide (0≤tk∧tk < (m3:Int))) = false:=by simp;omega
     rw [this];rfl
    refine (ax_ 1 [decide (tg≤l),decide (s.nextTag≤tg),decide (tk < 0),decide ((m3:Int)≤tk)] _ _ (by simp) (bng_ W3 _ HZ3.out) (by simp;omega)).mono ?_;rintro e w4 ⟨rfl,hw4⟩;exact ⟨rfl,by rw [HD.out,HNO.out];rfl,by rw [hw4];exact hBw.trans ((k3.alloc k3.size _).mono s0)⟩
   ·refine (aG_ 1 [decide (tg≤l),decide (s.nextTag≤tg),decide (tk < 0),decide ((m3:Int)≤tk)] _ _ (by simp) (bng_ W3 _ HZ3.out) (by simp;omega)).mono ?_;rintro e w4 ⟨rfl,hw4⟩;have l4:Below W3.heap.size W3 w4:=by rw [hw4];exact (Below.refl _ _).alloc (Nat.le_refl _) _
    have k4:Below W1.heap.size W1 w4:=k3.trans (l4.mono k3.size);have s4:=k4.size;have b4:=(l4.block wr.heap.size (by have:=HZ3.out;omega)).trans HB3.out;have HB4:=hidI b4;have g0:=coc_ b4 0;have g1:=coc_ b4 1;have g2:=coc_ b4 2;simp at g0 g1 g2;have hw4s:wr.heap.size < w4.heap.size:=lth_ b4;obtain ⟨tn,htn⟩:=Int.eq_ofNat_of_zero_le (show 0≤tk by omega);subst htn;have htl:tn < s.takers.length:=by rw [HM3.out];omega
    obtain ⟨gt,ot,hat,hgt,u1,u2⟩:=(HS.out.q3.keep k4).get htl;have HOUT:Hid (cL_ s.takers s.nextTag l ⟨tg,(tn:Int),qu,⟨sq,ky,bo,ag,de⟩⟩ = (decide (s.takers[tn].queue≠-1) && decide (s.takers[tn].queue = qu) && am_ ⟨sq,ky,bo,ag,de⟩)):=by
     show cL_ s.takers s.nextTag l ⟨tg,(tn:Int),qu,⟨sq,ky,bo,ag,de⟩⟩ = _;unfold cL_ as_;rw [HM3.out];dsimp only;rw [show decide (l < tg) = true from decide_eq_true (by omega),show decide (tg < s.nextTag) = true from decide_eq_true (by omega),show decide (0≤(tn:Int)∧(tn:Int) < (m3:Int)) = true from decide_eq_true (by omega),Int.toNat_natCast,List.getElem?_eq_getElem htl];simp
    obtain ⟨t,ht⟩:∃ t,t = s.takers[tn]:=⟨_,rfl⟩
    rw [← ht] at u1 u2 HOUT;obtain ⟨tq,tm⟩:=t;dsimp only at u1 u2 HOUT;subst hat;obtain ⟨z0,z1,z2,z3,z4,z5,z6,z7⟩:=aa_ (BX.out w4 k4);have i1:(0:Int)≤(tn:Int):=by omega
    have i2:(tn:Int) < m3:=by omega
    obtain ⟨W5,hW5⟩:∃ W5,W5 = w4.alloc (.cells #[.int .i64 tq,.int .i64 tm] 69):=⟨_,rfl⟩
    have HW5:=hidI hW5;have l5:Below w4.heap.size w4 W5:=by rw [hW5];exact (Below.refl _ _).alloc (Nat.le_refl _) _
    have k5:Below W1.heap.size W1 W5:=k4.trans (l5.mono s4);have HZ5:Hid (w4.heap.size+1 = W5.heap.size):=by show w4.heap.size+1 = W5.heap.size;rw [hW5];simp
    have HB5:=hidI ((l5.block wr.heap.size hw4s).trans HB4.out);clear hW5 ht b4 hw4 l4 y0 y1 y2 y3 y4 y5 y6 y7 e1 e2 e3 f0 f1 f2 f3 f4 htl hc1;go_wp2_with fail
    rw [← HW5.out];by_cases hc2:tq = -1∨tq≠qu
    ·have HNO:Hid (ap_ s.takers s.nextTag (-1) s.outs = false):=by
      show ap_ s.takers s.nextTag (-1) s.outs = false;rw [HSTEP.out,HOUT.out];have:(decide (tq≠-1) && decide (tq = qu)) = false:=by simp;omega
      rw [this];rfl
     refine (ax_ 1 [(tq == -1),(tq != qu)] _ _ (by simp) (bng_ W5 _ HZ5.out) (by simp;omega)).mono ?_;rintro e w6 ⟨rfl,hw6⟩;exact ⟨rfl,by rw [HD.out,HNO.out];rfl,by rw [hw6];exact hBw.trans ((k5.alloc k5.size _).mono s0)⟩
    ·refine (aG_ 1 [(tq == -1),(tq != qu)] _ _ (by simp) (bng_ W5 _ HZ5.out) (by simp;omega)).mono ?_;rintro e w6 ⟨rfl,hw6⟩;have l6:Below W5.heap.size W5 w6:=by rw [hw6];exact (Below.refl _ _).alloc (Nat.le_refl _) _
     have k6:Below W1.heap.size W1 w6:=k5.trans (l6.mono k5.size);have s6:=k6.size;have b6:=(l6.block wr.heap.size (lth_ HB5.out)).trans HB5.out;have HB6:=hidI b6;have HO2:Hid (ap_ s.takers s.nextTag (-1) s.outs = (am_ ⟨sq,ky,bo,ag,de⟩ && ap_ s.takers s.nextTag tg (s.outs.drop (k+1)))):=by
      show ap_ s.takers s.nextTag (-1) s.outs = _;rw [HSTEP.out,HOUT.out];have:(decide (tq≠-1) && decide (tq = qu)) = true:=by simp;omega
      rw [this];rfl
     have g3:=coc_ b6 3;have g4:=coc_ b6 4;have g5:=coc_ b6 5;have g6:=coc_ b6 6;have g7:=coc_ b6 7;simp at g3 g4 g5 g6 g7;obtain ⟨W7,hW7⟩:∃ W7,W7 = w6.alloc (.cells #[.int .i64 sq,.string ky,.string bo,.bool ag,.int .i64 de] 48):=⟨_,rfl⟩
     have HW7:=hidI hW7;have l7:Below w6.heap.size w6 W7:=by rw [hW7];exact (Below.refl _ _).alloc (Nat.le_refl _) _
     have k7:Below W1.heap.size W1 W7:=k6.trans (l7.mono s6);have HI7:Hid (ai_ W7 (some ⟨w6.heap.size,0,none⟩) [⟨sq,ky,bo,ag,de⟩]):=by show ai_ W7 _ _;rw [hW7];exact lI_ w6 ⟨sq,ky,bo,ag,de⟩
     have HB7:=hidI (pkp_ HB6.out l7);clear hW7 hw6 b6 g0 g1 g2 z0 z1 z2 z3 z4 z5 z6 z7 u1 u2 hc2;go_wp2_with fail
     rw [← HW7.out];refine (bu_ [⟨sq,ky,bo,ag,de⟩] _ _ _ _ rfl (by unfold maxLen;simp) HI7.out).mono ?_;rintro e w8 ⟨rfl,hB8⟩;have k8:Below W1.heap.size W1 w8:=k7.trans (hB8.mono k7.size);have s8:=k8.size;have HB8:=hidI (pkp_ HB7.out hB8);have k9:=k8.alloc s8 (.cells #[.int .i64 (bx_ [⟨sq,ky,bo,ag,de⟩])] 33);obtain ⟨ok,hok⟩:∃ ok,ok = am_ ⟨sq,ky,bo,ag,de⟩:=⟨_,rfl⟩
     rw [← hok] at HO2;unfold bx_ at k9 ⊢;rw [kL_,← hok] at k9 ⊢;clear hok hB8 g3 g4 g5 g6 g7;cases ok with
     | true =>
       simp only [if_true] at k9 ⊢;go_wp2_with (go_at_call 47;refine (d5_ _ _ (aQ_ _ _ _) (by simp)).mono ?_;rintro e w9 ⟨rfl,hB9⟩;have b9:=pkp_ (pkp_ HB8.out ((Below.refl _ _).alloc (Nat.le_refl _) _)) hB9;have g0:=coc_ b9 0;simp at g0)
       go_roundw
       case rel=>exact ⟨k+1,tg,by omega,by go_num,rfl,by rw [HO2.out];rfl,k9.trans (hB9.mono k9.size)⟩
       case measure=>simp [intOf];omega
     | false =>
       simp only [Bool.false_eq_true,if_false] at k9 ⊢;go_wp2_with (go_at_call 47;refine (dB_ 1 _ _ (aQ_ _ _ _) (by simp) (by decide)).mono ?_;rintro e w9 ⟨rfl,hB9⟩)
       exact ⟨rfl,by rw [HD.out,HO2.out];rfl,hBw.trans ((k9.trans (hB9.mono k9.size)).mono s0)⟩
  ·have hke:k = m2:=by omega
   subst hke;have HYES:Hid (ap_ s.takers s.nextTag (-1) s.outs = true):=by
    show ap_ s.takers s.nextTag (-1) s.outs = true;rw [HA.out,List.drop_eq_nil_of_le (by rw [HM2.out];exact Nat.le_refl _)];rfl
   clear hlt hk;go_wp2_with fail
   go_end0
   exact ⟨by rw [HD.out,HYES.out];rfl,hBw.trans (hB.mono s0)⟩
end Go.Proofs.YtlbnkpicnokgoaaGreat
namespace Go.Proofs.YtlbnkpicnokgoaaGreat
open Go.RowKit Go.Maps
set_option linter.unusedVariables false
set_option maxRecDepth 100000
set_option maxHeartbeats 1000000
theorem Tryz.infoNum:(Tryz.prog.info? 3).map (fun i=>(i.zero,i.size,i.bytes)) = some (some (.int .i64 0),1,8):=by kernel_rfl
def fq_ (W:World) (a:Option Addr) (zs:List Int):Prop:=zs = []∨∃ g,a = some ⟨g,0,none⟩∧g < W.heap.size∧∀ i (h:i < zs.length),W.cell? ⟨g,i,none⟩ = some (.int .i64 zs[i])
theorem fq_.keep {W W':World} {a:Option Addr} {zs:List Int} (h:fq_ W a zs) (hB:Below W.heap.size W W'):fq_ W' a zs:=by
 rcases h with h | ⟨g,ha,hg,h⟩
 ·exact .inl h
 ·exact .inr ⟨g,ha,Nat.lt_of_lt_of_le hg hB.size,fun i hi=>(hB.cell (p:=⟨g,i,none⟩) hg).trans (h i hi)⟩
theorem j4_ {W:World} {base:Nat} {u:Value} {zs:List Int} {n:Nat} (h:W.ownsRow base 3 1 u n (zs.map (Value.int .i64))):∃ a c,u = .slice a zs.length c∧fq_ W a zs:=by
 have hn:n = zs.length:=by have:=h.1;simp at this;omega
 subst hn;rcases h.2 with ⟨rfl,h0⟩ | ⟨g,cap,cur,rfl,hb,hg,h1,h2,_⟩
 ·have e:=List.length_eq_zero_iff.1 h0;exact ⟨none,0,by rw [h0],.inl e⟩
 ·refine ⟨_,cap,rfl,.inr ⟨g,rfl,lth_ hg,fun i hi=>?_⟩⟩;have:=h.cellAt i (by omega);rw [this,List.getElem?_map,List.getElem?_eq_getElem hi];rfl
theorem kW_ {W W':World} {a:Option Addr} {zs:List Int} {row:Option Nat} (h:fq_ W a zs) (hg:W.grownBy W' row) (hr:∀ g,a = some ⟨g,0,none⟩→¬ some g = row):fq_ W' a zs:=by
 rcases h with h | ⟨g,ha,hlt,h⟩
 ·exact .inl h
 ·have hb:=hg.block g hlt (hr g ha);refine .inr ⟨g,ha,Nat.lt_of_lt_of_le hlt hg.size,fun i hi=>?_⟩;rw [← h i hi];unfold World.cell?;simp only [hb]
theorem fJ_ (w:World) (v:Value) (t:TypeId):∀ j u,([v]:List Value)[j]? = some u→(w.alloc (.cells #[v] t)).cell? ((⟨w.heap.size,0,none⟩:Addr).add j) = some u:=by
 intro j u hj;match j,hj with
 | 0, hj =>
   simp at hj;subst hj;have:(⟨w.heap.size,0,none⟩:Addr).add 0 = ⟨w.heap.size,0,none⟩:=by unfold Addr.add;split <;> simp_all
   rw [this];exact aQ_ w _ t
 | j+1,hj=>simp at hj
theorem h1_ (w:World) (A:Obj) (v:Value) (t:TypeId):∀ j u,([v]:List Value)[j]? = some u→((w.alloc A).alloc (.cells #[v] t)).cell? ((⟨w.heap.size+1,0,none⟩:Addr).add j) = some u:=by
 have:=fJ_ (w.alloc A) v t;rw [World.size_alloc] at this;exact this
theorem ke_ (s:ab_) (b1 b2 b3:Option Addr) (m1 d1 m2 d2 m3 d3:Nat) (w:World) (hs:an_ w b1 b2 b3 m1 m2 m3 s) (hb:(ar_ s).length≤100000000) :
 Calls Tryz.prog 95 #[.agg #[.slice b1 m1 d1,.slice b2 m2 d2,.slice b3 m3 d3,.int .i64 s.nextSeq,.int .i64 s.nextTag,.int .i64 s.came,.int .i64 s.acked,.int .i64 s.dropped]] w fun e w'=>∃ a c,e = .returned (.slice a (ar_ s).length c)∧fq_ w' a (ar_ s)∧(∀ g,a = some ⟨g,0,none⟩→w.heap.size≤g)∧Below w.heap.size w w':=by
 obtain ⟨i3,hi3,hy0,hy1,hy2⟩:=info_parts Tryz.infoNum;obtain ⟨W1,hW1,hBw,hs1,hbx⟩:=dz_ w #[.slice b1 m1 d1,.slice b2 m2 d2,.slice b3 m3 d3,.int .i64 s.nextSeq,.int .i64 s.nextTag,.int .i64 s.came,.int .i64 s.acked,.int .i64 s.dropped];have HW1:=hidI hW1;have BX:=hidI hbx;have HS:=hidI (hs.keep hBw);have HM1:Hid (s.ready.length = m1):=hs.l1;have HM2:Hid (s.outs.length = m2):=hs.l2;have hx1:=hs.x1;have hx2:=hs.x2;have HBD:=hidI hb;unfold maxLen at hx1;have s0:=hBw.size;have hs1':w.heap.size < W1.heap.size:=by omega
 obtain ⟨y0,y1,y2,y3,y4,y5,y6,y7⟩:=aa_ (hbx W1 (Below.refl _ _));obtain ⟨Q,hQ⟩:∃ Q,Q = ar_ s:=⟨_,rfl⟩
 obtain ⟨O,hO⟩:∃ O,O = s.outs.map (fun o=>o.item.seq):=⟨_,rfl⟩
 have HQO:Hid (Q = s.ready.flatMap (fun l=>l.map ae_.seq) ++ O):=by show Q = _;rw [hQ,hO];rfl
 rw [← hQ] at HBD ⊢;have HO:=hidI hO;clear hW1 hbx hs1 hs hb hQ hO;go_enter Tryz.func95,Tryz.ntmps95;go_wp2_with fail
 rw [← HW1.out];go_loopw [3,5,7,13,19] (fun u _ _ i _ wr=>∃ (k:Nat) (L:List Int),k≤m1∧i = .int .i64 k∧wr.ownsRow W1.heap.size 3 1 u L.length (L.map (Value.int .i64))∧L ++ ((s.ready.drop k).flatMap (fun l=>l.map ae_.seq) ++ O) = Q∧Below W1.heap.size W1 wr) (fun _ _ _ i _ _=>m1 - (intOf i).toNat)
 case atStart=>exact ⟨0,[],Nat.zero_le _,rfl,World.ownsRow_nil _ _ _ _,by rw [HQO.out];rfl,Below.refl _ _⟩
 case round=>
  obtain ⟨k,L,hk,rfl,hrow,hL,hB⟩:=hrel;have HL:=hidI hL;have hBs:=hB.size;clear hL y0 y1 y2 y3 y4 y5 y6 y7;obtain ⟨y0,y1,y2,y3,y4,y5,y6,y7⟩:=aa_ (BX.out wr hB);by_cases hlt:k < m1
  ·have HLT:=hidI hlt;have hkl:k < s.ready.length:=by rw [HM1.out];exact hlt
   obtain ⟨g,o,b,c,ha,hg,hl⟩:=HS.out.q1.get hkl;have hdr:s.ready.drop k = s.ready[k] :: s.ready.drop (k+1):=List.drop_eq_getElem_cons hkl;subst ha;have e1:=(hl.keep hg hB).cell;have HLI:=hidI hl;obtain ⟨xs,hxs⟩:∃ xs,xs = s.ready[k]:=⟨_,rfl⟩
   rw [← hxs] at HLI e1 hdr;obtain ⟨R,hR⟩:∃ R,R = (s.ready.drop (k+1)).flatMap (fun l=>l.map ae_.seq) ++ O:=⟨_,rfl⟩
   have HL2:Hid (L ++ (xs.map ae_.seq ++ R) = Q):=by
    show L ++ (xs.map ae_.seq ++ R) = Q;rw [← HL.out,hdr,hR,List.flatMap_cons,List.append_assoc]
   have HR:=hidI hR;obtain ⟨n,hn⟩:∃ n,n = xs.length:=⟨_,rfl⟩
   rw [← hn] at e1;have HN:=hidI hn;have hnm:n≤9223372036854775807:=by have h1:=HLI.out.le;have h2:=HLI.out.cm;unfold maxLen at h2;omega
   have j1:(0:Int)≤(k:Int):=by omega
   have j2:(k:Int) < m1:=by omega
   clear hl hxs hn hdr hR;go_wp2_with fail
   go_loopw [3,7,19] (fun u _ i wr=>∃ (j:Nat) (L:List Int),j≤n∧i = .int .i64 j∧wr.ownsRow W1.heap.size 3 1 u L.length (L.map (Value.int .i64))∧L ++ ((xs.drop j).map ae_.seq ++ R) = Q∧Below W1.heap.size W1 wr) (fun _ _ i _=>n - (intOf i).toNat)
   case atStart=>exact ⟨0,L,Nat.zero_le _,rfl,hrow,HL2.out,hB⟩
   case round=>
    clear HL2 HL hrow;obtain ⟨j,L,hj,rfl,hrow,hL,hBj⟩:=hrel;have HL:=hidI hL;have s7:=hBj.size;clear hL;by_cases hjl:j < n
    ·have HJL:=hidI hjl;have hjx:j < xs.length:=by rw [← HN.out];exact hjl
     have hdr:xs.drop j = xs[j] :: xs.drop (j+1):=List.drop_eq_getElem_cons hjx;rcases HLI.out.it.keep hBj with h | ⟨gx,ox,hax,hgx,hxx⟩
     ·rw [h] at hjx;simp at hjx
     obtain ⟨f0,f1,f2,f3,f4⟩:=hxx j hjx;subst hax;obtain ⟨x,hx⟩:∃ x,x = xs[j]:=⟨_,rfl⟩
     rw [← hx] at f0 f1 f2 f3 f4 hdr;obtain ⟨sq,ky,bo,ag,de⟩:=x;dsimp only at f0 f1 f2 f3 f4;have HL3:Hid ((L ++ [sq]) ++ ((xs.drop (j+1)).map ae_.seq ++ R) = Q):=by
      show (L ++ [sq]) ++ ((xs.drop (j+1)).map ae_.seq ++ R) = Q;rw [← HL.out,hdr];simp
     have hLn:L.length+1≤100000000:=by
      have:=HBD.out;rw [← HL3.out] at this;simp at this;omega
     obtain ⟨m,hm⟩:∃ m,m = L.length:=⟨_,rfl⟩
     rw [← hm] at hrow hLn;have HM:=hidI hm;have i1:(0:Int)≤(j:Int):=by omega
     have i2:(j:Int) < n:=by omega
     clear hx hdr hxx hm;go_wp2_with (at_builtin;refine wpList_append_own _ rfl _ _ 32 rfl W1.heap.size 3 i3 (.int .i64 0) 1 8 Tryz.underlying32 hi3 hy0 hy1 hy2 rfl (by decide) _ _ _ rfl ((hrow.alloc _).alloc _) ⟨wr.heap.size+1,0,none⟩ 1 1 [.int .i64 sq] rfl rfl (h1_ _ _ _ _) (by simp [Value.oneCell']) (by unfold maxLen;omega) (by omega) (by simp;omega) ?_;intro v' w9 hown' hgrow _;have hB9:Below W1.heap.size W1 w9:=((hBj.alloc s7 _).alloc (by simp;omega) _).grown hgrow (by simp;omega) (ch_ hrow))
     go_roundw
     case rel=>exact ⟨j+1,L ++ [sq],HJL.out,by have:=HJL.out;go_num,by rw [List.length_append,List.map_append,← HM.out];exact hown',HL3.out,hB9⟩
     case measure=>have:=HJL.out;simp [intOf];omega
    ·have hje:j = n:=by omega
     subst hje;have HL3:Hid (L ++ ((s.ready.drop (k+1)).flatMap (fun l=>l.map ae_.seq) ++ O) = Q):=by
      show L ++ _ = Q;have:=HL.out;rw [List.drop_eq_nil_of_le (by rw [← HN.out];exact Nat.le_refl _),HR.out] at this;exact this
     clear hjl hj;go_wp2_with fail
     go_roundw
     case rel=>exact ⟨k+1,L,HLT.out,by have:=HLT.out;go_num,hrow,HL3.out,hBj⟩
     case measure=>have:=HLT.out;simp [intOf];omega
  ·have hke:k = m1:=by omega
   subst hke;have HL3:Hid (L ++ O = Q):=by
    show L ++ O = Q;have:=HL.out;rw [List.drop_eq_nil_of_le (by rw [HM1.out];exact Nat.le_refl _)] at this;exact this
   clear hlt hk HL;go_wp2_with fail
   go_loopw [3,9,33] (fun u _ i wr=>∃ (j:Nat) (L:List Int),j≤m2∧i = .int .i64 j∧wr.ownsRow W1.heap.size 3 1 u L.length (L.map (Value.int .i64))∧L ++ (s.outs.drop j).map (fun o=>o.item.seq) = Q∧Below W1.heap.size W1 wr) (fun _ _ i _=>m2 - (intOf i).toNat)
   case atStart=>exact ⟨0,L,Nat.zero_le _,rfl,hrow,by rw [← HL3.out,HO.out];rfl,hB⟩
   case round=>
    clear HL3 hrow y0 y1 y2 y3 y4 y5 y6 y7;obtain ⟨j,L,hj,rfl,hrow,hL,hBj⟩:=hrel;have HL:=hidI hL;have s7:=hBj.size;clear hL;by_cases hjl:j < m2
    ·have HJL:=hidI hjl;have hjx:j < s.outs.length:=by rw [HM2.out];exact hjl
     have hdr:s.outs.drop j = s.outs[j] :: s.outs.drop (j+1):=List.drop_eq_getElem_cons hjx;obtain ⟨gx,ox,hax,hgx,e1,e2,e3,e4⟩:=(HS.out.q2.keep hBj).get hjx;subst hax;obtain ⟨x,hx⟩:∃ x,x = s.outs[j]:=⟨_,rfl⟩
     rw [← hx] at e1 e2 e3 e4 hdr;obtain ⟨tg,tk,qu,it⟩:=x;obtain ⟨sq,ky,bo,ag,de⟩:=it;obtain ⟨f0,f1,f2,f3,f4⟩:=e4;dsimp only at e1 e2 e3 f0 f1 f2 f3 f4;have HL3:Hid ((L ++ [sq]) ++ (s.outs.drop (j+1)).map (fun o=>o.item.seq) = Q):=by
      show (L ++ [sq]) ++ _ = Q;rw [← HL.out,hdr];simp
     have hLn:L.length+1≤100000000:=by
      have:=HBD.out;rw [← HL3.out] at this;simp at this;omega
     obtain ⟨m,hm⟩:∃ m,m = L.length:=⟨_,rfl⟩
     rw [← hm] at hrow hLn;have HM:=hidI hm;have i1:(0:Int)≤(j:Int):=by omega
     have i2:(j:Int) < m2:=by omega
     clear hx hdr hm;go_wp2_with (at_builtin;refine wpList_append_own _ rfl _ _ 32 rfl W1.heap.size 3 i3 (.int .i64 0) 1 8 Tryz.underlying32 hi3 hy0 hy1 hy2 rfl (by decide) _ _ _ rfl ((hrow.alloc _).alloc _) ⟨wr.heap.size+1,0,none⟩ 1 1 [.int .i64 sq] rfl rfl (h1_ _ _ _ _) (by simp [Value.oneCell']) (by unfold maxLen;omega) (by omega) (by simp;omega) ?_;intro v' w9 hown' hgrow _;have hB9:Below W1.heap.size W1 w9:=((hBj.alloc s7 _).alloc (by simp;omega) _).grown hgrow (by simp;omega) (ch_ hrow))
     go_roundw
     case rel=>exact ⟨j+1,L ++ [sq],HJL.out,by have:=HJL.out;go_num,by rw [List.length_append,List.map_append,← HM.out];exact hown',HL3.out,hB9⟩
     case measure=>have:=HJL.out;simp [intOf];omega
    ·have hje:j = m2:=by omega
     subst hje;have HL3:L = Q:=by
      have:=HL.out;rw [List.drop_eq_nil_of_le (by rw [HM2.out];exact Nat.le_refl _)] at this;simpa using this
     subst HL3;obtain ⟨a,c,rfl,hI⟩:=j4_ hrow;have HI:=hidI hI;have HGE:Hid (∀ g,a = some ⟨g,0,none⟩→w.heap.size≤g):=fun g e=>by subst e;exact Nat.le_trans s0 (ch_ hrow g rfl)
     clear hrow hI hjl hj HL;go_wp2_with fail
     go_ret
     exact ⟨a,c,rfl,HI.out,HGE.out,hBw.trans (hBj.mono s0)⟩
theorem if_ (xs:List OutD) (t:Int) {k:Nat} (h:k < xs.length):((xs.take (k+1)).filter (fun o=>decide (o.taker = t))).length = ((xs.take k).filter (fun o=>decide (o.taker = t))).length+(if xs[k].taker = t then 1 else 0):=by
 rw [List.take_succ_eq_append_getElem h,List.filter_append,List.length_append];by_cases e:xs[k].taker = t <;> simp [e]
theorem jZ_ (s:ab_) (b1 b2 b3:Option Addr) (m1 d1 m2 d2 m3 d3:Nat) (t:Int) (w:World) (hs:an_ w b1 b2 b3 m1 m2 m3 s) :
 Calls Tryz.prog 96 #[.agg #[.slice b1 m1 d1,.slice b2 m2 d2,.slice b3 m3 d3,.int .i64 s.nextSeq,.int .i64 s.nextTag,.int .i64 s.came,.int .i64 s.acked,.int .i64 s.dropped],.int .i64 t] w fun e w'=>e = .returned (.int .i64 (heldN s t))∧Below w.heap.size w w':=by
 obtain ⟨W1,hW1,hBw,hs1,hbx⟩:=dz_ w #[.slice b1 m1 d1,.slice b2 m2 d2,.slice b3 m3 d3,.int .i64 s.nextSeq,.int .i64 s.nextTag,.int .i64 s.came,.int .i64 s.acked,.int .i64 s.dropped];have HW1:=hidI hW1;have BX:=hidI hbx;have HS:=hidI (hs.keep hBw);have HM2:Hid (s.outs.length = m2):=hs.l2;have hx2:=hs.x2;have s0:=hBw.size;obtain ⟨y0,y1,y2,y3,y4,y5,y6,y7⟩:=aa_ (hbx W1 (Below.refl _ _));clear hW1 hbx hs1 hs;go_enter Tryz.func96,Tryz.ntmps96;go_wp2_with fail
 rw [← HW1.out];go_loopw [5,7,11] (fun u _ i wr=>∃ (k n:Nat),k≤m2∧i = .int .i64 k∧u = .int .i64 n∧n≤k∧n = ((s.outs.take k).filter (fun o=>decide (o.taker = t))).length∧Below W1.heap.size W1 wr) (fun _ _ i _=>m2 - (intOf i).toNat)
 case atStart=>exact ⟨0,0,Nat.zero_le _,rfl,rfl,Nat.le_refl _,rfl,Below.refl _ _⟩
 case round=>
  obtain ⟨k,n,hk,rfl,rfl,hnk,hn,hB⟩:=hrel;have HN:=hidI hn;have hBs:=hB.size;clear hn y0 y1 y2 y3 y4 y5 y6 y7;by_cases hlt:k < m2
  ·have HLT:=hidI hlt;have hkl:k < s.outs.length:=by rw [HM2.out];exact hlt
   obtain ⟨g,o,ha,hg,e1,e2,e3,e4⟩:=(HS.out.q2.keep hB).get hkl;subst ha;have HST:=hidI (if_ s.outs t hkl);obtain ⟨x,hx⟩:∃ x,x = s.outs[k]:=⟨_,rfl⟩
   rw [← hx] at e1 e2 e3 e4 HST;obtain ⟨tg,tk,qu,it⟩:=x;obtain ⟨sq,ky,bo,ag,de⟩:=it;obtain ⟨f0,f1,f2,f3,f4⟩:=e4;dsimp only at e1 e2 e3 f0 f1 f2 f3 f4 HST;rw [← HN.out] at HST;have j1:(0:Int)≤(k:Int):=by omega
   have j2:(k:Int) < m2:=by omega
   clear hx;by_cases htk:tk = t
   ·have hb:(tk == t) = true:=by simpa using htk
    rw [if_pos htk] at HST;clear htk;go_wp2_with fail
    go_roundw
    case rel=>exact ⟨k+1,n+1,HLT.out,by have:=HLT.out;go_num,by have:=HLT.out;go_num,by omega,HST.out.symm,hB.alloc hBs _⟩
    case measure=>have:=HLT.out;simp [intOf];omega
   ·have hb:(tk == t) = false:=by simpa using htk
    rw [if_neg htk] at HST;clear htk;go_wp2_with fail
    go_roundw
    case rel=>exact ⟨k+1,n,HLT.out,by have:=HLT.out;go_num,rfl,by omega,HST.out.symm,hB.alloc hBs _⟩
    case measure=>have:=HLT.out;simp [intOf];omega
  ·have hke:k = m2:=by omega
   subst hke;clear hlt hk;go_wp2_with fail
   go_ret
   refine ⟨?_,hBw.trans (hB.mono s0)⟩;have:n = heldN s t:=by
    have:=HN.out;rw [List.take_of_length_le (by rw [HM2.out];exact Nat.le_refl _)] at this;exact this
   show Ending.returned (Value.int .i64 (n:Nat)) = _;rw [this]
end Go.Proofs.YtlbnkpicnokgoaaGreat
