import Derived.RegionTactic
import Derived.Deep.QuietTactic
import Derived.BigQuiet
import Derived.Test.YtlbnkpicnokgoaaGreatSfx
import Derived.Lib.SliceRun
import Derived.Maps.OwnOps
import Derived.Test.YtlbnkpicnokgoaaGreatSdx
namespace Go.Proofs.YtlbnkpicnokgoaaGreat
open Go.RowKit
set_option linter.unusedVariables false
set_option maxRecDepth 100000
set_option maxHeartbeats 2000000
def aI_ (W:World) (g:Nat) (zs:List Int):Prop:=∃ cur,W.heap[g]? = some (.cells cur 3 (0,0))∧∀ i (h:i < zs.length),cur[i]? = some (.int .i64 zs[i])
theorem aI_.lt {W:World} {g:Nat} {zs:List Int} (h:aI_ W g zs):g < W.heap.size:=by obtain ⟨cur,h1,_⟩:=h;exact (Array.getElem?_eq_some_iff.1 h1).1
theorem aI_.cell {W:World} {g:Nat} {zs:List Int} (h:aI_ W g zs) {i:Nat} (hi:i < zs.length):W.cell? ⟨g,i,none⟩ = some (.int .i64 zs[i]):=by
 obtain ⟨cur,h1,h2⟩:=h;rw [aO_ h1,h2 i hi]
theorem aI_.free {W:World} {g:Nat} {zs:List Int} (h:aI_ W g zs) (i:Nat):W.frozen? ⟨g,i,none⟩ = false:=by
 obtain ⟨cur,h1,_⟩:=h;simp [World.frozen?,h1]
theorem aI_.keep {W W':World} {g:Nat} {zs:List Int} (h:aI_ W g zs) (e:W'.heap[g]? = W.heap[g]?):aI_ W' g zs:=by
 obtain ⟨cur,h1,h2⟩:=h;exact ⟨cur,e.trans h1,h2⟩
theorem aI_.set {W:World} {g:Nat} {zs:List Int} (h:aI_ W g zs) {i:Nat} (hi:i < zs.length) (x:Int):aI_ (W.setCell ⟨g,i,none⟩ (.int .i64 x)) g (zs.set i x):=by
 obtain ⟨cur,h1,h2⟩:=h;refine ⟨_,heap_setCell_same W g i cur 3 _ h1,fun j hj=>?_⟩;rw [List.length_set] at hj;by_cases e:i = j
 ·subst e;have hc:=h2 i hi;have hlt:=(Array.getElem?_eq_some_iff.1 hc).1;simp [hlt]
 ·rw [Array.getElem?_setIfInBounds_ne e,h2 j hj,List.getElem_set_ne e]
theorem cW_ (W:World) (g i:Nat) (v:Value):Turn (fun k=>k = g) W (W.setCell ⟨g,i,none⟩ v):=
 ⟨rfl,rfl,rfl,by simp [World.setCell],fun k _ hk=>Below.heap_setCell _ _ _ _ (fun e=>hk (by first | exact e | exact e.symm))⟩
theorem kY_ (x:Int) (w:World):Calls Tryz.prog 207 #[.int .i64 x] w fun e w'=>e = .returned (.bool false)∧w' = w:=by
 go_enter Tryz.func207,Tryz.ntmps207;go_wp2
 go_ret
 exact ⟨rfl,rfl⟩
theorem g7_ (x y:Int) (w:World):Calls Tryz.prog 188 #[.int .i64 x,.int .i64 y] w fun e w'=>e = .returned (.bool (decide (x < y)))∧w' = w:=by
 go_enter Tryz.func188,Tryz.ntmps188;go_wp2_with (go_at_call 207;refine (kY_ _ _).mono ?_;rintro e w' ⟨rfl,rfl⟩)
 go_ret
 exact ⟨rfl,rfl⟩
def bU_ (ys:List Int) (k:Nat):Prop:=∀ a b (hab:a < b) (hb:b < ys.length),b < k→ys[a]'(Nat.lt_trans hab hb)≤ys[b]
structure dn_ (ys:List Int) (j k:Nat):Prop where
 rise:∀ a b (hab:a < b) (hb:b < ys.length),b≤k→a≠j→b≠j→ys[a]'(Nat.lt_trans hab hb)≤ys[b]
 least:∀ b (hjb:j < b) (hb:b < ys.length),b≤k→ys[j]'(Nat.lt_trans hjb hb)≤ys[b]
theorem dn_.start {ys:List Int} {k:Nat} (h:bU_ ys k):dn_ ys k k:=⟨fun a b hab hb hk ha hb'=>h a b hab hb (by omega),fun b h1 hb h2=>by omega⟩
theorem dn_.done {ys:List Int} {j k:Nat} (h:dn_ ys j k) (hj:∀ (h0:0 < j) (h1:j < ys.length),ys[j - 1]'(by omega)≤ys[j]):bU_ ys (k+1):=by
 intro a b hab hb hk;by_cases ha:a = j
 ·subst ha;exact h.least b hab hb (by omega)
 ·by_cases hb':b = j
  ·subst hb';have h1:=hj (by omega) hb;by_cases e:a = b - 1
   ·subst e;exact h1
   ·exact Int.le_trans (h.rise a (b - 1) (by omega) (by omega) (by omega) ha (by omega)) h1
  ·exact h.rise a b hab hb (by omega) ha hb'
def fW_ (ys:List Int) (j:Nat) (h:j+1 < ys.length):List Int:=(ys.set (j+1) ys[j]).set j ys[j+1]
theorem fX_ (ys:List Int) (j:Nat) (h:j+1 < ys.length):(fW_ ys j h).length = ys.length:=by simp [fW_]
theorem ko_ (ys:List Int) (j:Nat) (h:j+1 < ys.length):(fW_ ys j h).Perm ys:=by
 have h1:=Array.swap_perm (xs:=ys.toArray) (i:=j+1) (j:=j) (by simpa using h) (by simp;omega);have h2:=h1.toList;rw [Array.toList_swap] at h2;simpa [fW_] using h2
theorem eu_ (ys:List Int) (j:Nat) (h:j+1 < ys.length) (a:Nat) (ha:a < ys.length):(fW_ ys j h)[a]'(by rw [fX_];exact ha) = if a = j then ys[j+1] else if a = j+1 then ys[j] else ys[a]:=by
 unfold fW_;by_cases e:j = a
 ·subst e;simp
 ·by_cases e2:j+1 = a
  ·subst e2;simp
  ·have e':¬ a = j:=fun h=>e h.symm
   have e2':¬ a = j+1:=fun h=>e2 h.symm
   simp [e,e2,e',e2']
theorem dn_.swap {ys:List Int} {j k:Nat} (h:dn_ ys (j+1) k) (hj:j+1 < ys.length) (hk:j+1≤k) (hlt:ys[j+1] < ys[j]):dn_ (fW_ ys j hj) j k:=by
 constructor
 ·intro a b hab hb hbk ha hb';have hb2:b < ys.length:=by rw [fX_] at hb;exact hb
  rw [eu_ ys j hj a (by omega),eu_ ys j hj b hb2,if_neg ha,if_neg hb'];by_cases e1:a = j+1
  ·rw [if_pos e1,if_neg (by omega)];exact h.rise j b (by omega) hb2 hbk (by omega) (by omega)
  ·rw [if_neg e1];by_cases e2:b = j+1
   ·rw [if_pos e2];exact h.rise a j (by omega) (by omega) (by omega) e1 (by omega)
   ·rw [if_neg e2];exact h.rise a b hab hb2 hbk e1 e2
 ·intro b hjb hb hbk;have hb2:b < ys.length:=by rw [fX_] at hb;exact hb
  rw [eu_ ys j hj j (by omega),eu_ ys j hj b hb2,if_pos rfl,if_neg (by omega)];by_cases e2:b = j+1
  ·rw [if_pos e2];omega
  ·rw [if_neg e2];exact h.least b (by omega) hb2 hbk
theorem nr_ (zs:List Int) (g n c:Nat) (w:World) (hn:zs.length = n) (h12:n≤12) (hrow:aI_ w g zs) :
 Calls Tryz.prog 182 #[.slice (some ⟨g,0,none⟩) n c,.int .i64 0,.int .i64 n] w fun e w'=>(∃ v,e = .returned v)∧∃ ys,ys.Perm zs∧bU_ ys n∧aI_ w' g ys∧Turn (fun k=>k = g) w w':=by
 have HN:Hid (zs.length = n):=hn;clear hn;go_enter Tryz.func182,Tryz.ntmps182;go_wp2
 go_loopw [6,7] (fun i _ wr=>∃ (k:Nat) (ys:List Int),1≤k∧(k≤n∨k = 1)∧i = .int .i64 k∧ys.Perm zs∧bU_ ys k∧aI_ wr g ys∧Turn (fun k=>k = g) w wr) (fun i _ _=>n - (intOf i).toNat)
 case atStart=>exact ⟨1,zs,by omega,.inr rfl,rfl,List.Perm.refl _,fun a b h1 hb h2=>by omega,hrow,Turn.refl _ _⟩
 case round=>
  obtain ⟨k,ys,hk1,hk2,rfl,hpm,hso,hrw,htn⟩:=hrel;have hyl:ys.length = n:=by rw [hpm.length_eq,HN.out]
  have HPS:Hid (ys.Perm zs∧bU_ ys k∧ys.length = n):=⟨hpm,hso,hyl⟩;clear hpm hso hyl;by_cases hlt:k < n
  ·go_wp2
   go_loopw [7] (fun jv wr2=>∃ (j:Nat) (ys:List Int),j≤k∧jv = .int .i64 j∧ys.Perm zs∧dn_ ys j k∧aI_ wr2 g ys∧Turn (fun k=>k = g) w wr2) (fun jv _=>(intOf jv).toNat)
   case atStart=>exact ⟨k,ys,Nat.le_refl _,rfl,HPS.out.1,dn_.start HPS.out.2.1,hrw,htn⟩
   case round=>
    clear hrw htn HPS ys;obtain ⟨j,ys,hjk,rfl,hpm,hbo,hrw,htn⟩:=hrel;have hyl:ys.length = n:=by rw [hpm.length_eq,HN.out]
    have HPS:Hid (ys.Perm zs∧dn_ ys j k∧ys.length = n):=⟨hpm,hbo,hyl⟩;rcases Nat.eq_zero_or_pos j with hj0 | hj0
    ·subst hj0;have HF:Hid (bU_ ys (k+1)):=hbo.done (fun h _=>by omega);clear hpm hbo hyl;go_wp2
     go_quiet ((go_at_call 188;exact Calls.quiet_of_same (g7_ _ _ _)))
     go_wp2
     go_roundw
     case rel=>exact ⟨k+1,ys,by omega,.inl (by omega),by go_num,HPS.out.1,HF.out,hrw.keep rfl,⟨htn.os,htn.tape,htn.output,htn.size,htn.block⟩⟩
     case measure=>simp [intOf];omega
    ·obtain ⟨j',rfl⟩:∃ j',j = j' + 1:=⟨j - 1,by omega⟩
     have hjl:j' + 1 < ys.length:=by omega
     have c1:=hrw.cell hjl;have c0:=hrw.cell (show j' < ys.length by omega);have f1:=hrw.free (j' + 1);have f0:=hrw.free j';obtain ⟨x1,hx1⟩:∃ x,x = ys[j' + 1]:=⟨_,rfl⟩
     obtain ⟨x0,hx0⟩:∃ x,x = ys[j']:=⟨_,rfl⟩
     rw [← hx1] at c1;rw [← hx0] at c0;have HX:Hid (x1 = ys[j' + 1]∧x0 = ys[j']):=⟨hx1,hx0⟩;have j1:(j':Int)+1 < n:=by omega
     have j0:(j':Int) < n:=by omega
     have jz:(0:Int) < (j':Int)+1:=by omega
     have jz2:(0:Int)≤(j':Int)+1:=by omega
     have jw:IntKind.i64.wrap ((j':Int)+1 - 1) = (j':Int):=by rw [IntKind.wrap_i64];omega
     have jw2:IntKind.i64.wrap (j':Int) = (j':Int):=by rw [IntKind.wrap_i64];omega
     by_cases hless:x1 < x0
     ·have hd:decide (x1 < x0) = true:=by simpa using hless
      have HB:Hid (dn_ (fW_ ys j' hjl) j' k):=hbo.swap hjl hjk (by rw [← hx1,← hx0];exact hless);clear hpm hbo hyl hx1 hx0 hless;go_wp2
      go_quiet ((go_at_call 188;exact Calls.quiet_of_same (g7_ _ _ _)))
      go_wp2_with fail
      go_region
      go_wp2
      have hrw2:aI_ (((wr.drewN (nq+1)).setCell ⟨g,j' + 1,none⟩ (.int .i64 x0)).setCell ⟨g,j',none⟩ (.int .i64 x1)) g (fW_ ys j' hjl):=by
       have hr1:aI_ (wr.drewN (nq+1)) g ys:=hrw.keep rfl;have hr2:=hr1.set hjl x0;have hr3:=hr2.set (i:=j') (by rw [List.length_set];omega) x1;unfold fW_;rw [← HX.out.1,← HX.out.2];exact hr3
      have htn2:Turn (fun k=>k = g) w (((wr.drewN (nq+1)).setCell ⟨g,j' + 1,none⟩ (.int .i64 x0)).setCell ⟨g,j',none⟩ (.int .i64 x1)):=by
       have t0:Turn (fun k=>k = g) w (wr.drewN (nq+1)):=⟨htn.os,htn.tape,htn.output,htn.size,htn.block⟩;exact (t0.trans (cW_ _ _ _ _) (fun _ _ e=>e)).trans (cW_ _ _ _ _) (fun _ _ e=>e)
      go_roundw
      case rel=>exact ⟨j',fW_ ys j' hjl,by omega,by go_num,(ko_ ys j' hjl).trans HPS.out.1,HB.out,hrw2,htn2⟩
      case measure=>simp [intOf]
     ·have hd:decide (x1 < x0) = false:=by simpa using hless
      have HF:Hid (bU_ ys (k+1)):=hbo.done (fun _ _=>by simp only [Nat.add_sub_cancel];rw [← hx1,← hx0];omega);clear hpm hbo hyl hx1 hx0 hless;go_wp2
      go_quiet ((go_at_call 188;exact Calls.quiet_of_same (g7_ _ _ _)))
      go_wp2
      go_roundw
      case rel=>exact ⟨k+1,ys,by omega,.inl (by omega),by go_num,HPS.out.1,HF.out,hrw.keep rfl,⟨htn.os,htn.tape,htn.output,htn.size,htn.block⟩⟩
      case measure=>simp [intOf];omega
  ·go_wp2
   go_end0
   exact ⟨⟨_,rfl⟩,ys,HPS.out.1,fun a b h1 hb h2=>HPS.out.2.1 a b h1 hb (by have:=HPS.out.2.2;omega),hrw,htn⟩
theorem k5_ (n:Nat) (w:World) (h12:n≤12):Calls Tryz.prog 192 #[.int .u64 n] w fun e w'=>(∃ k:Int,e = .returned (.int .i64 k))∧w' = w:=by
 have h:n = 0∨n = 1∨n = 2∨n = 3∨n = 4∨n = 5∨n = 6∨n = 7∨n = 8∨n = 9∨n = 10∨n = 11∨n = 12:=by omega
 rcases h with rfl | rfl | rfl | rfl | rfl | rfl | rfl | rfl | rfl | rfl | rfl | rfl | rfl
 all_goals
  go_enter Tryz.func192,Tryz.ntmps192;go_wp2
  go_ret
  exact ⟨⟨_,rfl⟩,rfl⟩
theorem k7_ (n:Nat) (w:World) (h12:n≤12):Calls Tryz.prog 168 #[.int .u64 n] w fun e w'=>(∃ k:Int,e = .returned (.int .i64 k))∧w' = w:=by
 go_enter Tryz.func168,Tryz.ntmps168;go_wp2_with (go_at_call 192;refine (k5_ _ _ h12).mono ?_;rintro e w' ⟨⟨k,rfl⟩,rfl⟩)
 go_ret
 exact ⟨⟨_,rfl⟩,rfl⟩
theorem ny_ (zs:List Int) (g n c:Nat) (k:Int) (w:World) (hn:zs.length = n) (h12:n≤12) (hrow:aI_ w g zs) :
 Calls Tryz.prog 167 #[.slice (some ⟨g,0,none⟩) n c,.int .i64 0,.int .i64 n,.int .i64 k] w fun e w'=>(∃ v,e = .returned v)∧∃ ys,ys.Perm zs∧bU_ ys n∧aI_ w' g ys∧Turn (fun k=>k = g) w w':=by
 have HI:=g2_ (nr_ zs g n c w hn h12 hrow);have h12':(n:Int)≤12:=by omega
 have hw:IntKind.i64.wrap ((n:Int) - 0) = (n:Int):=by rw [IntKind.wrap_i64];omega
 clear hn hrow h12;go_enter Tryz.func167,Tryz.ntmps167;go_wp2_with fail
 go_loopw [1,2] (fun x y wr=>x = .int .i64 0∧y = .int .i64 n∧wr = w) (fun _ _ _=>0)
 case atStart=>exact ⟨rfl,rfl,rfl⟩
 case round=>
  obtain ⟨rfl,rfl,rfl⟩:=hrel;go_wp2_with fail
  refine HI.out.mono ?_;rintro e w2 ⟨⟨u,rfl⟩,hr⟩;go_wp2_with fail
  refine bodyPost_ret (results_none rfl _ _ _) rfl ?_;exact ⟨⟨_,rfl⟩,hr⟩
theorem mS_ (zs:List Int) (g n c:Nat) (w:World) (hn:zs.length = n) (h12:n≤12) (hrow:aI_ w g zs) :
 Calls Tryz.prog 137 #[.slice (some ⟨g,0,none⟩) n c] w fun e w'=>(∃ v,e = .returned v)∧∃ ys,ys.Perm zs∧bU_ ys n∧aI_ w' g ys∧Turn (fun k=>k = g) w w':=by
 have HI:=g2_ (fun k=>ny_ zs g n c k w hn h12 hrow);have hw:IntKind.u64.wrap (n:Int) = (n:Int):=by rw [IntKind.wrap_u64];omega
 clear hn hrow;go_enter Tryz.func137,Tryz.ntmps137;go_wp2_with fail
 refine (k7_ n _ h12).mono ?_;rintro e w2 ⟨⟨k,rfl⟩,rfl⟩;go_wp2_with fail
 refine (HI.out _).mono ?_;rintro e w3 ⟨⟨u,rfl⟩,hr⟩;go_wp2_with fail
 go_end0
 exact ⟨⟨_,rfl⟩,hr⟩
theorem lL_ {a:Option Addr} {m n c:Nat} (h:m = n):Ending.returned (.slice a m c) = .returned (.slice a n c):=by rw [h]
theorem aI_.out {W:World} {g:Nat} {zs:List Int} (h:aI_ W g zs) {i:Nat} (hi:zs.length≤i) (v:Value):aI_ (W.setCell ⟨g,i,none⟩ v) g zs:=by
 obtain ⟨cur,h1,h2⟩:=h;refine ⟨_,heap_setCell_same W g i cur 3 _ h1,fun j hj=>?_⟩;rw [Array.getElem?_setIfInBounds_ne (by omega),h2 j hj]
theorem aI_.outs {g:Nat} {zs:List Int}:∀ (vs:List Value) (o:Nat) {W:World},aI_ W g zs→zs.length≤o→aI_ (W.setCells g o vs) g zs
 | [],_,_,h,_=>h
 | v :: r,o,W,h,ho=>by unfold World.setCells;exact aI_.outs r (o+1) (h.out ho v) (by omega)
theorem es_ (g:Nat):∀ (vs:List Value) (o:Nat) (W:World),Turn (fun k=>k = g) W (W.setCells g o vs)
 | [],_,_=>Turn.refl _ _
 | v :: r,o,W=>by unfold World.setCells;exact (cW_ W g o v).trans (es_ g r (o+1) _) (fun _ _ e=>e)
theorem aI_.take {W:World} {g:Nat} {zs:List Int} (h:aI_ W g zs) (k:Nat):aI_ W g (zs.take k):=by
 obtain ⟨cur,h1,h2⟩:=h;exact ⟨cur,h1,fun i hi=>by rw [List.length_take] at hi;rw [h2 i (by omega),List.getElem_take]⟩
structure Comp (zs ys:List Int) (k q:Nat):Prop where
 len:ys.length = zs.length
 k0:1≤k
 kq:k≤q - 1
 qn:q≤zs.length
 same:∀ i (h:i < zs.length),q - 1≤i→ys[i]'(by omega) = zs[i]
 rise:(ys.take k).Pairwise (· < ·)
 mem:∀ z,z ∈ ys.take k↔z ∈ zs.take q
 last:∀ (h:k - 1 < ys.length) (h2:q - 1 < zs.length),ys[k - 1] = zs[q - 1]
theorem Comp.skip {zs ys:List Int} {k q:Nat} (h:Comp zs ys k q) (hq:q < zs.length) (e:zs[q] = zs[q - 1]'(by omega)):Comp zs ys k (q+1):=by
 have hk:=h.k0;have hkq:=h.kq;refine ⟨h.len,h.k0,by omega,by omega,fun i hi h1=>h.same i hi (by omega),h.rise,fun z=>?_,fun h1 h2=>?_⟩
 ·rw [h.mem,List.take_succ_eq_append_getElem hq,List.mem_append];constructor
  ·exact .inl
  ·rintro (h1 | h1)
   ·exact h1
   ·rw [List.mem_singleton] at h1;subst h1;rw [e];have:zs[q - 1]'(by omega) = (zs.take q)[q - 1]'(by rw [List.length_take];omega):=by rw [List.getElem_take]
    rw [this];exact List.getElem_mem _
 ·have:=h.last h1 (by omega);simp only [Nat.add_sub_cancel];rw [e];exact this
theorem l2_ {ys:List Int} {k:Nat} (h:(ys.take k).Pairwise (· < ·)) (hk:1≤k) (hl:k≤ys.length):∀ a ∈ ys.take k,a≤ys[k - 1]'(by omega):=by
 intro a ha;obtain ⟨i,hi,rfl⟩:=List.mem_iff_getElem.1 ha;rw [List.length_take] at hi;rw [List.getElem_take];by_cases e:i = k - 1
 ·subst e;exact Int.le_refl _
 ·have:=List.pairwise_iff_getElem.1 h i (k - 1) (by rw [List.length_take];omega) (by rw [List.length_take];omega) (by omega);rw [List.getElem_take,List.getElem_take] at this;omega
theorem Comp.take {zs ys:List Int} {k q:Nat} (h:Comp zs ys k q) (hq:q < zs.length) (e:zs[q - 1]'(by omega) < zs[q]):Comp zs (ys.set k zs[q]) (k+1) (q+1):=by
 have hk:=h.k0;have hkq:=h.kq;have hl:=h.len;have ht:(ys.set k zs[q]).take (k+1) = ys.take k ++ [zs[q]]:=by
  rw [List.take_succ_eq_append_getElem (by simp;omega),List.take_set_of_le (by omega)];simp
 refine ⟨by simp [hl],by omega,by omega,by omega,fun i hi h1=>?_,?_,fun z=>?_,fun h1 h2=>?_⟩
 ·rw [List.getElem_set_ne (by omega)];exact h.same i hi (by omega)
 ·rw [ht,List.pairwise_append];refine ⟨h.rise,by simp,fun a ha b hb=>?_⟩;rw [List.mem_singleton] at hb;subst hb;have h3:=l2_ h.rise hk (by omega) a ha;have h4:=h.last (by omega) (by omega);omega
 ·rw [ht,List.mem_append,h.mem,List.take_succ_eq_append_getElem hq,List.mem_append]
 ·simp
theorem Comp.first {zs:List Int} {k:Nat} (hk:1≤k) (hl:k < zs.length) (hr:(zs.take k).Pairwise (· < ·)) (e:zs[k] = zs[k - 1]'(by omega)):Comp zs zs k (k+1):=by
 refine ⟨rfl,hk,by omega,by omega,fun _ _ _=>rfl,hr,fun z=>?_,fun h1 h2=>?_⟩
 ·rw [List.take_succ_eq_append_getElem hl,List.mem_append];constructor
  ·exact .inl
  ·rintro (h1 | h1)
   ·exact h1
   ·rw [List.mem_singleton] at h1;subst h1;rw [e];have:zs[k - 1]'(by omega) = (zs.take k)[k - 1]'(by rw [List.length_take];omega):=by rw [List.getElem_take]
    rw [this];exact List.getElem_mem _
 ·simp only [Nat.add_sub_cancel];exact e.symm
theorem im_ (zs:List Int) (g n c:Nat) (w:World) (hn:zs.length = n) (h12:n≤12) (hnc:n≤c) (hso:bU_ zs n) (hrow:aI_ w g zs) :
 Calls Tryz.prog 138 #[.slice (some ⟨g,0,none⟩) n c] w fun e w'=>∃ ys:List Int,∃ c',e = .returned (.slice (some ⟨g,0,none⟩) ys.length c')∧ys.length≤12∧ys.Pairwise (· < ·)∧(∀ z,z ∈ ys↔z ∈ zs)∧aI_ w' g ys∧Turn (fun k=>k = g) w w':=by
 have HN:Hid (zs.length = n):=hn;have HSO:Hid (bU_ zs n):=hso;by_cases h2:(n:Int) < 2
 ·have hp:zs.Pairwise (· < ·):=by
   match zs,hn with
   | [],_=>simp
   | [x],_=>simp
   | x :: y :: r,h=>simp at h;omega
  have HP:Hid (zs.Pairwise (· < ·)):=hp;clear hn hso hp;go_enter Tryz.func138,Tryz.ntmps138;go_wp2
  go_ret
  exact ⟨zs,c,lL_ HN.out.symm,by have:=HN.out;omega,HP.out,fun z=>Iff.rfl,hrow,Turn.refl _ _⟩
 ·clear hn hso;go_enter Tryz.func138,Tryz.ntmps138;go_wp2
  go_loopw [3] (fun i wr=>∃ (k:Nat),1≤k∧k≤n∧i = .int .i64 k∧(zs.take k).Pairwise (· < ·)∧aI_ wr g zs∧Turn (fun k=>k = g) w wr) (fun i _=>n - (intOf i).toNat)
  case atStart=>exact ⟨1,by omega,by omega,rfl,by match zs with | []=>simp | x :: r=>simp,hrow,Turn.refl _ _⟩
  case round=>
   clear hrow;obtain ⟨k,hk1,hk2,rfl,hri,hrw,htn⟩:=hrel;have HRI:Hid ((zs.take k).Pairwise (· < ·)):=hri;clear hri;by_cases hlt:k < n
   ·obtain ⟨k',rfl⟩:∃ k',k = k' + 1:=⟨k - 1,by omega⟩
    have hkl:k' + 1 < zs.length:=by rw [HN.out];exact hlt
    have cc1:=hrw.cell hkl;have cc0:=hrw.cell (show k' < zs.length by omega);obtain ⟨x1,hx1⟩:∃ x,x = zs[k' + 1]:=⟨_,rfl⟩
    obtain ⟨x0,hx0⟩:∃ x,x = zs[k']:=⟨_,rfl⟩
    rw [← hx1] at cc1;rw [← hx0] at cc0;have HX:Hid (x1 = zs[k' + 1]∧x0 = zs[k']):=⟨hx1,hx0⟩;have hle:x0≤x1:=by rw [hx0,hx1];exact HSO.out k' (k' + 1) (by omega) hkl (by omega)
    have j1:(k':Int)+1 < n:=by omega
    have j0:(k':Int) < n:=by omega
    have jz:(0:Int)≤(k':Int)+1:=by omega
    have jw2:IntKind.i64.wrap (k':Int) = (k':Int):=by rw [IntKind.wrap_i64];omega
    by_cases he:x1 = x0
    ·have hd:(x1 == x0) = true:=by simpa using he
     have HCo:Hid (Comp zs zs (k' + 1) (k' + 1+1)):=Comp.first (by omega) hkl HRI.out (by simp only [Nat.add_sub_cancel];rw [← hx1,← hx0];exact he)
     have hck:¬ c = k' + 1:=by omega
     have jc:(k':Int)+1≤n:=by omega
     have jn:(n:Int)≤c:=by omega
     clear hx1 hx0 he hle;go_wp2
     go_quiet (fail)
     go_wp2_with fail
     go_loopw [3,5] (fun kv qv wr2=>∃ (k q:Nat) (ys:List Int),1≤q∧q≤n - (k' + 1)∧kv = .int .i64 k∧qv = .int .i64 q∧Comp zs ys k (k' + 1+q)∧aI_ wr2 g ys∧Turn (fun k=>k = g) w wr2) (fun _ qv _=>n - (intOf qv).toNat)
     case atStart=>exact ⟨k' + 1,1,zs,by omega,by omega,rfl,rfl,HCo.out,hrw.keep rfl,⟨htn.os,htn.tape,htn.output,htn.size,htn.block⟩⟩
     case round=>
      clear hrw htn HCo HX cc0 cc1;obtain ⟨k,q,ys,hq1,hq2,rfl,rfl,hco,hrw,htn⟩:=hrel;have HCo:Hid (Comp zs ys k (k' + 1+q)):=hco;have hk0:=hco.k0;have hkq:=hco.kq;have hyl:ys.length = n:=by rw [hco.len,HN.out]
      have HYL:Hid (ys.length = n):=hyl;by_cases hql:q < n - (k' + 1)
      ·obtain ⟨q',rfl⟩:∃ q',q = q' + 1:=⟨q - 1,by omega⟩
       have hzl:k' + 1+(q' + 1) < zs.length:=by rw [HN.out];omega
       have e1:=hco.same (k' + 1+(q' + 1)) hzl (by omega);have e0:=hco.same (k' + 1+q') (by omega) (by omega);have cc1:=hrw.cell (show k' + 1+(q' + 1) < ys.length by omega);have cc0:=hrw.cell (show k' + 1+q' < ys.length by omega);rw [e1] at cc1;rw [e0] at cc0;have ff:=hrw.free k;have ck:=hrw.cell (show k < ys.length by omega);obtain ⟨x1,hx1⟩:∃ x,x = zs[k' + 1+(q' + 1)]:=⟨_,rfl⟩
       obtain ⟨x0,hx0⟩:∃ x,x = zs[k' + 1+q']:=⟨_,rfl⟩
       rw [← hx1] at cc1;rw [← hx0] at cc0;obtain ⟨xk,hxk⟩:∃ x,x = ys[k]:=⟨_,rfl⟩
       rw [← hxk] at ck;have hle:x0≤x1:=by rw [hx0,hx1];exact HSO.out _ _ (by omega) hzl (by omega)
       have i1:(q':Int)+1 < ((n - (k' + 1):Nat):Int):=by omega
       have i2:(q':Int) < ((n - (k' + 1):Nat):Int):=by omega
       have i3:(0:Int)≤(q':Int)+1:=by omega
       have i4:IntKind.i64.wrap (q':Int) = (q':Int):=by rw [IntKind.wrap_i64];omega
       have i5:(k:Int) < n:=by omega
       have i6:(0:Int)≤(k:Int):=by omega
       by_cases he:x1 = x0
       ·have hd:(x1 != x0) = false:=by simpa using he
        have HS:Hid (Comp zs ys k (k' + 1+(q' + 1+1))):=hco.skip hzl (by simp only [← Nat.add_assoc,Nat.add_sub_cancel];simp only [← Nat.add_assoc] at hx1;rw [← hx1,← hx0];exact he);clear hx1 hx0 hxk he hle hco e1 e0 hyl;go_wp2
        go_quiet (fail)
        go_wp2
        go_roundw
        case rel=>exact ⟨k,q' + 1+1,ys,by omega,by omega,rfl,by go_num,HS.out,hrw.keep rfl,⟨htn.os,htn.tape,htn.output,htn.size,htn.block⟩⟩
        case measure=>simp [intOf];omega
       ·have hd:(x1 != x0) = true:=by simpa using he
        have HS:Hid (Comp zs (ys.set k x1) (k+1) (k' + 1+(q' + 1+1))):=by
         have:=hco.take hzl (by simp only [← Nat.add_assoc,Nat.add_sub_cancel];simp only [← Nat.add_assoc] at hx1;rw [← hx1,← hx0];omega);rw [← hx1] at this;exact this
        clear hx1 hx0 hxk he hle hco e1 e0 hyl;go_wp2
        go_quiet (fail)
        go_wp2
        have hr2:aI_ ((wr.drewN nq).setCell ⟨g,k,none⟩ (.int .i64 x1)) g (ys.set k x1):=aI_.set (W:=wr.drewN nq) (hrw.keep rfl) (by have:=HYL.out;omega) x1;have ht2:Turn (fun k=>k = g) w ((wr.drewN nq).setCell ⟨g,k,none⟩ (.int .i64 x1)):=Turn.trans (B:=wr.drewN nq) ⟨htn.os,htn.tape,htn.output,htn.size,htn.block⟩ (cW_ _ _ _ _) (fun _ _ e=>e);go_roundw
        case rel=>exact ⟨k+1,q' + 1+1,ys.set k x1,by omega,by omega,by go_num,by go_num,HS.out,hr2,ht2⟩
        case measure=>simp [intOf];omega
      ·have hqe:k' + 1+q = n:=by omega
       have hclear:∀ ty,(Builtin.clear_ #[32] ty #[.slice (some ⟨g,k,none⟩) (n - k) (c - k)]).run Tryz.prog wr = .ok (.tuple #[]) (wr.setCells g k (List.replicate (n - k) (.int .i64 0))):=fun ty=>
        Lib.run_clear_slice wr 32 3 ty (.int .i64 0) Tryz.underlying32 zero3 rfl rfl g k (n - k) (c - k) (by omega) (fun j hj=>by rw [hrw.cell (show k+j < ys.length by omega)];rfl) (fun j hj=>hrw.free _)
       have hck2:¬ c = k:=by omega
       have i5:(k:Int)≤n:=by omega
       have i6:(0:Int)≤(k:Int):=by omega
       have i7:(k:Int)≤c:=by omega
       have hr2:aI_ (wr.setCells g k (List.replicate (n - k) (.int .i64 0))) g (ys.take k):=aI_.outs _ k (hrw.take k) (by rw [List.length_take];omega);have ht2:Turn (fun k=>k = g) w (wr.setCells g k (List.replicate (n - k) (.int .i64 0))):=htn.trans (es_ g _ _ _) (fun _ _ e=>e);have HR2:=g2_ (And.intro hr2 ht2);clear hr2 ht2 hco hyl;go_wp2
       go_ret
       have hco:=HCo.out;exact ⟨ys.take k,c,lL_ (by rw [List.length_take,HYL.out];omega),by rw [List.length_take,HYL.out];omega,hco.rise,fun z=>by rw [hco.mem,List.take_of_length_le (by rw [HN.out];omega)],HR2.out.1,HR2.out.2⟩
    ·have hd:(x1 == x0) = false:=by simpa using he
     have HNx:Hid ((zs.take (k' + 1+1)).Pairwise (· < ·)):=by
      show (zs.take (k' + 1+1)).Pairwise (· < ·);rw [List.take_succ_eq_append_getElem hkl,List.pairwise_append];refine ⟨HRI.out,by simp,fun a ha b hb=>?_⟩;rw [List.mem_singleton] at hb;subst hb;have h3:=l2_ HRI.out (by omega) (by omega) a ha;simp only [Nat.add_sub_cancel] at h3;rw [← hx0] at h3;rw [← hx1];omega
     clear hx1 hx0 he hle;go_wp2
     go_quiet (fail)
     go_wp2
     go_roundw
     case rel=>exact ⟨k' + 1+1,by omega,by omega,by go_num,HNx.out,hrw.keep rfl,⟨htn.os,htn.tape,htn.output,htn.size,htn.block⟩⟩
     case measure=>simp [intOf];omega
   ·have hkn:k = n:=by omega
    have HP:Hid (zs.Pairwise (· < ·)):=by have:=HRI.out;rw [List.take_of_length_le (by rw [HN.out];omega)] at this;exact this
    go_wp2
    go_ret
    exact ⟨zs,c,lL_ HN.out.symm,by have:=HN.out;omega,HP.out,fun z=>Iff.rfl,hrw,htn⟩
theorem mq_ (a:Option Addr) (c:Nat) (w:World):Calls Tryz.prog 182 #[.slice a 0 c,.int .i64 0,.int .i64 0] w fun e w'=>(∃ v,e = .returned v)∧w' = w:=by
 go_enter Tryz.func182,Tryz.ntmps182;go_wp2
 go_loopw [6,7] (fun i _ wr=>i = .int .i64 1∧wr = w) (fun _ _ _=>0)
 case atStart=>exact ⟨rfl,rfl⟩
 case round=>
  obtain ⟨rfl,rfl⟩:=hrel;go_wp2
  go_end0
  exact ⟨⟨_,rfl⟩,rfl⟩
theorem my_ (a:Option Addr) (c:Nat) (k:Int) (w:World):Calls Tryz.prog 167 #[.slice a 0 c,.int .i64 0,.int .i64 0,.int .i64 k] w fun e w'=>(∃ v,e = .returned v)∧w' = w:=by
 go_enter Tryz.func167,Tryz.ntmps167;go_wp2_with fail
 go_loopw [1,2] (fun x y wr=>x = .int .i64 0∧y = .int .i64 0∧wr = w) (fun _ _ _=>0)
 case atStart=>exact ⟨rfl,rfl,rfl⟩
 case round=>
  obtain ⟨rfl,rfl,rfl⟩:=hrel;go_wp2_with fail
  refine (mq_ _ _ _).mono ?_;rintro e w2 ⟨⟨u,rfl⟩,rfl⟩;go_wp2_with fail
  refine bodyPost_ret (results_none rfl _ _ _) rfl ?_;exact ⟨⟨_,rfl⟩,rfl⟩
theorem lW_ (a:Option Addr) (c:Nat) (w:World):Calls Tryz.prog 137 #[.slice a 0 c] w fun e w'=>(∃ v,e = .returned v)∧w' = w:=by
 go_enter Tryz.func137,Tryz.ntmps137;go_wp2_with fail
 refine (k7_ 0 _ (by omega)).mono ?_;rintro e w2 ⟨⟨k,rfl⟩,rfl⟩;go_wp2_with fail
 refine (my_ _ _ _ _).mono ?_;rintro e w3 ⟨⟨u,rfl⟩,rfl⟩;go_wp2_with fail
 go_end0
 exact ⟨⟨_,rfl⟩,rfl⟩
theorem hz_ (a:Option Addr) (c:Nat) (w:World):Calls Tryz.prog 138 #[.slice a 0 c] w fun e w'=>e = .returned (.slice a 0 c)∧w' = w:=by
 go_enter Tryz.func138,Tryz.ntmps138;go_wp2
 go_ret
 exact ⟨rfl,rfl⟩
end Go.Proofs.YtlbnkpicnokgoaaGreat
namespace Go.Proofs.YtlbnkpicnokgoaaGreat
open Go.RowKit Go.Maps
set_option linter.unusedVariables false
set_option maxRecDepth 100000
def cC_ (W:World) (a:Option Addr) (zs:List Int):Prop:=zs = []∨∃ g,a = some ⟨g,0,none⟩∧g < W.heap.size∧∀ i (h:i < zs.length),W.cell? ⟨g,i,none⟩ = some (.int .i64 zs[i])
theorem cC_.keep {W W':World} {a:Option Addr} {zs:List Int} (h:cC_ W a zs) (hB:Below W.heap.size W W'):cC_ W' a zs:=by
 rcases h with h | ⟨g,ha,hg,h⟩
 ·exact .inl h
 ·exact .inr ⟨g,ha,Nat.lt_of_lt_of_le hg hB.size,fun i hi=>(hB.cell (p:=⟨g,i,none⟩) hg).trans (h i hi)⟩
theorem aI_.ints {W:World} {g:Nat} {zs:List Int} (h:aI_ W g zs):cC_ W (some ⟨g,0,none⟩) zs:=.inr ⟨g,rfl,h.lt,fun i hi=>h.cell hi⟩
theorem jr_ {W:World} {base:Nat} {u:Value} {zs:List Int} {n:Nat} (h:W.ownsRow base 3 1 u n (zs.map (Value.int .i64))) (hne:zs≠[]):∃ g c,u = .slice (some ⟨g,0,none⟩) zs.length c∧base≤g∧zs.length≤c∧c≤maxLen∧aI_ W g zs:=by
 have hn:n = zs.length:=by have:=h.1;simp at this;omega
 subst hn;rcases h.2 with ⟨rfl,h0⟩ | ⟨g,cap,cur,rfl,hb,hg,h1,h2,_⟩
 ·exact absurd (List.length_eq_zero_iff.1 h0) hne
 ·refine ⟨g,cap,rfl,hb,h1,h2,cur,hg,fun i hi=>?_⟩;have hc:=h.cells (g:=g) rfl i (.int .i64 zs[i]) (by simp [hi]);rw [hn_,Nat.zero_add,aO_ hg] at hc;exact hc
structure kv_ (p:ad_) (key:ByteArray) (v:Nat) (zs:List Int):Prop where
 rise:zs.Pairwise (· < ·)
 mem:∀ z,z ∈ zs↔∃ x:Nat,z = x∧∃ s,Path (bM_ p key) v s x
theorem lM_ {xs ys:List Int} (hx:xs.Pairwise (· < ·)) (hy:ys.Pairwise (· < ·)) (h:∀ z,z ∈ xs↔z ∈ ys):xs = ys:=by
 have nx:xs.Nodup:=hx.imp (fun h=>by omega);have ny:ys.Nodup:=hy.imp (fun h=>by omega);exact ((List.perm_ext_iff_of_nodup nx ny).2 h).eq_of_pairwise (le:=(· < ·)) (fun a b _ _ h1 h2=>by omega) hx hy
def ec_ (L:Trails):List Int:=L.map (fun x=>(x.1:Int))
theorem ns_ (L:Trails):ints L = (ec_ L).map (Value.int .i64):=by simp [ints,ec_]
theorem nC_ {p:ad_} {v:Int} {key:ByteArray} (h:rtE p v key = 0):chkP p = 0∧kerr key.data.toList = 0∧0≤v∧v < p.posts.length:=by
 unfold rtE at h;by_cases h1:chkP p = 0
 ·rw [if_pos h1] at h;by_cases h2:aq_ v p.posts.length = true
  ·rw [if_pos h2] at h;have:=az_.1 h2;exact ⟨h1,h,this⟩
  ·rw [if_neg h2] at h;cases h
 ·rw [if_neg h1] at h;exact absurd h h1
def qL (p:ad_) (J:List Nat):List Int:=(J.filter (fun n=>!(bAt p n).toPost)).map (fun n=>(bAt p n).dst)
theorem lF_ {p:ad_} {J:List Nat} {n:Nat} (h:(bAt p n).toPost = false):qL p (J ++ [n]) = qL p J ++ [(bAt p n).dst]:=by unfold qL;rw [List.filter_append];simp [h]
theorem lE_ {p:ad_} {J:List Nat} {n:Nat} (h:(bAt p n).toPost = true):qL p (J ++ [n]) = qL p J:=by unfold qL;rw [List.filter_append];simp [h]
theorem m7_ (p:ad_) (J:List Nat):(qL p J).length≤J.length:=by unfold qL;rw [List.length_map];exact List.length_filter_le _ _
def aN_ (p:ad_) (key:ByteArray) (L:Trails):List Nat:=L.flatMap (fun x=>bI_ p key (x.1:Nat))
theorem gl_ {p:ad_} {key:ByteArray} {v:Int} {n:Nat}:n ∈ bI_ p key v↔n < p.binds.length∧(bAt p n).src = v∧fitP p n key = true:=by
 unfold bI_ bY_ dw_;simp
theorem dX_ {p:ad_} {key:ByteArray} {L:Trails} {n:Nat}:n ∈ aN_ p key L↔∃ x ∈ L,n < p.binds.length∧(bAt p n).src = (x.1:Nat)∧fitP p n key = true:=by
 unfold aN_;simp [gl_]
theorem d7_ {p:ad_} {key:ByteArray}:∀ {L:Trails},(L.map Prod.fst).Nodup→(aN_ p key L).Nodup
 | [],_=>by simp [aN_]
 | x :: r, h => by
   rw [List.map_cons,List.nodup_cons] at h;have e:aN_ p key (x :: r) = bI_ p key (x.1:Nat) ++ aN_ p key r:=by simp [aN_]
   rw [e,List.nodup_append];refine ⟨?_,d7_ h.2,fun a ha b hb hab=>?_⟩
   ·unfold bI_ bY_;exact List.Pairwise.filter _ List.nodup_range
   ·subst hab;obtain ⟨_,h1,_⟩:=gl_.1 ha;obtain ⟨y,hy,_,h2,_⟩:=dX_.1 hb;exact h.1 (List.mem_map.2 ⟨y,hy,by omega⟩)
theorem fn_ {p:ad_} {key:ByteArray} {L:Trails} (h:(L.map Prod.fst).Nodup):(aN_ p key L).length≤p.binds.length:=
 ff_ _ _ (d7_ h) (fun n hn=>by obtain ⟨_,_,h1,_⟩:=dX_.1 hn;exact h1)
theorem hs_ {p:ad_} {key:ByteArray} {L:Trails} {i:Nat} (h:i < L.length):aN_ p key (L.take (i+1)) = aN_ p key (L.take i) ++ bI_ p key (L[i].1:Nat):=by
 unfold aN_;rw [List.take_succ_eq_append_getElem h,List.flatMap_append];simp
structure cN_ (p:ad_) (key:ByteArray) (v:Nat) (zs:List Int):Prop where
 rise:zs.Pairwise (· < ·)
 mem:∀ z,z ∈ zs↔∃ n,n < p.binds.length∧fitP p n key = true∧(bAt p n).toPost = false∧(bAt p n).dst = z∧∃ s,Path (bM_ p key) v s (bAt p n).src.toNat
theorem cN_.uniq {p:ad_} {key:ByteArray} {v:Nat} {xs ys:List Int} (hx:cN_ p key v xs) (hy:cN_ p key v ys):xs = ys:=
 lM_ hx.rise hy.rise (fun z=>by rw [hx.mem,hy.mem])
theorem h2_ {p:ad_} {key:ByteArray} (hr:bx_ p) {v:Nat} {L:Trails} {i:Nat} (h:Reached (bM_ p key) p.binds.length v L i) (hi:¬ i < L.length) {ys:List Int} (hs:ys.Pairwise (· < ·)) (hm:∀ z,z ∈ ys↔z ∈ qL p (aN_ p key L)):cN_ p key v ys:=by
 have hf:=h.found fk_ hi;refine ⟨hs,fun z=>?_⟩;rw [hm];unfold qL;simp only [List.mem_map,List.mem_filter,dX_,Bool.not_eq_true'];constructor
 ·rintro ⟨n,⟨⟨x,hx,h1,h2,h3⟩,h4⟩,h5⟩;refine ⟨n,h1,h3,h4,h5,hf.mem.1 ?_⟩;rw [h2,Int.toNat_natCast];exact List.mem_map.2 ⟨x,hx,rfl⟩
 ·rintro ⟨n,h1,h3,h4,h5,h6⟩;obtain ⟨x,hx,h7⟩:=List.mem_map.1 (hf.mem.2 h6);have hs:0≤(bAt p n).src:=by rw [dW_ h1];exact (hr.src _ (List.getElem_mem h1)).1
  exact ⟨n,⟨⟨x,hx,h1,by omega,h3⟩,h4⟩,h5⟩
structure QSt (w4:World) (b2:Nat) (u:Value) (l:List Int) (Ds:List Nat) (W:World):Prop where
 keep:Turn (fun k=>k = b2) w4 W
 lbox:Boxed W b2 32 u
 row:W.ownsRow w4.heap.size 3 1 u l.length (l.map (Value.int .i64))
 marks:Marks w4.heap.size Ds W
theorem QSt.rowAt {w4:World} {b2:Nat} {u:Value} {l:List Int} {Ds:List Nat} {W:World} (h:QSt w4 b2 u l Ds W) {g:Nat} (hg:u.ownBlock = some g):w4.heap.size≤g∧(∃ cur,W.heap[g]? = some (.cells cur 3 (0,0))):=by
 rcases h.row.2 with ⟨rfl,_⟩ | ⟨g',cap,cur,rfl,h2,h3,_⟩
 ·simp [Value.ownBlock] at hg
 ·simp only [Value.ownBlock,Option.some.injEq] at hg;subst hg;exact ⟨h2,cur,h3⟩
theorem QSt.row_ne {w4:World} {b2:Nat} {u:Value} {l:List Int} {Ds:List Nat} {W:World} (h:QSt w4 b2 u l Ds W) {g:Nat} (hg:u.ownBlock = some g):g≠b2∧g ∉ Ds:=by
 obtain ⟨h1,cur,h2⟩:=h.rowAt hg;refine ⟨fun e=>?_,fun e=>?_⟩
 ·have:=h.lbox;unfold Boxed at this;rw [← e,h2] at this;simp at this
 ·have:=(h.marks.there g e).2;rw [h2] at this;simp at this
theorem QSt.mark_ne {w4:World} {b2:Nat} {u:Value} {l:List Int} {Ds:List Nat} {W:World} (h:QSt w4 b2 u l Ds W) {D:Nat} (hD:D ∈ Ds):D≠b2:=fun e=>by
 have h2:=(h.marks.there D hD).2;have:=h.lbox;unfold Boxed at this;rw [← e,h2] at this;simp at this
theorem QSt.turn {w4:World} {b2:Nat} {u:Value} {l:List Int} {Ds:List Nat} {W W':World} {X:Nat→Prop} (h:QSt w4 b2 u l Ds W) (t:Turn X W W') (hx:∀ k,k < w4.heap.size→¬ X k) (h2:¬ X b2)
 (hg:∀ g,u.ownBlock = some g→¬ X g) (hD:∀ D ∈ Ds,¬ X D):QSt w4 b2 u l Ds W':=
 ⟨h.keep.trans t (fun i hi e=>absurd e (hx i hi)),t.boxed h.lbox h2,t.row h.row hg,h.marks.turn t hD⟩
theorem QSt.below {w4:World} {b2:Nat} {u:Value} {l:List Int} {Ds:List Nat} {W W':World} (h:QSt w4 b2 u l Ds W) (hB:Below W.heap.size W W'):QSt w4 b2 u l Ds W':=
 h.turn (X:=fun _=>False) (Turn.of_below _ hB) (fun _ _=>id) id (fun _ _=>id) (fun _ _=>id)
theorem QSt.other {w4:World} {b2:Nat} {u:Value} {l:List Int} {Ds:List Nat} {W W':World} {row:Option Nat} {S:Nat} (h:QSt w4 b2 u l Ds W) (hg:W.grownBy W' row) (hr:∀ r,row = some r→S≤r∧∃ o:Obj,W.heap[r]? = some o∧o.isCells = false)
 (hS:w4.heap.size≤S) (hb:b2 < S) (hDs:∀ D ∈ Ds,D < S):QSt w4 b2 u l Ds W':=by
 refine h.turn (X:=fun k=>row = some k) (Turn.of_grown hg (fun r e=>e)) (fun k hk e=>by have:=(hr k e).1;omega) (fun e=>by have:=(hr _ e).1;omega) (fun g hg' e=>?_) (fun D hD e=>by have:=(hr _ e).1;have:=hDs D hD;omega);obtain ⟨_,cur,h2⟩:=h.rowAt hg';obtain ⟨_,o,h3,h4⟩:=hr g e;rw [h2] at h3;cases h3;cases h4
theorem QSt.push {w4:World} {b2:Nat} {u u':Value} {l:List Int} {Ds:List Nat} {W Wc:World} {z:Int} {tmp:Obj} (h:QSt w4 b2 u l Ds W) (hb:b2 < w4.heap.size)
 (hc:(W.alloc tmp).grownBy Wc u.ownBlock) (hr:Wc.ownsRow w4.heap.size 3 1 u' (l.length+1) (l.map (Value.int .i64) ++ [.int .i64 z])) :
 Boxed Wc b2 32 u∧QSt w4 b2 u' (l ++ [z]) Ds (Wc.setCell ⟨b2,0,none⟩ u')∧Turn (fun k=>k = b2∨u.ownBlock = some k) W (Wc.setCell ⟨b2,0,none⟩ u'):=by
 have t2:Turn (fun _=>False) W (W.alloc tmp):=Turn.of_grown (World.grownBy_alloc W tmp none) (fun r e=>by cases e);have t3:Turn (fun k=>u.ownBlock = some k) (W.alloc tmp) Wc:=Turn.of_grown hc (fun r e=>e);have t4:Turn (fun k=>k = b2) Wc (Wc.setCell ⟨b2,0,none⟩ u'):=Turn.of_grown (grownBy_setCell' Wc _ u') (fun r e=>by cases e;rfl);have t23:Turn (fun k=>u.ownBlock = some k) W Wc:=(t2.mono (fun _ _ e=>e.elim)).trans t3 (fun _ _ e=>e);have t:Turn (fun k=>k = b2∨u.ownBlock = some k) W (Wc.setCell ⟨b2,0,none⟩ u'):=(t23.mono (fun _ _ e=>.inr e)).trans t4 (fun _ _ e=>.inl e);have hlb:Boxed Wc b2 32 u:=t23.boxed h.lbox (fun e=>(h.row_ne e).1 rfl);have hu':∀ g,u'.ownBlock = some g→g≠b2:=fun g hg e=>by have:=(hr.lt g hg).1;omega
 refine ⟨hlb,⟨h.keep.trans t (fun i hi e=>?_),hlb.set u',?_,h.marks.turn t (fun D hD e=>?_)⟩,t⟩
 ·rcases e with e | e
  ·exact e
  ·have:=(h.rowAt e).1;omega
 ·have:=t4.row hr (fun g hg=>hu' g hg);simpa using this
 ·rcases e with e | e
  ·exact h.mark_ne hD e
  ·exact (h.row_ne e).2 hD
theorem QSt.keepF {w4:World} {n0 b2 B:Nat} {u:Value} {l:List Int} {Ds:List Nat} {W W':World} (h:QSt w4 b2 u l Ds W) (t:Turn (fun k=>k = b2∨u.ownBlock = some k) W W')
 (hn:n0≤b2) (hw:n0≤w4.heap.size) (hb:b2 < w4.heap.size) (hB:w4.heap.size≤B) (hW:B+3≤W.heap.size) (hg:∀ g,u.ownBlock = some g→g < B∨B+3≤g):cl_ n0 B W W':=by
 refine ⟨t.below (by omega) (fun k e=>?_),fun j hj=>t.block _ (by omega) (fun e=>?_)⟩
 ·rcases e with rfl | e
  ·exact hn
  ·have:=(h.rowAt e).1;omega
 ·rcases e with e | e
  ·omega
  ·have:=hg _ e;omega
theorem QSt.keepsFrom {w4:World} {b2 S:Nat} {u:Value} {l:List Int} {Ds:List Nat} {W W':World} (h:QSt w4 b2 u l Ds W) (t:Turn (fun k=>k = b2∨u.ownBlock = some k) W W') (hS:b2 < S):KeepsFrom S W W':=by
 refine ⟨t.size,fun k o hk ho hc=>(t.block k (Array.getElem?_eq_some_iff.1 ho).1 (fun e=>?_)).trans ho⟩;rcases e with e | e
 ·omega
 ·obtain ⟨_,cur,h2⟩:=h.rowAt e;rw [h2] at ho;cases ho;cases hc
end Go.Proofs.YtlbnkpicnokgoaaGreat
namespace Go.Proofs.YtlbnkpicnokgoaaGreat
open Go.RowKit Go.Shelf Go.Maps
set_option linter.unusedVariables false
set_option maxRecDepth 100000
set_option maxHeartbeats 2000000
attribute [local go_sem] Oper.semAt_some
theorem lH_ (p:ad_) (a1 a2 a3:Option Addr) (n1 c1 n2 c2 n3 c3:Nat) (v:Nat) (key:ByteArray) (w:World) (hc:chkP p = 0) (hk:kerr key.data.toList = 0) (hv:v < n1) (hp:ap_ w a1 a2 a3 n1 n2 n3 p) :
 CallsIn Fence.wide 8 Tryz.prog 98 #[.agg #[.slice a1 n1 c1,.slice a2 n2 c2,.slice a3 n3 c3],.int .i64 (v:Nat),.string key] w fun e w'=>∃ zs a c,e = .returned (.tuple #[.slice a zs.length c,.int .i64 0])∧cN_ p key v zs∧zs.length≤12∧cC_ w' a zs∧Below w.heap.size w w':=by
 have hr:=br_ hc;have h4:n1≤4:=by have:=hr.few.1;rw [hp.l1] at this;exact this
 have HRE:Hid (rtE p (v:Nat) key = 0):=by
  show rtE p (v:Nat) key = 0;unfold rtE;rw [if_pos hc,if_pos (az_.2 ⟨by omega,by rw [hp.l1];omega⟩),hk]
 have HR:Hid (∀ (L:Trails) (i:Nat),Reached (bM_ p key) p.binds.length v L i→(∀ x ∈ L,x.1 < n1)∧L.length≤n1∧i≤L.length):=fun L i h=>by
  have:=dH_ hr (by rw [hp.l1];exact hv) h;rw [hp.l1] at this;exact this
 have HRP:Hid (bx_ p):=hr;have HP:Hid (ap_ w a1 a2 a3 n1 n2 n3 p):=hp;have HCK:Hid (chkP p = 0∧kerr key.data.toList = 0):=⟨hc,hk⟩;obtain ⟨W1,hW1,hBw,hs1,hbx⟩:=c4_ w (.slice a1 n1 c1) (.slice a2 n2 c2) (.slice a3 n3 c3) 26;have HW1:Hid (W1 = _):=hW1;have hpb1:W1.heap[w.heap.size]? = some (.cells #[.slice a1 n1 c1,.slice a2 n2 c2,.slice a3 n3 c3] 26 (0,0)):=by rw [hW1];exact World.alloc_heap_new w _
 have HP1:Hid (ap_ W1 a1 a2 a3 n1 n2 n3 p):=hp.keep hBw;have BX:Hid (∀ W,Below W1.heap.size W1 W→W.cell? ⟨w.heap.size,0,none⟩ = some (.slice a1 n1 c1)∧W.cell? ⟨w.heap.size,1,none⟩ = some (.slice a2 n2 c2)∧W.cell? ⟨w.heap.size,2,none⟩ = some (.slice a3 n3 c3)):=hbx;have s1:=hBw.size;clear hW1 hp hbx hc hk hr;refine callsIn_of_wp_marks Tryz.func98 rfl trivial (Go.wpIn_mono ?_ gf_) rfl;simp only [Tryz.ntmps98,List.size_toArray,List.length_cons,List.length_nil,Nat.reduceAdd,Nat.reduceSub,Array.replicate_succ,Array.replicate_zero,List.push_toArray,List.append_toArray,List.nil_append,List.cons_append];gi_wp2_with fail
 refine ⟨trivial,?_⟩;rw [← HW1.out];refine (callsIn_wide.2 (fR_ p _ _ _ _ _ _ _ _ _ _ _ _ HP1.out)).mono ?_;rintro e w2 ⟨rfl,hB2⟩;rw [HRE.out];have s2:=hB2.size;obtain ⟨d0,d1,d2⟩:=BX.out w2 hB2;obtain ⟨W3,hW3⟩:∃ W3,W3 = w2.alloc (.cells #[.slice none 0 0] 32):=⟨_,rfl⟩
 have HW3:Hid (W3 = _):=hW3;have hlb3:Boxed W3 w2.heap.size 32 (.slice none 0 0):=by rw [hW3];exact Boxed.new w2 _ _
 have hB3:Below w2.heap.size w2 W3:=by rw [hW3];exact (Below.refl _ _).alloc (Nat.le_refl _) _
 have hs3:w2.heap.size+1≤W3.heap.size:=by rw [hW3];simp
 have hB13:Below W1.heap.size W1 W3:=hB2.trans (hB3.mono s2);clear hW3;have hww:w.heap.size < w2.heap.size:=by omega
 gi_wp2_with fail
 refine ⟨trivial,?_⟩;rw [← HW3.out];clear d0 d1 d2;refine (mE_ p _ _ _ _ _ _ _ _ _ v key W3 HCK.out.1 HCK.out.2 hv (HP1.out.keep hB13)).more (by omega) |>.mono ?_
 rintro e w4 ⟨up,bm,L,iL,rfl,hre,hiL,hrow,_,_,hB4⟩;have hne:ec_ L≠[]:=fun e=>by
  have:=((hre.came fk_).1).first
  have h0:L = []:=by unfold ec_ at e;exact List.map_eq_nil_iff.1 e
  rw [h0] at this;simp at this
 rw [ns_] at hrow;obtain ⟨gp,cp,rfl,hgb,hgc,hgm,hir⟩:=jr_ hrow hne;have hll:(ec_ L).length = L.length:=by unfold ec_;rw [List.length_map]
 have HLL:Hid ((ec_ L).length = L.length):=hll;have s4:=hB4.size;have hB14:Below W1.heap.size W1 w4:=hB13.trans (hB4.mono hB13.size);have hst:QSt w4 w2.heap.size (.slice none 0 0) (qL p (aN_ p key (L.take 0))) [] w4:=⟨Turn.refl _ _,(hB4.block _ (by omega)).trans hlb3,World.ownsRow_nil _ _ _ _,⟨List.nodup_nil,fun D hD=>by simp at hD⟩⟩;have hpb4:w4.heap[w.heap.size]? = some (.cells #[.slice a1 n1 c1,.slice a2 n2 c2,.slice a3 n3 c3] 26 (0,0)):=(hB14.block _ (by omega)).trans hpb1;have hB04:Below w.heap.size w w4:=hBw.trans (hB14.mono s1);have HK:=g2_ (And.intro hpb4 (And.intro hir hB04));have hgp:=hir.lt;have hLn:=(HR.out L iL hre).2.1;have HND:Hid ((L.map Prod.fst).Nodup):=((hre.came fk_).1).once;clear hrow hlb3 hB3 hB4 hB13 hB14 hpb1 hpb4 hir hB04 hll hne hB2;gi_wp2_with fail
 refine wpIn_loop (fun a W=>∃ (i:Nat) (Ds:List Nat) (u u0 u1 u4 u5 u6 u7 u8 u10 u11 u12 u13 u14 u15 u16 u17 u18 u19 u20 u21 u22 u23 u24 u25 u26 u27 u28 u29 u33 u34 u35 u36 u37 u38 u39 u40 u41 u42 u43 u44 u45 u46 u47 u48 u49 u50 u51 u52 u53 u54:Value),a = { tmps:=#[u0,u1,.string key,.pointer (some ⟨w.heap.size,0,none⟩),u4,u5,u6,u7,u8,.pointer (some ⟨w2.heap.size,0,none⟩),u10,u11,u12,u13,u14,u15,u16,u17,u18,u19,u20,u21,u22,u23,u24,u25,u26,u27,u28,u29,.slice (some ⟨gp,0,none⟩) (ec_ L).length cp,.int .i64 ((ec_ L).length:Nat),.int .i64 (i:Nat),u33,u34,u35,u36,u37,u38,u39,u40,u41,u42,u43,u44,u45,u46,u47,u48,u49,u50,u51,u52,u53,u54],defers:=Ds.map ld_ }∧i≤L.length∧QSt w4 w2.heap.size u (qL p (aN_ p key (L.take i))) Ds W) (fun a _=>5 - (intOf (a.tmps.getD 32 undef)).toNat) ⟨0,[],_,_,_,_,_,_,_,_,_,_,_,_,_,_,_,_,_,_,_,_,_,_,_,_,_,_,_,_,_,_,_,_,_,_,_,_,_,_,_,_,_,_,_,_,_,_,_,_,_,_,rfl,Nat.zero_le _,hst⟩ ?_;rintro a W ⟨i,Ds,u,u0,u1,u4,u5,u6,u7,u8,u10,u11,u12,u13,u14,u15,u16,u17,u18,u19,u20,u21,u22,u23,u24,u25,u26,u27,u28,u29,u33,u34,u35,u36,u37,u38,u39,u40,u41,u42,u43,u44,u45,u46,u47,u48,u49,u50,u51,u52,u53,u54,rfl,hi,hs⟩
 have hW4:=hs.keep.size;by_cases hlt':i < (ec_ L).length
 ·have hlt:i < L.length:=by have:=HLL.out;omega
  obtain ⟨x,t,hxt⟩:∃ x t,L[i] = (x,t):=⟨_,_,rfl⟩
  have e3:W.cell? ⟨gp,i,none⟩ = some (.int .i64 (x:Nat)):=by
   have h1:=(HK.out.2.1.keep (hs.keep.block gp hgp (by omega))).cell (i:=i) (by rw [HLL.out];exact hlt);rw [h1];simp [ec_,hxt]
  have hpb:=(hs.keep.block w.heap.size (by omega) (by omega)).trans HK.out.1;have e0:=aO_ hpb 0;have e1:=aO_ hpb 1;have e2:=aO_ hpb 2;simp at e0 e1 e2;have j1:(0:Int)≤(i:Int):=by omega
  have j2:(i:Int) < ((ec_ L).length:Int):=by have:=HLL.out;omega
  obtain ⟨Wf,hWf,fb,hBW,hsW⟩:=eb_ W a1 a2 a3 n1 c1 n2 c2 n3 c3 (x:Nat) key;have HWF:Hid (Wf = _):=hWf;have hsF:=hs.below hBW;have hDW:=hs.marks.lt;have hgu:∀ g,u.ownBlock = some g→g < W.heap.size:=fun g e=>(hs.row.lt g e).2
  have HX:Hid (L[i] = (x,t)):=hxt;have h0F:Below w.heap.size w Wf:=HK.out.2.2.trans ((hs.keep.below (by omega) (fun k e=>by omega)).trans (hBW.mono (by omega)));have hJ10:(aN_ p key (L.take i)).length≤10:=by
   have hnd:((L.take i).map Prod.fst).Nodup:=(HND.out).sublist ((List.take_sublist i L).map _);have:=fn_ (p:=p) (key:=key) hnd;have:=HRP.out.few.2.2;omega
  clear hWf hxt hpb;gi_wp2_with fail
  refine ⟨trivial,?_⟩;refine (gm_ _ _ _ _ _ _ _).mono ?_;rintro e w' ⟨rfl,rfl⟩;rw [← HWF.out];clear e0 e1 e2 e3;gi_wp2_with fail
  refine wpIn_rangeFunc_ownH rfl (by omega) (gf:=165) (lb:=#[.pointer (some ⟨W.heap.size,0,none⟩),.pointer (some ⟨W.heap.size+1,0,none⟩),.pointer (some ⟨W.heap.size+1+1,0,none⟩)]) rfl trivial (enters_of Tryz.func165 (by kernel_rfl) rfl)
   (hD_ 7 (by omega) W.heap.size p a1 a2 a3 n1 c1 n2 c2 n3 c3 (x:Nat) key w Wf HCK.out.1 HCK.out.2 HP.out (by omega) (by omega) h0F fb) (fun h k=>h.trans k) (fun W' l o o' hl ho _ _=>k1_ (by omega) (by omega) W' l o o' hl ho) (Below.refl _ _) (fun _=>rfl)
   (fun pre W'=>∃ u',QSt w4 w2.heap.size u' (qL p (aN_ p key (L.take i) ++ pre)) Ds W'∧(∀ g',u'.ownBlock = some g'→g' < W.heap.size∨W.heap.size+3≤g')∧Wf.heap.size≤W'.heap.size)
   (fun _ _ _=>False)
   (fun pre W' W'' row hI hg hr=>by
    obtain ⟨u',h1,h2,h3⟩:=hI;exact ⟨u',h1.other hg hr (by omega) (by omega) (fun D hD=>by have:=hDW D hD;omega),h2,Nat.le_trans h3 hg.size⟩)
   (fun _ _ _ _ _ h _ _=>h)
   ⟨u,by rw [List.append_nil];exact hsF,fun g' e=>.inl (hgu g' e),Nat.le_refl _⟩
   (fun y a' W'=>∃ Bx,W.heap.size+3≤Bx∧W'.heap[Bx]? = some (.cells #[.int .i64 (bAt p y).src,.bool (bAt p y).toPost,.int .i64 (bAt p y).dst,.string (bAt p y).pat] 100 (0,0))∧a' = { tmps:=#[u0,u1,.string key,.pointer (some ⟨w.heap.size,0,none⟩),u4,u5,u6,u7,u8,.pointer (some ⟨w2.heap.size,0,none⟩),u10,u11,u12,.int .i64 (x:Nat),u14,.pointer (some ⟨Bx,0,none⟩),u16,u17,u18,u19,u20,u21,u22,u23,u24,u25,u26,u27,u28,u29,.slice (some ⟨gp,0,none⟩) (ec_ L).length cp,.int .i64 ((ec_ L).length:Nat),.int .i64 (i:Nat),.bool true,.pointer (some ⟨gp,i,none⟩),.int .i64 (x:Nat),.agg #[.slice a1 n1 c1,.slice a2 n2 c2,.slice a3 n3 c3],.int .i64 (x:Nat),.string key,.func (.func 165) #[] #[.pointer (some ⟨W.heap.size,0,none⟩),.pointer (some ⟨W.heap.size+1,0,none⟩),.pointer (some ⟨W.heap.size+1+1,0,none⟩)],.int .i64 (y:Nat),(bAt p y).val,u42,u43,u44,u45,u46,u47,u48,u49,u50,u51,u52,u53,u54],defers:=[] })
   (fun y a' _ W' W'' row hA hg hr=>by
    obtain ⟨Bx,h1,h2,h3⟩:=hA;refine ⟨Bx,h1,(hg.block Bx (Array.getElem?_eq_some_iff.1 h2).1 (fun e=>?_)).trans h2,h3⟩;obtain ⟨_,o,h4,h5⟩:=hr Bx e.symm;rw [h2] at h4;cases h4;cases h5)
   ?assign ?body ?done ?stop
  case stop=>rintro D c pre W' _ _ h _;exact h.elim
  case assign=>
   rintro l pre y W' K ⟨u',h1,h2,h3⟩ hK;dsimp only [di_.val];gi_wp2
   have hBa:Below W'.heap.size W' (W'.alloc (.cells #[.int .i64 (bAt p y).src,.bool (bAt p y).toPost,.int .i64 (bAt p y).dst,.string (bAt p y).pat] 100)):=(Below.refl _ _).alloc (Nat.le_refl _) _;exact hK _ _ ((KeepsOthers.alloc _ _).from _) (cl_.of_below hBa (by omega) (by omega)) ⟨u',h1.below hBa,h2,Nat.le_trans h3 hBa.size⟩ ⟨W'.heap.size,by omega,World.alloc_heap_new W' _,rfl⟩
  case body=>
   rintro l pre y a' W' hl _ ⟨u',h1,h2,h3⟩ ⟨Bx,hBx,hcell,rfl⟩ hlen;have h10:=gk_ (p:=p) (key:=key) (v:=(x:Nat)) HRP.out.few.2.2;have hql:=m7_ p (aN_ p key (L.take i) ++ pre);rw [List.length_append] at hql;have hql':(qL p (aN_ p key (L.take i) ++ pre)).length≤100:=by omega
   have m0:=aO_ hcell 0;have m1:=aO_ hcell 1;have m2:=aO_ hcell 2;have m3:=aO_ hcell 3;simp at m0 m1 m2 m3;have lc':=h1.lbox.cell;cases htp:(bAt p y).toPost with
   | true =>
     have HC:Hid (qL p (aN_ p key (L.take i) ++ (pre ++ [y])) = qL p (aN_ p key (L.take i) ++ pre)):=by show qL p _ = _;rw [← List.append_assoc];exact lE_ htp
     rw [htp] at m1;gi_wp2
     exact ⟨KeepsFrom.refl _ _,cl_.refl _ _ _,u',by rw [HC.out];exact h1,h2,h3⟩
   | false =>
     have HC:Hid (qL p (aN_ p key (L.take i) ++ (pre ++ [y])) = qL p (aN_ p key (L.take i) ++ pre) ++ [(bAt p y).dst]):=by show qL p _ = _;rw [← List.append_assoc];exact lF_ htp
     rw [htp] at m1;obtain ⟨i0,hi0,hz0,hz1,hz2⟩:=info_parts Tryz.infoInt;have hW'4:=h1.keep.size;obtain ⟨z,hz⟩:∃ z,z = (bAt p y).dst:=⟨_,rfl⟩
     rw [← hz] at m2 HC;obtain ⟨ql,hqe⟩:∃ ql,ql = qL p (aN_ p key (L.take i) ++ pre):=⟨_,rfl⟩
     rw [← hqe] at h1 hql' HC;clear htp hz hql hqe;gi_wp2_with (gi_at_builtin;refine wpListIn_append_own_at _ rfl _ _ 32 rfl w4.heap.size 3 i0 (.int .i64 0) 1 8 Tryz.underlying32 hi0 hz0 hz1 hz2 rfl (by decide) _ _ _ rfl (h1.row.alloc _) ⟨W'.heap.size,0,none⟩ 1 1 [.int .i64 z] rfl rfl (cell_one_new _ _ _) (by simp [Value.oneCell']) (by unfold maxLen;omega) (by omega) (by simp;omega) ?_;intro v' wc hown' hgrow _ hat';obtain ⟨gn,capn,rfl⟩:=ownsRow_succ hown';obtain ⟨hbx',hst',hturn⟩:=h1.push (by omega) hgrow (by simpa using hown');have hc1:=hbx'.cell;have hf1:=hbx'.frozen)
     exact ⟨h1.keepsFrom hturn (by omega),h1.keepF hturn (by omega) (by omega) (by omega) (by omega) (by omega) h2,_,by rw [HC.out];exact hst',fun g' e=>by
      rcases (show Value.ownBlock (.slice (some ⟨gn,0,none⟩) (ql.length+1) capn) = u'.ownBlock∨Value.ownBlock (.slice (some ⟨gn,0,none⟩) (ql.length+1) capn) = some (W'.alloc _).heap.size from hat') with e2 | e2
      ·exact h2 g' (e2.symm.trans e)
      ·rw [e2] at e;simp only [Option.some.injEq,World.size_alloc] at e;omega,Nat.le_trans h3 hturn.size⟩
  case done=>
   rintro D ys W' hD hys ⟨u',h1,h2,h3⟩ hmark;have hbt:=hs_ (p:=p) (key:=key) hlt;rw [HX.out] at hbt;rw [hys,← hbt] at h1;have h1':QSt w4 w2.heap.size u' (qL p (aN_ p key (L.take (i+1)))) (D :: Ds) W':=⟨h1.keep,h1.lbox,h1.row,h1.marks.cons (fun h=>by have:=hDW D h;omega) (by omega) hmark⟩;clear h1 hys hbt;gi_wp2_with fail
   exact ⟨⟨i+1,D :: Ds,u',_,_,_,_,_,_,_,_,_,_,_,_,_,_,_,_,_,_,_,_,_,_,_,_,_,_,_,_,_,_,_,_,_,_,_,_,_,_,_,_,_,_,_,_,_,_,_,_,_,rfl,by omega,h1'⟩,by simp [intOf];omega⟩
 ·have lc:=hs.lbox.cell;have hiL':i = L.length:=by have:=HLL.out;omega
  subst hiL';rw [List.take_length] at hs;have hJ10:(qL p (aN_ p key L)).length≤10:=by
   have h1:=m7_ p (aN_ p key L);have h2:=fn_ (p:=p) (key:=key) HND.out;have:=HRP.out.few.2.2;omega
  have hB0W:Below w.heap.size w W:=HK.out.2.2.trans (hs.keep.below (by omega) (fun k e=>by omega));obtain ⟨ql,hqe⟩:∃ ql,ql = qL p (aN_ p key L):=⟨_,rfl⟩
  have HQ:Hid (ql = qL p (aN_ p key L)):=hqe;rw [← hqe] at hs hJ10;clear hqe;by_cases hq0:ql = []
  ·obtain ⟨au,cu,rfl⟩:∃ au cu,u = .slice au 0 cu:=by
    rcases hs.row.2 with ⟨rfl,_⟩ | ⟨g,cap,cur,rfl,_⟩
    ·exact ⟨none,0,rfl⟩
    ·exact ⟨_,cap,by rw [hq0];rfl⟩
   gi_wp2_with fail
   refine ⟨trivial,?_⟩;refine (callsIn_wide.2 (lW_ _ _ _)).mono ?_;rintro e w5 ⟨⟨q,rfl⟩,rfl⟩;gi_wp2_with fail
   refine ⟨trivial,?_⟩;refine (callsIn_wide.2 (hz_ _ _ _)).mono ?_;rintro e w6 ⟨rfl,rfl⟩;gi_wp2_with fail
   refine cR_ (n0:=w4.heap.size) (Ds:=Ds) hs.marks (fun W' hW'=>?_);exact ⟨_,results_tmp2 rfl _ _ _,[],au,cu,rfl,h2_ HRP.out hre hiL List.Pairwise.nil (fun z=>by rw [← HQ.out,hq0]),by simp,.inl rfl,hB0W.trans (hW'.below hB0W.size (fun k h=>by have:=(hs.marks.there k h).1;omega))⟩
  ·obtain ⟨g,cg,rfl,hgb,hgc,hgm,hir⟩:=jr_ hs.row hq0;have hgne:=hs.row_ne (g:=g) rfl;gi_wp2_with fail
   refine ⟨trivial,?_⟩;refine (callsIn_wide.2 (mS_ ql g _ cg _ rfl (by omega) hir)).mono ?_;rintro e w5 ⟨⟨q,rfl⟩,ys,hpm,hso,hir5,ht5⟩;have lc5:=(ht5.boxed hs.lbox (fun e=>hgne.1 e.symm)).cell;have hm5:=hs.marks.turn ht5 (fun D hD e=>hgne.2 (by rw [← e];exact hD));have hyl:ys.length = ql.length:=hpm.length_eq;have HYL:Hid (ys.length = ql.length):=hyl;have HPM:=g2_ (And.intro hpm hso);clear lc hyl hpm hso;gi_wp2_with fail
   refine ⟨trivial,?_⟩;refine (callsIn_wide.2 (im_ ys g _ cg _ HYL.out (by omega) hgc HPM.out.2 hir5)).mono ?_;rintro e w6 ⟨zs,cz,rfl,hz12,hzr,hzm,hir6,ht6⟩;have hm6:=hm5.turn ht6 (fun D hD e=>hgne.2 (by rw [← e];exact hD));clear lc5;gi_wp2_with fail
   refine cR_ (n0:=w4.heap.size) (Ds:=Ds) hm6 (fun W' hW'=>?_);have ht:Turn (fun k=>w4.heap.size≤k) W W':=((ht5.mono (fun k _ e=>by rw [e];exact hgb)).trans ht6 (fun k _ e=>by rw [e];exact hgb)).trans hW' (fun k _ h=>(hm6.there k h).1);exact ⟨_,results_tmp2 rfl _ _ _,zs,_,cz,rfl,h2_ HRP.out hre hiL hzr (fun z=>by rw [hzm,HPM.out.1.mem_iff,HQ.out]),hz12,(hir6.keep (hW'.block g hir6.lt hgne.2)).ints,hB0W.trans (ht.below hB0W.size (fun k h=>by omega))⟩
theorem gC_ (p:ad_) (a1 a2 a3:Option Addr) (n1 c1 n2 c2 n3 c3:Nat) (v:Int) (key:ByteArray) (w:World) (hp:ap_ w a1 a2 a3 n1 n2 n3 p) :
 Calls Tryz.prog 98 #[.agg #[.slice a1 n1 c1,.slice a2 n2 c2,.slice a3 n3 c3],.int .i64 v,.string key] w fun e w'=>∃ zs a c,e = .returned (.tuple #[.slice a zs.length c,.int .i64 (rtE p v key)])∧(rtE p v key = 0→cN_ p key v.toNat zs)∧(rtE p v key≠0→zs = [])∧zs.length≤12∧cC_ w' a zs∧Below w.heap.size w w':=by
 obtain ⟨d,hd⟩:∃ d,d = rtE p v key:=⟨_,rfl⟩
 rw [← hd];by_cases h0:d = 0
 ·obtain ⟨z1,z2,z3,z4⟩:=nC_ (hd.symm.trans h0);obtain ⟨x,rfl⟩:=Int.eq_ofNat_of_zero_le z3;refine (callsIn_wide.1 (lH_ p a1 a2 a3 n1 c1 n2 c2 n3 c3 x key w z1 z2 (by have:=hp.l1;omega) hp)).mono ?_;rintro e w' ⟨zs,a,c,rfl,h1,h2,h3,h4⟩;exact ⟨zs,a,c,by rw [h0],fun _=>h1,fun h=>absurd h0 h,h2,h3,h4⟩
 ·obtain ⟨W1,hW1,hBw,hs1,hbx⟩:=c4_ w (.slice a1 n1 c1) (.slice a2 n2 c2) (.slice a3 n3 c3) 26;have HW1:Hid (W1 = _):=hW1;have HP1:Hid (ap_ W1 a1 a2 a3 n1 n2 n3 p):=hp.keep hBw;have HD:Hid (d = rtE p v key):=hd;have s1:=hBw.size;have h0':(d != 0) = true:=bne_iff_ne.2 h0;have H0:Hid (¬ d = 0):=h0;clear h0 hd hW1 hp hbx hs1;go_enter Tryz.func98,Tryz.ntmps98;go_wp2_with fail
  rw [← HW1.out];refine (fR_ p _ _ _ _ _ _ _ _ _ _ _ _ HP1.out).mono ?_;rintro e w2 ⟨rfl,hB2⟩;rw [← HD.out];go_wp2_with fail
  go_ret2
  exact ⟨[],none,0,rfl,fun h=>absurd h H0.out,fun _=>rfl,by simp,.inl rfl,hBw.trans (hB2.mono s1)⟩
end Go.Proofs.YtlbnkpicnokgoaaGreat
namespace Go.Proofs.YtlbnkpicnokgoaaGreat
open Go.RowKit Go.Maps
set_option linter.unusedVariables false
set_option maxRecDepth 100000
end Go.Proofs.YtlbnkpicnokgoaaGreat
namespace Go.Proofs.YtlbnkpicnokgoaaGreat
open Go.RowKit Go.Shelf Go.Maps
set_option linter.unusedVariables false
set_option maxRecDepth 100000
attribute [local go_sem] Oper.semAt_some
end Go.Proofs.YtlbnkpicnokgoaaGreat
namespace Go.Proofs.YtlbnkpicnokgoaaGreat
open Go.RowKit Go.Maps
set_option linter.unusedVariables false
set_option maxRecDepth 100000
set_option maxHeartbeats 1000000
theorem hr_ {b n:Nat} {W w':World} (h:Below b W w'):Below b W (w'.drewN n):=⟨h.os,h.tape,h.output,h.size,h.block⟩
theorem h5_ (zs:List Int) (a1 a2:Option Addr) (n c1 c2:Nat) (w:World) (hn:zs.length = n) (hm:n≤1000) (h1:cC_ w a1 zs) (h2:cC_ w a2 zs) :
 Calls Tryz.prog 14 #[.slice a1 n c1,.slice a2 n c2] w fun e w'=>e = .returned (.bool true)∧Below w.heap.size w w':=by
 have HN:Hid (zs.length = n):=hn;have H12:=g2_ (And.intro h1 h2);clear hn h1 h2;go_enter Tryz.func14,Tryz.ntmps14;go_wp2
 go_loopw [5] (fun i wr=>∃ (k:Nat),k≤n∧i = .int .i64 k∧Below w.heap.size w wr) (fun i _=>n - (intOf i).toNat)
 case atStart=>exact ⟨0,Nat.zero_le _,rfl,Below.refl _ _⟩
 case round=>
  obtain ⟨k,hk,rfl,hB⟩:=hrel;by_cases hlt:k < n
  ·have hkl:k < zs.length:=by rw [HN.out];exact hlt
   rcases H12.out.1 with h | ⟨g,rfl,hg,hx⟩
   ·rw [h] at hkl;simp at hkl
   rcases H12.out.2 with h | ⟨g',rfl,hg',hx'⟩
   ·rw [h] at hkl;simp at hkl
   have d1:=(hB.cell (p:=⟨g,k,none⟩) hg).trans (hx k hkl);have d2:=(hB.cell (p:=⟨g',k,none⟩) hg').trans (hx' k hkl);obtain ⟨z,hz⟩:∃ z,z = zs[k]:=⟨_,rfl⟩
   rw [← hz] at d1 d2;have j1:(0:Int)≤(k:Int):=by omega
   have j2:(k:Int) < n:=by omega
   clear hx hx' hz;go_wp2
   go_quiet (fail)
   go_wp2
   go_roundw
   case rel=>exact ⟨k+1,by omega,by go_num,hr_ hB⟩
   case measure=>simp [intOf];omega
  ·go_wp2
   go_ret
   exact ⟨rfl,hB⟩
end Go.Proofs.YtlbnkpicnokgoaaGreat
