import Derived.Test.YtlbnkpicnokgoaaGreatCAk
import Derived.Test.YtlbnkpicnokgoaaGreatUax
namespace Go.Proofs.YtlbnkpicnokgoaaGreat
open Go.RowKit Go.Maps
set_option linter.unusedVariables false
set_option maxRecDepth 100000
set_option maxHeartbeats 8000000
theorem fk_ {α:Type} {f:α→Bool} {l:List α} {k:Nat} (hk:k < l.length) (h:f l[k] = false):l.all f = false:=by
 rw [List.all_eq_false];exact ⟨_,List.getElem_mem hk,by simp [h]⟩
theorem ex_ {α:Type} {f:α→Bool} {l:List α} {k:Nat} (hk:k < l.length) (h:(l.take k).all f = true) (h1:f l[k] = true):(l.take (k+1)).all f = true:=by
 rw [List.take_succ_eq_append_getElem hk,List.all_append,h];simp [h1]
theorem hc_ {a:ArrD} (h:kerr a.key.data.toList≠0∨12 < a.body.size∨¬ (0≤a.deaths∧a.deaths≤2)):am_ (arrI a) = false:=by
 refine Bool.eq_false_iff.2 fun e=>?_
 obtain ⟨_,_,h3,h4,h5⟩:=by_ e;rcases h with h | h | h
 ·exact h h3
 ·have:(arrI a).body.size = a.body.size:=rfl;omega
 ·exact h h5
theorem fP_ (p:ad_) (a1 a2 a3:Option Addr) (n1 c1 n2 c2 n3 c3:Nat) (s:ab_) (b1 b2 b3:Option Addr) (m1 d1 m2 d2 m3 d3:Nat) (l:List ArrD) (b:Option Addr) (mb cb:Nat) (w:World) (hp:ap_ w a1 a2 a3 n1 n2 n3 p) (hs:an_ w b1 b2 b3 m1 m2 m3 s) (hl:bh_ w b l) (hll:l.length = mb) :
 Calls Tryz.prog 157 #[.agg #[.slice a1 n1 c1,.slice a2 n2 c2,.slice a3 n3 c3],.agg #[.slice b1 m1 d1,.slice b2 m2 d2,.slice b3 m3 d3,.int .i64 s.nextSeq,.int .i64 s.nextTag,.int .i64 s.came,.int .i64 s.acked,.int .i64 s.dropped],.slice b mb cb] w fun e w'=>e = .returned (.int .i64 (letE p s l))∧Below w.heap.size w w':=by
 obtain ⟨E,hE⟩:∃ E,E = letE p s l:=⟨_,rfl⟩
 rw [← hE];obtain ⟨E0,hE0⟩:∃ E0,E0 = stE p s:=⟨_,rfl⟩
 obtain ⟨W2,hW2,hBw,hs2,hbx⟩:=bZ_ w #[.slice a1 n1 c1,.slice a2 n2 c2,.slice a3 n3 c3] #[.slice b1 m1 d1,.slice b2 m2 d2,.slice b3 m3 d3,.int .i64 s.nextSeq,.int .i64 s.nextTag,.int .i64 s.came,.int .i64 s.acked,.int .i64 s.dropped];have HW2:=hidI hW2;have BX:=hidI hbx;have HE:=hidI hE;have HE0:=hidI hE0;have HS:=hidI (hs.keep hBw);have HP:=hidI (hp.keep hBw);have HA:=hidI (hl.keep hBw);have HLL:=hidI hll;have HBW:=hidI hBw;have HN2:Hid (p.queues.length = n2):=hp.l2;have s0:=hBw.size;obtain ⟨x0,x1,x2⟩:=ag_ (hbx W2 (Below.refl _ _)).1;obtain ⟨y0,y1,y2,y3,y4,y5,y6,y7⟩:=aa_ (hbx W2 (Below.refl _ _)).2;clear hW2 hbx hs2 hp hs hBw hE hE0 hl hll;go_enter Tryz.func157,Tryz.ntmps157;go_wp2_with fail
 rw [← HW2.out];refine (bl_ p _ _ _ _ _ _ _ _ _ s _ _ _ _ _ _ _ _ _ _ HP.out HS.out).mono ?_;rintro e w3 ⟨rfl,k3⟩;rw [← HE0.out];have s3:=k3.size;have K3:=hidI k3;have HK3:=hidI (HBW.out.trans (k3.mono s0));clear x0 x1 x2 y0 y1 y2 y3 y4 y5 y6 y7 k3;by_cases hz:E0 = 0
 rotate_left
 ·have hz':(E0 != 0) = true:=bne_iff_ne.2 hz;have e0:E = E0:=by rw [HE.out];unfold letE;rw [if_pos (by rw [← HE0.out];exact hz),HE0.out]
  clear hz;go_wp2_with fail
  go_ret
  exact ⟨au_ e0.symm,HK3.out⟩
 subst hz;have hn2:n2≤4:=by rw [← HN2.out];exact (aK_ HE0.out.symm).rp.few.2.1
 have HE1:Hid (E = arE p s l):=by show E = _;rw [HE.out];unfold letE;rw [if_neg (by simp [← HE0.out])]
 by_cases hm4:4 < mb
 ·have e2:E = 2:=by rw [HE1.out];unfold arE;rw [if_pos (by rw [HLL.out];exact hm4)]
  have hm4':(4:Int) < (mb:Int):=by omega
  clear hm4;go_wp2_with fail
  go_ret
  exact ⟨au_ e2.symm,HK3.out⟩
 have hm4':¬ (4:Int) < (mb:Int):=by omega
 have HM4:=hidI hm4;clear hm4;go_wp2_with fail
 clear hm4';go_loopw [8] (fun i wr=>∃ (k:Nat),k≤mb∧i = .int .i64 k∧(l.take k).all (arrQ n2) = true∧Below w3.heap.size w3 wr) (fun i _=>mb - (intOf i).toNat)
 case atStart=>exact ⟨0,Nat.zero_le _,rfl,by simp,Below.refl _ _⟩
 case round=>
  obtain ⟨k,hk,rfl,hal,hB⟩:=hrel;have HB:=hidI hB;have HAL:=hidI hal;have HBB:=hidI (K3.out.trans (hB.mono s3));clear hal hB;by_cases hlt:k < mb
  ·have HLT:=hidI hlt;have hkl:k < l.length:=by rw [HLL.out];exact hlt
   obtain ⟨g,o,hga,hgl,e0,e1,e2,e3⟩:=bh_.get HA.out hkl;subst hga;have HKL:=hidI hkl;obtain ⟨x,hx⟩:∃ x,x = l[k]'HKL.out:=⟨_,rfl⟩
   have HX:=hidI hx;rw [← hx] at e0 e1 e2 e3;have SS:Hid (∀ W',Below W2.heap.size W2 W'→W'.cell? ⟨g,o+k * 4,none⟩ = some (.int .i64 x.queue)∧W'.cell? ⟨w.heap.size,1,none⟩ = some (.slice a2 n2 c2)):=fun W' h=>⟨(h.cell (p:=⟨g,o+k * 4,none⟩) hgl).trans e0,coc_ (BX.out W' h).1 1⟩
   have j1:(0:Int)≤(k:Int):=by omega
   have j2:(k:Int) < mb:=by omega
   have hw:IntKind.i64.wrap ((n2:Int) - 1) = (n2:Int) - 1:=by rw [IntKind.wrap_i64];omega
   clear hx hkl e0 e1 e2 e3;go_wp2_with fail
   refine wp_region_held_drew (S:=fun W'=>W'.cell? ⟨g,o+k * 4,none⟩ = some (.int .i64 x.queue)∧W'.cell? ⟨w.heap.size,1,none⟩ = some (.slice a2 n2 c2)) (by kernel_rfl) (SS.out _ HBB.out.drew) (fun hHeld=>?_);refine tk 0 ?_;refine tk 1 ?_;refine tk 2 ?_;refine tk 3 ?_;refine tk 4 ?_;refine tk 5 ?_;refine tk 6 ?_;refine tk 7 ?_;refine tk 8 ?_;refine rdy 9 (fun K hK=>?_);go_simp;refine (aC_ x.queue 0 ((n2:Int) - 1) _).mono ?_;rintro e w4 ⟨rfl,hw4⟩;subst hw4;refine hK.out _ _ (SS.out _ HBB.out.drew) (fun _=>?_);clear hK K;try refine nrm ?_
   refine tk 10 ?_;refine wpAnyH_done (by kernel_rfl) ?_ _;clear hHeld;by_cases hq:ar_ x.queue n2 = false
   ·have hi:inR x.queue 0 ((n2:Int) - 1) = false:=by rw [d6_] at hq;exact ib_ (by omega)
    have e5:E = 5:=by
     rw [HE1.out];unfold arE;rw [if_neg (by rw [HLL.out];exact HM4.out),if_pos (by rw [HN2.out];exact fk_ HKL.out (by rw [← HX.out];exact hq))]
    rw [hi];clear hq;go_wp2_with fail
    go_ret
    exact ⟨au_ e5.symm,HK3.out.trans (HB.out.drew.mono HK3.out.size)⟩
   ·have hi:inR x.queue 0 ((n2:Int) - 1) = true:=by have:=aB_.1 (by simpa using hq);exact fY_ this.1 (by omega)
    have HNQ:Hid ((l.take (k+1)).all (arrQ n2) = true):=ex_ HKL.out HAL.out (by rw [← HX.out];unfold arrQ;simpa using hq);rw [hi];clear hq;go_wp2_with fail
    go_roundw
    case rel=>exact ⟨k+1,HLT.out,by have:=HLT.out;go_num,HNQ.out,HB.out.drew⟩
    case measure=>have:=HLT.out;simp [intOf];omega
  ·have hke:k = mb:=by omega
   subst hke;have HQS:Hid (¬ l.all (arrQ p.queues.length) = false):=by
    have h:=HAL.out;rw [List.take_of_length_le (by rw [HLL.out];exact Nat.le_refl _)] at h;show ¬ _;rw [HN2.out,h];simp
   clear hlt hk;go_wp2_with fail
   go_loopw [9] (fun i wq=>∃ (h:Nat),h≤k∧i = .int .i64 h∧(l.take h).all (fun a=>am_ (arrI a)) = true∧Below w3.heap.size w3 wq) (fun i _=>k - (intOf i).toNat)
   case atStart=>exact ⟨0,Nat.zero_le _,rfl,by simp,HB.out⟩
   case round=>
    obtain ⟨h,hh,rfl,hal,hBq⟩:=hrel;have HBQ:=hidI hBq;have HALQ:=hidI hal;have HBBQ:=hidI (K3.out.trans (hBq.mono s3));clear hal hBq;by_cases hlt:h < k
    ·have HLT:=hidI hlt;have hkl:h < l.length:=by rw [HLL.out];exact hlt
     obtain ⟨g,o,hga,hgl,e0,e1,e2,e3⟩:=bh_.get HA.out hkl;subst hga;have HKL:=hidI hkl;obtain ⟨x,hx⟩:∃ x,x = l[h]'HKL.out:=⟨_,rfl⟩
     have HX:=hidI hx;rw [← hx] at e0 e1 e2 e3;have d1:=(HBBQ.out.cell (p:=⟨g,o+h * 4+1,none⟩) hgl).trans e1;have SS:Hid (∀ W',Below W2.heap.size W2 W'→W'.cell? ⟨g,o+h * 4+2,none⟩ = some (.string x.body)∧W'.cell? ⟨g,o+h * 4+3,none⟩ = some (.int .i64 x.deaths)):=fun W' hW=>⟨(hW.cell (p:=⟨g,o+h * 4+2,none⟩) hgl).trans e2,(hW.cell (p:=⟨g,o+h * 4+3,none⟩) hgl).trans e3⟩
     have HNO:Hid (am_ (arrI x) = false→E = 1):=fun hx0=>by
      rw [HE1.out];unfold arE;rw [if_neg (by rw [HLL.out];exact HM4.out),if_neg HQS.out,if_pos (fk_ HKL.out (by rw [← HX.out];exact hx0))]
     have HYES:Hid (am_ (arrI x) = true→(l.take (h+1)).all (fun a=>am_ (arrI a)) = true):=fun hx0=>ex_ HKL.out HALQ.out (by rw [← HX.out];exact hx0)
     have j1:(0:Int)≤(h:Int):=by omega
     have j2:(h:Int) < k:=by omega
     clear hx hkl e0 e1 e2 e3;go_wp2_with fail
     refine (dV_ x.key _).mono ?_;rintro e w4 ⟨rfl,k4⟩;have K4:=hidI (HBBQ.out.trans (k4.mono HBBQ.out.size));have K4w:=hidI (HBQ.out.trans (k4.mono HBQ.out.size));obtain ⟨E2,hE2⟩:∃ E2,E2 = kerr x.key.data.toList:=⟨_,rfl⟩
     rw [← hE2];have HE2:=hidI hE2;obtain ⟨d2,d3⟩:=SS.out _ K4.out;clear hE2 k4 d1;by_cases hk1:E2 = 0
     rotate_left
     ·have hk1':(E2 != 0) = true:=bne_iff_ne.2 hk1;have e1:=HNO.out (hc_ (.inl (by rw [← HE2.out];exact hk1)));clear hk1;go_wp2_with fail
      go_ret
      exact ⟨au_ e1.symm,HK3.out.trans (K4w.out.mono HK3.out.size)⟩
     subst hk1;obtain ⟨bz,hbz⟩:∃ bz,bz = x.body.size:=⟨_,rfl⟩
     have HBZ:=hidI hbz;by_cases hb1:12 < bz
     ·have e1:=HNO.out (hc_ (.inr (.inl (by rw [← HBZ.out];exact hb1))));have hb1':(12:Int) < (x.body.size:Int):=by omega
      clear hb1 hbz;go_wp2_with fail
      go_ret
      exact ⟨au_ e1.symm,HK3.out.trans (K4w.out.mono HK3.out.size)⟩
     have hb1':¬ (12:Int) < (x.body.size:Int):=by omega
     have HB1:=hidI hb1;clear hb1 hbz;go_wp2_with fail
     refine (aC_ x.deaths 0 2 _).mono ?_;rintro e w6 ⟨rfl,hw6⟩;subst hw6;by_cases hd1:0≤x.deaths∧x.deaths≤2
     rotate_left
     ·have hi:inR x.deaths 0 2 = false:=ib_ hd1;have e1:=HNO.out (hc_ (.inr (.inr hd1)));rw [hi];clear hd1;go_wp2_with fail
      go_ret
      exact ⟨au_ e1.symm,HK3.out.trans (K4w.out.mono HK3.out.size)⟩
     have hi:inR x.deaths 0 2 = true:=fY_ hd1.1 hd1.2;have HNX:=hidI (HYES.out (f1_ (x:=arrI x) (Int.le_refl _) (by show (0:Int) < 1048576;decide) HE2.out.symm (by have:=HB1.out;have:=HBZ.out;show x.body.size≤12;omega) hd1.1 hd1.2));rw [hi];clear hd1;go_wp2_with fail
     go_roundw
     case rel=>exact ⟨h+1,HLT.out,by have:=HLT.out;go_num,HNX.out,K4w.out⟩
     case measure=>have:=HLT.out;simp [intOf];omega
    ·have hke:h = k:=by omega
     subst hke;have HIS:Hid (¬ l.all (fun a=>am_ (arrI a)) = false):=by
      have hx:=HALQ.out;rw [List.take_of_length_le (by rw [HLL.out];exact Nat.le_refl _)] at hx;show ¬ _;rw [hx];simp
     have HE3:Hid (E = if 524288 < s.nextSeq then 2 else 0):=by
      show E = _;rw [HE1.out];unfold arE;rw [if_neg (by rw [HLL.out];exact HM4.out),if_neg HQS.out,if_neg HIS.out]
     obtain ⟨y0,y1,y2,y3,y4,y5,y6,y7⟩:=aa_ (BX.out _ HBBQ.out).2;clear hlt hh;by_cases hn:524288 < s.nextSeq
     ·have e1:E = 2:=by rw [HE3.out,if_pos hn]
      go_wp2_with fail
      go_ret
      exact ⟨au_ e1.symm,HK3.out.trans (HBQ.out.mono HK3.out.size)⟩
     ·have e1:E = 0:=by rw [HE3.out,if_neg hn]
      go_wp2_with fail
      go_ret
      exact ⟨rfl,HK3.out.trans (HBQ.out.mono HK3.out.size)⟩
theorem hx_ (p:ad_) (a1 a2 a3:Option Addr) (n1 c1 n2 c2 n3 c3:Nat) (s:ab_) (b1 b2 b3:Option Addr) (m1 d1 m2 d2 m3 d3:Nat) (l:List ArrD) (b:Option Addr) (mb cb:Nat) (w:World) (hp:ap_ w a1 a2 a3 n1 n2 n3 p) (hs:an_ w b1 b2 b3 m1 m2 m3 s) (hn2:b2 = none→d2 = 0) (hn3:b3 = none→d3 = 0) (hl:bh_ w b l) (hll:l.length = mb) (hmc:mb≤cb) (hcm:cb≤maxLen) :
 Calls Tryz.prog 120 #[.agg #[.slice a1 n1 c1,.slice a2 n2 c2,.slice a3 n3 c3],.agg #[.slice b1 m1 d1,.slice b2 m2 d2,.slice b3 m3 d3,.int .i64 s.nextSeq,.int .i64 s.nextTag,.int .i64 s.came,.int .i64 s.acked,.int .i64 s.dropped],.slice b mb cb] w fun e w'=>∃ v,e = .returned (.tuple #[v,.int .i64 (a9_ (letE p s l) ((arrN p 600 s l:Nat))),.int .i64 (letE p s l)])∧bn_ w' w.heap.size v (letE p s l) (arrS p 600 s l)∧Below w.heap.size w w':=by
 obtain ⟨E,hE⟩:∃ E,E = letE p s l:=⟨_,rfl⟩
 rw [← hE];obtain ⟨N,hN⟩:∃ N,N = a9_ E ((arrN p 600 s l:Nat)):=⟨_,rfl⟩
 rw [← hN];obtain ⟨W3,hW3,hBw,hs3,hbx⟩:=cW_ w #[.slice a1 n1 c1,.slice a2 n2 c2,.slice a3 n3 c3] #[.slice b1 m1 d1,.slice b2 m2 d2,.slice b3 m3 d3,.int .i64 s.nextSeq,.int .i64 s.nextTag,.int .i64 s.came,.int .i64 s.acked,.int .i64 s.dropped];have HW3:=hidI hW3;have BX:=hidI hbx;have HE:=hidI hE;have HN:=hidI hN;have HS:=hidI (hs.keep hBw);have HP:=hidI (hp.keep hBw);have HA:=hidI (hl.keep hBw);have HLL:=hidI hll;have HMC:Hid (mb≤cb∧cb≤maxLen):=⟨hmc,hcm⟩;have HBW:=hidI hBw;have HS3:=hidI hs3;have HN2:=hidI hn2;have HN3:=hidI hn3;have s0:=hBw.size;obtain ⟨x0,x1,x2⟩:=ag_ (hbx W3 (Below.refl _ _)).1;obtain ⟨y0,y1,y2,y3,y4,y5,y6,y7⟩:=aa_ (hbx W3 (Below.refl _ _)).2.1;have HER:Hid (∀ (D:Int) (W W4:World),D≠0→E = D→Below W3.heap.size W3 W→aZ_ (w.heap.size+2) W W4→∃ v,Ending.returned (.tuple #[zerS,.int .i64 0,.int .i64 D]) = .returned (.tuple #[v,.int .i64 N,.int .i64 E])∧bn_ W4 w.heap.size v E (arrS p 600 s l)∧Below w.heap.size w W4):=fun D W W4 hD hED hB hT=>by
  have hN0:N = 0:=by rw [HN.out];unfold a9_;rw [if_neg (by rw [hED];exact hD)]
  refine ⟨zerS,by rw [hN0,hED],⟨fun h=>absurd (hED ▸ h) hD,fun _=>rfl⟩,HBW.out.trans ((hB.mono s0).trans (hT.below (by have:=hB.size;have:=HS3.out;omega) (by omega)))⟩
 clear hW3 hbx hs3 hp hs hBw hE hN hn2 hn3 hl hll hmc hcm;go_enter Tryz.func120,Tryz.ntmps120;go_wp2_with fail
 rw [← HW3.out];refine (fP_ p _ _ _ _ _ _ _ _ _ s _ _ _ _ _ _ _ _ _ l b mb cb _ HP.out HS.out HA.out HLL.out).mono ?_;rintro e w4 ⟨rfl,k4⟩;rw [← HE.out];have s4:=k4.size;have K4:=hidI k4;clear x0 x1 x2 y0 y1 y2 y3 y4 y5 y6 y7;have r4:=(BX.out w4 k4).2.2;obtain ⟨z0,z1,z2,z3,z4,z5,z6,z7⟩:=aa_ r4;have e0:=foc_ r4 0;have e1:=foc_ r4 1;have e2:=foc_ r4 2;have e3:=foc_ r4 3;have e4:=foc_ r4 4;have e5:=foc_ r4 5;have e6:=foc_ r4 6;have e7:=foc_ r4 7;have R4:=hidI r4;clear r4 k4;by_cases hz:E = 0
 rotate_left
 ·have hz':(E != 0) = true:=bne_iff_ne.2 hz;have HZ:=hidI hz;clear hz;go_wp2_with fail
  generalize hW4:World.setCell (World.setCell (World.setCell (World.setCell (World.setCell (World.setCell (World.setCell (World.setCell w4 _ _) _ _) _ _) _ _) _ _) _ _) _ _) _ _ = W4;obtain ⟨b4,t4⟩:=store8 R4.out hW4;obtain ⟨z0,z1,z2,z3,z4,z5,z6,z7⟩:=aa_ b4;exact bodyPost_ret (v:=.tuple #[zerS,.int .i64 0,.int .i64 E]) (by simp [results,Tryz.results120,go_sem,z0,z1,z2,z3,z4,z5,z6,z7,zerS]) rfl (HER.out E _ _ HZ.out rfl K4.out t4)
 subst hz;have h00:stE p s = 0:=by
  have:=HE.out;unfold letE at this;by_cases h:stE p s = 0
  ·exact h
  ·rw [if_pos h] at this;exact absurd this.symm h
 have hae:arE p s l = 0:=by have:=HE.out;unfold letE at this;rw [if_neg (by simp [h00])] at this;exact this.symm
 obtain ⟨q1,q2,q3⟩:=hb_ hae;have HR:=hidI (aK_ h00);have HQ:Hid (l.length≤4∧(∀ a ∈ l,c9_ p a)∧s.nextSeq≤524288):=⟨q1,q2,q3⟩;have HNV:Hid (N = ((arrN p 600 s l:Nat):Int)):=by show N = _;rw [HN.out];unfold a9_;rw [if_pos rfl]
 obtain ⟨y0,y1,y2,y3,y4,y5,y6,y7⟩:=aa_ (BX.out w4 K4.out).2.1;clear h00 hae q1 q2 q3;go_wp2_with fail
 obtain ⟨q1,q2,q3,q4⟩:=HS.out.small HR.out;refine (b4_ s _ _ _ _ _ _ _ _ _ w4 (HS.out.keep K4.out) HN2.out HN3.out q1 q2 q3 q4).mono ?_;rintro e w6 ⟨v6,rfl,hv6,k6'⟩;obtain ⟨g1,g2,g3,l1,r1,l2,r2,l3,r3,rfl,ho⟩:=hv6;have k6:=K4.out.trans (k6'.mono s4);have s6:=k6.size;obtain ⟨w7,hw7⟩:∃ w7,w7 = w6.alloc (.cells #[.slice g1 l1 r1,.slice g2 l2 r2,.slice g3 l3 r3,.int .i64 s.nextSeq,.int .i64 s.nextTag,.int .i64 s.came,.int .i64 s.acked,.int .i64 s.dropped] 31):=⟨_,rfl⟩
 have l7:Below w6.heap.size w6 w7:=by rw [hw7];exact (Below.refl _ _).alloc (Nat.le_refl _) _
 have b7:w7.heap[w6.heap.size]? = some (.cells #[.slice g1 l1 r1,.slice g2 l2 r2,.slice g3 l3 r3,.int .i64 s.nextSeq,.int .i64 s.nextTag,.int .i64 s.came,.int .i64 s.acked,.int .i64 s.dropped] 31 (0,0)):=by rw [hw7];exact World.alloc_heap_new w6 _
 have k7:=k6.trans (l7.mono s6);have ho7:=(ho.lower (n':=W3.heap.size) s4).keep l7;have hbx7:StBox w7 W3.heap.size w6.heap.size s:=⟨_,_,_,_,_,_,_,_,_,b7,ho7⟩;have HAR:=hidI (ev_ p a1 a2 a3 n1 c1 n2 c2 n3 c3 s l b mb cb W3.heap.size w6.heap.size W3 w7 HP.out k7 s6 (Nat.le_refl _) k7.size HR.out (HA.out.keep k7) HLL.out HQ.out.1 HMC.out.1 HMC.out.2 HQ.out.2.1 HQ.out.2.2 hbx7);have HW7:=hidI hw7;have K7:=hidI k7;have S6:=hidI s6;clear y0 y1 y2 y3 y4 y5 y6 y7 z0 z1 z2 z3 z4 z5 z6 z7 e0 e1 e2 e3 e4 e5 e6 e7 ho k6' q1 q2 q3 q4 l7 hw7 k6 b7 ho7 hbx7;go_upto_region 5 with fail
 rw [← HW7.out];obtain ⟨x0,x1,x2⟩:=ag_ (BX.out w7 K7.out).1;clear k7;go_wp2_with fail
 refine HAR.out.mono ?_;rintro e w8 ⟨rfl,hbx8,hF8⟩;rw [← HNV.out];have r8:=(hF8.block (w.heap.size+2) (by have:=HS3.out;omega) (by have:=HS3.out;have:=S6.out;omega)).trans (BX.out w7 K7.out).2.2;obtain ⟨c1',c2',c3',p1,u1,p2,u2,p3,u3,hb8,ho8⟩:=hbx8;obtain ⟨y0,y1,y2,y3,y4,y5,y6,y7⟩:=aa_ hb8;obtain ⟨z0,z1,z2,z3,z4,z5,z6,z7⟩:=aa_ r8;have e0:=foc_ r8 0;have e1:=foc_ r8 1;have e2:=foc_ r8 2;have e3:=foc_ r8 3;have e4:=foc_ r8 4;have e5:=foc_ r8 5;have e6:=foc_ r8 6;have e7:=foc_ r8 7;have R8:=hidI r8;have HO8:=hidI ho8;obtain ⟨SR,hSR⟩:∃ SR,SR = arrS p 600 s l:=⟨_,rfl⟩
 rw [← hSR] at y3 y4 y5 y6 y7 HO8;have HSR:=hidI hSR;have HF8:=hidI (K7.out.trans (hF8.below (Nat.le_refl _) S6.out));clear r8 ho8 hb8 hF8 x0 x1 x2 hSR;go_wp2_with fail
 generalize hW9:World.setCell (World.setCell (World.setCell (World.setCell (World.setCell (World.setCell (World.setCell (World.setCell w8 _ _) _ _) _ _) _ _) _ _) _ _) _ _) _ _ = W9;obtain ⟨b9,t9⟩:=store8 R8.out hW9;obtain ⟨z0,z1,z2,z3,z4,z5,z6,z7⟩:=aa_ b9;exact bodyPost_ret (v:=.tuple #[.agg #[.slice c1' p1 u1,.slice c2' p2 u2,.slice c3' p3 u3,.int .i64 SR.nextSeq,.int .i64 SR.nextTag,.int .i64 SR.came,.int .i64 SR.acked,.int .i64 SR.dropped],.int .i64 N,.int .i64 0]) (by simp [results,Tryz.results120,go_sem,z0,z1,z2,z3,z4,z5,z6,z7]) rfl ⟨_,rfl,⟨fun _=>by rw [← HSR.out];exact ⟨_,_,_,_,_,_,_,_,_,rfl,(HO8.out.turn R8.out (by decide) t9).lower (by have:=HS3.out;omega)⟩,fun h=>absurd rfl h⟩,HBW.out.trans ((HF8.out.mono s0).trans (t9.below (by have:=HF8.out.size;have:=HS3.out;omega) (by omega)))⟩
end Go.Proofs.YtlbnkpicnokgoaaGreat
