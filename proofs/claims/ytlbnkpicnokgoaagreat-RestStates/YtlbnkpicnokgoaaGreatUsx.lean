import Derived.Test.YtlbnkpicnokgoaaGreatCUn
import Derived.Test.YtlbnkpicnokgoaaGreatCLStateHeld
import Derived.Test.YtlbnkpicnokgoaaGreatUpx
import Derived.Test.YtlbnkpicnokgoaaGreatUax
namespace Go.Proofs.YtlbnkpicnokgoaaGreat
open Go.RowKit Go.Maps
set_option linter.unusedVariables false
set_option maxRecDepth 100000
set_option maxHeartbeats 8000000
def quE (p:ad_) (s:ab_) (q:Int):Int:=if stE p s≠0 then stE p s else if ar_ q p.queues.length = false then 5 else 0
theorem ek_ (p:ad_) (a1 a2 a3:Option Addr) (n1 c1 n2 c2 n3 c3:Nat) (s:ab_) (b1 b2 b3:Option Addr) (m1 d1 m2 d2 m3 d3:Nat) (q:Int) (w:World) (hp:ap_ w a1 a2 a3 n1 n2 n3 p) (hs:an_ w b1 b2 b3 m1 m2 m3 s) :
 Calls Tryz.prog 38 #[.agg #[.slice a1 n1 c1,.slice a2 n2 c2,.slice a3 n3 c3],.agg #[.slice b1 m1 d1,.slice b2 m2 d2,.slice b3 m3 d3,.int .i64 s.nextSeq,.int .i64 s.nextTag,.int .i64 s.came,.int .i64 s.acked,.int .i64 s.dropped],.int .i64 q] w fun e w'=>e = .returned (.int .i64 (quE p s q))∧Below w.heap.size w w':=by
 obtain ⟨E,hE⟩:∃ E,E = quE p s q:=⟨_,rfl⟩
 rw [← hE];obtain ⟨E0,hE0⟩:∃ E0,E0 = stE p s:=⟨_,rfl⟩
 obtain ⟨W2,hW2,hBw,hs2,hbx⟩:=bZ_ w #[.slice a1 n1 c1,.slice a2 n2 c2,.slice a3 n3 c3] #[.slice b1 m1 d1,.slice b2 m2 d2,.slice b3 m3 d3,.int .i64 s.nextSeq,.int .i64 s.nextTag,.int .i64 s.came,.int .i64 s.acked,.int .i64 s.dropped];have HW2:=hidI hW2;have BX:=hidI hbx;have HE:=hidI hE;have HE0:=hidI hE0;have HS:=hidI (hs.keep hBw);have HP:=hidI (hp.keep hBw);have HBW:=hidI hBw;have HN2:Hid (p.queues.length = n2):=hp.l2;have s0:=hBw.size;obtain ⟨x0,x1,x2⟩:=ag_ (hbx W2 (Below.refl _ _)).1;obtain ⟨y0,y1,y2,y3,y4,y5,y6,y7⟩:=aa_ (hbx W2 (Below.refl _ _)).2;clear hW2 hbx hs2 hp hs hBw hE hE0;go_enter Tryz.func38,Tryz.ntmps38;go_wp2_with fail
 rw [← HW2.out];refine (bl_ p _ _ _ _ _ _ _ _ _ s _ _ _ _ _ _ _ _ _ _ HP.out HS.out).mono ?_;rintro e w3 ⟨rfl,k3⟩;rw [← HE0.out];have s3:=k3.size;clear x0 x1 x2 y0 y1 y2 y3 y4 y5 y6 y7;obtain ⟨x0,x1,x2⟩:=ag_ (BX.out w3 k3).1;by_cases hz:E0 = 0
 ·subst hz;have hn2:n2≤4:=by rw [← HN2.out];exact (aK_ HE0.out.symm).rp.few.2.1
  have HE1:Hid (E = if ar_ q n2 = false then 5 else 0):=by show E = _;rw [HE.out];unfold quE;rw [if_neg (by simp [← HE0.out]),HN2.out]
  have hw:IntKind.i64.wrap ((n2:Int) - 1) = (n2:Int) - 1:=by rw [IntKind.wrap_i64];omega
  go_wp2_with fail
  refine (aC_ q 0 ((n2:Int) - 1) _).mono ?_;rintro e w4 ⟨rfl,hw4⟩;by_cases hq:ar_ q n2 = false
  ·have hi:inR q 0 ((n2:Int) - 1) = false:=by rw [d6_] at hq;exact ib_ (by omega)
   have e5:E = 5:=by rw [HE1.out,if_pos hq]
   rw [hi];subst hw4;clear hq;go_wp2_with fail
   go_ret
   exact ⟨au_ e5.symm,HBW.out.trans (k3.mono s0)⟩
  ·have hi:inR q 0 ((n2:Int) - 1) = true:=by have:=aB_.1 (by simpa using hq);exact fY_ this.1 (by omega)
   have e0:E = 0:=by rw [HE1.out,if_neg hq]
   rw [hi];subst hw4;clear hq;go_wp2_with fail
   go_ret
   exact ⟨au_ e0.symm,HBW.out.trans (k3.mono s0)⟩
 ·have hz':(E0 != 0) = true:=bne_iff_ne.2 hz;have e0:E = E0:=by rw [HE.out];unfold quE;rw [if_pos (by rw [← HE0.out];exact hz),HE0.out]
  clear hz;go_wp2_with fail
  go_ret
  exact ⟨au_ e0.symm,HBW.out.trans (k3.mono s0)⟩
theorem cW_ (w:World) (pv sv:Array Value):∃ W3,W3 = ((w.alloc (.cells pv 26)).alloc (.cells sv 31)).alloc (.cells #[.slice none 0 0,.slice none 0 0,.slice none 0 0,.int .i64 0,.int .i64 0,.int .i64 0,.int .i64 0,.int .i64 0] 31)∧Below w.heap.size w W3∧W3.heap.size = w.heap.size+3 ∧
 ∀ W,Below W3.heap.size W3 W→W.heap[w.heap.size]? = some (.cells pv 26 (0,0))∧W.heap[w.heap.size+1]? = some (.cells sv 31 (0,0))∧W.heap[w.heap.size+2]? = some (.cells #[.slice none 0 0,.slice none 0 0,.slice none 0 0,.int .i64 0,.int .i64 0,.int .i64 0,.int .i64 0,.int .i64 0] 31 (0,0)):=by
 obtain ⟨h1,h2,h3⟩:=aD_ [.cells pv 26,.cells sv 31,.cells #[.slice none 0 0,.slice none 0 0,.slice none 0 0,.int .i64 0,.int .i64 0,.int .i64 0,.int .i64 0,.int .i64 0] 31] w;exact ⟨_,rfl,h3,h1,fun W hW=>⟨pkp_ (h2 0 _ rfl) hW,pkp_ (h2 1 _ rfl) hW,pkp_ (h2 2 _ rfl) hW⟩⟩
theorem ku_ (p:ad_) (a1 a2 a3:Option Addr) (n1 c1 n2 c2 n3 c3:Nat) (s:ab_) (b1 b2 b3:Option Addr) (m1 d1 m2 d2 m3 d3:Nat) (q most:Int) (w:World) (hp:ap_ w a1 a2 a3 n1 n2 n3 p) (hs:an_ w b1 b2 b3 m1 m2 m3 s) (hn2:b2 = none→d2 = 0) (hn3:b3 = none→d3 = 0) :
 Calls Tryz.prog 39 #[.agg #[.slice a1 n1 c1,.slice a2 n2 c2,.slice a3 n3 c3],.agg #[.slice b1 m1 d1,.slice b2 m2 d2,.slice b3 m3 d3,.int .i64 s.nextSeq,.int .i64 s.nextTag,.int .i64 s.came,.int .i64 s.acked,.int .i64 s.dropped],.int .i64 q,.int .i64 most] w fun e w'=>∃ v,e = .returned (.tuple #[v,.int .i64 (a9_ (dn_ p s q most) (goneIdx s.takers)),.int .i64 (dn_ p s q most)])∧bn_ w' w.heap.size v (dn_ p s q most) (dT_ s q most)∧Below w.heap.size w w':=by
 obtain ⟨E,hE⟩:∃ E,E = dn_ p s q most:=⟨_,rfl⟩
 rw [← hE];obtain ⟨N,hN⟩:∃ N,N = a9_ E (goneIdx s.takers):=⟨_,rfl⟩
 rw [← hN];obtain ⟨E0,hE0⟩:∃ E0,E0 = quE p s q:=⟨_,rfl⟩
 obtain ⟨W3,hW3,hBw,hs3,hbx⟩:=cW_ w #[.slice a1 n1 c1,.slice a2 n2 c2,.slice a3 n3 c3] #[.slice b1 m1 d1,.slice b2 m2 d2,.slice b3 m3 d3,.int .i64 s.nextSeq,.int .i64 s.nextTag,.int .i64 s.came,.int .i64 s.acked,.int .i64 s.dropped];have HW3:=hidI hW3;have BX:=hidI hbx;have HE:=hidI hE;have HN:=hidI hN;have HE0:=hidI hE0;have HS:=hidI (hs.keep hBw);have HP:=hidI (hp.keep hBw);have HBW:=hidI hBw;have HS3:=hidI hs3;have HL2:Hid (p.queues.length = n2):=hp.l2;have HM3:Hid (s.takers.length = m3):=hs.l3;have HN2:=hidI hn2;have HN3:=hidI hn3;have s0:=hBw.size;obtain ⟨x0,x1,x2⟩:=ag_ (hbx W3 (Below.refl _ _)).1;obtain ⟨y0,y1,y2,y3,y4,y5,y6,y7⟩:=aa_ (hbx W3 (Below.refl _ _)).2.1;have HER:Hid (∀ (D:Int) (W W4:World),D≠0→E = D→Below W3.heap.size W3 W→aZ_ (w.heap.size+2) W W4→∃ v,Ending.returned (.tuple #[zerS,.int .i64 0,.int .i64 D]) = .returned (.tuple #[v,.int .i64 N,.int .i64 E])∧bn_ W4 w.heap.size v E (dT_ s q most)∧Below w.heap.size w W4):=fun D W W4 hD hED hB hT=>by
  have hN0:N = 0:=by rw [HN.out];unfold a9_;rw [if_neg (by rw [hED];exact hD)]
  refine ⟨zerS,by rw [hN0,hED],⟨fun h=>absurd (hED ▸ h) hD,fun _=>rfl⟩,HBW.out.trans ((hB.mono s0).trans (hT.below (by have:=hB.size;have:=HS3.out;omega) (by omega)))⟩
 clear hW3 hbx hs3 hp hs hBw hE hE0 hN hn2 hn3;go_enter Tryz.func39,Tryz.ntmps39;go_wp2_with fail
 rw [← HW3.out];refine (ek_ p _ _ _ _ _ _ _ _ _ s _ _ _ _ _ _ _ _ _ q _ HP.out HS.out).mono ?_;rintro e w4 ⟨rfl,k4⟩;rw [← HE0.out];have s4:=k4.size;have K4:=hidI k4;clear x0 x1 x2 y0 y1 y2 y3 y4 y5 y6 y7;have r4:=(BX.out w4 k4).2.2;obtain ⟨z0,z1,z2,z3,z4,z5,z6,z7⟩:=aa_ r4;have e0:=foc_ r4 0;have e1:=foc_ r4 1;have e2:=foc_ r4 2;have e3:=foc_ r4 3;have e4:=foc_ r4 4;have e5:=foc_ r4 5;have e6:=foc_ r4 6;have e7:=foc_ r4 7;have R4:=hidI r4;clear r4 k4;by_cases hz:E0 = 0
 ·subst hz;have h00:stE p s = 0:=by
   have:=HE0.out;unfold quE at this;by_cases h:stE p s = 0
   ·exact h
   ·rw [if_pos h] at this;exact absurd this.symm h
  have hq0:¬ ar_ q p.queues.length = false:=fun h=>by
   have:=HE0.out;unfold quE at this;rw [if_neg (by simp [h00]),if_pos h] at this;cases this
  have HR:=hidI (aK_ h00);have HE1:Hid (E = if inR most 1 4 = false then 3 else if goneIdx s.takers = s.takers.length∧4≤s.takers.length then 2 else 0):=by show E = _;rw [HE.out];unfold dn_ hs_;rw [if_neg (by simp [h00]),if_neg hq0]
  go_wp2_with fail
  refine (aC_ most 1 4 _).mono ?_;rintro e w5 ⟨rfl,rfl⟩;by_cases hm:inR most 1 4 = false
  ·rw [hm];have e3':E = 3:=by rw [HE1.out,if_pos hm]
   clear h00 hq0 hm;go_wp2_with fail
   generalize hW4:World.setCell (World.setCell (World.setCell (World.setCell (World.setCell (World.setCell (World.setCell (World.setCell w5 _ _) _ _) _ _) _ _) _ _) _ _) _ _) _ _ = W4;obtain ⟨b4,t4⟩:=store8 R4.out hW4;obtain ⟨z0,z1,z2,z3,z4,z5,z6,z7⟩:=aa_ b4;exact bodyPost_ret (v:=.tuple #[zerS,.int .i64 0,.int .i64 3]) (by simp [results,Tryz.results39,go_sem,z0,z1,z2,z3,z4,z5,z6,z7,zerS]) rfl (HER.out 3 _ _ (by decide) e3' K4.out t4)
  ·rw [show inR most 1 4 = true by simpa using hm];have HE2:Hid (E = if goneIdx s.takers = s.takers.length∧4≤s.takers.length then 2 else 0):=by show E = _;rw [HE1.out,if_neg hm]
   obtain ⟨y0,y1,y2,y3,y4,y5,y6,y7⟩:=aa_ (BX.out w5 K4.out).2.1;clear h00 hq0 hm;go_wp2_with fail
   obtain ⟨q1,q2,q3,q4⟩:=HS.out.small HR.out;refine (b4_ s _ _ _ _ _ _ _ _ _ w5 (HS.out.keep K4.out) HN2.out HN3.out q1 q2 q3 q4).mono ?_;rintro e w6 ⟨v6,rfl,hv6,k6'⟩;obtain ⟨g1,g2,g3,l1,r1,l2,r2,l3,r3,rfl,ho⟩:=hv6;have k6:=K4.out.trans (k6'.mono s4);have s6:=k6.size;have hl3:l3 = m3:=ho.l3.symm.trans HM3.out;subst hl3;have hm4:l3≤4:=by rw [← ho.l3];exact HR.out.tk
   obtain ⟨w7,hw7⟩:∃ w7,w7 = w6.alloc (.cells #[.slice g1 l1 r1,.slice g2 l2 r2,.slice g3 l3 r3,.int .i64 s.nextSeq,.int .i64 s.nextTag,.int .i64 s.came,.int .i64 s.acked,.int .i64 s.dropped] 31):=⟨_,rfl⟩
   have l7:Below w6.heap.size w6 w7:=by rw [hw7];exact (Below.refl _ _).alloc (Nat.le_refl _) _
   have b7:w7.heap[w6.heap.size]? = some (.cells #[.slice g1 l1 r1,.slice g2 l2 r2,.slice g3 l3 r3,.int .i64 s.nextSeq,.int .i64 s.nextTag,.int .i64 s.came,.int .i64 s.acked,.int .i64 s.dropped] 31 (0,0)):=by rw [hw7];exact World.alloc_heap_new w6 _
   have k7:=k6.trans (l7.mono s6);have ho7:=(ho.lower (n':=w.heap.size+3) (by have:=K4.out.size;have:=HS3.out;omega)).keep l7;have HW7:=hidI hw7;have B7:=hidI b7;have K7:=hidI k7;have HO7:=hidI ho7;have HL6:Hid (w.heap.size+3≤w6.heap.size):=by show _≤_;have:=HS3.out;omega
   clear y0 y1 y2 y3 y4 y5 y6 y7 z0 z1 z2 z3 z4 z5 z6 z7 e0 e1 e2 e3 e4 e5 e6 e7 ho k6' q1 q2 q3 q4 l7 hw7 k6;go_wp2_with fail
   rw [← HW7.out];clear b7 k7 ho7;go_loopw [13] (fun i wr=>∃ (k:Nat),k≤l3∧i = .int .i64 k∧(∀ x ∈ s.takers.take k,decide (x.queue = -1) = false)∧wr = w7) (fun i _=>l3 - (intOf i).toNat)
   case atStart=>exact ⟨0,Nat.zero_le _,rfl,by simp,rfl⟩
   case round=>
    obtain ⟨k,hk,rfl,ha,rfl⟩:=hrel;have HA:=hidI ha;clear ha;obtain ⟨y0,y1,y2,y3,y4,y5,y6,y7⟩:=aa_ B7.out;by_cases hlt:k < l3
    ·have HLT:=hidI hlt;have hkl:k < s.takers.length:=by rw [HM3.out];exact hlt
     have HKL:=hidI hkl;obtain ⟨gt,rfl⟩:∃ gt,g3 = some ⟨gt,0,none⟩:=by
      rcases HO7.out.r3.2 with ⟨e,e0⟩ | ⟨g,cap,cur,e,_⟩
      ·omega
      ·cases e;exact ⟨g,rfl⟩
     have cc0:=HO7.out.r3.cellAt (k * 2) (by omega);have cc1:=HO7.out.r3.cellAt (k * 2+1) (by omega);rw [show (tkC_ s.takers)[k * 2]? = some (.int .i64 (s.takers[k]'hkl).queue) from bJ_ (f:=aj_.cells) (k:=2) (fun _=>rfl) s.takers k hkl 0 (by omega)] at cc0;rw [show (tkC_ s.takers)[k * 2+1]? = some (.int .i64 (s.takers[k]'hkl).most) from bJ_ (f:=aj_.cells) (k:=2) (fun _=>rfl) s.takers k hkl 1 (by omega)] at cc1;have ff0:=HO7.out.r3.frozenAt (k * 2);have ff1:=HO7.out.r3.frozenAt (k * 2+1);have HTS:Hid ((s.takers[k]'hkl).queue≠-1→∀ x ∈ s.takers.take (k+1),decide (x.queue = -1) = false):=fun h x hx=>by
      rw [List.take_succ_eq_append_getElem hkl,List.mem_append,List.mem_singleton] at hx;rcases hx with hx | rfl
      ·exact HA.out x hx
      ·exact decide_eq_false h
     have HGI:Hid ((s.takers[k]'hkl).queue = -1→goneIdx s.takers = k):=fun h=>by
      have:=fF_ (P:=fun t:aj_=>decide (t.queue = -1)) hkl HA.out (decide_eq_true h);rw [jO_] at this;by_cases hg:goneIdx s.takers < s.takers.length
      ·rw [if_pos hg] at this;omega
      ·rw [if_neg hg] at this;omega
     obtain ⟨x,hx⟩:∃ x,x = (s.takers[k]'hkl).queue:=⟨_,rfl⟩
     obtain ⟨mo,hmo⟩:∃ mo,mo = (s.takers[k]'hkl).most:=⟨_,rfl⟩
     rw [← hx] at cc0 HTS HGI;rw [← hmo] at cc1;have j1:(0:Int)≤(k:Int):=by omega
     have j2:(k:Int) < l3:=by omega
     clear hx hmo;by_cases hx1:x = -1
     ·subst hx1;have hgi:=HGI.out rfl;have eE:E = 0:=by rw [HE2.out,if_neg (by omega)]
      have eN:N = (k:Int):=by rw [HN.out,eE];unfold a9_;rw [if_pos rfl,hgi]
      have HEN:=hidI (And.intro eE eN);have HGK:=hidI hgi;obtain ⟨t1,t2,t3⟩:=HO7.out.taker HKL.out ⟨q,most⟩ rfl;have r7:=(t2.block (w.heap.size+2) _ _ (BX.out _ K7.out).2.2 (by decide)).trans (BX.out _ K7.out).2.2;have b8:=(t2.block w6.heap.size _ _ B7.out (by decide)).trans B7.out;have T1:=hidI t1;have R7:=hidI r7;have B8:=hidI b8;have F8:Hid (Below w.heap.size w ((wr.setCell ⟨gt,k * 2,none⟩ (.int .i64 q)).setCell ⟨gt,k * 2+1,none⟩ (.int .i64 most))):=by
       refine ((HBW.out.trans (K7.out.mono s0)).setCell (p:=⟨gt,k * 2,none⟩) ?_ _).setCell (p:=⟨gt,k * 2+1,none⟩) ?_ _
       all_goals (show w.heap.size≤gt;omega)
      obtain ⟨w8,hw8⟩:∃ w8,w8 = (wr.setCell ⟨gt,k * 2,none⟩ (.int .i64 q)).setCell ⟨gt,k * 2+1,none⟩ (.int .i64 most):=⟨_,rfl⟩
      have HW8:=hidI hw8;rw [← hw8] at T1 R7 B8 F8 r7 b8;obtain ⟨y0',y1',y2',y3',y4',y5',y6',y7'⟩:=aa_ b8;obtain ⟨z0,z1,z2,z3,z4,z5,z6,z7⟩:=aa_ r7;have e0:=foc_ r7 0;have e1:=foc_ r7 1;have e2:=foc_ r7 2;have e3:=foc_ r7 3;have e4:=foc_ r7 4;have e5:=foc_ r7 5;have e6:=foc_ r7 6;have e7:=foc_ r7 7;clear hw8 hgi eE eN t1 t2 t3 r7 b8;go_upto_region 12 with fail
      rw [← HW8.out];clear cc0 cc1 ff0 ff1 y0 y1 y2 y3 y4 y5 y6 y7;go_wp2_with fail
      generalize hW9:World.setCell (World.setCell (World.setCell (World.setCell (World.setCell (World.setCell (World.setCell (World.setCell w8 _ _) _ _) _ _) _ _) _ _) _ _) _ _) _ _ = W9;obtain ⟨b9,t9⟩:=store8 R7.out hW9;obtain ⟨z0,z1,z2,z3,z4,z5,z6,z7⟩:=aa_ b9;have eS:dT_ s q most = { s with takers:=s.takers.set k ⟨q,most⟩ }:=by unfold dT_ dU_;rw [if_pos (by rw [HGK.out];exact HKL.out),HGK.out]
      exact bodyPost_ret (v:=.tuple #[.agg #[.slice g1 l1 r1,.slice g2 l2 r2,.slice (some ⟨gt,0,none⟩) l3 r3,.int .i64 s.nextSeq,.int .i64 s.nextTag,.int .i64 s.came,.int .i64 s.acked,.int .i64 s.dropped],.int .i64 k,.int .i64 0]) (by simp [results,Tryz.results39,go_sem,z0,z1,z2,z3,z4,z5,z6,z7]) rfl ⟨.agg #[.slice g1 l1 r1,.slice g2 l2 r2,.slice (some ⟨gt,0,none⟩) l3 r3,.int .i64 s.nextSeq,.int .i64 s.nextTag,.int .i64 s.came,.int .i64 s.acked,.int .i64 s.dropped],by rw [HEN.out.1,HEN.out.2],⟨fun _=>⟨_,_,_,_,_,_,_,_,_,rfl,by rw [eS];exact ((T1.out.turn R7.out (by decide) t9).lower (by omega))⟩,fun h=>absurd HEN.out.1 h⟩,F8.out.trans (t9.below (by have:=F8.out.size;omega) (by omega))⟩
     ·have hx1':(x == -1) = false:=by simpa using hx1
      have HX1:=hidI hx1;clear hx1;go_wp2_with fail
      go_roundw
      case rel=>exact ⟨k+1,HLT.out,by have:=HLT.out;go_num,HTS.out HX1.out,by first | trivial | rfl⟩
      case measure=>have:=HLT.out;simp [intOf];omega
    ·have hke:l3 = k:=by omega
     subst hke;have hno:∀ x ∈ s.takers,decide (x.queue = -1) = false:=fun x hx=>HA.out x (by rw [List.take_of_length_le (by rw [HM3.out];exact Nat.le_refl _)];exact hx)
     have hge:goneIdx s.takers = s.takers.length:=List.findIdx_eq_length.2 hno;have HGE:=hidI hge;have r7:=(BX.out _ K7.out).2.2;have R7:=hidI r7;obtain ⟨z0,z1,z2,z3,z4,z5,z6,z7⟩:=aa_ r7;have e0:=foc_ r7 0;have e1:=foc_ r7 1;have e2:=foc_ r7 2;have e3:=foc_ r7 3;have e4:=foc_ r7 4;have e5:=foc_ r7 5;have e6:=foc_ r7 6;have e7:=foc_ r7 7;by_cases h4:l3 = 4
     ·subst h4;have eE:E = 2:=by rw [HE2.out,if_pos ⟨hge,by rw [HM3.out];exact Nat.le_refl _⟩]
      clear hlt hk hno hge r7;go_wp2_with fail
      generalize hW9:World.setCell (World.setCell (World.setCell (World.setCell (World.setCell (World.setCell (World.setCell (World.setCell wr _ _) _ _) _ _) _ _) _ _) _ _) _ _) _ _ = W9;obtain ⟨b9,t9⟩:=store8 R7.out hW9;obtain ⟨z0,z1,z2,z3,z4,z5,z6,z7⟩:=aa_ b9;exact bodyPost_ret (v:=.tuple #[zerS,.int .i64 0,.int .i64 2]) (by simp [results,Tryz.results39,go_sem,z0,z1,z2,z3,z4,z5,z6,z7,zerS]) rfl (HER.out 2 _ _ (by decide) eE K7.out t9)
     ·have eE:E = 0:=by rw [HE2.out,if_neg (by rw [HM3.out];omega)]
      have eN:N = (l3:Int):=by rw [HN.out,eE];unfold a9_;rw [if_pos rfl,hge,HM3.out]
      have HEN:=hidI (And.intro eE eN);have h4':((l3:Int) == 4) = false:=by simp;omega
      obtain ⟨wA,hwA⟩:∃ wA,wA = wr.alloc (.cells #[.int .i64 q,.int .i64 most] 69):=⟨_,rfl⟩
      have lA:Below wr.heap.size wr wA:=by rw [hwA];exact (Below.refl _ _).alloc (Nat.le_refl _) _
      have xA:wA.heap[wr.heap.size]? = some (.cells #[.int .i64 q,.int .i64 most] 69 (0,0)):=by rw [hwA];exact World.alloc_heap_new wr _
      have HRW:Hid (aO_ wA (some ⟨wr.heap.size,0,none⟩) (tkC_ [⟨q,most⟩])):=.inr ⟨_,0,rfl,lth_ xA,fun j u hj=>by
       rw [Nat.zero_add];refine Eq.trans (coc_ xA j) ?_;have:(tkC_ [⟨q,most⟩])[j]? = (#[Value.int .i64 q,Value.int .i64 most]:Array Value)[j]?:=by simp [tkC_,aj_.cells]
       rw [← this];exact hj⟩
      have HWA:=hidI hwA;have LA:=hidI lA;have HOA:=hidI (HO7.out.keep lA);have hszr:w.heap.size+3≤wr.heap.size:=by have:=K7.out.size;have:=HS3.out;omega
      clear hlt hk hno hge r7 eE eN hwA lA xA h4;go_upto_region 16 with (at_builtin;rw [← HWA.out];refine a1_ eB_ (by kernel_rfl) _ _ rfl (w.heap.size+3) _ l3 (tkC_ s.takers) rfl HOA.out.r3 (some ⟨wr.heap.size,0,none⟩) 1 1 (tkC_ [⟨q,most⟩]) rfl rfl (fun h=>by cases h) HRW.out (cy_ _) (by unfold maxLen;omega) (by omega) (Nat.le_trans hszr LA.out.size) ?_;intro v8 w8 o8 g8 _;obtain ⟨a8,c8,rfl,-⟩:=aH_ o8;have kt8:=av_.grown HOA.out.r3 g8;have b8:=(kt8.block w6.heap.size _ _ (pkp_ B7.out LA.out) (by decide)).trans (pkp_ B7.out LA.out);have x8:=coc_ b8 2;have f8:=foc_ b8 2;simp at x8;have B8:=hidI b8;have KT8:=hidI kt8;have O8:=hidI o8;have G8:=hidI g8;clear b8 kt8 o8 g8)
      have ho8:aM_ w8 (w.heap.size+3) g1 g2 a8 l1 r1 l2 r2 (l3+1) c8 { s with takers:=s.takers ++ [⟨q,most⟩] }:=HOA.out.takers KT8.out (by rw [dj_];exact O8.out);obtain ⟨w9,hw9⟩:∃ w9,w9 = w8.setCell ⟨w6.heap.size,2,none⟩ (.slice a8 (l3+1) c8):=⟨_,rfl⟩
      rw [← hw9];have b9:w9.heap[w6.heap.size]? = some (.cells #[.slice g1 l1 r1,.slice g2 l2 r2,.slice a8 (l3+1) c8,.int .i64 s.nextSeq,.int .i64 s.nextTag,.int .i64 s.came,.int .i64 s.acked,.int .i64 s.dropped] 31 (0,0)):=by rw [hw9];exact scb_ B8.out (j:=2) _
      have kt9:av_ 31 w8 w9:=by rw [hw9];exact av_.setCell B8.out _
      have ho9:=ho8.typeT kt9 (by decide);have F9:Hid (Below w.heap.size w w9):=by
       have l8:Below w.heap.size w w8:=(HBW.out.trans ((K7.out.trans (LA.out.mono K7.out.size)).mono s0)).grown G8.out (by have:=LA.out.size;omega) (fun i hi=>by have:=(HOA.out.r3.lt i hi).1;omega);show Below w.heap.size w w9;rw [hw9];exact l8.setCell (p:=⟨w6.heap.size,2,none⟩) (by show w.heap.size≤w6.heap.size;have:=HL6.out;omega) _
      have r8:w8.heap[w.heap.size+2]? = _:=(KT8.out.block (w.heap.size+2) _ _ (pkp_ R7.out LA.out) (by decide)).trans (pkp_ R7.out LA.out);have r9:w9.heap[w.heap.size+2]? = some (.cells #[.slice none 0 0,.slice none 0 0,.slice none 0 0,.int .i64 0,.int .i64 0,.int .i64 0,.int .i64 0,.int .i64 0] 31 (0,0)):=by rw [hw9];exact (heap_setCell_other w8 ⟨w6.heap.size,2,none⟩ (w.heap.size+2) _ (by show w.heap.size+2≠w6.heap.size;have:=HL6.out;omega)).trans r8
      clear y0 y1 y2 y3 y4 y5 y6 y7 z0 z1 z2 z3 z4 z5 z6 z7 e0 e1 e2 e3 e4 e5 e6 e7 x8 f8;obtain ⟨y0,y1,y2,y3,y4,y5,y6,y7⟩:=aa_ b9;obtain ⟨z0,z1,z2,z3,z4,z5,z6,z7⟩:=aa_ r9;have e0:=foc_ r9 0;have e1:=foc_ r9 1;have e2:=foc_ r9 2;have e3:=foc_ r9 3;have e4:=foc_ r9 4;have e5:=foc_ r9 5;have e6:=foc_ r9 6;have e7:=foc_ r9 7;have R9:=hidI r9;have HO9:=hidI ho9;have hwr:IntKind.i64.wrap (((l3+1:Nat):Int) - 1) = (l3:Int):=by rw [IntKind.wrap_i64];omega
      clear r9 ho9 ho8 b9 kt9 hw9 r8;have hne1:w6.heap.size≠w.heap.size+1+1:=by have:=HL6.out;omega
      have hne2:w.heap.size+1+1≠w6.heap.size:=by have:=HL6.out;omega
      go_wp2_with fail
      go_region
      generalize hWX:World.setCell (World.setCell (World.setCell (World.setCell (World.setCell (World.setCell (World.setCell (World.setCell w9 _ _) _ _) _ _) _ _) _ _) _ _) _ _) _ _ = WX;obtain ⟨bX,tX⟩:=store8 R9.out hWX;obtain ⟨z0,z1,z2,z3,z4,z5,z6,z7⟩:=aa_ bX;go_wp2_with fail
      have eS:dT_ s q most = { s with takers:=s.takers ++ [⟨q,most⟩] }:=by unfold dT_ dU_;rw [if_neg (by rw [HGE.out];omega)]
      exact bodyPost_ret (v:=.tuple #[.agg #[.slice g1 l1 r1,.slice g2 l2 r2,.slice a8 (l3+1) c8,.int .i64 s.nextSeq,.int .i64 s.nextTag,.int .i64 s.came,.int .i64 s.acked,.int .i64 s.dropped],.int .i64 (l3:Int),.int .i64 0]) (by simp [results,Tryz.results39,go_sem,z0,z1,z2,z3,z4,z5,z6,z7]) rfl ⟨.agg #[.slice g1 l1 r1,.slice g2 l2 r2,.slice a8 (l3+1) c8,.int .i64 s.nextSeq,.int .i64 s.nextTag,.int .i64 s.came,.int .i64 s.acked,.int .i64 s.dropped],by rw [HEN.out.1,HEN.out.2],⟨fun _=>⟨_,_,_,_,_,_,_,_,_,rfl,by rw [eS];exact ((HO9.out.turn R9.out (by decide) tX).lower (by omega)).keep (Below.refl _ _).drew⟩,fun h=>absurd HEN.out.1 h⟩,(F9.out.trans (tX.below (by have:=F9.out.size;omega) (by omega))).drew⟩
 ·have hz':(E0 != 0) = true:=bne_iff_ne.2 hz;have HZ:=hidI hz;have eE:E = E0:=by
   rw [HE.out,HE0.out];unfold dn_ hs_ quE;by_cases h:stE p s = 0
   ·have hc:¬ stE p s≠0:=by simp [h]
    rw [if_neg hc,if_neg hc];by_cases h2:ar_ q p.queues.length = false
    ·rw [if_pos h2,if_pos h2]
    ·exfalso
     apply hz
     rw [HE0.out];unfold quE;rw [if_neg (by simp [h]),if_neg h2]
   ·rw [if_pos h,if_pos h]
  clear hz;go_wp2_with fail
  generalize hW4:World.setCell (World.setCell (World.setCell (World.setCell (World.setCell (World.setCell (World.setCell (World.setCell w4 _ _) _ _) _ _) _ _) _ _) _ _) _ _) _ _ = W4;obtain ⟨b4,t4⟩:=store8 R4.out hW4;obtain ⟨z0,z1,z2,z3,z4,z5,z6,z7⟩:=aa_ b4;exact bodyPost_ret (v:=.tuple #[zerS,.int .i64 0,.int .i64 E0]) (by simp [results,Tryz.results39,go_sem,z0,z1,z2,z3,z4,z5,z6,z7,zerS]) rfl (HER.out E0 _ _ HZ.out eE K4.out t4)
theorem kL_ {p:ad_} {s:ab_} (h:ak_ p s 0) {q:Int} {n k:Nat} (hk:k < s.takers.length) (hf:cH_ s q k = true) (hn:heldN s k = n) (hall:∀ j,j < s.takers.length→cH_ s q j = true→n≤heldN s j) (hfst:∀ j,j < k→cH_ s q j = true→heldN s j≠n):ce_ s q = (k:Int):=by
 have hL:Least s q s.takers.length k:=⟨hk,hf,h.few hk hf,fun j hj hfj=>by rw [hn];exact hall j hj hfj,fun j hj hfj=>by have:=hall j (by omega) hfj;have:=hfst j hj hfj;omega⟩;rcases jg_ h q with ⟨_,h2⟩ | ⟨k',e,h2⟩
 ·rw [h2 k hk] at hf;cases hf
 ·rw [e,h2.uniq hL]
theorem lR_ {p:ad_} {s:ab_} (h:ak_ p s 0) {q:Int} (hall:∀ j,j < s.takers.length→cH_ s q j = true→4≤heldN s j):ce_ s q = -1:=by
 rcases jg_ h q with ⟨e,_⟩ | ⟨k',e,h2⟩
 ·exact e
 ·have:=hall k' h2.lt h2.free;have:=h2.few;omega
theorem kK_ (p:ad_) (a1 a2 a3:Option Addr) (n1 c1 n2 c2 n3 c3:Nat) (s:ab_) (b1 b2 b3:Option Addr) (m1 d1 m2 d2 m3 d3:Nat) (q:Int) (w:World) (hp:ap_ w a1 a2 a3 n1 n2 n3 p) (hs:an_ w b1 b2 b3 m1 m2 m3 s) :
 Calls Tryz.prog 78 #[.agg #[.slice a1 n1 c1,.slice a2 n2 c2,.slice a3 n3 c3],.agg #[.slice b1 m1 d1,.slice b2 m2 d2,.slice b3 m3 d3,.int .i64 s.nextSeq,.int .i64 s.nextTag,.int .i64 s.came,.int .i64 s.acked,.int .i64 s.dropped],.int .i64 q] w fun e w'=>e = .returned (.tuple #[.int .i64 (a9_ (dc_ p s q) (ce_ s q)),.int .i64 (dc_ p s q)])∧Below w.heap.size w w':=by
 obtain ⟨E,hE⟩:∃ E,E = dc_ p s q:=⟨_,rfl⟩
 rw [← hE];obtain ⟨N,hN⟩:∃ N,N = a9_ E (ce_ s q):=⟨_,rfl⟩
 rw [← hN];obtain ⟨E0,hE0⟩:∃ E0,E0 = quE p s q:=⟨_,rfl⟩
 obtain ⟨W2,hW2,hBw,hs2,hbx⟩:=bZ_ w #[.slice a1 n1 c1,.slice a2 n2 c2,.slice a3 n3 c3] #[.slice b1 m1 d1,.slice b2 m2 d2,.slice b3 m3 d3,.int .i64 s.nextSeq,.int .i64 s.nextTag,.int .i64 s.came,.int .i64 s.acked,.int .i64 s.dropped];have HW2:=hidI hW2;have BX:=hidI hbx;have HE:=hidI hE;have HN:=hidI hN;have HE0:=hidI hE0;have HS:=hidI (hs.keep hBw);have HP:=hidI (hp.keep hBw);have HBW:=hidI hBw;have HM1:Hid (s.ready.length = m1):=hs.l1;have HM3:Hid (s.takers.length = m3):=hs.l3;have s0:=hBw.size;obtain ⟨x0,x1,x2⟩:=ag_ (hbx W2 (Below.refl _ _)).1;obtain ⟨y0,y1,y2,y3,y4,y5,y6,y7⟩:=aa_ (hbx W2 (Below.refl _ _)).2;clear hW2 hbx hs2 hp hs hBw hE hE0 hN;go_enter Tryz.func78,Tryz.ntmps78;go_wp2_with fail
 rw [← HW2.out];refine (ek_ p _ _ _ _ _ _ _ _ _ s _ _ _ _ _ _ _ _ _ q _ HP.out HS.out).mono ?_;rintro e w3 ⟨rfl,k3⟩;rw [← HE0.out];have s3:=k3.size;have K3:=hidI k3;clear x0 x1 x2 y0 y1 y2 y3 y4 y5 y6 y7;by_cases hz:E0 = 0
 ·subst hz;have h00:stE p s = 0:=by
   have:=HE0.out;unfold quE at this;by_cases h:stE p s = 0
   ·exact h
   ·rw [if_pos h] at this;exact absurd this.symm h
  have hq0:¬ ar_ q p.queues.length = false:=fun h=>by
   have:=HE0.out;unfold quE at this;rw [if_neg (by simp [h00]),if_pos h] at this;cases this
  have HR:=hidI (aK_ h00);obtain ⟨q0,q1⟩:=aB_.1 (show ar_ q p.queues.length = true by simpa using hq0);have HE1:Hid (E = if af_ s q.toNat = [] then 8 else if ce_ s q = -1 then 9 else 0):=by show E = _;rw [HE.out];unfold dc_;rw [if_neg (by simp [h00]),if_neg hq0]
  obtain ⟨j,rfl⟩:=Int.eq_ofNat_of_zero_le q0;have HE1:Hid (E = if af_ s j = [] then 8 else if ce_ s (j:Int) = -1 then 9 else 0):=by show E = _;rw [HE1.out,Int.toNat_natCast]
  have hjr:j < s.ready.length:=by rw [HR.out.len];omega
  have hm3:m3≤4:=by rw [← HM3.out];exact HR.out.tk
  obtain ⟨g,o,b,c,ha,hg,hl⟩:=(HS.out.q1.keep k3).get hjr;subst ha;have c1:=hl.cell;obtain ⟨n,hn⟩:∃ n,n = (s.ready[j]'hjr).length:=⟨_,rfl⟩
  have HNL:Hid (n = 0↔af_ s j = []):=by show n = 0↔_;rw [a3_ hjr,hn];exact List.length_eq_zero_iff
  rw [← hn] at c1;have j1:(0:Int)≤(j:Int):=by omega
  have j2:(j:Int) < m1:=by rw [← HM1.out];omega
  obtain ⟨y0,y1,y2,y3,y4,y5,y6,y7⟩:=aa_ (BX.out w3 k3).2;clear hl hn hq0 h00 q0 q1;by_cases hn0:n = 0
  ·have e8:E = 8:=by rw [HE1.out,if_pos (HNL.out.1 hn0)]
   have eN:N = 0:=by rw [HN.out];unfold a9_;rw [if_neg (by rw [e8];decide)]
   subst hn0;go_wp2_with fail
   go_ret2
   exact ⟨fv_ eN.symm e8.symm,HBW.out.trans (k3.mono s0)⟩
  ·have HE2:Hid (E = if ce_ s j = -1 then 9 else 0):=by show E = _;rw [HE1.out,if_neg (fun h=>hn0 (HNL.out.2 h))]
   have hn0':((n:Int) == 0) = false:=by simp;omega
   clear hn0 k3;go_wp2_with fail
   clear y0 y1 y2 y3 y4 y5 y6 y7 c1;go_loopw [9,10] (fun a _ wr=>∃ (h:Nat),h≤4∧a = .int .i64 h∧(∀ i,i < s.takers.length→cH_ s j i = true→h≤heldN s i)∧Below W2.heap.size W2 wr) (fun a _ _=>4 - (intOf a).toNat)
   case atStart=>exact ⟨0,Nat.zero_le _,rfl,fun _ _ _=>Nat.zero_le _,K3.out⟩
   case round=>
    obtain ⟨h,hh,rfl,hall,hB⟩:=hrel;have HALL:=hidI hall;have HB:=hidI hB;have hBs:=hB.size;clear hall;by_cases hlt:h < 4
    ·have HLT:=hidI hlt;have hdt:decide ((h:Int) < 4) = true:=decide_eq_true (by omega);go_wp2_with fail
     clear hlt hdt;go_loopw [10] (fun a wr=>∃ (k:Nat),k≤m3∧a = .int .i64 k∧(∀ i,i < k→cH_ s j i = true→heldN s i≠h)∧Below W2.heap.size W2 wr) (fun a _=>m3 - (intOf a).toNat)
     case atStart=>exact ⟨0,Nat.zero_le _,rfl,fun i hi=>absurd hi (Nat.not_lt_zero _),HB.out⟩
     case round=>
      clear hB HB hBs;obtain ⟨k,hk,rfl,hfst,hB⟩:=hrel;have HFS:=hidI hfst;have HB:=hidI hB;have hBs:=hB.size;clear hfst;obtain ⟨y0,y1,y2,y3,y4,y5,y6,y7⟩:=aa_ (BX.out wr hB).2;by_cases hkl':k < m3
      ·have HKM:=hidI hkl';have hkl:k < s.takers.length:=by rw [HM3.out];exact hkl'
       obtain ⟨g,o,ha,hg,e1,e2⟩:=(HS.out.q3.keep hB).get hkl;subst ha;have HFR:Hid (cH_ s j k = (decide ((s.takers[k]'hkl).queue = (j:Int)) && decide ((heldN s k:Int) < (s.takers[k]'hkl).most))):=by
        show cH_ s j k = _;unfold cH_ tAt;rw [List.getD_eq_getElem?_getD,List.getElem?_eq_getElem hkl];rfl
       have HKL:=hidI hkl;obtain ⟨x,hx⟩:∃ x,x = (s.takers[k]'hkl).queue:=⟨_,rfl⟩
       obtain ⟨mo,hmo⟩:∃ mo,mo = (s.takers[k]'hkl).most:=⟨_,rfl⟩
       obtain ⟨H,hH⟩:∃ H,H = heldN s (k:Int):=⟨_,rfl⟩
       rw [← hx] at e1 HFR;rw [← hmo] at e2 HFR;rw [← hH] at HFR;have HHH:=hidI hH;have i1:(0:Int)≤(k:Int):=by omega
       have i2:(k:Int) < m3:=by omega
       clear hx hmo hkl hH;have hHb:H≤100000000:=by rw [HHH.out];exact Nat.le_trans (n6_ s _) (by have:=(bM_ HR.out).2.2.1;omega)
       have NXT:Hid (¬ (cH_ s j k = true∧H = h)→∀ i,i < k+1→cH_ s j i = true→heldN s i≠h):=fun hno i hi hf e=>by
        by_cases c:i = k
        ·subst c;exact hno ⟨hf,by rw [HHH.out];exact e⟩
        ·exact HFS.out i (by omega) hf e
       by_cases hq:x = (j:Int)
       ·subst hq;by_cases hc:H = h∧(h:Int) < mo
        ·obtain ⟨c1,c2⟩:=hc;subst c1;have hfr:cH_ s j k = true:=by rw [HFR.out];simp [c2]
         have hnk:=kL_ HR.out HKL.out hfr HHH.out.symm HALL.out HFS.out;have eE:E = 0:=by rw [HE2.out,if_neg (by rw [hnk];omega)]
         have eN:N = (k:Int):=by rw [HN.out,eE];unfold a9_;rw [if_pos rfl,hnk]
         have hbb:((H:Int) == (H:Int)) = true:=by simp
         clear hfr hnk;go_wp2_with (go_at_call 37;refine (eO_ s _ _ _ _ _ _ _ _ _ (k:Int) _ (HS.out.keep HB.out)).mono ?_;rintro e w5 ⟨rfl,k5⟩;rw [← HHH.out];have K5:=hidI k5;have kk:=HB.out.trans (k5.mono hBs);clear y0 y1 y2 y3 y4 y5 y6 y7;obtain ⟨y0,y1,y2,y3,y4,y5,y6,y7⟩:=aa_ (BX.out w5 kk).2;have e1':=(k5.cell (p:=⟨g,o+k * 2+1,none⟩) hg).trans e2;clear kk)
         go_ret2
         exact ⟨fv_ eN.symm eE.symm,HBW.out.trans ((HB.out.trans (K5.out.mono hBs)).mono s0)⟩
        ·have hor:¬ H = h∨(H = h∧¬ (h:Int) < mo):=by omega
         rcases hor with c1 | ⟨c1,c2⟩
         ·have hbb:((H:Int) == (h:Int)) = false:=by simp;omega
          have NX:=hidI (NXT.out (fun h=>c1 h.2));clear hc c1;go_wp2_with (go_at_call 37;refine (eO_ s _ _ _ _ _ _ _ _ _ (k:Int) _ (HS.out.keep HB.out)).mono ?_;rintro e w5 ⟨rfl,k5⟩;rw [← HHH.out];have K5:=hidI k5;have kk:=HB.out.trans (k5.mono hBs);clear y0 y1 y2 y3 y4 y5 y6 y7;obtain ⟨y0,y1,y2,y3,y4,y5,y6,y7⟩:=aa_ (BX.out w5 kk).2;have e1':=(k5.cell (p:=⟨g,o+k * 2+1,none⟩) hg).trans e2;clear kk)
          go_roundw
          case rel=>exact ⟨k+1,HKM.out,by have:=HKM.out;go_num,NX.out,HB.out.trans (K5.out.mono hBs)⟩
          case measure=>have:=HKM.out;simp [intOf];omega
         ·subst c1;have hbb:((H:Int) == (H:Int)) = true:=by simp
          have NX:=hidI (NXT.out (fun h=>by have:=h.1;rw [HFR.out] at this;simp at this;exact c2 this));clear hc;go_wp2_with (go_at_call 37;refine (eO_ s _ _ _ _ _ _ _ _ _ (k:Int) _ (HS.out.keep HB.out)).mono ?_;rintro e w5 ⟨rfl,k5⟩;rw [← HHH.out];have K5:=hidI k5;have kk:=HB.out.trans (k5.mono hBs);clear y0 y1 y2 y3 y4 y5 y6 y7;obtain ⟨y0,y1,y2,y3,y4,y5,y6,y7⟩:=aa_ (BX.out w5 kk).2;have e1':=(k5.cell (p:=⟨g,o+k * 2+1,none⟩) hg).trans e2;clear kk)
          go_roundw
          case rel=>exact ⟨k+1,HKM.out,by have:=HKM.out;go_num,NX.out,HB.out.trans (K5.out.mono hBs)⟩
          case measure=>have:=HKM.out;simp [intOf];omega
       ·have hq':(x == (j:Int)) = false:=by simpa using hq
        have NX:=hidI (NXT.out (fun h=>by have:=h.1;rw [HFR.out] at this;simp at this;exact hq this.1));clear hq;go_wp2_with fail
        go_roundw
        case rel=>exact ⟨k+1,HKM.out,by have:=HKM.out;go_num,NX.out,HB.out⟩
        case measure=>have:=HKM.out;simp [intOf];omega
      ·have hke:m3 = k:=by omega
       subst hke;clear hkl' hk;go_wp2_with fail
       go_roundw
       case rel=>exact ⟨h+1,HLT.out,by have:=HLT.out;go_num,fun i hi hf=>by have a:=HALL.out i hi hf;have b:=HFS.out i (by rw [HM3.out] at hi;exact hi) hf;omega,HB.out⟩
       case measure=>have:=HLT.out;simp [intOf];omega
    ·have hh4:h = 4:=by omega
     subst hh4;have hnk:=lR_ HR.out HALL.out;have eE:E = 9:=by rw [HE2.out,if_pos hnk]
     have eN:N = 0:=by rw [HN.out];unfold a9_;rw [if_neg (by rw [eE];decide)]
     clear hlt hh hnk;go_wp2_with fail
     go_ret2
     exact ⟨fv_ eN.symm eE.symm,HBW.out.trans (HB.out.mono s0)⟩
 ·have hz':(E0 != 0) = true:=bne_iff_ne.2 hz;have eE:E = E0:=by
   rw [HE.out,HE0.out];unfold dc_ quE;by_cases h:stE p s = 0
   ·have hc:¬ stE p s≠0:=by simp [h]
    rw [if_neg hc,if_neg hc];by_cases h2:ar_ q p.queues.length = false
    ·rw [if_pos h2,if_pos h2]
    ·exfalso
     apply hz
     rw [HE0.out];unfold quE;rw [if_neg (by simp [h]),if_neg h2]
   ·rw [if_pos h,if_pos h]
  have eN:N = 0:=by rw [HN.out];unfold a9_;rw [if_neg (by rw [eE];exact hz)]
  clear hz;go_wp2_with fail
  go_ret2
  exact ⟨fv_ eN.symm eE.symm,HBW.out.trans (K3.out.mono s0)⟩
structure lb_ (W:World) (n g j gi oi L cl:Nat) (x:ae_) (r:List ae_):Prop where
 cell:W.cell? ⟨g,j,none⟩ = some (.slice (some ⟨gi,oi,none⟩) (L+1) cl)
 frz:W.frozen? ⟨g,j,none⟩ = false
 len:L = r.length
 le:L+1≤cl
 cm:cl≤maxLen
 it:aR_ W gi oi x
 own:n≤gi∧∃ cur,W.heap[gi]? = some (.cells cur 48 (0,0))
 all:ai_ W (some ⟨gi,oi,none⟩) (x :: r)
 base:n≤g∧∃ cur,W.heap[g]? = some (.cells cur 46 (0,0))
theorem aM_.head {W:World} {n:Nat} {b1 b2 b3:Option Addr} {m1 d1 m2 d2 m3 d3:Nat} {s:ab_} (h:aM_ W n b1 b2 b3 m1 d1 m2 d2 m3 d3 s) {j:Nat} (hj:j < s.ready.length) {x:ae_} {r:List ae_} (hl:af_ s j = x :: r):∃ g gi oi L cl,b1 = some ⟨g,0,none⟩∧lb_ W n g j gi oi L cl x r:=by
 obtain ⟨vs,hr1,hlv⟩:=h.r1;have hm1:=h.l1;obtain ⟨g,rfl⟩:∃ g,b1 = some ⟨g,0,none⟩:=by
  rcases hr1.2 with ⟨e,e0⟩ | ⟨g,cap,cur,e,_⟩
  ·omega
  ·cases e;exact ⟨g,rfl⟩
 obtain ⟨v,bl,cl,hv1,hlj⟩:=hlv.get j hj;have hcell:=hr1.cellAt j (by omega);rw [hv1,hlj.v] at hcell;have hsj:s.ready[j]'hj = x :: r:=by rw [← a3_ hj];exact hl
 rw [hsj] at hcell hlj;have hle:=hlj.le;simp only [List.length_cons] at hle hcell;rcases hlj.own with e | ⟨gi,oi,cur,rfl,hgi,hgh⟩
 ·exfalso;have:=hlj.nil e;omega
 ·refine ⟨g,gi,oi,r.length,cl,rfl,hcell,hr1.frozenAt j,rfl,hle,hlj.cm,?_,⟨hgi,cur,hgh⟩,hlj.it,aT_ hr1⟩;rcases hlj.it with e | ⟨g',o',e,_,hc⟩
  ·cases e
  ·cases e;have:=hc 0 (by simp);simpa only [List.getElem_cons_zero,Nat.zero_mul,Nat.add_zero] using this
theorem lb_.rest {W:World} {n g j gi oi L cl:Nat} {x:ae_} {r:List ae_} (h:lb_ W n g j gi oi L cl x r):cG_ W n r (.slice (if cl = 1 then some (⟨gi,oi,none⟩:Addr) else some ⟨gi,oi+5,none⟩) L (cl - 1)) (if cl = 1 then some (⟨gi,oi,none⟩:Addr) else some ⟨gi,oi+5,none⟩) (cl - 1):=by
 obtain ⟨hn,cur,hg⟩:=h.own;have hA2:(if cl = 1 then some (⟨gi,oi,none⟩:Addr) else some ⟨gi,oi+5,none⟩) = if cl = 1 then some (⟨gi,oi,none⟩:Addr) else Option.map (fun y:Addr=>y.add (1 * 5)) (some (⟨gi,oi,none⟩:Addr)):=by rw [Option.map_some,cN_]
 obtain ⟨oA,hoA⟩:∃ oA,(if cl = 1 then some (⟨gi,oi,none⟩:Addr) else some ⟨gi,oi+5,none⟩) = some ⟨gi,oA,none⟩:=by split <;> exact ⟨_,rfl⟩
 have hle:=h.le;have hcm:=h.cm;refine ⟨by rw [h.len],by have:=h.len;omega,by omega,(fun e=>by rw [hoA] at e;cases e),?_,.inr ⟨gi,oA,cur,hoA,hn,hg⟩⟩;have:=h.all.drop 1 cl (by have:=h.len;simp;omega);rw [List.drop_one,List.tail_cons,← hA2] at this;exact this
theorem hm_ (p:ad_) (a1 a2 a3:Option Addr) (n1 c1 n2 c2 n3 c3:Nat) (s:ab_) (b1 b2 b3:Option Addr) (m1 d1 m2 d2 m3 d3:Nat) (q:Int) (w:World) (hp:ap_ w a1 a2 a3 n1 n2 n3 p) (hs:an_ w b1 b2 b3 m1 m2 m3 s) (hn2:b2 = none→d2 = 0) (hn3:b3 = none→d3 = 0) :
 Calls Tryz.prog 40 #[.agg #[.slice a1 n1 c1,.slice a2 n2 c2,.slice a3 n3 c3],.agg #[.slice b1 m1 d1,.slice b2 m2 d2,.slice b3 m3 d3,.int .i64 s.nextSeq,.int .i64 s.nextTag,.int .i64 s.came,.int .i64 s.acked,.int .i64 s.dropped],.int .i64 q] w fun e w'=>∃ v,e = .returned (.tuple #[v,.int .i64 (a9_ (delE p s q) s.nextTag),.int .i64 (delE p s q)])∧bn_ w' w.heap.size v (delE p s q) (delS s q)∧Below w.heap.size w w':=by
 obtain ⟨E,hE⟩:∃ E,E = delE p s q:=⟨_,rfl⟩
 rw [← hE];obtain ⟨N,hN⟩:∃ N,N = a9_ E s.nextTag:=⟨_,rfl⟩
 rw [← hN];obtain ⟨E0,hE0⟩:∃ E0,E0 = dc_ p s q:=⟨_,rfl⟩
 obtain ⟨N0,hN0⟩:∃ N0,N0 = a9_ E0 (ce_ s q):=⟨_,rfl⟩
 obtain ⟨W3,hW3,hBw,hs3,hbx⟩:=cW_ w #[.slice a1 n1 c1,.slice a2 n2 c2,.slice a3 n3 c3] #[.slice b1 m1 d1,.slice b2 m2 d2,.slice b3 m3 d3,.int .i64 s.nextSeq,.int .i64 s.nextTag,.int .i64 s.came,.int .i64 s.acked,.int .i64 s.dropped];have HW3:=hidI hW3;have BX:=hidI hbx;have HE:=hidI hE;have HN:=hidI hN;have HE0:=hidI hE0;have HN0:=hidI hN0;have HS:=hidI (hs.keep hBw);have HP:=hidI (hp.keep hBw);have HBW:=hidI hBw;have HS3:=hidI hs3;have HN2:=hidI hn2;have HN3:=hidI hn3;have s0:=hBw.size;obtain ⟨x0,x1,x2⟩:=ag_ (hbx W3 (Below.refl _ _)).1;obtain ⟨y0,y1,y2,y3,y4,y5,y6,y7⟩:=aa_ (hbx W3 (Below.refl _ _)).2.1;have HER:Hid (∀ (D:Int) (W W4:World),D≠0→E = D→Below W3.heap.size W3 W→aZ_ (w.heap.size+2) W W4→∃ v,Ending.returned (.tuple #[zerS,.int .i64 0,.int .i64 D]) = .returned (.tuple #[v,.int .i64 N,.int .i64 E])∧bn_ W4 w.heap.size v E (delS s q)∧Below w.heap.size w W4):=fun D W W4 hD hED hB hT=>by
  have hN0:N = 0:=by rw [HN.out];unfold a9_;rw [if_neg (by rw [hED];exact hD)]
  refine ⟨zerS,by rw [hN0,hED],⟨fun h=>absurd (hED ▸ h) hD,fun _=>rfl⟩,HBW.out.trans ((hB.mono s0).trans (hT.below (by have:=hB.size;have:=HS3.out;omega) (by omega)))⟩
 clear hW3 hbx hs3 hp hs hBw hE hE0 hN hN0 hn2 hn3;go_enter Tryz.func40,Tryz.ntmps40;go_wp2_with fail
 rw [← HW3.out];refine (kK_ p _ _ _ _ _ _ _ _ _ s _ _ _ _ _ _ _ _ _ q _ HP.out HS.out).mono ?_;rintro e w4 ⟨rfl,k4⟩;rw [← HE0.out,← HN0.out];have s4:=k4.size;have K4:=hidI k4;clear x0 x1 x2 y0 y1 y2 y3 y4 y5 y6 y7;have r4:=(BX.out w4 k4).2.2;obtain ⟨z0,z1,z2,z3,z4,z5,z6,z7⟩:=aa_ r4;have e0:=foc_ r4 0;have e1:=foc_ r4 1;have e2:=foc_ r4 2;have e3:=foc_ r4 3;have e4:=foc_ r4 4;have e5:=foc_ r4 5;have e6:=foc_ r4 6;have e7:=foc_ r4 7;have R4:=hidI r4;obtain ⟨y0,y1,y2,y3,y4,y5,y6,y7⟩:=aa_ (BX.out w4 k4).2.1;clear r4 k4;by_cases hz:E0 = 0
 ·subst hz;obtain ⟨hR,q0,q1,⟨x,r,hln⟩,kk,hkk,hLL⟩:=f5_ HE0.out.symm;have HR:=hidI hR;obtain ⟨j,rfl⟩:=Int.eq_ofNat_of_zero_le q0;rw [Int.toNat_natCast] at hln;have hN1:N0 = (kk:Int):=by rw [HN0.out];unfold a9_;rw [if_pos rfl,hkk]
  subst hN1;have HE2:Hid (E = if s.nextTag = 1048576 then 2 else 0):=by show E = _;rw [HE.out];unfold delE;rw [if_neg (by simp [← HE0.out])]
  by_cases hm:s.nextTag = 1048576
  ·have hm':(s.nextTag == 1048576) = true:=by simp [hm]
   have eE:E = 2:=by rw [HE2.out,if_pos hm]
   clear hR hln hkk hLL hm;go_wp2_with fail
   generalize hW9:World.setCell (World.setCell (World.setCell (World.setCell (World.setCell (World.setCell (World.setCell (World.setCell w4 _ _) _ _) _ _) _ _) _ _) _ _) _ _) _ _ = W9;obtain ⟨b9,t9⟩:=store8 R4.out hW9;obtain ⟨z0,z1,z2,z3,z4,z5,z6,z7⟩:=aa_ b9;exact bodyPost_ret (v:=.tuple #[zerS,.int .i64 0,.int .i64 2]) (by simp [results,Tryz.results40,go_sem,z0,z1,z2,z3,z4,z5,z6,z7,zerS]) rfl (HER.out 2 _ _ (by decide) eE K4.out t9)
  ·have hm':(s.nextTag == 1048576) = false:=by simpa using hm
   have eE:E = 0:=by rw [HE2.out,if_neg hm]
   have eN:N = s.nextTag:=by rw [HN.out,eE];unfold a9_;rw [if_pos rfl]
   have HEN:=hidI (And.intro eE eN);have hnt:=hR.nt;have hql:j < s.ready.length:=by rw [hR.len];omega
   have HQL:=hidI hql;have HLN:=hidI hln;have HKK:=hidI hkk;clear hR hln hkk hLL hm eE eN q0 q1 hql;go_wp2_with fail
   obtain ⟨q1,q2,q3,q4⟩:=HS.out.small HR.out;refine (b4_ s _ _ _ _ _ _ _ _ _ w4 (HS.out.keep K4.out) HN2.out HN3.out q1 q2 q3 q4).mono ?_;rintro e w6 ⟨v6,rfl,hv6,k6'⟩;obtain ⟨g1,g2,g3,l1,r1,l2,r2,l3,r3,rfl,ho⟩:=hv6;have k6:=K4.out.trans (k6'.mono s4);have s6:=k6.size;obtain ⟨w7,hw7⟩:∃ w7,w7 = w6.alloc (.cells #[.slice g1 l1 r1,.slice g2 l2 r2,.slice g3 l3 r3,.int .i64 s.nextSeq,.int .i64 s.nextTag,.int .i64 s.came,.int .i64 s.acked,.int .i64 s.dropped] 31):=⟨_,rfl⟩
   have l7:Below w6.heap.size w6 w7:=by rw [hw7];exact (Below.refl _ _).alloc (Nat.le_refl _) _
   have b7:w7.heap[w6.heap.size]? = some (.cells #[.slice g1 l1 r1,.slice g2 l2 r2,.slice g3 l3 r3,.int .i64 s.nextSeq,.int .i64 s.nextTag,.int .i64 s.came,.int .i64 s.acked,.int .i64 s.dropped] 31 (0,0)):=by rw [hw7];exact World.alloc_heap_new w6 _
   have k7:=k6.trans (l7.mono s6);have ho7:=(ho.lower (n':=w.heap.size+3) (by have:=K4.out.size;have:=HS3.out;omega)).keep l7;obtain ⟨g,gi,oi,L,cl,rfl,hh7⟩:=ho7.head HQL.out HLN.out;have HH7:=hidI hh7;have HW7:=hidI hw7;have B7:=hidI b7;have K7:=hidI k7;have HO7:=hidI ho7;have HL6:Hid (w.heap.size+3≤w6.heap.size):=by show _≤_;have:=HS3.out;omega
   have hjl:j < l1:=by rw [← ho.l1];exact HQL.out
   have hl2:l2≤1000:=by rw [← ho.l2];exact (bM_ HR.out).2.2.1
   have hcl:=hh7.le;clear y0 y1 y2 y3 y4 y5 y6 y7 z0 z1 z2 z3 z4 z5 z6 z7 e0 e1 e2 e3 e4 e5 e6 e7 ho k6' q1 q2 q3 q4 l7 hw7 k6;go_upto_region 7 with fail
   rw [← HW7.out];obtain ⟨y0,y1,y2,y3,y4,y5,y6,y7⟩:=aa_ b7;have c0:=hh7.cell;obtain ⟨i0,i1,i2,i3,i4⟩:=hh7.it;have j1:(0:Int)≤(j:Int):=by omega
   have j2:(j:Int) < l1:=by omega
   have j3:(0:Int) < ((L+1:Nat):Int):=by omega
   clear b7 k7 ho7 hh7;go_upto_region 8 with fail
   obtain ⟨w8,hw8⟩:∃ w8,w8 = w7.alloc (.cells #[.int .i64 x.seq,.string x.key,.string x.body,.bool x.again,.int .i64 x.deaths] 48):=⟨_,rfl⟩
   rw [← hw8];have l8:Below w7.heap.size w7 w8:=by rw [hw8];exact (Below.refl _ _).alloc (Nat.le_refl _) _
   have x8:w8.heap[w7.heap.size]? = some (.cells #[.int .i64 x.seq,.string x.key,.string x.body,.bool x.again,.int .i64 x.deaths] 48 (0,0)):=by rw [hw8];exact World.alloc_heap_new w7 _
   have k8:=K7.out.trans (l8.mono K7.out.size);have ho8:=HO7.out.keep l8;have hlv:=HH7.out.rest.keep l8;have hgl:g < w7.heap.size:=by obtain ⟨_,cu,hc⟩:=HH7.out.base;exact lth_ hc
   have c8:=(l8.cell (p:=⟨g,j,none⟩) hgl).trans HH7.out.cell;have f8:=(l8.frozen (p:=⟨g,j,none⟩) hgl).trans HH7.out.frz;have b8:=pkp_ B7.out l8;have X8:=hidI x8;have K8:=hidI k8;have HO8:=hidI ho8;have HLV:=hidI hlv;have B8:=hidI b8;clear y0 y1 y2 y3 y4 y5 y6 y7 c0 i0 i1 i2 i3 i4 hw8 x8 k8 ho8 hlv l8;obtain ⟨y0,y1,y2,y3,y4,y5,y6,y7⟩:=aa_ b8;have hcm:=HH7.out.cm;unfold maxLen at hcm;have u1:(1:Int)≤((L+1:Nat):Int):=by omega
   have u2:((L+1:Nat):Int)≤(cl:Int):=by omega
   have u3:(1:Int)≤(cl:Int):=by omega
   have u4:(1:Int)≤(L:Int)+1:=by omega
   have u5:(L:Int)+1≤(cl:Int):=by omega
   clear b8;go_region
   obtain ⟨A,hA⟩:∃ A,A = if cl = 1 then some (⟨gi,oi,none⟩:Addr) else some ⟨gi,oi+5,none⟩:=⟨_,rfl⟩
   rw [← hA] at HLV ⊢;obtain ⟨w9,hw9⟩:∃ w9,w9 = (w8.setCell ⟨g,j,none⟩ (.slice A L (cl - 1))).drew:=⟨_,rfl⟩
   rw [← hw9];have kt9:av_ 46 w8 (w8.setCell ⟨g,j,none⟩ (.slice A L (cl - 1))):=by
    obtain ⟨_,cu,hc⟩:=aT_ HO8.out.r1.choose_spec.1;exact av_.setCell hc _
   have ho9:aM_ w9 (w.heap.size+3) (some ⟨g,0,none⟩) g2 g3 l1 r1 l2 r2 l3 r3 { s with ready:=s.ready.set j r }:=by rw [hw9];exact (HO8.out.line HQL.out HLV.out rfl).keep (Below.refl _ _).drew
   have b9:w9.heap[w6.heap.size]? = some (.cells #[.slice (some ⟨g,0,none⟩) l1 r1,.slice g2 l2 r2,.slice g3 l3 r3,.int .i64 s.nextSeq,.int .i64 s.nextTag,.int .i64 s.came,.int .i64 s.acked,.int .i64 s.dropped] 31 (0,0)):=by rw [hw9];exact (kt9.block w6.heap.size _ _ B8.out (by decide)).trans B8.out
   have x9:w9.heap[w7.heap.size]? = some (.cells #[.int .i64 x.seq,.string x.key,.string x.body,.bool x.again,.int .i64 x.deaths] 48 (0,0)):=by rw [hw9];exact (kt9.block w7.heap.size _ _ X8.out (by decide)).trans X8.out
   have r9:w9.heap[w.heap.size+2]? = some (.cells #[.slice none 0 0,.slice none 0 0,.slice none 0 0,.int .i64 0,.int .i64 0,.int .i64 0,.int .i64 0,.int .i64 0] 31 (0,0)):=by rw [hw9];exact (kt9.block (w.heap.size+2) _ _ (BX.out _ K8.out).2.2 (by decide)).trans (BX.out _ K8.out).2.2
   have s9':w9.heap[w.heap.size+1]? = some (.cells #[.slice b1 m1 d1,.slice b2 m2 d2,.slice b3 m3 d3,.int .i64 s.nextSeq,.int .i64 s.nextTag,.int .i64 s.came,.int .i64 s.acked,.int .i64 s.dropped] 31 (0,0)):=by rw [hw9];exact (kt9.block (w.heap.size+1) _ _ (BX.out _ K8.out).2.1 (by decide)).trans (BX.out _ K8.out).2.1
   have F9:Hid (Below w.heap.size w w9):=by
    show Below w.heap.size w w9;rw [hw9];exact ((HBW.out.trans (K8.out.mono s0)).setCell (p:=⟨g,j,none⟩) (by have:=HH7.out.base.1;show w.heap.size≤g;omega) _).drew
   have HO9:=hidI ho9;have B9:=hidI b9;have X9:=hidI x9;have R9:=hidI r9;have S9:=hidI s9';clear y0 y1 y2 y3 y4 y5 y6 y7 u1 u2 u3 u4 u5 c8 f8 hA hw9 kt9 ho9 r9;obtain ⟨wA,hwA⟩:∃ wA,wA = w9.alloc (.cells #[.int .i64 s.nextTag,.int .i64 (kk:Int),.int .i64 (j:Int),.int .i64 x.seq,.string x.key,.string x.body,.bool x.again,.int .i64 x.deaths] 67):=⟨_,rfl⟩
   have lA:Below w9.heap.size w9 wA:=by rw [hwA];exact (Below.refl _ _).alloc (Nat.le_refl _) _
   have xA:wA.heap[w9.heap.size]? = some (.cells #[.int .i64 s.nextTag,.int .i64 (kk:Int),.int .i64 (j:Int),.int .i64 x.seq,.string x.key,.string x.body,.bool x.again,.int .i64 x.deaths] 67 (0,0)):=by rw [hwA];exact World.alloc_heap_new w9 _
   have HRW:Hid (aO_ wA (some ⟨w9.heap.size,0,none⟩) (ah_ [⟨s.nextTag,kk,j,x⟩])):=.inr ⟨_,0,rfl,lth_ xA,fun i u hi=>by
    rw [Nat.zero_add];refine Eq.trans (coc_ xA i) ?_;have:(ah_ [⟨s.nextTag,kk,j,x⟩])[i]? = (#[Value.int .i64 s.nextTag,.int .i64 (kk:Int),.int .i64 (j:Int),.int .i64 x.seq,.string x.key,.string x.body,.bool x.again,.int .i64 x.deaths]:Array Value)[i]?:=by simp [ah_,OutD.cells]
    rw [← this];exact hi⟩
   have HWA:=hidI hwA;have LA:=hidI lA;have HOA:=hidI (HO9.out.keep lA);have hszr:w.heap.size+3≤w9.heap.size:=by have:=lth_ b9;have:=HL6.out;omega
   obtain ⟨y0,y1,y2,y3,y4,y5,y6,y7⟩:=aa_ b9;obtain ⟨z0,z1,z2,z3,z4⟩:w9.cell? ⟨w7.heap.size,0,none⟩ = some (.int .i64 x.seq)∧w9.cell? ⟨w7.heap.size,1,none⟩ = some (.string x.key)∧w9.cell? ⟨w7.heap.size,2,none⟩ = some (.string x.body)∧w9.cell? ⟨w7.heap.size,3,none⟩ = some (.bool x.again)∧w9.cell? ⟨w7.heap.size,4,none⟩ = some (.int .i64 x.deaths):=⟨coc_ x9 0,coc_ x9 1,coc_ x9 2,coc_ x9 3,coc_ x9 4⟩;have t4:=coc_ s9' 4;simp at t4;clear b9 x9 s9' hwA lA xA;go_upto_region 10 with (at_builtin;rw [← HWA.out];refine a1_ er_ (by kernel_rfl) _ _ rfl (w.heap.size+3) _ l2 (ah_ s.outs) rfl HOA.out.r2 (some ⟨w9.heap.size,0,none⟩) 1 1 (ah_ [⟨s.nextTag,kk,j,x⟩]) rfl rfl (fun h=>by cases h) HRW.out (bA_ _) (by unfold maxLen;omega) (by omega) (Nat.le_trans hszr LA.out.size) ?_;intro vB wB oB gB _;obtain ⟨aB,cB,rfl,-⟩:=aH_ oB;have ktB:=av_.grown HOA.out.r2 gB;have bB:=(ktB.block w6.heap.size _ _ (pkp_ B9.out LA.out) (by decide)).trans (pkp_ B9.out LA.out);have eB:=coc_ bB 1;have fB:=foc_ bB 1;simp at eB;have BB:=hidI bB;have KTB:=hidI ktB;have OB:=hidI oB;have GB:=hidI gB;clear bB ktB oB gB)
   have hoB:aM_ wB (w.heap.size+3) (some ⟨g,0,none⟩) aB g3 l1 r1 (l2+1) cB l3 r3 { s with ready:=s.ready.set j r,outs:=s.outs ++ [⟨s.nextTag,kk,j,x⟩] }:=HOA.out.outs KTB.out (by omega) (by rw [aS_];exact OB.out);obtain ⟨wC,hwC⟩:∃ wC,wC = wB.setCell ⟨w6.heap.size,1,none⟩ (.slice aB (l2+1) cB):=⟨_,rfl⟩
   rw [← hwC];have bC:wC.heap[w6.heap.size]? = some (.cells #[.slice (some ⟨g,0,none⟩) l1 r1,.slice aB (l2+1) cB,.slice g3 l3 r3,.int .i64 s.nextSeq,.int .i64 s.nextTag,.int .i64 s.came,.int .i64 s.acked,.int .i64 s.dropped] 31 (0,0)):=by rw [hwC];exact scb_ BB.out (j:=1) _
   have ktC:av_ 31 wB wC:=by rw [hwC];exact av_.setCell BB.out _
   have hoC:=hoB.typeT ktC (by decide);have FC:Hid (Below w.heap.size w wC):=by
    have lB:Below w.heap.size w wB:=(F9.out.trans (LA.out.mono F9.out.size)).grown GB.out (by have:=LA.out.size;omega) (fun i hi=>by have:=(HOA.out.r2.lt i hi).1;omega);show Below w.heap.size w wC;rw [hwC];exact lB.setCell (p:=⟨w6.heap.size,1,none⟩) (by show w.heap.size≤w6.heap.size;have:=HL6.out;omega) _
   have rB:wB.heap[w.heap.size+2]? = _:=(KTB.out.block (w.heap.size+2) _ _ (pkp_ R9.out LA.out) (by decide)).trans (pkp_ R9.out LA.out);have sB:wB.heap[w.heap.size+1]? = _:=(KTB.out.block (w.heap.size+1) _ _ (pkp_ S9.out LA.out) (by decide)).trans (pkp_ S9.out LA.out);have rC:wC.heap[w.heap.size+2]? = some (.cells #[.slice none 0 0,.slice none 0 0,.slice none 0 0,.int .i64 0,.int .i64 0,.int .i64 0,.int .i64 0,.int .i64 0] 31 (0,0)):=by rw [hwC];exact (heap_setCell_other wB ⟨w6.heap.size,1,none⟩ (w.heap.size+2) _ (by show w.heap.size+2≠w6.heap.size;have:=HL6.out;omega)).trans rB
   have sC:wC.heap[w.heap.size+1]? = some (.cells #[.slice b1 m1 d1,.slice b2 m2 d2,.slice b3 m3 d3,.int .i64 s.nextSeq,.int .i64 s.nextTag,.int .i64 s.came,.int .i64 s.acked,.int .i64 s.dropped] 31 (0,0)):=by rw [hwC];exact (heap_setCell_other wB ⟨w6.heap.size,1,none⟩ (w.heap.size+1) _ (by show w.heap.size+1≠w6.heap.size;have:=HL6.out;omega)).trans sB
   clear y0 y1 y2 y3 y4 y5 y6 y7 z0 z1 z2 z3 z4 t4 eB fB hwC;obtain ⟨y0,y1,y2,y3,y4,y5,y6,y7⟩:=aa_ bC;have f4:=foc_ bC 4;have hwr:IntKind.i64.wrap (s.nextTag+1) = s.nextTag+1:=by rw [IntKind.wrap_i64];have:=HR.out.nt;omega
   have BC:=hidI bC;have HOC:=hidI hoC;have RC:=hidI rC;have SC:=hidI sC;clear bC hoC rC sC ktC hoB rB sB;go_upto_region 11 with fail
   obtain ⟨wD,hwD⟩:∃ wD,wD = wC.setCell ⟨w6.heap.size,4,none⟩ (.int .i64 (s.nextTag+1)):=⟨_,rfl⟩
   rw [← hwD];have bD:wD.heap[w6.heap.size]? = some (.cells #[.slice (some ⟨g,0,none⟩) l1 r1,.slice aB (l2+1) cB,.slice g3 l3 r3,.int .i64 s.nextSeq,.int .i64 (s.nextTag+1),.int .i64 s.came,.int .i64 s.acked,.int .i64 s.dropped] 31 (0,0)):=by rw [hwD];exact scb_ BC.out (j:=4) _
   have ktD:av_ 31 wC wD:=by rw [hwD];exact av_.setCell BC.out _
   have hoD:=HOC.out.typeT ktD (by decide);have FD:Hid (Below w.heap.size w wD):=by
    show Below w.heap.size w wD;rw [hwD];exact FC.out.setCell (p:=⟨w6.heap.size,4,none⟩) (by show w.heap.size≤w6.heap.size;have:=HL6.out;omega) _
   have rD:wD.heap[w.heap.size+2]? = some (.cells #[.slice none 0 0,.slice none 0 0,.slice none 0 0,.int .i64 0,.int .i64 0,.int .i64 0,.int .i64 0,.int .i64 0] 31 (0,0)):=by rw [hwD];exact (heap_setCell_other wC ⟨w6.heap.size,4,none⟩ (w.heap.size+2) _ (by show w.heap.size+2≠w6.heap.size;have:=HL6.out;omega)).trans RC.out
   have sD:wD.heap[w.heap.size+1]? = some (.cells #[.slice b1 m1 d1,.slice b2 m2 d2,.slice b3 m3 d3,.int .i64 s.nextSeq,.int .i64 s.nextTag,.int .i64 s.came,.int .i64 s.acked,.int .i64 s.dropped] 31 (0,0)):=by rw [hwD];exact (heap_setCell_other wC ⟨w6.heap.size,4,none⟩ (w.heap.size+1) _ (by show w.heap.size+1≠w6.heap.size;have:=HL6.out;omega)).trans SC.out
   clear y0 y1 y2 y3 y4 y5 y6 y7 f4 hwr hwD;obtain ⟨y0,y1,y2,y3,y4,y5,y6,y7⟩:=aa_ bD;have t4:=coc_ sD 4;simp at t4;obtain ⟨z0,z1,z2,z3,z4,z5,z6,z7⟩:=aa_ rD;have e0:=foc_ rD 0;have e1:=foc_ rD 1;have e2:=foc_ rD 2;have e3:=foc_ rD 3;have e4:=foc_ rD 4;have e5:=foc_ rD 5;have e6:=foc_ rD 6;have e7:=foc_ rD 7;have RD:=hidI rD;have HOD:=hidI hoD;have hne1:w6.heap.size≠w.heap.size+1+1:=by have:=HL6.out;omega
   have hne2:w.heap.size+1+1≠w6.heap.size:=by have:=HL6.out;omega
   clear rD hoD bD ktD sD;go_region
   generalize hWX:World.setCell (World.setCell (World.setCell (World.setCell (World.setCell (World.setCell (World.setCell (World.setCell wD _ _) _ _) _ _) _ _) _ _) _ _) _ _) _ _ = WX;obtain ⟨bX,tX⟩:=store8 RD.out hWX;obtain ⟨z0,z1,z2,z3,z4,z5,z6,z7⟩:=aa_ bX;go_wp2_with fail
   have eS:delS s (j:Int) = { s with ready:=s.ready.set j r,outs:=s.outs ++ [⟨s.nextTag,kk,j,x⟩],nextTag:=s.nextTag+1 }:=by
    unfold delS delO;rw [HKK.out,Int.toNat_natCast,HLN.out];rfl
   exact bodyPost_ret (v:=.tuple #[.agg #[.slice (some ⟨g,0,none⟩) l1 r1,.slice aB (l2+1) cB,.slice g3 l3 r3,.int .i64 s.nextSeq,.int .i64 (s.nextTag+1),.int .i64 s.came,.int .i64 s.acked,.int .i64 s.dropped],.int .i64 s.nextTag,.int .i64 0]) (by simp [results,Tryz.results40,go_sem,z0,z1,z2,z3,z4,z5,z6,z7]) rfl ⟨.agg #[.slice (some ⟨g,0,none⟩) l1 r1,.slice aB (l2+1) cB,.slice g3 l3 r3,.int .i64 s.nextSeq,.int .i64 (s.nextTag+1),.int .i64 s.came,.int .i64 s.acked,.int .i64 s.dropped],by rw [HEN.out.1,HEN.out.2],⟨fun _=>⟨_,_,_,_,_,_,_,_,_,rfl,by rw [eS];exact (((HOD.out.turn RD.out (by decide) tX).lower (by omega)).keep (Below.refl _ _).drew).same rfl rfl rfl⟩,fun h=>absurd HEN.out.1 h⟩,(FD.out.trans (tX.below (by have:=FD.out.size;omega) (by omega))).drew⟩
 ·have hz':(E0 != 0) = true:=bne_iff_ne.2 hz;have HZ:=hidI hz;have eE:E = E0:=by rw [HE.out];unfold delE;rw [← HE0.out,if_pos hz]
  clear hz y0 y1 y2 y3 y4 y5 y6 y7;go_wp2_with fail
  generalize hW9:World.setCell (World.setCell (World.setCell (World.setCell (World.setCell (World.setCell (World.setCell (World.setCell w4 _ _) _ _) _ _) _ _) _ _) _ _) _ _) _ _ = W9;obtain ⟨b9,t9⟩:=store8 R4.out hW9;obtain ⟨z0,z1,z2,z3,z4,z5,z6,z7⟩:=aa_ b9;exact bodyPost_ret (v:=.tuple #[zerS,.int .i64 0,.int .i64 E0]) (by simp [results,Tryz.results40,go_sem,z0,z1,z2,z3,z4,z5,z6,z7,zerS]) rfl (HER.out E0 _ _ HZ.out eE K4.out t9)
def gj_ (p:ad_) (s:ab_) (q:Nat):ab_:={ s with ready:=s.ready.set q (putL p q (af_ s q)),dropped:=s.dropped+putD p q (af_ s q) }
theorem Keep2.of_below {W W':World} (h:Below W.heap.size W W'):Keep2 W W':=fun k cur T hk _ _=>h.block k (lth_ hk)
theorem Keep2.trans {A B C:World} (h:Keep2 A B) (k:Keep2 B C):Keep2 A C:=fun i cur T hk h1 h2=>(k i cur T ((h i cur T hk h1 h2).trans hk) h1 h2).trans (h i cur T hk h1 h2)
theorem Keep2.of_typeI {A B:World} (h:av_ 46 A B):Keep2 A B:=fun i cur T hk h1 h2=>h.block i cur T hk h2
theorem Keep2.of_typeS {A B:World} (h:av_ 31 A B):Keep2 A B:=fun i cur T hk h1 h2=>h.block i cur T hk h1
theorem Keep2.row {W W':World} {base n:Nat} {v:Value} {cs:List Value} (k:Keep2 W W') (h:W.ownsRow base 150 4 v n cs):W'.ownsRow base 150 4 v n cs:=ch_ h (fun i hi=>by
 rcases h.2 with ⟨rfl,_⟩ | ⟨g,cap,cur,rfl,hb,hg,_⟩
 ·cases hi
 ·cases hi;exact k g cur _ hg (by decide) (by decide))
theorem g5_ (p:ad_) (a1 a2 a3:Option Addr) (n1 c1 n2 c2 n3 c3:Nat) (s:ab_) (q:Nat) (n t:Nat) (w0 w:World) (hp:ap_ w0 a1 a2 a3 n1 n2 n3 p) (h0:Below w0.heap.size w0 w) (ht:w0.heap.size≤t) (hn0:w0.heap.size≤n) (hnw:n≤w.heap.size) (hc:chkP p = 0) (hq:q < n2) (hsr:s.ready.length = n2) (hl:at_ (af_ s q) = true) (hd:0≤s.dropped∧s.dropped≤10000000) (hbx:StBox w n t s) :
 Calls Tryz.prog 122 #[.agg #[.slice a1 n1 c1,.slice a2 n2 c2,.slice a3 n3 c3],.pointer (some ⟨t,0,none⟩),.int .i64 q] w fun e w'=>∃ v,e = .returned v∧jw_ w' w.heap.size v (putA p q (af_ s q))∧StBox w' n t (gj_ p s q)∧ac_ n t w w'∧Keep2 w w':=by
 obtain ⟨W1,hW1⟩:∃ W1,W1 = w.alloc (.cells #[.slice a1 n1 c1,.slice a2 n2 c2,.slice a3 n3 c3] 26):=⟨_,rfl⟩
 have k1:Below w.heap.size w W1:=by rw [hW1];exact (Below.refl _ _).alloc (Nat.le_refl _) _
 have b1':W1.heap[w.heap.size]? = some (.cells #[.slice a1 n1 c1,.slice a2 n2 c2,.slice a3 n3 c3] 26 (0,0)):=by rw [hW1];exact World.alloc_heap_new w _
 have hz1:W1.heap.size = w.heap.size+1:=by rw [hW1];simp
 have hs0:=h0.size;have hlt:t < w.heap.size:=by obtain ⟨_,_,_,_,_,_,_,_,_,h,_⟩:=hbx;exact lth_ h
 have HBX0:=hidI hbx;obtain ⟨b1,b2,b3,m1,d1,m2,d2,m3,d3,hb,ho⟩:=hbx.keep k1;have hql:q < s.ready.length:=by rw [hsr];exact hq
 have hm1:m1 = n2:=by rw [← ho.l1,hsr]
 have hp1:=hp.keep (h0.trans (k1.mono hs0));obtain ⟨gq,oq,hga,hgl,e0,e1,e2⟩:=hp1.p2.get (k:=q) (by rw [hp.l2];exact hq);have hqd:(p.queues[q]'(by rw [hp.l2];exact hq)) = qAt p q:=(eu_ (by rw [hp.l2];exact hq)).symm;rw [hqd] at e0 e1 e2;have hlim:=(bc_ hc).queues _ (List.getElem_mem (show q < p.queues.length by rw [hp.l2];exact hq));rw [hqd] at hlim;have hlim1:1≤(qAt p q).limit∧(qAt p q).limit≤6:=⟨hlim.1,hlim.2.1⟩;obtain ⟨lim,hlimd⟩:∃ lim,lim = (qAt p q).limit:=⟨_,rfl⟩
 rw [← hlimd] at e1 hlim1;subst hga;obtain ⟨vs,hr1,hlv⟩:=ho.r1;obtain ⟨g,hgv⟩:∃ g,b1 = some ⟨g,0,none⟩:=by
  rcases hr1.2 with ⟨e,e0⟩ | ⟨g,cap,cur,e,_⟩
  ·exfalso;omega
  ·cases e;exact ⟨g,rfl⟩
 subst hgv;obtain ⟨v,bl,cl,hv1,hlj⟩:=hlv.get q hql;have hcell:=hr1.cellAt q (by omega);rw [hv1,hlj.v] at hcell;have hsj:s.ready[q]'hql = af_ s q:=(a3_ hql).symm;rw [hsj] at hcell hlj;obtain ⟨L,hL⟩:∃ L,L = (af_ s q).length:=⟨_,rfl⟩
 rw [← hL] at hcell;have hgl2:g < W1.heap.size:=(hr1.lt g rfl).2;have hgn:n≤g:=(hr1.lt g rfl).1;have HSS:Hid (∀ W',Below W1.heap.size W1 W'→(W'.cell? ⟨t,0,none⟩ = some (.slice (some ⟨g,0,none⟩) m1 d1)∧W'.cell? ⟨g,q,none⟩ = some (.slice bl L cl)∧W'.cell? ⟨w.heap.size,1,none⟩ = some (.slice (some ⟨gq,oq,none⟩) n2 c2)∧W'.cell? ⟨gq,oq+q * 3+1,none⟩ = some (.int .i64 lim))):=fun W' h=>⟨coc_ (pkp_ hb h) 0,(h.cell (p:=⟨g,q,none⟩) hgl2).trans hcell,coc_ (pkp_ b1' h) 1,(h.cell (p:=⟨gq,oq+q * 3+1,none⟩) hgl).trans e1⟩
 have HL:=hidI hL;have HLIM:=hidI hlimd;have HHL:=hidI hl;have HHB:=hidI hb;have HHO:=hidI ho;have HQL:=hidI hql;have HW1:=hidI hW1;have K1:=hidI k1;have HC:=hidI hc;have HP1:=hidI hp1;have HP:=hidI hp;have H0:=hidI h0;have HX1:=hidI b1';have HZ1:=hidI hz1;have HG:Hid (g < W1.heap.size∧n≤g):=⟨hgl2,hgn⟩;have j1:(0:Int)≤(q:Int):=by omega
 have j2:(q:Int) < m1:=by omega
 have j3:(q:Int) < n2:=by omega
 clear hW1 k1 b1' hz1 hb ho hp hp1 h0 hc hbx hqd hlim hlimd hr1 hlv hv1 hlj hsj hcell e0 e1 e2 hL hl;go_enter Tryz.func122,Tryz.ntmps122;go_upto_region 1 with fail
 rw [← HW1.out];refine wp_region_held_drew (S:=fun W'=>(W'.cell? ⟨t,0,none⟩ = some (.slice (some ⟨g,0,none⟩) m1 d1)∧W'.cell? ⟨g,q,none⟩ = some (.slice bl L cl)∧W'.cell? ⟨w.heap.size,1,none⟩ = some (.slice (some ⟨gq,oq,none⟩) n2 c2)∧W'.cell? ⟨gq,oq+q * 3+1,none⟩ = some (.int .i64 lim))) (by kernel_rfl) (HSS.out _ (Below.refl _ _).drew) (fun hHeld=>?_);refine tk 0 ?_;refine tk 1 ?_;refine tk 2 ?_;refine tk 3 ?_;refine tk 4 ?_;refine tk 5 ?_;refine tk 6 ?_;refine tk 7 ?_;refine tk 8 ?_;refine tk 9 ?_;refine tk 10 ?_;refine tk 11 ?_;refine tk 12 ?_;refine tk 13 ?_;refine tk 14 ?_;refine wpAnyH_done (by kernel_rfl) ?_ _;clear hHeld;have kd:Below w.heap.size w W1.drew:=K1.out.drew;by_cases hc1:(L:Int)≤lim
 ·have HA:Hid (putA p q (af_ s q) = []):=by show putA p q (af_ s q) = [];unfold putA;rw [if_pos (by rw [← HL.out,← HLIM.out];exact hc1)]
  have HS:Hid (gj_ p s q = s):=by
   show gj_ p s q = s;unfold gj_ putL putD;rw [if_pos (by rw [← HL.out,← HLIM.out];exact hc1),if_pos (by rw [← HL.out,← HLIM.out];exact hc1),a3_ HQL.out,List.set_getElem_self];simp
  have HKD:=hidI kd;clear kd;go_wp2_with fail
  go_ret
  exact ⟨_,rfl,⟨0,by rw [HA.out];exact World.ownsRow_nil _ _ _ _⟩,by rw [HS.out];exact HBX0.out.keep HKD.out,ac_.of_below HKD.out hnw,Keep2.of_below HKD.out⟩
 ·obtain ⟨x,r,hxr⟩:∃ x r,af_ s q = x :: r:=by
   cases h:af_ s q with
   | nil=>exfalso;have:=HL.out;rw [h] at this;simp at this;omega
   | cons x r=>exact ⟨x,r,rfl⟩
  have HXR:=hidI hxr;obtain ⟨V1,hV1⟩:∃ V1,V1 = W1.drew:=⟨_,rfl⟩
  rw [← hV1] at kd ⊢;have kd1:Below W1.heap.size W1 V1:=by rw [hV1];exact (Below.refl _ _).drew
  have hov:=HHO.out.keep kd1;obtain ⟨g',gi,oi,L',cl',hgg,hh⟩:=hov.head HQL.out hxr;cases hgg;have hxo:am_ x = true:=(bv_.1 (by have:=HHL.out;rw [hxr] at this;exact this)).1 x List.mem_cons_self;have HA:Hid (putA p q (af_ s q) = dieL p q x):=by show putA p q (af_ s q) = _;unfold putA;rw [if_neg (by rw [← HL.out,← HLIM.out];exact hc1),hxr]
  have HS:Hid (gj_ p s q = { s with ready:=s.ready.set q r,dropped:=s.dropped+1 }):=by
   show gj_ p s q = _;unfold gj_ putL putD;rw [if_neg (by rw [← HL.out,← HLIM.out];exact hc1),if_neg (by rw [← HL.out,← HLIM.out];exact hc1),hxr];rfl
  have hbv:=pkp_ HHB.out kd1;obtain ⟨y0,y1,y2,y3,y4,y5,y6,y7⟩:=aa_ hbv;have c0:=hh.cell;obtain ⟨i0,i1,i2,i3,i4⟩:=hh.it;have hcl:=hh.le;have u0:(0:Int) < ((L' + 1:Nat):Int):=by omega
  have HHH:=hidI hh;have HXO:=hidI hxo;have HBV:=hidI hbv;have HOV:=hidI hov;have KD:=hidI kd;have KD1:=hidI kd1;have HC1:=hidI hc1;have jlim:¬ (L:Int)≤lim:=hc1;clear hV1 hov hh hxr hxo hbv kd kd1;go_upto_region 4 with fail
  obtain ⟨V2,hV2⟩:∃ V2,V2 = V1.alloc (.cells #[.int .i64 x.seq,.string x.key,.string x.body,.bool x.again,.int .i64 x.deaths] 48):=⟨_,rfl⟩
  rw [← hV2];have l2:Below V1.heap.size V1 V2:=by rw [hV2];exact (Below.refl _ _).alloc (Nat.le_refl _) _
  have x2:V2.heap[V1.heap.size]? = some (.cells #[.int .i64 x.seq,.string x.key,.string x.body,.bool x.again,.int .i64 x.deaths] 48 (0,0)):=by rw [hV2];exact World.alloc_heap_new V1 _
  have hgl':g < V1.heap.size:=by obtain ⟨_,cu,hc⟩:=HHH.out.base;exact lth_ hc
  have c8:=(l2.cell (p:=⟨g,q,none⟩) hgl').trans HHH.out.cell;have f8:=(l2.frozen (p:=⟨g,q,none⟩) hgl').trans HHH.out.frz;have hb2:=pkp_ HBV.out l2;have HO2:=hidI (HOV.out.keep l2);have HLV:=hidI (HHH.out.rest.keep l2);have X2:=hidI x2;have B2:=hidI hb2;have L2:=hidI l2;clear y0 y1 y2 y3 y4 y5 y6 y7 c0 i0 i1 i2 i3 i4 hV2 x2 l2;obtain ⟨y0,y1,y2,y3,y4,y5,y6,y7⟩:=aa_ hb2;have hcm:=HHH.out.cm;unfold maxLen at hcm;have u1:(1:Int)≤((L' + 1:Nat):Int):=by omega
  have u2:((L' + 1:Nat):Int)≤(cl':Int):=by omega
  have u3:(1:Int)≤(cl':Int):=by omega
  have u4:(1:Int)≤(L':Int)+1:=by omega
  have u5:(L':Int)+1≤(cl':Int):=by omega
  clear hb2;go_region
  obtain ⟨A,hA⟩:∃ A,A = if cl' = 1 then some (⟨gi,oi,none⟩:Addr) else some ⟨gi,oi+5,none⟩:=⟨_,rfl⟩
  rw [← hA] at HLV ⊢;obtain ⟨V3,hV3⟩:∃ V3,V3 = (V2.setCell ⟨g,q,none⟩ (.slice A L' (cl' - 1))).drew:=⟨_,rfl⟩
  rw [← hV3];have kt3:av_ 46 V2 (V2.setCell ⟨g,q,none⟩ (.slice A L' (cl' - 1))):=by
   obtain ⟨_,cu,hc⟩:=aT_ HO2.out.r1.choose_spec.1;exact av_.setCell hc _
  have ho3:aM_ V3 n (some ⟨g,0,none⟩) b2 b3 m1 d1 m2 d2 m3 d3 { s with ready:=s.ready.set q r }:=by rw [hV3];exact (HO2.out.line HQL.out HLV.out rfl).keep (Below.refl _ _).drew
  have b3':V3.heap[t]? = some (.cells #[.slice (some ⟨g,0,none⟩) m1 d1,.slice b2 m2 d2,.slice b3 m3 d3,.int .i64 s.nextSeq,.int .i64 s.nextTag,.int .i64 s.came,.int .i64 s.acked,.int .i64 s.dropped] 31 (0,0)):=by rw [hV3];exact (kt3.block t _ _ B2.out (by decide)).trans B2.out
  have x3:V3.heap[V1.heap.size]? = some (.cells #[.int .i64 x.seq,.string x.key,.string x.body,.bool x.again,.int .i64 x.deaths] 48 (0,0)):=by rw [hV3];exact (kt3.block V1.heap.size _ _ X2.out (by decide)).trans X2.out
  have p3:V3.heap[w.heap.size]? = some (.cells #[.slice a1 n1 c1,.slice (some ⟨gq,oq,none⟩) n2 c2,.slice a3 n3 c3] 26 (0,0)):=by
   have h:=pkp_ (pkp_ HX1.out KD1.out) L2.out;rw [hV3];exact (kt3.block w.heap.size _ _ h (by decide)).trans h
  have F3:ac_ n t w V3:=by
   have h1:ac_ n t w V2:=(ac_.of_below KD.out hnw).trans (ac_.of_below L2.out (by have:=KD.out.size;omega));rw [hV3];exact (h1.typeSet HG.out.2 _).trans (ac_.of_below (Below.refl _ _).drew (by have:=h1.size;simp;omega))
  have hbx3:StBox V3 n t { s with ready:=s.ready.set q r }:=⟨_,_,_,_,_,_,_,_,_,b3',ho3⟩;obtain ⟨V4,hV4⟩:∃ V4,V4 = V3.setCell ⟨t,7,none⟩ (.int .i64 (s.dropped+1)):=⟨_,rfl⟩
  have hbx4:StBox V4 n t { s with ready:=s.ready.set q r,dropped:=s.dropped+1 }:=by rw [hV4];exact hbx3.field7 _
  have t4:aZ_ t V3 V4:=by rw [hV4];exact sct_ _ _ _ _
  have F4:ac_ n t w V4:=F3.turnB t4 (by have:=F3.size;omega);have xlt:=lth_ x3;have x4:=(t4.block _ xlt (by have:=KD.out.size;omega)).trans x3;have p4:=(t4.block _ (by have:=F3.size;have:=lth_ p3;omega) (by omega)).trans p3;have B4:Below w.heap.size V4 V4:=Below.refl _ _;have HKP:Hid (Keep2 w V4):=((Keep2.of_below (KD.out.trans (L2.out.mono KD.out.size))).trans (Keep2.of_typeI kt3)).trans (((Keep2.of_below (by rw [hV3];exact (Below.refl _ _).drew):Keep2 _ V3)).trans (by rw [hV4];exact Keep2.of_typeS (av_.setCell b3' _)));have HD:=hidI (h3_ p a1 (some ⟨gq,oq,none⟩) a3 n1 c1 n2 c2 n3 c3 q x V4 (HP.out.keep (H0.out.trans (F4.below (by omega) ht))) HC.out hq HXO.out);have HBX4:=hidI hbx4;have HF4:=hidI F4;have HV4:=hidI hV4;obtain ⟨e0,e1,e2,e3,e4,e5,e6,e7⟩:=aa_ b3';have f7:=foc_ b3' 7;have jw:IntKind.i64.wrap (s.dropped+1) = s.dropped+1:=by rw [IntKind.wrap_i64];omega
  have s4:=F4.size;have X4:=hidI x4;have P4:=hidI p4;clear y0 y1 y2 y3 y4 y5 y6 y7 u0 u1 u2 u3 u4 u5 c8 f8 hA hV3 hV4 kt3 ho3 b3' x3 p3 F3 hbx3 hbx4 t4 F4 x4 p4 B4;unfold ae_.val at HD;go_upto_region 6 with fail
  rw [← HV4.out];clear e0 e1 e2 e3 e4 e5 e6 e7 f7 jw;obtain ⟨z0,z1,z2⟩:=ag_ P4.out;have i0:=coc_ X4.out 0;have i1:=coc_ X4.out 1;have i2:=coc_ X4.out 2;have i3:=coc_ X4.out 3;have i4:=coc_ X4.out 4;simp at i0 i1 i2 i3 i4;go_wp2_with fail
  refine HD.out.mono ?_;rintro e w6 ⟨v6,rfl,⟨m6,ho6⟩,k6⟩;have K6:=hidI k6;have HO6:=hidI ho6;clear k6 ho6 z0 z1 z2 i0 i1 i2 i3 i4;go_wp2_with fail
  go_ret
  exact ⟨v6,rfl,⟨m6,by rw [HA.out];exact bm_ HO6.out s4⟩,by rw [HS.out];exact HBX4.out.keep K6.out,HF4.out.trans (ac_.of_below K6.out (by omega)),HKP.out.trans (Keep2.of_below K6.out)⟩
end Go.Proofs.YtlbnkpicnokgoaaGreat
