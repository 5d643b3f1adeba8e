import Derived.Test.YtlbnkpicnokgoaaGreatBUn
import Derived.Test.YtlbnkpicnokgoaaGreatBLStateHeld
import Derived.Test.YtlbnkpicnokgoaaGreatSex
import Derived.Test.YtlbnkpicnokgoaaGreatShx
import Derived.Deep.RegionHeld3
import Derived.Test.YtlbnkpicnokgoaaGreatSkx
import Derived.Test.YtlbnkpicnokgoaaGreatSax
namespace Go.Proofs.YtlbnkpicnokgoaaGreat
open Go.RowKit Go.Maps
set_option linter.unusedVariables false
set_option maxRecDepth 100000
set_option maxHeartbeats 8000000
def quE (p:ad_) (s:ab_) (q:Int):Int:=if stE p s≠0 then stE p s else if aq_ q p.queues.length = false then 5 else 0
theorem c0_ (p:ad_) (a1 a2 a3:Option Addr) (n1 c1 n2 c2 n3 c3:Nat) (s:ab_) (b1 b2 b3:Option Addr) (m1 d1 m2 d2 m3 d3:Nat) (q:Int) (w:World) (hp:ap_ w a1 a2 a3 n1 n2 n3 p) (hs:al_ w b1 b2 b3 m1 m2 m3 s) :
 Calls Tryz.prog 38 #[.agg #[.slice a1 n1 c1,.slice a2 n2 c2,.slice a3 n3 c3],.agg #[.slice b1 m1 d1,.slice b2 m2 d2,.slice b3 m3 d3,.int .i64 s.nextSeq,.int .i64 s.nextTag,.int .i64 s.came,.int .i64 s.acked,.int .i64 s.dropped],.int .i64 q] w fun e w'=>e = .returned (.int .i64 (quE p s q))∧Below w.heap.size w w':=by
 obtain ⟨E,hE⟩:∃ E,E = quE p s q:=⟨_,rfl⟩
 rw [← hE];obtain ⟨E0,hE0⟩:∃ E0,E0 = stE p s:=⟨_,rfl⟩
 obtain ⟨W2,hW2,hBw,hs2,hbx⟩:=bN_ w #[.slice a1 n1 c1,.slice a2 n2 c2,.slice a3 n3 c3] #[.slice b1 m1 d1,.slice b2 m2 d2,.slice b3 m3 d3,.int .i64 s.nextSeq,.int .i64 s.nextTag,.int .i64 s.came,.int .i64 s.acked,.int .i64 s.dropped];have HW2:=hidI hW2;have BX:=hidI hbx;have HE:=hidI hE;have HE0:=hidI hE0;have HS:=hidI (hs.keep hBw);have HP:=hidI (hp.keep hBw);have HBW:=hidI hBw;have HN2:Hid (p.queues.length = n2):=hp.l2;have s0:=hBw.size;obtain ⟨x0,x1,x2⟩:=ai_ (hbx W2 (Below.refl _ _)).1;obtain ⟨y0,y1,y2,y3,y4,y5,y6,y7⟩:=aa_ (hbx W2 (Below.refl _ _)).2;clear hW2 hbx hs2 hp hs hBw hE hE0;go_enter Tryz.func38,Tryz.ntmps38;go_wp2_with fail
 rw [← HW2.out];refine (cI_ p _ _ _ _ _ _ _ _ _ s _ _ _ _ _ _ _ _ _ _ HP.out HS.out).mono ?_;rintro e w3 ⟨rfl,k3⟩;rw [← HE0.out];have s3:=k3.size;clear x0 x1 x2 y0 y1 y2 y3 y4 y5 y6 y7;obtain ⟨x0,x1,x2⟩:=ai_ (BX.out w3 k3).1;by_cases hz:E0 = 0
 ·subst hz;have hn2:n2≤4:=by rw [← HN2.out];exact (aE_ HE0.out.symm).rp.few.2.1
  have HE1:Hid (E = if aq_ q n2 = false then 5 else 0):=by show E = _;rw [HE.out];unfold quE;rw [if_neg (by simp [← HE0.out]),HN2.out]
  have hw:IntKind.i64.wrap ((n2:Int) - 1) = (n2:Int) - 1:=by rw [IntKind.wrap_i64];omega
  go_wp2_with fail
  refine (aH_ q 0 ((n2:Int) - 1) _).mono ?_;rintro e w4 ⟨rfl,hw4⟩;by_cases hq:aq_ q n2 = false
  ·have hi:inR q 0 ((n2:Int) - 1) = false:=by rw [ed_] at hq;exact m4_ (by omega)
   have e5:E = 5:=by rw [HE1.out,if_pos hq]
   rw [hi];subst hw4;clear hq;go_wp2_with fail
   go_ret
   exact ⟨aw_ e5.symm,HBW.out.trans (k3.mono s0)⟩
  ·have hi:inR q 0 ((n2:Int) - 1) = true:=by have:=az_.1 (by simpa using hq);exact kX_ this.1 (by omega)
   have e0:E = 0:=by rw [HE1.out,if_neg hq]
   rw [hi];subst hw4;clear hq;go_wp2_with fail
   go_ret
   exact ⟨aw_ e0.symm,HBW.out.trans (k3.mono s0)⟩
 ·have hz':(E0 != 0) = true:=bne_iff_ne.2 hz;have e0:E = E0:=by rw [HE.out];unfold quE;rw [if_pos (by rw [← HE0.out];exact hz),HE0.out]
  clear hz;go_wp2_with fail
  go_ret
  exact ⟨aw_ e0.symm,HBW.out.trans (k3.mono s0)⟩
theorem em_ (w:World) (pv sv:Array Value):∃ W3,W3 = ((w.alloc (.cells pv 26)).alloc (.cells sv 31)).alloc (.cells #[.slice none 0 0,.slice none 0 0,.slice none 0 0,.int .i64 0,.int .i64 0,.int .i64 0,.int .i64 0,.int .i64 0] 31)∧Below w.heap.size w W3∧W3.heap.size = w.heap.size+3 ∧
 ∀ W,Below W3.heap.size W3 W→W.heap[w.heap.size]? = some (.cells pv 26 (0,0))∧W.heap[w.heap.size+1]? = some (.cells sv 31 (0,0))∧W.heap[w.heap.size+2]? = some (.cells #[.slice none 0 0,.slice none 0 0,.slice none 0 0,.int .i64 0,.int .i64 0,.int .i64 0,.int .i64 0,.int .i64 0] 31 (0,0)):=by
 obtain ⟨h1,h2,h3⟩:=av_ [.cells pv 26,.cells sv 31,.cells #[.slice none 0 0,.slice none 0 0,.slice none 0 0,.int .i64 0,.int .i64 0,.int .i64 0,.int .i64 0,.int .i64 0] 31] w;exact ⟨_,rfl,h3,h1,fun W hW=>⟨pkp_ (h2 0 _ rfl) hW,pkp_ (h2 1 _ rfl) hW,pkp_ (h2 2 _ rfl) hW⟩⟩
theorem jS_ (p:ad_) (a1 a2 a3:Option Addr) (n1 c1 n2 c2 n3 c3:Nat) (s:ab_) (b1 b2 b3:Option Addr) (m1 d1 m2 d2 m3 d3:Nat) (q most:Int) (w:World) (hp:ap_ w a1 a2 a3 n1 n2 n3 p) (hs:al_ w b1 b2 b3 m1 m2 m3 s) (hn2:b2 = none→d2 = 0) (hn3:b3 = none→d3 = 0) :
 Calls Tryz.prog 39 #[.agg #[.slice a1 n1 c1,.slice a2 n2 c2,.slice a3 n3 c3],.agg #[.slice b1 m1 d1,.slice b2 m2 d2,.slice b3 m3 d3,.int .i64 s.nextSeq,.int .i64 s.nextTag,.int .i64 s.came,.int .i64 s.acked,.int .i64 s.dropped],.int .i64 q,.int .i64 most] w fun e w'=>∃ v,e = .returned (.tuple #[v,.int .i64 (bg_ (bB_ p s q most) (goneIdx s.takers)),.int .i64 (bB_ p s q most)])∧a4_ w' w.heap.size v (bB_ p s q most) (bE_ s q most)∧Below w.heap.size w w':=by
 obtain ⟨E,hE⟩:∃ E,E = bB_ p s q most:=⟨_,rfl⟩
 rw [← hE];obtain ⟨N,hN⟩:∃ N,N = bg_ E (goneIdx s.takers):=⟨_,rfl⟩
 rw [← hN];obtain ⟨E0,hE0⟩:∃ E0,E0 = quE p s q:=⟨_,rfl⟩
 obtain ⟨W3,hW3,hBw,hs3,hbx⟩:=em_ w #[.slice a1 n1 c1,.slice a2 n2 c2,.slice a3 n3 c3] #[.slice b1 m1 d1,.slice b2 m2 d2,.slice b3 m3 d3,.int .i64 s.nextSeq,.int .i64 s.nextTag,.int .i64 s.came,.int .i64 s.acked,.int .i64 s.dropped];have HW3:=hidI hW3;have BX:=hidI hbx;have HE:=hidI hE;have HN:=hidI hN;have HE0:=hidI hE0;have HS:=hidI (hs.keep hBw);have HP:=hidI (hp.keep hBw);have HBW:=hidI hBw;have HS3:=hidI hs3;have HL2:Hid (p.queues.length = n2):=hp.l2;have HM3:Hid (s.takers.length = m3):=hs.l3;have HN2:=hidI hn2;have HN3:=hidI hn3;have s0:=hBw.size;obtain ⟨x0,x1,x2⟩:=ai_ (hbx W3 (Below.refl _ _)).1;obtain ⟨y0,y1,y2,y3,y4,y5,y6,y7⟩:=aa_ (hbx W3 (Below.refl _ _)).2.1;have HER:Hid (∀ (D:Int) (W W4:World),D≠0→E = D→Below W3.heap.size W3 W→bh_ (w.heap.size+2) W W4→∃ v,Ending.returned (.tuple #[zerS,.int .i64 0,.int .i64 D]) = .returned (.tuple #[v,.int .i64 N,.int .i64 E])∧a4_ W4 w.heap.size v E (bE_ s q most)∧Below w.heap.size w W4):=fun D W W4 hD hED hB hT=>by
  have hN0:N = 0:=by rw [HN.out];unfold bg_;rw [if_neg (by rw [hED];exact hD)]
  refine ⟨zerS,by rw [hN0,hED],⟨fun h=>absurd (hED ▸ h) hD,fun _=>rfl⟩,HBW.out.trans ((hB.mono s0).trans (hT.below (by have:=hB.size;have:=HS3.out;omega) (by omega)))⟩
 clear hW3 hbx hs3 hp hs hBw hE hE0 hN hn2 hn3;go_enter Tryz.func39,Tryz.ntmps39;go_wp2_with fail
 rw [← HW3.out];refine (c0_ p _ _ _ _ _ _ _ _ _ s _ _ _ _ _ _ _ _ _ q _ HP.out HS.out).mono ?_;rintro e w4 ⟨rfl,k4⟩;rw [← HE0.out];have s4:=k4.size;have K4:=hidI k4;clear x0 x1 x2 y0 y1 y2 y3 y4 y5 y6 y7;have r4:=(BX.out w4 k4).2.2;obtain ⟨z0,z1,z2,z3,z4,z5,z6,z7⟩:=aa_ r4;have e0:=foc_ r4 0;have e1:=foc_ r4 1;have e2:=foc_ r4 2;have e3:=foc_ r4 3;have e4:=foc_ r4 4;have e5:=foc_ r4 5;have e6:=foc_ r4 6;have e7:=foc_ r4 7;have R4:=hidI r4;clear r4 k4;by_cases hz:E0 = 0
 ·subst hz;have h00:stE p s = 0:=by
   have:=HE0.out;unfold quE at this;by_cases h:stE p s = 0
   ·exact h
   ·rw [if_pos h] at this;exact absurd this.symm h
  have hq0:¬ aq_ q p.queues.length = false:=fun h=>by
   have:=HE0.out;unfold quE at this;rw [if_neg (by simp [h00]),if_pos h] at this;cases this
  have HR:=hidI (aE_ h00);have HE1:Hid (E = if inR most 1 4 = false then 3 else if goneIdx s.takers = s.takers.length∧4≤s.takers.length then 2 else 0):=by show E = _;rw [HE.out];unfold bB_ f7_;rw [if_neg (by simp [h00]),if_neg hq0]
  go_wp2_with fail
  refine (aH_ most 1 4 _).mono ?_;rintro e w5 ⟨rfl,rfl⟩;by_cases hm:inR most 1 4 = false
  ·rw [hm];have e3':E = 3:=by rw [HE1.out,if_pos hm]
   clear h00 hq0 hm;go_wp2_with fail
   generalize hW4:World.setCell (World.setCell (World.setCell (World.setCell (World.setCell (World.setCell (World.setCell (World.setCell w5 _ _) _ _) _ _) _ _) _ _) _ _) _ _) _ _ = W4;obtain ⟨b4,t4⟩:=store8 R4.out hW4;obtain ⟨z0,z1,z2,z3,z4,z5,z6,z7⟩:=aa_ b4;exact bodyPost_ret (v:=.tuple #[zerS,.int .i64 0,.int .i64 3]) (by simp [results,Tryz.results39,go_sem,z0,z1,z2,z3,z4,z5,z6,z7,zerS]) rfl (HER.out 3 _ _ (by decide) e3' K4.out t4)
  ·rw [show inR most 1 4 = true by simpa using hm];have HE2:Hid (E = if goneIdx s.takers = s.takers.length∧4≤s.takers.length then 2 else 0):=by show E = _;rw [HE1.out,if_neg hm]
   obtain ⟨y0,y1,y2,y3,y4,y5,y6,y7⟩:=aa_ (BX.out w5 K4.out).2.1;clear h00 hq0 hm;go_wp2_with fail
   obtain ⟨q1,q2,q3,q4⟩:=HS.out.small HR.out;refine (dA_ s _ _ _ _ _ _ _ _ _ w5 (HS.out.keep K4.out) HN2.out HN3.out q1 q2 q3 q4).mono ?_;rintro e w6 ⟨v6,rfl,hv6,k6'⟩;obtain ⟨g1,g2,g3,l1,r1,l2,r2,l3,r3,rfl,ho⟩:=hv6;have k6:=K4.out.trans (k6'.mono s4);have s6:=k6.size;have hl3:l3 = m3:=ho.l3.symm.trans HM3.out;subst hl3;have hm4:l3≤4:=by rw [← ho.l3];exact HR.out.tk
   obtain ⟨w7,hw7⟩:∃ w7,w7 = w6.alloc (.cells #[.slice g1 l1 r1,.slice g2 l2 r2,.slice g3 l3 r3,.int .i64 s.nextSeq,.int .i64 s.nextTag,.int .i64 s.came,.int .i64 s.acked,.int .i64 s.dropped] 31):=⟨_,rfl⟩
   have l7:Below w6.heap.size w6 w7:=by rw [hw7];exact (Below.refl _ _).alloc (Nat.le_refl _) _
   have b7:w7.heap[w6.heap.size]? = some (.cells #[.slice g1 l1 r1,.slice g2 l2 r2,.slice g3 l3 r3,.int .i64 s.nextSeq,.int .i64 s.nextTag,.int .i64 s.came,.int .i64 s.acked,.int .i64 s.dropped] 31 (0,0)):=by rw [hw7];exact World.alloc_heap_new w6 _
   have k7:=k6.trans (l7.mono s6);have ho7:=(ho.lower (n':=w.heap.size+3) (by have:=K4.out.size;have:=HS3.out;omega)).keep l7;have HW7:=hidI hw7;have B7:=hidI b7;have K7:=hidI k7;have HO7:=hidI ho7;have HL6:Hid (w.heap.size+3≤w6.heap.size):=by show _≤_;have:=HS3.out;omega
   clear y0 y1 y2 y3 y4 y5 y6 y7 z0 z1 z2 z3 z4 z5 z6 z7 e0 e1 e2 e3 e4 e5 e6 e7 ho k6' q1 q2 q3 q4 l7 hw7 k6;go_wp2_with fail
   rw [← HW7.out];clear b7 k7 ho7;go_loopw [13] (fun i wr=>∃ (k:Nat),k≤l3∧i = .int .i64 k∧(∀ x ∈ s.takers.take k,decide (x.queue = -1) = false)∧wr = w7) (fun i _=>l3 - (intOf i).toNat)
   case atStart=>exact ⟨0,Nat.zero_le _,rfl,by simp,rfl⟩
   case round=>
    obtain ⟨k,hk,rfl,ha,rfl⟩:=hrel;have HA:=hidI ha;clear ha;obtain ⟨y0,y1,y2,y3,y4,y5,y6,y7⟩:=aa_ B7.out;by_cases hlt:k < l3
    ·have HLT:=hidI hlt;have hkl:k < s.takers.length:=by rw [HM3.out];exact hlt
     have HKL:=hidI hkl;obtain ⟨gt,rfl⟩:∃ gt,g3 = some ⟨gt,0,none⟩:=by
      rcases HO7.out.r3.2 with ⟨e,e0⟩ | ⟨g,cap,cur,e,_⟩
      ·omega
      ·cases e;exact ⟨g,rfl⟩
     have cc0:=HO7.out.r3.cellAt (k * 2) (by omega);have cc1:=HO7.out.r3.cellAt (k * 2+1) (by omega);rw [show (tkC_ s.takers)[k * 2]? = some (.int .i64 (s.takers[k]'hkl).queue) from bK_ (f:=aj_.cells) (k:=2) (fun _=>rfl) s.takers k hkl 0 (by omega)] at cc0;rw [show (tkC_ s.takers)[k * 2+1]? = some (.int .i64 (s.takers[k]'hkl).most) from bK_ (f:=aj_.cells) (k:=2) (fun _=>rfl) s.takers k hkl 1 (by omega)] at cc1;have ff0:=HO7.out.r3.frozenAt (k * 2);have ff1:=HO7.out.r3.frozenAt (k * 2+1);have HTS:Hid ((s.takers[k]'hkl).queue≠-1→∀ x ∈ s.takers.take (k+1),decide (x.queue = -1) = false):=fun h x hx=>by
      rw [List.take_succ_eq_append_getElem hkl,List.mem_append,List.mem_singleton] at hx;rcases hx with hx | rfl
      ·exact HA.out x hx
      ·exact decide_eq_false h
     have HGI:Hid ((s.takers[k]'hkl).queue = -1→goneIdx s.takers = k):=fun h=>by
      have:=fd_ (P:=fun t:aj_=>decide (t.queue = -1)) hkl HA.out (decide_eq_true h);rw [jh_] at this;by_cases hg:goneIdx s.takers < s.takers.length
      ·rw [if_pos hg] at this;omega
      ·rw [if_neg hg] at this;omega
     obtain ⟨x,hx⟩:∃ x,x = (s.takers[k]'hkl).queue:=⟨_,rfl⟩
     obtain ⟨mo,hmo⟩:∃ mo,mo = (s.takers[k]'hkl).most:=⟨_,rfl⟩
     rw [← hx] at cc0 HTS HGI;rw [← hmo] at cc1;have j1:(0:Int)≤(k:Int):=by omega
     have j2:(k:Int) < l3:=by omega
     clear hx hmo;by_cases hx1:x = -1
     ·subst hx1;have hgi:=HGI.out rfl;have eE:E = 0:=by rw [HE2.out,if_neg (by omega)]
      have eN:N = (k:Int):=by rw [HN.out,eE];unfold bg_;rw [if_pos rfl,hgi]
      have HEN:=hidI (And.intro eE eN);have HGK:=hidI hgi;obtain ⟨t1,t2,t3⟩:=HO7.out.taker HKL.out ⟨q,most⟩ rfl;have r7:=(t2.block (w.heap.size+2) _ _ (BX.out _ K7.out).2.2 (by decide)).trans (BX.out _ K7.out).2.2;have b8:=(t2.block w6.heap.size _ _ B7.out (by decide)).trans B7.out;have T1:=hidI t1;have R7:=hidI r7;have B8:=hidI b8;have F8:Hid (Below w.heap.size w ((wr.setCell ⟨gt,k * 2,none⟩ (.int .i64 q)).setCell ⟨gt,k * 2+1,none⟩ (.int .i64 most))):=by
       refine ((HBW.out.trans (K7.out.mono s0)).setCell (p:=⟨gt,k * 2,none⟩) ?_ _).setCell (p:=⟨gt,k * 2+1,none⟩) ?_ _
       all_goals (show w.heap.size≤gt;omega)
      obtain ⟨w8,hw8⟩:∃ w8,w8 = (wr.setCell ⟨gt,k * 2,none⟩ (.int .i64 q)).setCell ⟨gt,k * 2+1,none⟩ (.int .i64 most):=⟨_,rfl⟩
      have HW8:=hidI hw8;rw [← hw8] at T1 R7 B8 F8 r7 b8;obtain ⟨y0',y1',y2',y3',y4',y5',y6',y7'⟩:=aa_ b8;obtain ⟨z0,z1,z2,z3,z4,z5,z6,z7⟩:=aa_ r7;have e0:=foc_ r7 0;have e1:=foc_ r7 1;have e2:=foc_ r7 2;have e3:=foc_ r7 3;have e4:=foc_ r7 4;have e5:=foc_ r7 5;have e6:=foc_ r7 6;have e7:=foc_ r7 7;clear hw8 hgi eE eN t1 t2 t3 r7 b8;go_upto_region 12 with fail
      rw [← HW8.out];clear cc0 cc1 ff0 ff1 y0 y1 y2 y3 y4 y5 y6 y7;go_wp2_with fail
      generalize hW9:World.setCell (World.setCell (World.setCell (World.setCell (World.setCell (World.setCell (World.setCell (World.setCell w8 _ _) _ _) _ _) _ _) _ _) _ _) _ _) _ _ = W9;obtain ⟨b9,t9⟩:=store8 R7.out hW9;obtain ⟨z0,z1,z2,z3,z4,z5,z6,z7⟩:=aa_ b9;have eS:bE_ s q most = { s with takers:=s.takers.set k ⟨q,most⟩ }:=by unfold bE_ dj_;rw [if_pos (by rw [HGK.out];exact HKL.out),HGK.out]
      exact bodyPost_ret (v:=.tuple #[.agg #[.slice g1 l1 r1,.slice g2 l2 r2,.slice (some ⟨gt,0,none⟩) l3 r3,.int .i64 s.nextSeq,.int .i64 s.nextTag,.int .i64 s.came,.int .i64 s.acked,.int .i64 s.dropped],.int .i64 k,.int .i64 0]) (by simp [results,Tryz.results39,go_sem,z0,z1,z2,z3,z4,z5,z6,z7]) rfl ⟨.agg #[.slice g1 l1 r1,.slice g2 l2 r2,.slice (some ⟨gt,0,none⟩) l3 r3,.int .i64 s.nextSeq,.int .i64 s.nextTag,.int .i64 s.came,.int .i64 s.acked,.int .i64 s.dropped],by rw [HEN.out.1,HEN.out.2],⟨fun _=>⟨_,_,_,_,_,_,_,_,_,rfl,by rw [eS];exact ((T1.out.turn R7.out (by decide) t9).lower (by omega))⟩,fun h=>absurd HEN.out.1 h⟩,F8.out.trans (t9.below (by have:=F8.out.size;omega) (by omega))⟩
     ·have hx1':(x == -1) = false:=by simpa using hx1
      have HX1:=hidI hx1;clear hx1;go_wp2_with fail
      go_roundw
      case rel=>exact ⟨k+1,HLT.out,by have:=HLT.out;go_num,HTS.out HX1.out,by first | trivial | rfl⟩
      case measure=>have:=HLT.out;simp [intOf];omega
    ·have hke:l3 = k:=by omega
     subst hke;have hno:∀ x ∈ s.takers,decide (x.queue = -1) = false:=fun x hx=>HA.out x (by rw [List.take_of_length_le (by rw [HM3.out];exact Nat.le_refl _)];exact hx)
     have hge:goneIdx s.takers = s.takers.length:=List.findIdx_eq_length.2 hno;have HGE:=hidI hge;have r7:=(BX.out _ K7.out).2.2;have R7:=hidI r7;obtain ⟨z0,z1,z2,z3,z4,z5,z6,z7⟩:=aa_ r7;have e0:=foc_ r7 0;have e1:=foc_ r7 1;have e2:=foc_ r7 2;have e3:=foc_ r7 3;have e4:=foc_ r7 4;have e5:=foc_ r7 5;have e6:=foc_ r7 6;have e7:=foc_ r7 7;by_cases h4:l3 = 4
     ·subst h4;have eE:E = 2:=by rw [HE2.out,if_pos ⟨hge,by rw [HM3.out];exact Nat.le_refl _⟩]
      clear hlt hk hno hge r7;go_wp2_with fail
      generalize hW9:World.setCell (World.setCell (World.setCell (World.setCell (World.setCell (World.setCell (World.setCell (World.setCell wr _ _) _ _) _ _) _ _) _ _) _ _) _ _) _ _ = W9;obtain ⟨b9,t9⟩:=store8 R7.out hW9;obtain ⟨z0,z1,z2,z3,z4,z5,z6,z7⟩:=aa_ b9;exact bodyPost_ret (v:=.tuple #[zerS,.int .i64 0,.int .i64 2]) (by simp [results,Tryz.results39,go_sem,z0,z1,z2,z3,z4,z5,z6,z7,zerS]) rfl (HER.out 2 _ _ (by decide) eE K7.out t9)
     ·have eE:E = 0:=by rw [HE2.out,if_neg (by rw [HM3.out];omega)]
      have eN:N = (l3:Int):=by rw [HN.out,eE];unfold bg_;rw [if_pos rfl,hge,HM3.out]
      have HEN:=hidI (And.intro eE eN);have h4':((l3:Int) == 4) = false:=by simp;omega
      obtain ⟨wA,hwA⟩:∃ wA,wA = wr.alloc (.cells #[.int .i64 q,.int .i64 most] 69):=⟨_,rfl⟩
      have lA:Below wr.heap.size wr wA:=by rw [hwA];exact (Below.refl _ _).alloc (Nat.le_refl _) _
      have xA:wA.heap[wr.heap.size]? = some (.cells #[.int .i64 q,.int .i64 most] 69 (0,0)):=by rw [hwA];exact World.alloc_heap_new wr _
      have HRW:Hid (a7_ wA (some ⟨wr.heap.size,0,none⟩) (tkC_ [⟨q,most⟩])):=.inr ⟨_,0,rfl,lth_ xA,fun j u hj=>by
       rw [Nat.zero_add];refine Eq.trans (coc_ xA j) ?_;have:(tkC_ [⟨q,most⟩])[j]? = (#[Value.int .i64 q,Value.int .i64 most]:Array Value)[j]?:=by simp [tkC_,aj_.cells]
       rw [← this];exact hj⟩
      have HWA:=hidI hwA;have LA:=hidI lA;have HOA:=hidI (HO7.out.keep lA);have hszr:w.heap.size+3≤wr.heap.size:=by have:=K7.out.size;have:=HS3.out;omega
      clear hlt hk hno hge r7 eE eN hwA lA xA h4;go_upto_region 16 with (at_builtin;rw [← HWA.out];refine a0_ d9_ (by kernel_rfl) _ _ rfl (w.heap.size+3) _ l3 (tkC_ s.takers) rfl HOA.out.r3 (some ⟨wr.heap.size,0,none⟩) 1 1 (tkC_ [⟨q,most⟩]) rfl rfl (fun h=>by cases h) HRW.out (ce_ _) (by unfold maxLen;omega) (by omega) (Nat.le_trans hszr LA.out.size) ?_;intro v8 w8 o8 g8 _;obtain ⟨a8,c8,rfl,-⟩:=aA_ o8;have kt8:=ax_.grown HOA.out.r3 g8;have b8:=(kt8.block w6.heap.size _ _ (pkp_ B7.out LA.out) (by decide)).trans (pkp_ B7.out LA.out);have x8:=coc_ b8 2;have f8:=foc_ b8 2;simp at x8;have B8:=hidI b8;have KT8:=hidI kt8;have O8:=hidI o8;have G8:=hidI g8;clear b8 kt8 o8 g8)
      have ho8:aM_ w8 (w.heap.size+3) g1 g2 a8 l1 r1 l2 r2 (l3+1) c8 { s with takers:=s.takers ++ [⟨q,most⟩] }:=HOA.out.takers KT8.out (by rw [c5_];exact O8.out);obtain ⟨w9,hw9⟩:∃ w9,w9 = w8.setCell ⟨w6.heap.size,2,none⟩ (.slice a8 (l3+1) c8):=⟨_,rfl⟩
      rw [← hw9];have b9:w9.heap[w6.heap.size]? = some (.cells #[.slice g1 l1 r1,.slice g2 l2 r2,.slice a8 (l3+1) c8,.int .i64 s.nextSeq,.int .i64 s.nextTag,.int .i64 s.came,.int .i64 s.acked,.int .i64 s.dropped] 31 (0,0)):=by rw [hw9];exact scb_ B8.out (j:=2) _
      have kt9:ax_ 31 w8 w9:=by rw [hw9];exact ax_.setCell B8.out _
      have ho9:=ho8.typeT kt9 (by decide);have F9:Hid (Below w.heap.size w w9):=by
       have l8:Below w.heap.size w w8:=(HBW.out.trans ((K7.out.trans (LA.out.mono K7.out.size)).mono s0)).grown G8.out (by have:=LA.out.size;omega) (fun i hi=>by have:=(HOA.out.r3.lt i hi).1;omega);show Below w.heap.size w w9;rw [hw9];exact l8.setCell (p:=⟨w6.heap.size,2,none⟩) (by show w.heap.size≤w6.heap.size;have:=HL6.out;omega) _
      have r8:w8.heap[w.heap.size+2]? = _:=(KT8.out.block (w.heap.size+2) _ _ (pkp_ R7.out LA.out) (by decide)).trans (pkp_ R7.out LA.out);have r9:w9.heap[w.heap.size+2]? = some (.cells #[.slice none 0 0,.slice none 0 0,.slice none 0 0,.int .i64 0,.int .i64 0,.int .i64 0,.int .i64 0,.int .i64 0] 31 (0,0)):=by rw [hw9];exact (heap_setCell_other w8 ⟨w6.heap.size,2,none⟩ (w.heap.size+2) _ (by show w.heap.size+2≠w6.heap.size;have:=HL6.out;omega)).trans r8
      clear y0 y1 y2 y3 y4 y5 y6 y7 z0 z1 z2 z3 z4 z5 z6 z7 e0 e1 e2 e3 e4 e5 e6 e7 x8 f8;obtain ⟨y0,y1,y2,y3,y4,y5,y6,y7⟩:=aa_ b9;obtain ⟨z0,z1,z2,z3,z4,z5,z6,z7⟩:=aa_ r9;have e0:=foc_ r9 0;have e1:=foc_ r9 1;have e2:=foc_ r9 2;have e3:=foc_ r9 3;have e4:=foc_ r9 4;have e5:=foc_ r9 5;have e6:=foc_ r9 6;have e7:=foc_ r9 7;have R9:=hidI r9;have HO9:=hidI ho9;have hwr:IntKind.i64.wrap (((l3+1:Nat):Int) - 1) = (l3:Int):=by rw [IntKind.wrap_i64];omega
      clear r9 ho9 ho8 b9 kt9 hw9 r8;have hne1:w6.heap.size≠w.heap.size+1+1:=by have:=HL6.out;omega
      have hne2:w.heap.size+1+1≠w6.heap.size:=by have:=HL6.out;omega
      go_wp2_with fail
      go_region
      generalize hWX:World.setCell (World.setCell (World.setCell (World.setCell (World.setCell (World.setCell (World.setCell (World.setCell w9 _ _) _ _) _ _) _ _) _ _) _ _) _ _) _ _ = WX;obtain ⟨bX,tX⟩:=store8 R9.out hWX;obtain ⟨z0,z1,z2,z3,z4,z5,z6,z7⟩:=aa_ bX;go_wp2_with fail
      have eS:bE_ s q most = { s with takers:=s.takers ++ [⟨q,most⟩] }:=by unfold bE_ dj_;rw [if_neg (by rw [HGE.out];omega)]
      exact bodyPost_ret (v:=.tuple #[.agg #[.slice g1 l1 r1,.slice g2 l2 r2,.slice a8 (l3+1) c8,.int .i64 s.nextSeq,.int .i64 s.nextTag,.int .i64 s.came,.int .i64 s.acked,.int .i64 s.dropped],.int .i64 (l3:Int),.int .i64 0]) (by simp [results,Tryz.results39,go_sem,z0,z1,z2,z3,z4,z5,z6,z7]) rfl ⟨.agg #[.slice g1 l1 r1,.slice g2 l2 r2,.slice a8 (l3+1) c8,.int .i64 s.nextSeq,.int .i64 s.nextTag,.int .i64 s.came,.int .i64 s.acked,.int .i64 s.dropped],by rw [HEN.out.1,HEN.out.2],⟨fun _=>⟨_,_,_,_,_,_,_,_,_,rfl,by rw [eS];exact ((HO9.out.turn R9.out (by decide) tX).lower (by omega)).keep (Below.refl _ _).drew⟩,fun h=>absurd HEN.out.1 h⟩,(F9.out.trans (tX.below (by have:=F9.out.size;omega) (by omega))).drew⟩
 ·have hz':(E0 != 0) = true:=bne_iff_ne.2 hz;have HZ:=hidI hz;have eE:E = E0:=by
   rw [HE.out,HE0.out];unfold bB_ f7_ quE;by_cases h:stE p s = 0
   ·have hc:¬ stE p s≠0:=by simp [h]
    rw [if_neg hc,if_neg hc];by_cases h2:aq_ q p.queues.length = false
    ·rw [if_pos h2,if_pos h2]
    ·exfalso
     apply hz
     rw [HE0.out];unfold quE;rw [if_neg (by simp [h]),if_neg h2]
   ·rw [if_pos h,if_pos h]
  clear hz;go_wp2_with fail
  generalize hW4:World.setCell (World.setCell (World.setCell (World.setCell (World.setCell (World.setCell (World.setCell (World.setCell w4 _ _) _ _) _ _) _ _) _ _) _ _) _ _) _ _ = W4;obtain ⟨b4,t4⟩:=store8 R4.out hW4;obtain ⟨z0,z1,z2,z3,z4,z5,z6,z7⟩:=aa_ b4;exact bodyPost_ret (v:=.tuple #[zerS,.int .i64 0,.int .i64 E0]) (by simp [results,Tryz.results39,go_sem,z0,z1,z2,z3,z4,z5,z6,z7,zerS]) rfl (HER.out E0 _ _ HZ.out eE K4.out t4)
theorem ka_ {p:ad_} {s:ab_} (h:ag_ p s 0) {q:Int} {n k:Nat} (hk:k < s.takers.length) (hf:cn_ s q k = true) (hn:heldN s k = n) (hall:∀ j,j < s.takers.length→cn_ s q j = true→n≤heldN s j) (hfst:∀ j,j < k→cn_ s q j = true→heldN s j≠n):b2_ s q = (k:Int):=by
 have hL:Least s q s.takers.length k:=⟨hk,hf,h.few hk hf,fun j hj hfj=>by rw [hn];exact hall j hj hfj,fun j hj hfj=>by have:=hall j (by omega) hfj;have:=hfst j hj hfj;omega⟩;rcases iK_ h q with ⟨_,h2⟩ | ⟨k',e,h2⟩
 ·rw [h2 k hk] at hf;cases hf
 ·rw [e,h2.uniq hL]
theorem li_ {p:ad_} {s:ab_} (h:ag_ p s 0) {q:Int} (hall:∀ j,j < s.takers.length→cn_ s q j = true→4≤heldN s j):b2_ s q = -1:=by
 rcases iK_ h q with ⟨e,_⟩ | ⟨k',e,h2⟩
 ·exact e
 ·have:=hall k' h2.lt h2.free;have:=h2.few;omega
theorem j9_ (p:ad_) (a1 a2 a3:Option Addr) (n1 c1 n2 c2 n3 c3:Nat) (s:ab_) (b1 b2 b3:Option Addr) (m1 d1 m2 d2 m3 d3:Nat) (q:Int) (w:World) (hp:ap_ w a1 a2 a3 n1 n2 n3 p) (hs:al_ w b1 b2 b3 m1 m2 m3 s) :
 Calls Tryz.prog 78 #[.agg #[.slice a1 n1 c1,.slice a2 n2 c2,.slice a3 n3 c3],.agg #[.slice b1 m1 d1,.slice b2 m2 d2,.slice b3 m3 d3,.int .i64 s.nextSeq,.int .i64 s.nextTag,.int .i64 s.came,.int .i64 s.acked,.int .i64 s.dropped],.int .i64 q] w fun e w'=>e = .returned (.tuple #[.int .i64 (bg_ (cY_ p s q) (b2_ s q)),.int .i64 (cY_ p s q)])∧Below w.heap.size w w':=by
 obtain ⟨E,hE⟩:∃ E,E = cY_ p s q:=⟨_,rfl⟩
 rw [← hE];obtain ⟨N,hN⟩:∃ N,N = bg_ E (b2_ s q):=⟨_,rfl⟩
 rw [← hN];obtain ⟨E0,hE0⟩:∃ E0,E0 = quE p s q:=⟨_,rfl⟩
 obtain ⟨W2,hW2,hBw,hs2,hbx⟩:=bN_ w #[.slice a1 n1 c1,.slice a2 n2 c2,.slice a3 n3 c3] #[.slice b1 m1 d1,.slice b2 m2 d2,.slice b3 m3 d3,.int .i64 s.nextSeq,.int .i64 s.nextTag,.int .i64 s.came,.int .i64 s.acked,.int .i64 s.dropped];have HW2:=hidI hW2;have BX:=hidI hbx;have HE:=hidI hE;have HN:=hidI hN;have HE0:=hidI hE0;have HS:=hidI (hs.keep hBw);have HP:=hidI (hp.keep hBw);have HBW:=hidI hBw;have HM1:Hid (s.ready.length = m1):=hs.l1;have HM3:Hid (s.takers.length = m3):=hs.l3;have s0:=hBw.size;obtain ⟨x0,x1,x2⟩:=ai_ (hbx W2 (Below.refl _ _)).1;obtain ⟨y0,y1,y2,y3,y4,y5,y6,y7⟩:=aa_ (hbx W2 (Below.refl _ _)).2;clear hW2 hbx hs2 hp hs hBw hE hE0 hN;go_enter Tryz.func78,Tryz.ntmps78;go_wp2_with fail
 rw [← HW2.out];refine (c0_ p _ _ _ _ _ _ _ _ _ s _ _ _ _ _ _ _ _ _ q _ HP.out HS.out).mono ?_;rintro e w3 ⟨rfl,k3⟩;rw [← HE0.out];have s3:=k3.size;have K3:=hidI k3;clear x0 x1 x2 y0 y1 y2 y3 y4 y5 y6 y7;by_cases hz:E0 = 0
 ·subst hz;have h00:stE p s = 0:=by
   have:=HE0.out;unfold quE at this;by_cases h:stE p s = 0
   ·exact h
   ·rw [if_pos h] at this;exact absurd this.symm h
  have hq0:¬ aq_ q p.queues.length = false:=fun h=>by
   have:=HE0.out;unfold quE at this;rw [if_neg (by simp [h00]),if_pos h] at this;cases this
  have HR:=hidI (aE_ h00);obtain ⟨q0,q1⟩:=az_.1 (show aq_ q p.queues.length = true by simpa using hq0);have HE1:Hid (E = if af_ s q.toNat = [] then 8 else if b2_ s q = -1 then 9 else 0):=by show E = _;rw [HE.out];unfold cY_;rw [if_neg (by simp [h00]),if_neg hq0]
  obtain ⟨j,rfl⟩:=Int.eq_ofNat_of_zero_le q0;have HE1:Hid (E = if af_ s j = [] then 8 else if b2_ s (j:Int) = -1 then 9 else 0):=by show E = _;rw [HE1.out,Int.toNat_natCast]
  have hjr:j < s.ready.length:=by rw [HR.out.len];omega
  have hm3:m3≤4:=by rw [← HM3.out];exact HR.out.tk
  obtain ⟨g,o,b,c,ha,hg,hl⟩:=(HS.out.q1.keep k3).get hjr;subst ha;have c1:=hl.cell;obtain ⟨n,hn⟩:∃ n,n = (s.ready[j]'hjr).length:=⟨_,rfl⟩
  have HNL:Hid (n = 0↔af_ s j = []):=by show n = 0↔_;rw [aU_ hjr,hn];exact List.length_eq_zero_iff
  rw [← hn] at c1;have j1:(0:Int)≤(j:Int):=by omega
  have j2:(j:Int) < m1:=by rw [← HM1.out];omega
  obtain ⟨y0,y1,y2,y3,y4,y5,y6,y7⟩:=aa_ (BX.out w3 k3).2;clear hl hn hq0 h00 q0 q1;by_cases hn0:n = 0
  ·have e8:E = 8:=by rw [HE1.out,if_pos (HNL.out.1 hn0)]
   have eN:N = 0:=by rw [HN.out];unfold bg_;rw [if_neg (by rw [e8];decide)]
   subst hn0;go_wp2_with fail
   go_ret2
   exact ⟨e1_ eN.symm e8.symm,HBW.out.trans (k3.mono s0)⟩
  ·have HE2:Hid (E = if b2_ s j = -1 then 9 else 0):=by show E = _;rw [HE1.out,if_neg (fun h=>hn0 (HNL.out.2 h))]
   have hn0':((n:Int) == 0) = false:=by simp;omega
   clear hn0 k3;go_wp2_with fail
   clear y0 y1 y2 y3 y4 y5 y6 y7 c1;go_loopw [9,10] (fun a _ wr=>∃ (h:Nat),h≤4∧a = .int .i64 h∧(∀ i,i < s.takers.length→cn_ s j i = true→h≤heldN s i)∧Below W2.heap.size W2 wr) (fun a _ _=>4 - (intOf a).toNat)
   case atStart=>exact ⟨0,Nat.zero_le _,rfl,fun _ _ _=>Nat.zero_le _,K3.out⟩
   case round=>
    obtain ⟨h,hh,rfl,hall,hB⟩:=hrel;have HALL:=hidI hall;have HB:=hidI hB;have hBs:=hB.size;clear hall;by_cases hlt:h < 4
    ·have HLT:=hidI hlt;have hdt:decide ((h:Int) < 4) = true:=decide_eq_true (by omega);go_wp2_with fail
     clear hlt hdt;go_loopw [10] (fun a wr=>∃ (k:Nat),k≤m3∧a = .int .i64 k∧(∀ i,i < k→cn_ s j i = true→heldN s i≠h)∧Below W2.heap.size W2 wr) (fun a _=>m3 - (intOf a).toNat)
     case atStart=>exact ⟨0,Nat.zero_le _,rfl,fun i hi=>absurd hi (Nat.not_lt_zero _),HB.out⟩
     case round=>
      clear hB HB hBs;obtain ⟨k,hk,rfl,hfst,hB⟩:=hrel;have HFS:=hidI hfst;have HB:=hidI hB;have hBs:=hB.size;clear hfst;obtain ⟨y0,y1,y2,y3,y4,y5,y6,y7⟩:=aa_ (BX.out wr hB).2;by_cases hkl':k < m3
      ·have HKM:=hidI hkl';have hkl:k < s.takers.length:=by rw [HM3.out];exact hkl'
       obtain ⟨g,o,ha,hg,e1,e2⟩:=(HS.out.q3.keep hB).get hkl;subst ha;have HFR:Hid (cn_ s j k = (decide ((s.takers[k]'hkl).queue = (j:Int)) && decide ((heldN s k:Int) < (s.takers[k]'hkl).most))):=by
        show cn_ s j k = _;unfold cn_ tAt;rw [List.getD_eq_getElem?_getD,List.getElem?_eq_getElem hkl];rfl
       have HKL:=hidI hkl;obtain ⟨x,hx⟩:∃ x,x = (s.takers[k]'hkl).queue:=⟨_,rfl⟩
       obtain ⟨mo,hmo⟩:∃ mo,mo = (s.takers[k]'hkl).most:=⟨_,rfl⟩
       obtain ⟨H,hH⟩:∃ H,H = heldN s (k:Int):=⟨_,rfl⟩
       rw [← hx] at e1 HFR;rw [← hmo] at e2 HFR;rw [← hH] at HFR;have HHH:=hidI hH;have i1:(0:Int)≤(k:Int):=by omega
       have i2:(k:Int) < m3:=by omega
       clear hx hmo hkl hH;have hHb:H≤100000000:=by rw [HHH.out];exact Nat.le_trans (np_ s _) (by have:=(be_ HR.out).2.2.1;omega)
       have NXT:Hid (¬ (cn_ s j k = true∧H = h)→∀ i,i < k+1→cn_ s j i = true→heldN s i≠h):=fun hno i hi hf e=>by
        by_cases c:i = k
        ·subst c;exact hno ⟨hf,by rw [HHH.out];exact e⟩
        ·exact HFS.out i (by omega) hf e
       by_cases hq:x = (j:Int)
       ·subst hq;by_cases hc:H = h∧(h:Int) < mo
        ·obtain ⟨c1,c2⟩:=hc;subst c1;have hfr:cn_ s j k = true:=by rw [HFR.out];simp [c2]
         have hnk:=ka_ HR.out HKL.out hfr HHH.out.symm HALL.out HFS.out;have eE:E = 0:=by rw [HE2.out,if_neg (by rw [hnk];omega)]
         have eN:N = (k:Int):=by rw [HN.out,eE];unfold bg_;rw [if_pos rfl,hnk]
         have hbb:((H:Int) == (H:Int)) = true:=by simp
         clear hfr hnk;go_wp2_with (go_at_call 37;refine (er_ s _ _ _ _ _ _ _ _ _ (k:Int) _ (HS.out.keep HB.out)).mono ?_;rintro e w5 ⟨rfl,k5⟩;rw [← HHH.out];have K5:=hidI k5;have kk:=HB.out.trans (k5.mono hBs);clear y0 y1 y2 y3 y4 y5 y6 y7;obtain ⟨y0,y1,y2,y3,y4,y5,y6,y7⟩:=aa_ (BX.out w5 kk).2;have e1':=(k5.cell (p:=⟨g,o+k * 2+1,none⟩) hg).trans e2;clear kk)
         go_ret2
         exact ⟨e1_ eN.symm eE.symm,HBW.out.trans ((HB.out.trans (K5.out.mono hBs)).mono s0)⟩
        ·have hor:¬ H = h∨(H = h∧¬ (h:Int) < mo):=by omega
         rcases hor with c1 | ⟨c1,c2⟩
         ·have hbb:((H:Int) == (h:Int)) = false:=by simp;omega
          have NX:=hidI (NXT.out (fun h=>c1 h.2));clear hc c1;go_wp2_with (go_at_call 37;refine (er_ s _ _ _ _ _ _ _ _ _ (k:Int) _ (HS.out.keep HB.out)).mono ?_;rintro e w5 ⟨rfl,k5⟩;rw [← HHH.out];have K5:=hidI k5;have kk:=HB.out.trans (k5.mono hBs);clear y0 y1 y2 y3 y4 y5 y6 y7;obtain ⟨y0,y1,y2,y3,y4,y5,y6,y7⟩:=aa_ (BX.out w5 kk).2;have e1':=(k5.cell (p:=⟨g,o+k * 2+1,none⟩) hg).trans e2;clear kk)
          go_roundw
          case rel=>exact ⟨k+1,HKM.out,by have:=HKM.out;go_num,NX.out,HB.out.trans (K5.out.mono hBs)⟩
          case measure=>have:=HKM.out;simp [intOf];omega
         ·subst c1;have hbb:((H:Int) == (H:Int)) = true:=by simp
          have NX:=hidI (NXT.out (fun h=>by have:=h.1;rw [HFR.out] at this;simp at this;exact c2 this));clear hc;go_wp2_with (go_at_call 37;refine (er_ s _ _ _ _ _ _ _ _ _ (k:Int) _ (HS.out.keep HB.out)).mono ?_;rintro e w5 ⟨rfl,k5⟩;rw [← HHH.out];have K5:=hidI k5;have kk:=HB.out.trans (k5.mono hBs);clear y0 y1 y2 y3 y4 y5 y6 y7;obtain ⟨y0,y1,y2,y3,y4,y5,y6,y7⟩:=aa_ (BX.out w5 kk).2;have e1':=(k5.cell (p:=⟨g,o+k * 2+1,none⟩) hg).trans e2;clear kk)
          go_roundw
          case rel=>exact ⟨k+1,HKM.out,by have:=HKM.out;go_num,NX.out,HB.out.trans (K5.out.mono hBs)⟩
          case measure=>have:=HKM.out;simp [intOf];omega
       ·have hq':(x == (j:Int)) = false:=by simpa using hq
        have NX:=hidI (NXT.out (fun h=>by have:=h.1;rw [HFR.out] at this;simp at this;exact hq this.1));clear hq;go_wp2_with fail
        go_roundw
        case rel=>exact ⟨k+1,HKM.out,by have:=HKM.out;go_num,NX.out,HB.out⟩
        case measure=>have:=HKM.out;simp [intOf];omega
      ·have hke:m3 = k:=by omega
       subst hke;clear hkl' hk;go_wp2_with fail
       go_roundw
       case rel=>exact ⟨h+1,HLT.out,by have:=HLT.out;go_num,fun i hi hf=>by have a:=HALL.out i hi hf;have b:=HFS.out i (by rw [HM3.out] at hi;exact hi) hf;omega,HB.out⟩
       case measure=>have:=HLT.out;simp [intOf];omega
    ·have hh4:h = 4:=by omega
     subst hh4;have hnk:=li_ HR.out HALL.out;have eE:E = 9:=by rw [HE2.out,if_pos hnk]
     have eN:N = 0:=by rw [HN.out];unfold bg_;rw [if_neg (by rw [eE];decide)]
     clear hlt hh hnk;go_wp2_with fail
     go_ret2
     exact ⟨e1_ eN.symm eE.symm,HBW.out.trans (HB.out.mono s0)⟩
 ·have hz':(E0 != 0) = true:=bne_iff_ne.2 hz;have eE:E = E0:=by
   rw [HE.out,HE0.out];unfold cY_ quE;by_cases h:stE p s = 0
   ·have hc:¬ stE p s≠0:=by simp [h]
    rw [if_neg hc,if_neg hc];by_cases h2:aq_ q p.queues.length = false
    ·rw [if_pos h2,if_pos h2]
    ·exfalso
     apply hz
     rw [HE0.out];unfold quE;rw [if_neg (by simp [h]),if_neg h2]
   ·rw [if_pos h,if_pos h]
  have eN:N = 0:=by rw [HN.out];unfold bg_;rw [if_neg (by rw [eE];exact hz)]
  clear hz;go_wp2_with fail
  go_ret2
  exact ⟨e1_ eN.symm eE.symm,HBW.out.trans (K3.out.mono s0)⟩
structure ku_ (W:World) (n g j gi oi L cl:Nat) (x:ae_) (r:List ae_):Prop where
 cell:W.cell? ⟨g,j,none⟩ = some (.slice (some ⟨gi,oi,none⟩) (L+1) cl)
 frz:W.frozen? ⟨g,j,none⟩ = false
 len:L = r.length
 le:L+1≤cl
 cm:cl≤maxLen
 it:aX_ W gi oi x
 own:n≤gi∧∃ cur,W.heap[gi]? = some (.cells cur 48 (0,0))
 all:ak_ W (some ⟨gi,oi,none⟩) (x :: r)
 base:n≤g∧∃ cur,W.heap[g]? = some (.cells cur 46 (0,0))
theorem aM_.head {W:World} {n:Nat} {b1 b2 b3:Option Addr} {m1 d1 m2 d2 m3 d3:Nat} {s:ab_} (h:aM_ W n b1 b2 b3 m1 d1 m2 d2 m3 d3 s) {j:Nat} (hj:j < s.ready.length) {x:ae_} {r:List ae_} (hl:af_ s j = x :: r):∃ g gi oi L cl,b1 = some ⟨g,0,none⟩∧ku_ W n g j gi oi L cl x r:=by
 obtain ⟨vs,hr1,hlv⟩:=h.r1;have hm1:=h.l1;obtain ⟨g,rfl⟩:∃ g,b1 = some ⟨g,0,none⟩:=by
  rcases hr1.2 with ⟨e,e0⟩ | ⟨g,cap,cur,e,_⟩
  ·omega
  ·cases e;exact ⟨g,rfl⟩
 obtain ⟨v,bl,cl,hv1,hlj⟩:=hlv.get j hj;have hcell:=hr1.cellAt j (by omega);rw [hv1,hlj.v] at hcell;have hsj:s.ready[j]'hj = x :: r:=by rw [← aU_ hj];exact hl
 rw [hsj] at hcell hlj;have hle:=hlj.le;simp only [List.length_cons] at hle hcell;rcases hlj.own with e | ⟨gi,oi,cur,rfl,hgi,hgh⟩
 ·exfalso;have:=hlj.nil e;omega
 ·refine ⟨g,gi,oi,r.length,cl,rfl,hcell,hr1.frozenAt j,rfl,hle,hlj.cm,?_,⟨hgi,cur,hgh⟩,hlj.it,bc_ hr1⟩;rcases hlj.it with e | ⟨g',o',e,_,hc⟩
  ·cases e
  ·cases e;have:=hc 0 (by simp);simpa only [List.getElem_cons_zero,Nat.zero_mul,Nat.add_zero] using this
theorem ku_.rest {W:World} {n g j gi oi L cl:Nat} {x:ae_} {r:List ae_} (h:ku_ W n g j gi oi L cl x r):cm_ W n r (.slice (if cl = 1 then some (⟨gi,oi,none⟩:Addr) else some ⟨gi,oi+5,none⟩) L (cl - 1)) (if cl = 1 then some (⟨gi,oi,none⟩:Addr) else some ⟨gi,oi+5,none⟩) (cl - 1):=by
 obtain ⟨hn,cur,hg⟩:=h.own;have hA2:(if cl = 1 then some (⟨gi,oi,none⟩:Addr) else some ⟨gi,oi+5,none⟩) = if cl = 1 then some (⟨gi,oi,none⟩:Addr) else Option.map (fun y:Addr=>y.add (1 * 5)) (some (⟨gi,oi,none⟩:Addr)):=by rw [Option.map_some,cO_]
 obtain ⟨oA,hoA⟩:∃ oA,(if cl = 1 then some (⟨gi,oi,none⟩:Addr) else some ⟨gi,oi+5,none⟩) = some ⟨gi,oA,none⟩:=by split <;> exact ⟨_,rfl⟩
 have hle:=h.le;have hcm:=h.cm;refine ⟨by rw [h.len],by have:=h.len;omega,by omega,(fun e=>by rw [hoA] at e;cases e),?_,.inr ⟨gi,oA,cur,hoA,hn,hg⟩⟩;have:=h.all.drop 1 cl (by have:=h.len;simp;omega);rw [List.drop_one,List.tail_cons,← hA2] at this;exact this
theorem gW_ (p:ad_) (a1 a2 a3:Option Addr) (n1 c1 n2 c2 n3 c3:Nat) (s:ab_) (b1 b2 b3:Option Addr) (m1 d1 m2 d2 m3 d3:Nat) (q:Int) (w:World) (hp:ap_ w a1 a2 a3 n1 n2 n3 p) (hs:al_ w b1 b2 b3 m1 m2 m3 s) (hn2:b2 = none→d2 = 0) (hn3:b3 = none→d3 = 0) :
 Calls Tryz.prog 40 #[.agg #[.slice a1 n1 c1,.slice a2 n2 c2,.slice a3 n3 c3],.agg #[.slice b1 m1 d1,.slice b2 m2 d2,.slice b3 m3 d3,.int .i64 s.nextSeq,.int .i64 s.nextTag,.int .i64 s.came,.int .i64 s.acked,.int .i64 s.dropped],.int .i64 q] w fun e w'=>∃ v,e = .returned (.tuple #[v,.int .i64 (bg_ (delE p s q) s.nextTag),.int .i64 (delE p s q)])∧a4_ w' w.heap.size v (delE p s q) (delS s q)∧Below w.heap.size w w':=by
 obtain ⟨E,hE⟩:∃ E,E = delE p s q:=⟨_,rfl⟩
 rw [← hE];obtain ⟨N,hN⟩:∃ N,N = bg_ E s.nextTag:=⟨_,rfl⟩
 rw [← hN];obtain ⟨E0,hE0⟩:∃ E0,E0 = cY_ p s q:=⟨_,rfl⟩
 obtain ⟨N0,hN0⟩:∃ N0,N0 = bg_ E0 (b2_ s q):=⟨_,rfl⟩
 obtain ⟨W3,hW3,hBw,hs3,hbx⟩:=em_ w #[.slice a1 n1 c1,.slice a2 n2 c2,.slice a3 n3 c3] #[.slice b1 m1 d1,.slice b2 m2 d2,.slice b3 m3 d3,.int .i64 s.nextSeq,.int .i64 s.nextTag,.int .i64 s.came,.int .i64 s.acked,.int .i64 s.dropped];have HW3:=hidI hW3;have BX:=hidI hbx;have HE:=hidI hE;have HN:=hidI hN;have HE0:=hidI hE0;have HN0:=hidI hN0;have HS:=hidI (hs.keep hBw);have HP:=hidI (hp.keep hBw);have HBW:=hidI hBw;have HS3:=hidI hs3;have HN2:=hidI hn2;have HN3:=hidI hn3;have s0:=hBw.size;obtain ⟨x0,x1,x2⟩:=ai_ (hbx W3 (Below.refl _ _)).1;obtain ⟨y0,y1,y2,y3,y4,y5,y6,y7⟩:=aa_ (hbx W3 (Below.refl _ _)).2.1;have HER:Hid (∀ (D:Int) (W W4:World),D≠0→E = D→Below W3.heap.size W3 W→bh_ (w.heap.size+2) W W4→∃ v,Ending.returned (.tuple #[zerS,.int .i64 0,.int .i64 D]) = .returned (.tuple #[v,.int .i64 N,.int .i64 E])∧a4_ W4 w.heap.size v E (delS s q)∧Below w.heap.size w W4):=fun D W W4 hD hED hB hT=>by
  have hN0:N = 0:=by rw [HN.out];unfold bg_;rw [if_neg (by rw [hED];exact hD)]
  refine ⟨zerS,by rw [hN0,hED],⟨fun h=>absurd (hED ▸ h) hD,fun _=>rfl⟩,HBW.out.trans ((hB.mono s0).trans (hT.below (by have:=hB.size;have:=HS3.out;omega) (by omega)))⟩
 clear hW3 hbx hs3 hp hs hBw hE hE0 hN hN0 hn2 hn3;go_enter Tryz.func40,Tryz.ntmps40;go_wp2_with fail
 rw [← HW3.out];refine (j9_ p _ _ _ _ _ _ _ _ _ s _ _ _ _ _ _ _ _ _ q _ HP.out HS.out).mono ?_;rintro e w4 ⟨rfl,k4⟩;rw [← HE0.out,← HN0.out];have s4:=k4.size;have K4:=hidI k4;clear x0 x1 x2 y0 y1 y2 y3 y4 y5 y6 y7;have r4:=(BX.out w4 k4).2.2;obtain ⟨z0,z1,z2,z3,z4,z5,z6,z7⟩:=aa_ r4;have e0:=foc_ r4 0;have e1:=foc_ r4 1;have e2:=foc_ r4 2;have e3:=foc_ r4 3;have e4:=foc_ r4 4;have e5:=foc_ r4 5;have e6:=foc_ r4 6;have e7:=foc_ r4 7;have R4:=hidI r4;obtain ⟨y0,y1,y2,y3,y4,y5,y6,y7⟩:=aa_ (BX.out w4 k4).2.1;clear r4 k4;by_cases hz:E0 = 0
 ·subst hz;obtain ⟨hR,q0,q1,⟨x,r,hln⟩,kk,hkk,hLL⟩:=fD_ HE0.out.symm;have HR:=hidI hR;obtain ⟨j,rfl⟩:=Int.eq_ofNat_of_zero_le q0;rw [Int.toNat_natCast] at hln;have hN1:N0 = (kk:Int):=by rw [HN0.out];unfold bg_;rw [if_pos rfl,hkk]
  subst hN1;have HE2:Hid (E = if s.nextTag = 1048576 then 2 else 0):=by show E = _;rw [HE.out];unfold delE;rw [if_neg (by simp [← HE0.out])]
  by_cases hm:s.nextTag = 1048576
  ·have hm':(s.nextTag == 1048576) = true:=by simp [hm]
   have eE:E = 2:=by rw [HE2.out,if_pos hm]
   clear hR hln hkk hLL hm;go_wp2_with fail
   generalize hW9:World.setCell (World.setCell (World.setCell (World.setCell (World.setCell (World.setCell (World.setCell (World.setCell w4 _ _) _ _) _ _) _ _) _ _) _ _) _ _) _ _ = W9;obtain ⟨b9,t9⟩:=store8 R4.out hW9;obtain ⟨z0,z1,z2,z3,z4,z5,z6,z7⟩:=aa_ b9;exact bodyPost_ret (v:=.tuple #[zerS,.int .i64 0,.int .i64 2]) (by simp [results,Tryz.results40,go_sem,z0,z1,z2,z3,z4,z5,z6,z7,zerS]) rfl (HER.out 2 _ _ (by decide) eE K4.out t9)
  ·have hm':(s.nextTag == 1048576) = false:=by simpa using hm
   have eE:E = 0:=by rw [HE2.out,if_neg hm]
   have eN:N = s.nextTag:=by rw [HN.out,eE];unfold bg_;rw [if_pos rfl]
   have HEN:=hidI (And.intro eE eN);have hnt:=hR.nt;have hql:j < s.ready.length:=by rw [hR.len];omega
   have HQL:=hidI hql;have HLN:=hidI hln;have HKK:=hidI hkk;clear hR hln hkk hLL hm eE eN q0 q1 hql;go_wp2_with fail
   obtain ⟨q1,q2,q3,q4⟩:=HS.out.small HR.out;refine (dA_ s _ _ _ _ _ _ _ _ _ w4 (HS.out.keep K4.out) HN2.out HN3.out q1 q2 q3 q4).mono ?_;rintro e w6 ⟨v6,rfl,hv6,k6'⟩;obtain ⟨g1,g2,g3,l1,r1,l2,r2,l3,r3,rfl,ho⟩:=hv6;have k6:=K4.out.trans (k6'.mono s4);have s6:=k6.size;obtain ⟨w7,hw7⟩:∃ w7,w7 = w6.alloc (.cells #[.slice g1 l1 r1,.slice g2 l2 r2,.slice g3 l3 r3,.int .i64 s.nextSeq,.int .i64 s.nextTag,.int .i64 s.came,.int .i64 s.acked,.int .i64 s.dropped] 31):=⟨_,rfl⟩
   have l7:Below w6.heap.size w6 w7:=by rw [hw7];exact (Below.refl _ _).alloc (Nat.le_refl _) _
   have b7:w7.heap[w6.heap.size]? = some (.cells #[.slice g1 l1 r1,.slice g2 l2 r2,.slice g3 l3 r3,.int .i64 s.nextSeq,.int .i64 s.nextTag,.int .i64 s.came,.int .i64 s.acked,.int .i64 s.dropped] 31 (0,0)):=by rw [hw7];exact World.alloc_heap_new w6 _
   have k7:=k6.trans (l7.mono s6);have ho7:=(ho.lower (n':=w.heap.size+3) (by have:=K4.out.size;have:=HS3.out;omega)).keep l7;obtain ⟨g,gi,oi,L,cl,rfl,hh7⟩:=ho7.head HQL.out HLN.out;have HH7:=hidI hh7;have HW7:=hidI hw7;have B7:=hidI b7;have K7:=hidI k7;have HO7:=hidI ho7;have HL6:Hid (w.heap.size+3≤w6.heap.size):=by show _≤_;have:=HS3.out;omega
   have hjl:j < l1:=by rw [← ho.l1];exact HQL.out
   have hl2:l2≤1000:=by rw [← ho.l2];exact (be_ HR.out).2.2.1
   have hcl:=hh7.le;clear y0 y1 y2 y3 y4 y5 y6 y7 z0 z1 z2 z3 z4 z5 z6 z7 e0 e1 e2 e3 e4 e5 e6 e7 ho k6' q1 q2 q3 q4 l7 hw7 k6;go_upto_region 7 with fail
   rw [← HW7.out];obtain ⟨y0,y1,y2,y3,y4,y5,y6,y7⟩:=aa_ b7;have c0:=hh7.cell;obtain ⟨i0,i1,i2,i3,i4⟩:=hh7.it;have j1:(0:Int)≤(j:Int):=by omega
   have j2:(j:Int) < l1:=by omega
   have j3:(0:Int) < ((L+1:Nat):Int):=by omega
   clear b7 k7 ho7 hh7;go_upto_region 8 with fail
   obtain ⟨w8,hw8⟩:∃ w8,w8 = w7.alloc (.cells #[.int .i64 x.seq,.string x.key,.string x.body,.bool x.again,.int .i64 x.deaths] 48):=⟨_,rfl⟩
   rw [← hw8];have l8:Below w7.heap.size w7 w8:=by rw [hw8];exact (Below.refl _ _).alloc (Nat.le_refl _) _
   have x8:w8.heap[w7.heap.size]? = some (.cells #[.int .i64 x.seq,.string x.key,.string x.body,.bool x.again,.int .i64 x.deaths] 48 (0,0)):=by rw [hw8];exact World.alloc_heap_new w7 _
   have k8:=K7.out.trans (l8.mono K7.out.size);have ho8:=HO7.out.keep l8;have hlv:=HH7.out.rest.keep l8;have hgl:g < w7.heap.size:=by obtain ⟨_,cu,hc⟩:=HH7.out.base;exact lth_ hc
   have c8:=(l8.cell (p:=⟨g,j,none⟩) hgl).trans HH7.out.cell;have f8:=(l8.frozen (p:=⟨g,j,none⟩) hgl).trans HH7.out.frz;have b8:=pkp_ B7.out l8;have X8:=hidI x8;have K8:=hidI k8;have HO8:=hidI ho8;have HLV:=hidI hlv;have B8:=hidI b8;clear y0 y1 y2 y3 y4 y5 y6 y7 c0 i0 i1 i2 i3 i4 hw8 x8 k8 ho8 hlv l8;obtain ⟨y0,y1,y2,y3,y4,y5,y6,y7⟩:=aa_ b8;have hcm:=HH7.out.cm;unfold maxLen at hcm;have u1:(1:Int)≤((L+1:Nat):Int):=by omega
   have u2:((L+1:Nat):Int)≤(cl:Int):=by omega
   have u3:(1:Int)≤(cl:Int):=by omega
   have u4:(1:Int)≤(L:Int)+1:=by omega
   have u5:(L:Int)+1≤(cl:Int):=by omega
   clear b8;go_region
   obtain ⟨A,hA⟩:∃ A,A = if cl = 1 then some (⟨gi,oi,none⟩:Addr) else some ⟨gi,oi+5,none⟩:=⟨_,rfl⟩
   rw [← hA] at HLV ⊢;obtain ⟨w9,hw9⟩:∃ w9,w9 = (w8.setCell ⟨g,j,none⟩ (.slice A L (cl - 1))).drew:=⟨_,rfl⟩
   rw [← hw9];have kt9:ax_ 46 w8 (w8.setCell ⟨g,j,none⟩ (.slice A L (cl - 1))):=by
    obtain ⟨_,cu,hc⟩:=bc_ HO8.out.r1.choose_spec.1;exact ax_.setCell hc _
   have ho9:aM_ w9 (w.heap.size+3) (some ⟨g,0,none⟩) g2 g3 l1 r1 l2 r2 l3 r3 { s with ready:=s.ready.set j r }:=by rw [hw9];exact (HO8.out.line HQL.out HLV.out rfl).keep (Below.refl _ _).drew
   have b9:w9.heap[w6.heap.size]? = some (.cells #[.slice (some ⟨g,0,none⟩) l1 r1,.slice g2 l2 r2,.slice g3 l3 r3,.int .i64 s.nextSeq,.int .i64 s.nextTag,.int .i64 s.came,.int .i64 s.acked,.int .i64 s.dropped] 31 (0,0)):=by rw [hw9];exact (kt9.block w6.heap.size _ _ B8.out (by decide)).trans B8.out
   have x9:w9.heap[w7.heap.size]? = some (.cells #[.int .i64 x.seq,.string x.key,.string x.body,.bool x.again,.int .i64 x.deaths] 48 (0,0)):=by rw [hw9];exact (kt9.block w7.heap.size _ _ X8.out (by decide)).trans X8.out
   have r9:w9.heap[w.heap.size+2]? = some (.cells #[.slice none 0 0,.slice none 0 0,.slice none 0 0,.int .i64 0,.int .i64 0,.int .i64 0,.int .i64 0,.int .i64 0] 31 (0,0)):=by rw [hw9];exact (kt9.block (w.heap.size+2) _ _ (BX.out _ K8.out).2.2 (by decide)).trans (BX.out _ K8.out).2.2
   have s9':w9.heap[w.heap.size+1]? = some (.cells #[.slice b1 m1 d1,.slice b2 m2 d2,.slice b3 m3 d3,.int .i64 s.nextSeq,.int .i64 s.nextTag,.int .i64 s.came,.int .i64 s.acked,.int .i64 s.dropped] 31 (0,0)):=by rw [hw9];exact (kt9.block (w.heap.size+1) _ _ (BX.out _ K8.out).2.1 (by decide)).trans (BX.out _ K8.out).2.1
   have F9:Hid (Below w.heap.size w w9):=by
    show Below w.heap.size w w9;rw [hw9];exact ((HBW.out.trans (K8.out.mono s0)).setCell (p:=⟨g,j,none⟩) (by have:=HH7.out.base.1;show w.heap.size≤g;omega) _).drew
   have HO9:=hidI ho9;have B9:=hidI b9;have X9:=hidI x9;have R9:=hidI r9;have S9:=hidI s9';clear y0 y1 y2 y3 y4 y5 y6 y7 u1 u2 u3 u4 u5 c8 f8 hA hw9 kt9 ho9 r9;obtain ⟨wA,hwA⟩:∃ wA,wA = w9.alloc (.cells #[.int .i64 s.nextTag,.int .i64 (kk:Int),.int .i64 (j:Int),.int .i64 x.seq,.string x.key,.string x.body,.bool x.again,.int .i64 x.deaths] 67):=⟨_,rfl⟩
   have lA:Below w9.heap.size w9 wA:=by rw [hwA];exact (Below.refl _ _).alloc (Nat.le_refl _) _
   have xA:wA.heap[w9.heap.size]? = some (.cells #[.int .i64 s.nextTag,.int .i64 (kk:Int),.int .i64 (j:Int),.int .i64 x.seq,.string x.key,.string x.body,.bool x.again,.int .i64 x.deaths] 67 (0,0)):=by rw [hwA];exact World.alloc_heap_new w9 _
   have HRW:Hid (a7_ wA (some ⟨w9.heap.size,0,none⟩) (ah_ [⟨s.nextTag,kk,j,x⟩])):=.inr ⟨_,0,rfl,lth_ xA,fun i u hi=>by
    rw [Nat.zero_add];refine Eq.trans (coc_ xA i) ?_;have:(ah_ [⟨s.nextTag,kk,j,x⟩])[i]? = (#[Value.int .i64 s.nextTag,.int .i64 (kk:Int),.int .i64 (j:Int),.int .i64 x.seq,.string x.key,.string x.body,.bool x.again,.int .i64 x.deaths]:Array Value)[i]?:=by simp [ah_,OutD.cells]
    rw [← this];exact hi⟩
   have HWA:=hidI hwA;have LA:=hidI lA;have HOA:=hidI (HO9.out.keep lA);have hszr:w.heap.size+3≤w9.heap.size:=by have:=lth_ b9;have:=HL6.out;omega
   obtain ⟨y0,y1,y2,y3,y4,y5,y6,y7⟩:=aa_ b9;obtain ⟨z0,z1,z2,z3,z4⟩:w9.cell? ⟨w7.heap.size,0,none⟩ = some (.int .i64 x.seq)∧w9.cell? ⟨w7.heap.size,1,none⟩ = some (.string x.key)∧w9.cell? ⟨w7.heap.size,2,none⟩ = some (.string x.body)∧w9.cell? ⟨w7.heap.size,3,none⟩ = some (.bool x.again)∧w9.cell? ⟨w7.heap.size,4,none⟩ = some (.int .i64 x.deaths):=⟨coc_ x9 0,coc_ x9 1,coc_ x9 2,coc_ x9 3,coc_ x9 4⟩;have t4:=coc_ s9' 4;simp at t4;clear b9 x9 s9' hwA lA xA;go_upto_region 10 with (at_builtin;rw [← HWA.out];refine a0_ dZ_ (by kernel_rfl) _ _ rfl (w.heap.size+3) _ l2 (ah_ s.outs) rfl HOA.out.r2 (some ⟨w9.heap.size,0,none⟩) 1 1 (ah_ [⟨s.nextTag,kk,j,x⟩]) rfl rfl (fun h=>by cases h) HRW.out (bn_ _) (by unfold maxLen;omega) (by omega) (Nat.le_trans hszr LA.out.size) ?_;intro vB wB oB gB _;obtain ⟨aB,cB,rfl,-⟩:=aA_ oB;have ktB:=ax_.grown HOA.out.r2 gB;have bB:=(ktB.block w6.heap.size _ _ (pkp_ B9.out LA.out) (by decide)).trans (pkp_ B9.out LA.out);have eB:=coc_ bB 1;have fB:=foc_ bB 1;simp at eB;have BB:=hidI bB;have KTB:=hidI ktB;have OB:=hidI oB;have GB:=hidI gB;clear bB ktB oB gB)
   have hoB:aM_ wB (w.heap.size+3) (some ⟨g,0,none⟩) aB g3 l1 r1 (l2+1) cB l3 r3 { s with ready:=s.ready.set j r,outs:=s.outs ++ [⟨s.nextTag,kk,j,x⟩] }:=HOA.out.outs KTB.out (by omega) (by rw [aK_];exact OB.out);obtain ⟨wC,hwC⟩:∃ wC,wC = wB.setCell ⟨w6.heap.size,1,none⟩ (.slice aB (l2+1) cB):=⟨_,rfl⟩
   rw [← hwC];have bC:wC.heap[w6.heap.size]? = some (.cells #[.slice (some ⟨g,0,none⟩) l1 r1,.slice aB (l2+1) cB,.slice g3 l3 r3,.int .i64 s.nextSeq,.int .i64 s.nextTag,.int .i64 s.came,.int .i64 s.acked,.int .i64 s.dropped] 31 (0,0)):=by rw [hwC];exact scb_ BB.out (j:=1) _
   have ktC:ax_ 31 wB wC:=by rw [hwC];exact ax_.setCell BB.out _
   have hoC:=hoB.typeT ktC (by decide);have FC:Hid (Below w.heap.size w wC):=by
    have lB:Below w.heap.size w wB:=(F9.out.trans (LA.out.mono F9.out.size)).grown GB.out (by have:=LA.out.size;omega) (fun i hi=>by have:=(HOA.out.r2.lt i hi).1;omega);show Below w.heap.size w wC;rw [hwC];exact lB.setCell (p:=⟨w6.heap.size,1,none⟩) (by show w.heap.size≤w6.heap.size;have:=HL6.out;omega) _
   have rB:wB.heap[w.heap.size+2]? = _:=(KTB.out.block (w.heap.size+2) _ _ (pkp_ R9.out LA.out) (by decide)).trans (pkp_ R9.out LA.out);have sB:wB.heap[w.heap.size+1]? = _:=(KTB.out.block (w.heap.size+1) _ _ (pkp_ S9.out LA.out) (by decide)).trans (pkp_ S9.out LA.out);have rC:wC.heap[w.heap.size+2]? = some (.cells #[.slice none 0 0,.slice none 0 0,.slice none 0 0,.int .i64 0,.int .i64 0,.int .i64 0,.int .i64 0,.int .i64 0] 31 (0,0)):=by rw [hwC];exact (heap_setCell_other wB ⟨w6.heap.size,1,none⟩ (w.heap.size+2) _ (by show w.heap.size+2≠w6.heap.size;have:=HL6.out;omega)).trans rB
   have sC:wC.heap[w.heap.size+1]? = some (.cells #[.slice b1 m1 d1,.slice b2 m2 d2,.slice b3 m3 d3,.int .i64 s.nextSeq,.int .i64 s.nextTag,.int .i64 s.came,.int .i64 s.acked,.int .i64 s.dropped] 31 (0,0)):=by rw [hwC];exact (heap_setCell_other wB ⟨w6.heap.size,1,none⟩ (w.heap.size+1) _ (by show w.heap.size+1≠w6.heap.size;have:=HL6.out;omega)).trans sB
   clear y0 y1 y2 y3 y4 y5 y6 y7 z0 z1 z2 z3 z4 t4 eB fB hwC;obtain ⟨y0,y1,y2,y3,y4,y5,y6,y7⟩:=aa_ bC;have f4:=foc_ bC 4;have hwr:IntKind.i64.wrap (s.nextTag+1) = s.nextTag+1:=by rw [IntKind.wrap_i64];have:=HR.out.nt;omega
   have BC:=hidI bC;have HOC:=hidI hoC;have RC:=hidI rC;have SC:=hidI sC;clear bC hoC rC sC ktC hoB rB sB;go_upto_region 11 with fail
   obtain ⟨wD,hwD⟩:∃ wD,wD = wC.setCell ⟨w6.heap.size,4,none⟩ (.int .i64 (s.nextTag+1)):=⟨_,rfl⟩
   rw [← hwD];have bD:wD.heap[w6.heap.size]? = some (.cells #[.slice (some ⟨g,0,none⟩) l1 r1,.slice aB (l2+1) cB,.slice g3 l3 r3,.int .i64 s.nextSeq,.int .i64 (s.nextTag+1),.int .i64 s.came,.int .i64 s.acked,.int .i64 s.dropped] 31 (0,0)):=by rw [hwD];exact scb_ BC.out (j:=4) _
   have ktD:ax_ 31 wC wD:=by rw [hwD];exact ax_.setCell BC.out _
   have hoD:=HOC.out.typeT ktD (by decide);have FD:Hid (Below w.heap.size w wD):=by
    show Below w.heap.size w wD;rw [hwD];exact FC.out.setCell (p:=⟨w6.heap.size,4,none⟩) (by show w.heap.size≤w6.heap.size;have:=HL6.out;omega) _
   have rD:wD.heap[w.heap.size+2]? = some (.cells #[.slice none 0 0,.slice none 0 0,.slice none 0 0,.int .i64 0,.int .i64 0,.int .i64 0,.int .i64 0,.int .i64 0] 31 (0,0)):=by rw [hwD];exact (heap_setCell_other wC ⟨w6.heap.size,4,none⟩ (w.heap.size+2) _ (by show w.heap.size+2≠w6.heap.size;have:=HL6.out;omega)).trans RC.out
   have sD:wD.heap[w.heap.size+1]? = some (.cells #[.slice b1 m1 d1,.slice b2 m2 d2,.slice b3 m3 d3,.int .i64 s.nextSeq,.int .i64 s.nextTag,.int .i64 s.came,.int .i64 s.acked,.int .i64 s.dropped] 31 (0,0)):=by rw [hwD];exact (heap_setCell_other wC ⟨w6.heap.size,4,none⟩ (w.heap.size+1) _ (by show w.heap.size+1≠w6.heap.size;have:=HL6.out;omega)).trans SC.out
   clear y0 y1 y2 y3 y4 y5 y6 y7 f4 hwr hwD;obtain ⟨y0,y1,y2,y3,y4,y5,y6,y7⟩:=aa_ bD;have t4:=coc_ sD 4;simp at t4;obtain ⟨z0,z1,z2,z3,z4,z5,z6,z7⟩:=aa_ rD;have e0:=foc_ rD 0;have e1:=foc_ rD 1;have e2:=foc_ rD 2;have e3:=foc_ rD 3;have e4:=foc_ rD 4;have e5:=foc_ rD 5;have e6:=foc_ rD 6;have e7:=foc_ rD 7;have RD:=hidI rD;have HOD:=hidI hoD;have hne1:w6.heap.size≠w.heap.size+1+1:=by have:=HL6.out;omega
   have hne2:w.heap.size+1+1≠w6.heap.size:=by have:=HL6.out;omega
   clear rD hoD bD ktD sD;go_region
   generalize hWX:World.setCell (World.setCell (World.setCell (World.setCell (World.setCell (World.setCell (World.setCell (World.setCell wD _ _) _ _) _ _) _ _) _ _) _ _) _ _) _ _ = WX;obtain ⟨bX,tX⟩:=store8 RD.out hWX;obtain ⟨z0,z1,z2,z3,z4,z5,z6,z7⟩:=aa_ bX;go_wp2_with fail
   have eS:delS s (j:Int) = { s with ready:=s.ready.set j r,outs:=s.outs ++ [⟨s.nextTag,kk,j,x⟩],nextTag:=s.nextTag+1 }:=by
    unfold delS delO;rw [HKK.out,Int.toNat_natCast,HLN.out];rfl
   exact bodyPost_ret (v:=.tuple #[.agg #[.slice (some ⟨g,0,none⟩) l1 r1,.slice aB (l2+1) cB,.slice g3 l3 r3,.int .i64 s.nextSeq,.int .i64 (s.nextTag+1),.int .i64 s.came,.int .i64 s.acked,.int .i64 s.dropped],.int .i64 s.nextTag,.int .i64 0]) (by simp [results,Tryz.results40,go_sem,z0,z1,z2,z3,z4,z5,z6,z7]) rfl ⟨.agg #[.slice (some ⟨g,0,none⟩) l1 r1,.slice aB (l2+1) cB,.slice g3 l3 r3,.int .i64 s.nextSeq,.int .i64 (s.nextTag+1),.int .i64 s.came,.int .i64 s.acked,.int .i64 s.dropped],by rw [HEN.out.1,HEN.out.2],⟨fun _=>⟨_,_,_,_,_,_,_,_,_,rfl,by rw [eS];exact (((HOD.out.turn RD.out (by decide) tX).lower (by omega)).keep (Below.refl _ _).drew).same rfl rfl rfl⟩,fun h=>absurd HEN.out.1 h⟩,(FD.out.trans (tX.below (by have:=FD.out.size;omega) (by omega))).drew⟩
 ·have hz':(E0 != 0) = true:=bne_iff_ne.2 hz;have HZ:=hidI hz;have eE:E = E0:=by rw [HE.out];unfold delE;rw [← HE0.out,if_pos hz]
  clear hz y0 y1 y2 y3 y4 y5 y6 y7;go_wp2_with fail
  generalize hW9:World.setCell (World.setCell (World.setCell (World.setCell (World.setCell (World.setCell (World.setCell (World.setCell w4 _ _) _ _) _ _) _ _) _ _) _ _) _ _) _ _ = W9;obtain ⟨b9,t9⟩:=store8 R4.out hW9;obtain ⟨z0,z1,z2,z3,z4,z5,z6,z7⟩:=aa_ b9;exact bodyPost_ret (v:=.tuple #[zerS,.int .i64 0,.int .i64 E0]) (by simp [results,Tryz.results40,go_sem,z0,z1,z2,z3,z4,z5,z6,z7,zerS]) rfl (HER.out E0 _ _ HZ.out eE K4.out t9)
theorem lk_ (s:ab_) (b1 b2 b3:Option Addr) (m1 d1 m2 d2 m3 d3:Nat) (t:Int) (w:World) (hs:al_ w b1 b2 b3 m1 m2 m3 s) :
 Calls Tryz.prog 79 #[.agg #[.slice b1 m1 d1,.slice b2 m2 d2,.slice b3 m3 d3,.int .i64 s.nextSeq,.int .i64 s.nextTag,.int .i64 s.came,.int .i64 s.acked,.int .i64 s.dropped],.int .i64 t] w fun e w'=>e = .returned (.int .i64 (idxF (fun o:OutD=>decide (o.tag = t)) s.outs))∧Below w.heap.size w w':=by
 obtain ⟨W1,hW1,hBw,hs1,hbx⟩:=de_ w #[.slice b1 m1 d1,.slice b2 m2 d2,.slice b3 m3 d3,.int .i64 s.nextSeq,.int .i64 s.nextTag,.int .i64 s.came,.int .i64 s.acked,.int .i64 s.dropped];have HW1:=hidI hW1;have HS:=hidI (hs.keep hBw);have HM2:Hid (s.outs.length = m2):=hs.l2;have hx2:=hs.x2;have s0:=hBw.size;obtain ⟨y0,y1,y2,y3,y4,y5,y6,y7⟩:=aa_ (hbx W1 (Below.refl _ _));clear hW1 hbx hs1 hs;go_enter Tryz.func79,Tryz.ntmps79;go_wp2_with fail
 rw [← HW1.out];go_loopw [5] (fun i wr=>∃ (k:Nat),k≤m2∧i = .int .i64 k∧(∀ x ∈ s.outs.take k,decide (x.tag = t) = false)∧wr = W1) (fun i _=>m2 - (intOf i).toNat)
 case atStart=>exact ⟨0,Nat.zero_le _,rfl,by simp,rfl⟩
 case round=>
  obtain ⟨k,hk,rfl,ha,rfl⟩:=hrel;have HA:=hidI ha;clear ha;by_cases hlt:k < m2
  ·have HLT:=hidI hlt;have hkl:k < s.outs.length:=by rw [HM2.out];exact hlt
   obtain ⟨g,o,ha,hg,e1,e2,e3,e4⟩:=HS.out.q2.get hkl;subst ha;have HX:Hid (decide (s.outs[k].tag = t) = true→idxF (fun o:OutD=>decide (o.tag = t)) s.outs = k):=fun h=>fd_ hkl HA.out h
   have HT:Hid (decide (s.outs[k].tag = t) = false→∀ x ∈ s.outs.take (k+1),decide (x.tag = t) = false):=fun h x hx=>by
    rw [List.take_succ_eq_append_getElem hkl,List.mem_append,List.mem_singleton] at hx;rcases hx with hx | rfl
    ·exact HA.out x hx
    ·exact h
   obtain ⟨x,hx⟩:∃ x,x = s.outs[k]:=⟨_,rfl⟩
   rw [← hx] at e1 HX HT;obtain ⟨tk,htk⟩:∃ tk,tk = x.tag:=⟨_,rfl⟩
   rw [← htk] at e1 HX HT;have j1:(0:Int)≤(k:Int):=by omega
   have j2:(k:Int) < m2:=by omega
   clear hx htk e2 e3 e4;by_cases htk:tk = t
   ·have hb:(tk == t) = true:=by simpa using htk
    have HXX:=hidI (HX.out (decide_eq_true htk));clear htk;go_wp2_with fail
    go_ret
    exact ⟨aw_ HXX.out.symm,hBw⟩
   ·have hb:(tk == t) = false:=by simpa using htk
    have HTT:=hidI (HT.out (decide_eq_false htk));clear htk;go_wp2_with fail
    go_roundw
    case rel=>exact ⟨k+1,HLT.out,by have:=HLT.out;go_num,HTT.out,by first | trivial | rfl⟩
    case measure=>have:=HLT.out;simp [intOf];omega
  ·have HF:Hid (idxF (fun o:OutD=>decide (o.tag = t)) s.outs = -1):=fu_ (fun x hx=>HA.out x (by rw [List.take_of_length_le (by rw [HM2.out];omega)];exact hx));have hke:k = m2:=by omega
   subst hke;clear hlt hk;go_wp2_with fail
   go_ret
   exact ⟨aw_ HF.out.symm,hBw⟩
theorem h8_ {L E:TypeId} {size bytes:Nat} (hE:eA_ L E size bytes) {w:World} {ops:Array Oper} {o:Oper} {act:Act} {K:Act→World→Prop} {Q:Exit→Act→World→Prop} {F:Prop} (hw:Region.wanted o (yielded ops act.tmps) = true) (s x:Operand)
 (ho:o.op = .call { callee:=.builtin .append,args:=#[s,x],argTypes:=#[L,L] })
 (base:Nat) (v:Value) (n:Nat) (cs:List Value) (hs:act.eval s = v) (hown:w.ownsRow base E size v n cs)
 (a:Option Addr) (m c:Nat) (ds:List Value) (hx:act.eval x = .slice a m c) (hm:ds.length = m * size) (hz:a = none→c = 0∧m = 0) (hT:a7_ w a ds) (h1:∀ u ∈ ds,u.oneCell' = true)
 (hb:n+m≤maxLen) (hby:(n+m) * bytes≤140737488355328) (hbase:base≤w.heap.size)
 (h:∀ v' w',w'.ownsRow base E size v' (n+m) (cs ++ ds)→w.grownBy w' v.ownBlock→(v'.ownBlock = v.ownBlock∨v'.ownBlock = some w.heap.size)→K (act.put o.dst v') w') :
 if Region.wanted o (yielded ops act.tmps) = true then Oper.wp Tryz.prog o act w K Q else F:=by
 rw [if_pos hw];exact cx_ hE s x ho base v n cs hs hown a m c ds hx hm hz hT h1 hb hby hbase h
end Go.Proofs.YtlbnkpicnokgoaaGreat
