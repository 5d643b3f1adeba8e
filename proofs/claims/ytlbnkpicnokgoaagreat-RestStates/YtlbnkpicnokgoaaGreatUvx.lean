import Derived.Deep.RegionHeld3
import Derived.Test.YtlbnkpicnokgoaaGreatCJn
import Derived.Test.YtlbnkpicnokgoaaGreatUlx
import Derived.Test.YtlbnkpicnokgoaaGreatUsx
namespace Go.Proofs.YtlbnkpicnokgoaaGreat
open Go.RowKit Go.Maps
set_option linter.unusedVariables false
set_option maxRecDepth 100000
set_option maxHeartbeats 8000000
theorem ld_ (p:ad_) (a1 a2 a3:Option Addr) (n1 c1 n2 c2 n3 c3:Nat) (s:ab_) (b1 b2 b3:Option Addr) (m1 d1 m2 d2 m3 d3:Nat) (tag:Int) (w:World) (hp:ap_ w a1 a2 a3 n1 n2 n3 p) (hs:an_ w b1 b2 b3 m1 m2 m3 s) (hn2:b2 = none→d2 = 0) (hn3:b3 = none→d3 = 0) (hc2:m2≤d2) (hm2:d2≤maxLen) :
 Calls Tryz.prog 41 #[.agg #[.slice a1 n1 c1,.slice a2 n2 c2,.slice a3 n3 c3],.agg #[.slice b1 m1 d1,.slice b2 m2 d2,.slice b3 m3 d3,.int .i64 s.nextSeq,.int .i64 s.nextTag,.int .i64 s.came,.int .i64 s.acked,.int .i64 s.dropped],.int .i64 tag] w fun e w'=>∃ v,e = .returned (.tuple #[v,.int .i64 (ackE p s tag)])∧bn_ w' w.heap.size v (ackE p s tag) (ackS s tag)∧Below w.heap.size w w':=by
 obtain ⟨E,hE⟩:∃ E,E = ackE p s tag:=⟨_,rfl⟩
 rw [← hE];obtain ⟨E0,hE0⟩:∃ E0,E0 = stE p s:=⟨_,rfl⟩
 obtain ⟨W3,hW3,hBw,hs3,hbx⟩:=cW_ w #[.slice a1 n1 c1,.slice a2 n2 c2,.slice a3 n3 c3] #[.slice b1 m1 d1,.slice b2 m2 d2,.slice b3 m3 d3,.int .i64 s.nextSeq,.int .i64 s.nextTag,.int .i64 s.came,.int .i64 s.acked,.int .i64 s.dropped];have HW3:=hidI hW3;have BX:=hidI hbx;have HE:=hidI hE;have HE0:=hidI hE0;have HS:=hidI (hs.keep hBw);have HP:=hidI (hp.keep hBw);have HBW:=hidI hBw;have HS3:=hidI hs3;have HN2:=hidI hn2;have HN3:=hidI hn3;have HC2:=hidI hc2;have HCM:=hidI hm2;have HM2:Hid (s.outs.length = m2):=hs.l2;have HPN:Hid (p.queues.length = n2):=hp.l2;have s0:=hBw.size;obtain ⟨x0,x1,x2⟩:=ag_ (hbx W3 (Below.refl _ _)).1;obtain ⟨y0,y1,y2,y3,y4,y5,y6,y7⟩:=aa_ (hbx W3 (Below.refl _ _)).2.1;have HER:Hid (∀ (D:Int) (W W4:World),D≠0→E = D→Below W3.heap.size W3 W→aZ_ (w.heap.size+2) W W4→∃ v,Ending.returned (.tuple #[zerS,.int .i64 D]) = .returned (.tuple #[v,.int .i64 E])∧bn_ W4 w.heap.size v E (ackS s tag)∧Below w.heap.size w W4):=fun D W W4 hD hED hB hT=>by
  refine ⟨zerS,by rw [hED],⟨fun h=>absurd (hED ▸ h) hD,fun _=>rfl⟩,HBW.out.trans ((hB.mono s0).trans (hT.below (by have:=hB.size;have:=HS3.out;omega) (by omega)))⟩
 clear hW3 hbx hs3 hp hs hBw hE hE0 hn2 hn3 hc2 hm2;go_enter Tryz.func41,Tryz.ntmps41;go_wp2_with fail
 rw [← HW3.out];refine (bl_ p _ _ _ _ _ _ _ _ _ s _ _ _ _ _ _ _ _ _ _ HP.out HS.out).mono ?_;rintro e w4 ⟨rfl,k4⟩;rw [← HE0.out];have s4:=k4.size;have K4:=hidI k4;clear x0 x1 x2 y0 y1 y2 y3 y4 y5 y6 y7 k4;by_cases hz:E0 = 0
 rotate_left
 ·have hz':(E0 != 0) = true:=bne_iff_ne.2 hz;have HZ:=hidI hz;have r4:=(BX.out w4 K4.out).2.2;obtain ⟨z0,z1,z2,z3,z4,z5,z6,z7⟩:=aa_ r4;have e0:=foc_ r4 0;have e1:=foc_ r4 1;have e2:=foc_ r4 2;have e3:=foc_ r4 3;have e4:=foc_ r4 4;have e5:=foc_ r4 5;have e6:=foc_ r4 6;have e7:=foc_ r4 7;have R4:=hidI r4;clear r4;clear hz;go_wp2_with fail
  generalize hW4:World.setCell (World.setCell (World.setCell (World.setCell (World.setCell (World.setCell (World.setCell (World.setCell w4 _ _) _ _) _ _) _ _) _ _) _ _) _ _) _ _ = W4;obtain ⟨b4,t4⟩:=store8 R4.out hW4;obtain ⟨z0,z1,z2,z3,z4,z5,z6,z7⟩:=aa_ b4;exact bodyPost_ret (v:=.tuple #[zerS,.int .i64 E0]) (by simp [results,Tryz.results41,go_sem,z0,z1,z2,z3,z4,z5,z6,z7,zerS]) rfl (HER.out E0 _ _ HZ.out (by rw [HE.out];unfold ackE;rw [if_pos (by rw [← HE0.out];exact HZ.out)];rw [HE0.out]) K4.out t4)
 subst hz;have HR:=hidI (aK_ HE0.out.symm);obtain ⟨q1,q2,q3,q4⟩:=HS.out.small HR.out;have HQ:Hid (m1≤100∧(∀ l ∈ s.ready,l.length≤100)∧m2≤1000∧m3≤100):=⟨q1,q2,q3,q4⟩;clear q1 q2 q3 q4;obtain ⟨y0,y1,y2,y3,y4,y5,y6,y7⟩:=aa_ (BX.out w4 K4.out).2.1;go_wp2_with fail
 refine (ir_ s _ _ _ _ _ _ _ _ _ tag _ (HS.out.keep K4.out)).mono ?_;rintro e w5 ⟨rfl,k5'⟩;rw [jh_];have K5:Hid (Below W3.heap.size W3 w5):=K4.out.trans (k5'.mono s4);have s5:=K5.out.size;clear y0 y1 y2 y3 y4 y5 y6 y7 k5';by_cases hi:outIdx s tag < s.outs.length
 rotate_left
 ·rw [if_neg hi];have hie:outIdx s tag = s.outs.length:=by have:=eJ_ s tag;omega
  have HIE:=hidI hie;have r4:=(BX.out w5 K5.out).2.2;obtain ⟨z0,z1,z2,z3,z4,z5,z6,z7⟩:=aa_ r4;have e0:=foc_ r4 0;have e1:=foc_ r4 1;have e2:=foc_ r4 2;have e3:=foc_ r4 3;have e4:=foc_ r4 4;have e5:=foc_ r4 5;have e6:=foc_ r4 6;have e7:=foc_ r4 7;have R4:=hidI r4;clear r4;clear hi hie;go_wp2_with fail
  generalize hW4:World.setCell (World.setCell (World.setCell (World.setCell (World.setCell (World.setCell (World.setCell (World.setCell w5 _ _) _ _) _ _) _ _) _ _) _ _) _ _) _ _ = W4;obtain ⟨b4,t4⟩:=store8 R4.out hW4;obtain ⟨z0,z1,z2,z3,z4,z5,z6,z7⟩:=aa_ b4;exact bodyPost_ret (v:=.tuple #[zerS,.int .i64 5]) (by simp [results,Tryz.results41,go_sem,z0,z1,z2,z3,z4,z5,z6,z7,zerS]) rfl (HER.out 5 _ _ (by decide) (by rw [HE.out];unfold ackE;rw [if_neg (by rw [← HE0.out];simp),if_pos HIE.out]) K5.out t4)
 rw [if_pos hi];have HNE:Hid (outIdx s tag≠s.outs.length):=Nat.ne_of_lt hi;obtain ⟨i,o,hO⟩:=jP_ (Nat.ne_of_lt hi);have HOUT:=hidI hO;rw [hO.idx] at hi ⊢;have HIL:=hidI hi;have j0:¬ (i:Int) < 0:=by omega
 have j0':decide ((i:Int) < 0) = false:=by rw [decide_eq_false_iff_not];omega
 clear hi hO;have HEZ:Hid (E = 0):=by show E = 0;rw [HE.out];unfold ackE;rw [if_neg (by rw [← HE0.out];simp),if_neg HNE.out]
 obtain ⟨y0,y1,y2,y3,y4,y5,y6,y7⟩:=aa_ (BX.out w5 K5.out).2.1;go_wp2_with fail
 refine (gq_ s _ _ _ _ _ _ _ _ _ i w5 (HS.out.keep K5.out) HN2.out HN3.out HC2.out HCM.out HQ.out.1 HQ.out.2.1 HQ.out.2.2.1 HQ.out.2.2.2 HIL.out).mono ?_;rintro e w6 ⟨v6,rfl,hv6,k6'⟩;have hls:({ s with outs:=s.outs.eraseIdx i }:ab_) = bg_ s tag:=by unfold bg_;rw [HOUT.out.idx]
 rw [hls] at hv6;obtain ⟨L,hL⟩:∃ L,L = bg_ s tag:=⟨_,rfl⟩
 rw [← hL] at hv6;have HL:=hidI hL;obtain ⟨g1,g2,g3,l1,r1,l2,r2,l3,r3,rfl,ho⟩:=hv6;have k6:=K5.out.trans (k6'.mono K5.out.size);have s6:=k6.size;obtain ⟨w7,hw7⟩:∃ w7,w7 = w6.alloc (.cells #[.slice g1 l1 r1,.slice g2 l2 r2,.slice g3 l3 r3,.int .i64 L.nextSeq,.int .i64 L.nextTag,.int .i64 L.came,.int .i64 L.acked,.int .i64 L.dropped] 31):=⟨_,rfl⟩
 have l7:Below w6.heap.size w6 w7:=by rw [hw7];exact (Below.refl _ _).alloc (Nat.le_refl _) _
 have b7:w7.heap[w6.heap.size]? = some (.cells #[.slice g1 l1 r1,.slice g2 l2 r2,.slice g3 l3 r3,.int .i64 L.nextSeq,.int .i64 L.nextTag,.int .i64 L.came,.int .i64 L.acked,.int .i64 L.dropped] 31 (0,0)):=by rw [hw7];exact World.alloc_heap_new w6 _
 have K7:Hid (Below W3.heap.size W3 w7):=k6.trans (l7.mono s6);have HW7:=hidI hw7;obtain ⟨B7,hB7⟩:∃ B7,B7 = w6.heap.size:=⟨_,rfl⟩
 have HB7:=hidI hB7;rw [← hB7] at b7;have BB7:=hidI b7;have HG7:Hid (W3.heap.size≤B7):=by show _≤B7;rw [hB7];exact s6
 have HO7:=hidI ((ho.lower (n':=W3.heap.size) K5.out.size).keep l7);clear y0 y1 y2 y3 y4 y5 y6 y7 k6' k6 hw7 l7 hB7 b7 ho hls hL j0 j0';go_upto_region 8 with fail
 rw [← HW7.out,← HB7.out];have y6:=(aa_ BB7.out).2.2.2.2.2.2.1;have f6:=foc_ BB7.out 6;have j6:IntKind.i64.wrap (L.acked+1) = L.acked+1:=by rw [HL.out];exact hK_ HR.out.acked_le.1 (by have:=HR.out.acked_le.2;show s.acked≤_;omega)
 go_upto_region 9 with fail
 generalize hw8:w7.setCell ⟨B7,6,none⟩ (.int .i64 (L.acked+1)) = w8;have b8:w8.heap[B7]? = some (.cells #[.slice g1 l1 r1,.slice g2 l2 r2,.slice g3 l3 r3,.int .i64 L.nextSeq,.int .i64 L.nextTag,.int .i64 L.came,.int .i64 (L.acked+1),.int .i64 L.dropped] 31 (0,0)):=by rw [← hw8];exact scb_ BB7.out (j:=6) _
 have t8:aZ_ B7 w7 w8:=by rw [← hw8];exact sct_ w7 B7 6 _
 have HF8:Hid (Below W3.heap.size W3 w8):=K7.out.trans (t8.below K7.out.size HG7.out);obtain ⟨SR,hSR⟩:∃ SR,SR = ackS s tag:=⟨_,rfl⟩
 have HO8:Hid (aM_ w8 W3.heap.size g1 g2 g3 l1 r1 l2 r2 l3 r3 SR):=by
  show aM_ _ _ _ _ _ _ _ _ _ _ _ SR;rw [hSR];have hh:=HO7.out.turn BB7.out (by decide) t8;rw [HL.out] at hh;exact hh.same rfl rfl rfl
 have b8':w8.heap[B7]? = some (.cells #[.slice g1 l1 r1,.slice g2 l2 r2,.slice g3 l3 r3,.int .i64 SR.nextSeq,.int .i64 SR.nextTag,.int .i64 SR.came,.int .i64 SR.acked,.int .i64 SR.dropped] 31 (0,0)):=by rw [hSR];have hh:=b8;rw [HL.out] at hh;exact hh
 have HSR:=hidI hSR;have r8:=(BX.out w8 HF8.out).2.2;clear y6 f6;obtain ⟨y0,y1,y2,y3,y4,y5,y6,y7⟩:=aa_ b8';obtain ⟨z0,z1,z2,z3,z4,z5,z6,z7⟩:=aa_ r8;have e0:=foc_ r8 0;have e1:=foc_ r8 1;have e2:=foc_ r8 2;have e3:=foc_ r8 3;have e4:=foc_ r8 4;have e5:=foc_ r8 5;have e6:=foc_ r8 6;have e7:=foc_ r8 7;have R8:=hidI r8;clear r8 b8 b8' t8 hw8 hSR j6;go_wp2_with fail
 generalize hW9:World.setCell (World.setCell (World.setCell (World.setCell (World.setCell (World.setCell (World.setCell (World.setCell w8 _ _) _ _) _ _) _ _) _ _) _ _) _ _) _ _ = W9;obtain ⟨b9,t9⟩:=store8 R8.out hW9;obtain ⟨z0,z1,z2,z3,z4,z5,z6,z7⟩:=aa_ b9;exact bodyPost_ret (v:=.tuple #[.agg #[.slice g1 l1 r1,.slice g2 l2 r2,.slice g3 l3 r3,.int .i64 SR.nextSeq,.int .i64 SR.nextTag,.int .i64 SR.came,.int .i64 SR.acked,.int .i64 SR.dropped],.int .i64 0]) (by simp [results,Tryz.results41,go_sem,z0,z1,z2,z3,z4,z5,z6,z7]) rfl ⟨_,by rw [HEZ.out],⟨fun _=>by rw [← HSR.out];exact ⟨_,_,_,_,_,_,_,_,_,rfl,(HO8.out.turn R8.out (by decide) t9).lower (by have:=HS3.out;omega)⟩,fun h=>absurd HEZ.out h⟩,HBW.out.trans ((HF8.out.mono s0).trans (t9.below (by have:=HF8.out.size;have:=HS3.out;omega) (by omega)))⟩
end Go.Proofs.YtlbnkpicnokgoaaGreat
