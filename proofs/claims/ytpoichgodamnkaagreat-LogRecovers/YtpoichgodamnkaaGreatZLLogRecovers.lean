/- The walk of the law LogRecovers. -/
import Derived.Test.YtpoichgodamnkaaGreatOux
import Derived.Test.YtpoichgodamnkaaGreatOzx
import Derived.Test.YtpoichgodamnkaaGreatOxx
namespace Go.Proofs.YtpoichgodamnkaaGreat
open Go.RowKit Go.Maps
set_option linter.unusedVariables false
set_option maxRecDepth 100000
set_option maxHeartbeats 8000000
theorem jz_.stW {W:World} {n:Nat} {v:Value} {E:Int} {s:ab_} (h:jz_ W n v E s):StV W v (resV E s):=by
 unfold resV;by_cases hE:E = 0
 ·rw [if_pos hE];obtain ⟨b1,b2,b3,m1,d1,m2,d2,m3,d3,h1,h2⟩:=h.1 hE;exact ⟨b1,b2,b3,m1,d1,m2,d2,m3,d3,h1,h2.state.1,h2.state.2.1,h2.state.2.2.1⟩
 ·rw [if_neg hE,h.2 hE];exact ⟨none,none,none,0,0,0,0,0,0,rfl,⟨rfl,rfl,rfl,Nat.zero_le _,Nat.zero_le _,Nat.zero_le _,.inl rfl,.inl rfl,.inl rfl⟩,fun _=>rfl,fun _=>rfl⟩
def mO_ (W:World) (B:Nat) (b1 b2 b3:Option Addr) (m1 d1 m2 d2 m3 d3:Nat) (s:ab_):Prop:=W.heap[B]? = some (.cells #[.slice b1 m1 d1,.slice b2 m2 d2,.slice b3 m3 d3,.int .i64 s.nextSeq,.int .i64 s.nextTag,.int .i64 s.came,.int .i64 s.acked,.int .i64 s.dropped] 31 (0,0))∧am_ W b1 b2 b3 m1 m2 m3 s
theorem mO_.keepW {W W':World} {B:Nat} {b1 b2 b3:Option Addr} {m1 d1 m2 d2 m3 d3:Nat} {s:ab_} (h:mO_ W B b1 b2 b3 m1 d1 m2 d2 m3 d3 s) (hB:Below W.heap.size W W'):mO_ W' B b1 b2 b3 m1 d1 m2 d2 m3 d3 s:=⟨pkp_ h.1 hB,h.2.keep hB⟩
theorem StV.boxedW {W:World} {v:Value} {s:ab_} (h:StV W v s):∃ b1 b2 b3 m1 d1 m2 d2 m3 d3 W',v = .agg #[.slice b1 m1 d1,.slice b2 m2 d2,.slice b3 m3 d3,.int .i64 s.nextSeq,.int .i64 s.nextTag,.int .i64 s.came,.int .i64 s.acked,.int .i64 s.dropped]∧W' = W.alloc (.cells #[.slice b1 m1 d1,.slice b2 m2 d2,.slice b3 m3 d3,.int .i64 s.nextSeq,.int .i64 s.nextTag,.int .i64 s.came,.int .i64 s.acked,.int .i64 s.dropped] 31)∧Below W.heap.size W W'∧mO_ W' W.heap.size b1 b2 b3 m1 d1 m2 d2 m3 d3 s:=by
 obtain ⟨b1,b2,b3,m1,d1,m2,d2,m3,d3,h1,h2,h3⟩:=h;exact ⟨b1,b2,b3,m1,d1,m2,d2,m3,d3,_,h1,rfl,(Below.refl _ _).alloc (Nat.le_refl _) _,⟨World.alloc_heap_new W _,h2.keep ((Below.refl _ _).alloc (Nat.le_refl _) _)⟩⟩
theorem mL_ (W:World):am_ W none none none 0 0 0 (bQ_ 0):=⟨rfl,rfl,rfl,Nat.zero_le _,Nat.zero_le _,Nat.zero_le _,.inl rfl,.inl rfl,.inl rfl⟩
theorem fA_ (p:ae_) (a1 a2 a3:Option Addr) (n1 c1 n2 c2 n3 c3:Nat) (t:ByteArray) (w:World) (hp:an_ w a1 a2 a3 n1 n2 n3 p) :
 Calls Tryz.prog 16 #[.agg #[.slice a1 n1 c1,.slice a2 n2 c2,.slice a3 n3 c3],.string t] w fun e w'=>e = .returned (.bool true)∧Below w.heap.size w w':=by
 obtain ⟨W1,hW1⟩:∃ W1,W1 = w.alloc (.cells #[.slice a1 n1 c1,.slice a2 n2 c2,.slice a3 n3 c3] 26):=⟨_,rfl⟩
 have l1:Below w.heap.size w W1:=by rw [hW1];exact (Below.refl _ _).alloc (Nat.le_refl _) _
 have b1':W1.heap[w.heap.size]? = some (.cells #[.slice a1 n1 c1,.slice a2 n2 c2,.slice a3 n3 c3] 26 (0,0)):=by rw [hW1];exact World.alloc_heap_new w _
 have HW1:=hidI hW1;have HBW:=hidI l1;have PX:Hid (∀ W,Below W1.heap.size W1 W→W.heap[w.heap.size]? = some (.cells #[.slice a1 n1 c1,.slice a2 n2 c2,.slice a3 n3 c3] 26 (0,0))):=fun W h=>pkp_ b1' h
 have HP:=hidI (hp.keep l1);have s0:=l1.size;obtain ⟨E,hE⟩:∃ E,E = recE p t:=⟨_,rfl⟩
 obtain ⟨N,hN⟩:∃ N,N = recN p t:=⟨_,rfl⟩
 obtain ⟨C,hC⟩:∃ C,C = chkP p:=⟨_,rfl⟩
 obtain ⟨D,hD⟩:∃ D,D = repE t:=⟨_,rfl⟩
 obtain ⟨rn,hrn⟩:∃ rn,rn = repN t:=⟨_,rfl⟩
 obtain ⟨A,hA⟩:∃ A,A = repA t:=⟨_,rfl⟩
 have HE:=hidI hE;have HN:=hidI hN;have HC:=hidI hC;have HD:=hidI hD;have HRN:=hidI hrn;have HA:=hidI hA;obtain ⟨x0,x1,x2⟩:=ag_ b1';clear hW1 l1 b1' hp hE hN hC hD hrn hA;go_enter Tryz.func16,Tryz.ntmps16;go_wp2_with fail
 rw [← HW1.out];refine (gh_ p _ _ _ _ _ _ _ _ _ t _ HP.out).mono ?_;rintro e u1 ⟨v1,rfl,hr,kk⟩;rw [← HE.out,← HN.out];rw [← HE.out] at hr;obtain ⟨X,hX⟩:∃ X,X = resV E (recS p t):=⟨_,rfl⟩
 have hst:=hr.stW;rw [← hX] at hst;obtain ⟨f1,f2,f3,m1,g1,m2,g2,m3,g3,w1,rfl,hw,lw,hb⟩:=hst.boxedW;have K1:=hidI (kk.trans (lw.mono kk.size));have HW2:=hidI hw;have HX1:=hidI hb;have HXE:=hidI hX;obtain ⟨B1,hB⟩:∃ B1,B1 = u1.heap.size:=⟨_,rfl⟩
 rw [← hB] at HX1;have HBB1:=hidI hB;clear x0 x1 x2 hr hw lw hb hB kk hst hX;go_upto_region 2 with fail
 rw [← HW2.out,← HBB1.out];obtain ⟨x0,x1,x2⟩:=ag_ (PX.out w1 K1.out);have HP1:=hidI (HP.out.keep K1.out);go_wp2_with fail
 refine (dj_ p a1 a2 a3 n1 c1 n2 c2 n3 c3 w1 HP1.out.l1 HP1.out.l2 HP1.out.l3 HP1.out.sz HP1.out.p1 HP1.out.p2 HP1.out.p3).mono ?_;rintro e w2 ⟨rfl,l2⟩;rw [← HC.out];have K2:=hidI (K1.out.trans (l2.mono K1.out.size));have HX2:=hidI (HX1.out.keepW l2);clear x0 x1 x2 l2;go_wp2_with fail
 refine (iz_ t _).mono ?_;rintro e w3 ⟨v3,rfl,ho3,l3⟩;rw [← HD.out,← HRN.out];rw [← HA.out] at ho3;obtain ⟨aa,ca,hva,-,-,-,hrow⟩:=aD_ ho3;obtain ⟨m,hm⟩:∃ m,m = A.length:=⟨_,rfl⟩
 rw [← hm] at hva;subst hva;have HM:=hidI hm;have HROW:=hidI hrow;have K3:=hidI (K2.out.trans (l3.mono K2.out.size));have HX3:=hidI (HX2.out.keepW l3);clear ho3 l3 hrow hm;by_cases hc:C = 0
 rotate_left
 ·have hc':(C == 0) = false:=by simpa using hc
  have hEC:E = C:=by rw [HE.out,HC.out];unfold recE;rw [if_pos (by rw [← HC.out];exact hc)]
  have HEN:Hid (E≠0):=by show E≠0;rw [hEC];exact hc
  subst hEC;clear hc;obtain ⟨w4,hw4⟩:∃ w4,w4 = w3.alloc (.cells #[.slice none 0 0,.slice none 0 0,.slice none 0 0,.int .i64 0,.int .i64 0,.int .i64 0,.int .i64 0,.int .i64 0] 31):=⟨_,rfl⟩
  have l4:Below w3.heap.size w3 w4:=by rw [hw4];exact (Below.refl _ _).alloc (Nat.le_refl _) _
  have b4:w4.heap[w3.heap.size]? = some (.cells #[.slice none 0 0,.slice none 0 0,.slice none 0 0,.int .i64 0,.int .i64 0,.int .i64 0,.int .i64 0,.int .i64 0] 31 (0,0)):=by rw [hw4];exact World.alloc_heap_new w3 _
  go_upto_region 8 with fail
  rw [← hw4];obtain ⟨B4,hB4⟩:∃ B4,B4 = w3.heap.size:=⟨_,rfl⟩
  rw [← hB4] at b4 ⊢;have K4:=hidI (K3.out.trans (l4.mono K3.out.size));have X1:=hidI (HX3.out.keepW l4);have B4H:=hidI b4;have hN0:N = 0:=by rw [HN.out];unfold recN;rw [if_neg (by rw [← HE.out];exact HEN.out)]
  subst hN0;have hs1:=X1.out.2;have HV:Hid (X.nextSeq = 0∧X.nextTag = 0∧X.came = 0∧X.acked = 0∧X.dropped = 0∧am_ w4 f1 f2 f3 m1 m2 m3 (bQ_ 0)):=by
   have hX0:X = bQ_ 0:=HXE.out.trans (if_neg HEN.out);rw [hX0];rw [hX0] at hs1;exact ⟨rfl,rfl,rfl,rfl,rfl,hs1⟩
  clear hw4 l4 b4 hB4 hs1;go_wp2_with fail
  refine (c7_ _).mono ?_;rintro e w6 ⟨rfl,l6⟩;have K6:=hidI (K4.out.trans (l6.mono K4.out.size));obtain ⟨y0,y1,y2,y3,y4,y5,y6,y7⟩:=aa_ (X1.out.keepW l6).1;obtain ⟨z0,z1,z2,z3,z4,z5,z6,z7⟩:=aa_ (pkp_ B4H.out l6);obtain ⟨v1,v2,v3,v4,v5,hsv⟩:=HV.out;obtain rfl:m1 = 0:=hsv.l1.symm;obtain rfl:m2 = 0:=hsv.l2.symm;obtain rfl:m3 = 0:=hsv.l3.symm;rw [v1] at y3;rw [v2] at y4;rw [v3] at y5;rw [v4] at y6;rw [v5] at y7;have SR:=hidI (cZ_ (bQ_ 0) f1 f2 f3 none none none 0 g1 0 g2 0 g3 0 0 0 w6 (hsv.keep l6) (mL_ w6));have gE:(E == E) = true:=by simp
  have g00:((0:Int) == 0) = true:=rfl;clear l6 hsv v1 v2 v3 v4 v5 hc';go_wp2_with fail
  refine SR.out.mono ?_;rintro e w7 ⟨rfl,l7⟩;have K7:=hidI (K6.out.trans (l7.mono K6.out.size));clear l7 SR y0 y1 y2 y3 y4 y5 y6 y7 z0 z1 z2 z3 z4 z5 z6 z7;go_wp2_with fail
  go_ret
  exact ⟨rfl,HBW.out.trans (K7.out.mono s0)⟩
 subst hc;have hED:E = D:=by rw [HE.out,HD.out];unfold recE;rw [if_neg (by rw [← HC.out];simp)]
 subst hED;have g0:((0:Int) == 0) = true:=rfl;by_cases hd:E = 0
 rotate_left
 ·have hc':(E == 0) = false:=by simpa using hd
  have HEN:Hid (E≠0):=hd;clear hd;obtain ⟨w4,hw4⟩:∃ w4,w4 = w3.alloc (.cells #[.slice none 0 0,.slice none 0 0,.slice none 0 0,.int .i64 0,.int .i64 0,.int .i64 0,.int .i64 0,.int .i64 0] 31):=⟨_,rfl⟩
  have l4:Below w3.heap.size w3 w4:=by rw [hw4];exact (Below.refl _ _).alloc (Nat.le_refl _) _
  have b4:w4.heap[w3.heap.size]? = some (.cells #[.slice none 0 0,.slice none 0 0,.slice none 0 0,.int .i64 0,.int .i64 0,.int .i64 0,.int .i64 0,.int .i64 0] 31 (0,0)):=by rw [hw4];exact World.alloc_heap_new w3 _
  go_upto_region 8 with fail
  rw [← hw4];obtain ⟨B4,hB4⟩:∃ B4,B4 = w3.heap.size:=⟨_,rfl⟩
  rw [← hB4] at b4 ⊢;have K4:=hidI (K3.out.trans (l4.mono K3.out.size));have X1:=hidI (HX3.out.keepW l4);have B4H:=hidI b4;have hN0:N = 0:=by rw [HN.out];unfold recN;rw [if_neg (by rw [← HE.out];exact HEN.out)]
  subst hN0;have hs1:=X1.out.2;have HV:Hid (X.nextSeq = 0∧X.nextTag = 0∧X.came = 0∧X.acked = 0∧X.dropped = 0∧am_ w4 f1 f2 f3 m1 m2 m3 (bQ_ 0)):=by
   have hX0:X = bQ_ 0:=HXE.out.trans (if_neg HEN.out);rw [hX0];rw [hX0] at hs1;exact ⟨rfl,rfl,rfl,rfl,rfl,hs1⟩
  clear hw4 l4 b4 hB4 hs1;go_wp2_with fail
  refine (c7_ _).mono ?_;rintro e w6 ⟨rfl,l6⟩;have K6:=hidI (K4.out.trans (l6.mono K4.out.size));obtain ⟨y0,y1,y2,y3,y4,y5,y6,y7⟩:=aa_ (X1.out.keepW l6).1;obtain ⟨z0,z1,z2,z3,z4,z5,z6,z7⟩:=aa_ (pkp_ B4H.out l6);obtain ⟨v1,v2,v3,v4,v5,hsv⟩:=HV.out;obtain rfl:m1 = 0:=hsv.l1.symm;obtain rfl:m2 = 0:=hsv.l2.symm;obtain rfl:m3 = 0:=hsv.l3.symm;rw [v1] at y3;rw [v2] at y4;rw [v3] at y5;rw [v4] at y6;rw [v5] at y7;have SR:=hidI (cZ_ (bQ_ 0) f1 f2 f3 none none none 0 g1 0 g2 0 g3 0 0 0 w6 (hsv.keep l6) (mL_ w6));have gE:(E == E) = true:=by simp
  have g00:((0:Int) == 0) = true:=rfl;clear l6 hsv v1 v2 v3 v4 v5 hc';go_wp2_with fail
  refine SR.out.mono ?_;rintro e w7 ⟨rfl,l7⟩;have K7:=hidI (K6.out.trans (l7.mono K6.out.size));clear l7 SR y0 y1 y2 y3 y4 y5 y6 y7 z0 z1 z2 z3 z4 z5 z6 z7;go_wp2_with fail
  go_ret
  exact ⟨rfl,HBW.out.trans (K7.out.mono s0)⟩
 subst hd;have hn4:n2≤4:=by have h1:=(a4_ HC.out.symm).few.2.1;have h2:=HP.out.l2;omega
 have hm60:m≤60:=by rw [HM.out,HA.out];unfold repA;split <;> first | exact hD_ _ _ _ | simp
 have hNm:N = (m:Int):=by rw [HN.out,HM.out,HA.out];unfold recN;rw [if_pos HE.out.symm]
 have hXS:X = fZ_ p A (bQ_ n2):=by rw [HXE.out,HA.out,← HP.out.l2];exact if_pos rfl
 have HXS:=hidI hXS;subst hNm;clear hXS;obtain ⟨w4,hw4⟩:∃ w4,w4 = w3.alloc (.cells #[.slice none 0 0,.slice none 0 0,.slice none 0 0,.int .i64 0,.int .i64 0,.int .i64 0,.int .i64 0,.int .i64 0] 31):=⟨_,rfl⟩
 have l4:Below w3.heap.size w3 w4:=by rw [hw4];exact (Below.refl _ _).alloc (Nat.le_refl _) _
 have b4:w4.heap[w3.heap.size]? = some (.cells #[.slice none 0 0,.slice none 0 0,.slice none 0 0,.int .i64 0,.int .i64 0,.int .i64 0,.int .i64 0,.int .i64 0] 31 (0,0)):=by rw [hw4];exact World.alloc_heap_new w3 _
 have hlt4:w3.heap.size < w4.heap.size:=lth_ b4;go_upto_region 9 with fail
 rw [← hw4];obtain ⟨B4,hB4⟩:∃ B4,B4 = w3.heap.size:=⟨_,rfl⟩
 rw [← hB4] at b4 hlt4 ⊢;have K4:=hidI (K3.out.trans (l4.mono K3.out.size));have L4:=hidI l4;have B4H:=hidI b4;have HB4:=hidI hB4;obtain ⟨x0,x1,x2⟩:=ag_ (PX.out w4 K4.out);clear hw4 l4 b4 hB4 g0;go_wp2_with fail
 refine (kg_ p a1 a2 a3 n1 c1 n2 c2 n3 c3 A aa m ca w4 (HP.out.keep K4.out) hn4 HM.out.symm hm60 (HROW.out.keep L4.out)).mono ?_;rintro e w5 ⟨v5,rfl,⟨b1,b2,b3,k1,d1,k2,d2,k3,d3,S,hS,rfl,hrs⟩,l5⟩;have HSS:=hidI hS;have HRS:=hidI hrs;have L5:=hidI (L4.out.trans (l5.mono L4.out.size));have bB:=pkp_ B4H.out l5;have BBH:=hidI bB;obtain ⟨y0,y1,y2,y3,y4,y5,y6,y7⟩:=aa_ bB;have q0:=foc_ bB 0;have q1:=foc_ bB 1;have q2:=foc_ bB 2;have q3:=foc_ bB 3;have q4:=foc_ bB 4;have q5:=foc_ bB 5;have q6:=foc_ bB 6;have q7:=foc_ bB 7;clear hS hrs l5 bB x0 x1 x2;go_wp2_with fail
 generalize hWz:World.setCell (World.setCell (World.setCell (World.setCell (World.setCell (World.setCell (World.setCell (World.setCell w5 _ _) _ _) _ _) _ _) _ _) _ _) _ _) _ _ = Wz;obtain ⟨bz,tz⟩:=store8 BBH.out hWz;have rz:=HRS.out.turn hlt4 tz;have lz:Below w3.heap.size w3 Wz:=L5.out.trans (tz.below L5.out.size (by rw [HB4.out];exact Nat.le_refl _));have KZ:=hidI (K3.out.trans (lz.mono K3.out.size));have X1:=hidI (HX3.out.keepW lz);have hXe:X = S:=by rw [HXS.out,HSS.out]
 have BZ:=hidI bz;have SZ:=hidI rz.state.1;clear hWz tz rz lz bz y0 y1 y2 y3 y4 y5 y6 y7 q0 q1 q2 q3 q4 q5 q6 q7;refine (c7_ _).mono ?_;rintro e w6 ⟨rfl,l6⟩;have K6:=hidI (KZ.out.trans (l6.mono KZ.out.size));have Y1:=X1.out.keepW l6;have Y2:=SZ.out.keep l6;obtain ⟨y0,y1,y2,y3,y4,y5,y6,y7⟩:=aa_ Y1.1;obtain ⟨z0,z1,z2,z3,z4,z5,z6,z7⟩:=aa_ (pkp_ BZ.out l6);have Y3:=Y1.2;rw [hXe] at y3 y4 y5 y6 y7 Y3;obtain rfl:m1 = k1:=by have h1:=Y3.l1;have h2:=Y2.l1;omega
 obtain rfl:m2 = k2:=by have h1:=Y3.l2;have h2:=Y2.l2;omega
 obtain rfl:m3 = k3:=by have h1:=Y3.l3;have h2:=Y2.l3;omega
 have SR:=hidI (cZ_ S f1 f2 f3 b1 b2 b3 m1 g1 m2 g2 m3 g3 d1 d2 d3 w6 Y3 Y2);have g00:((0:Int) == 0) = true:=rfl;have gmm:((m:Int) == (m:Int)) = true:=by simp
 clear l6 Y1 Y2 Y3 hXe;go_wp2_with fail
 refine SR.out.mono ?_;rintro e w7 ⟨rfl,l7⟩;have K7:=hidI (K6.out.trans (l7.mono K6.out.size));clear l7 SR y0 y1 y2 y3 y4 y5 y6 y7 z0 z1 z2 z3 z4 z5 z6 z7;go_wp2_with fail
 go_ret
 exact ⟨rfl,HBW.out.trans (K7.out.mono s0)⟩
end Go.Proofs.YtpoichgodamnkaaGreat
