/- The walk of the law BookTells. -/
import Derived.Test.YtlbnkpicnokgoaaGreatBDf
import Derived.Test.YtlbnkpicnokgoaaGreatBDh
import Derived.Test.YtlbnkpicnokgoaaGreatSvx
import Derived.Test.YtlbnkpicnokgoaaGreatSwx
namespace Go.Proofs.YtlbnkpicnokgoaaGreat
open Go.RowKit Go.Maps
set_option linter.unusedVariables false
set_option maxRecDepth 100000
set_option maxHeartbeats 8000000
theorem js_ (a1 a2:Option Addr) (c1 c2:Nat) (w:World) :
 Calls Tryz.prog 15 #[.slice a1 0 c1,.slice a2 0 c2] w fun e w'=>e = .returned (.bool true)∧w' = w:=by
 go_enter Tryz.func15,Tryz.ntmps15;go_wp2
 refine wp_loop_rounds 1 ?_;rw [rounds_succ];go_wp2
 go_ret
 exact ⟨rfl,rfl⟩
theorem eB_.keep {W W':World} {n:Nat} {v:Value} {E:Int} {xs:List ByteArray} (h:eB_ W n v E xs) (hB:Below W.heap.size W W'):eB_ W' n v E xs:=⟨fun e=>cp2_ (h.1 e) hB,h.2⟩
theorem eB_.shape {W:World} {n:Nat} {v:Value} {E:Int} {xs:List ByteArray} (h:eB_ W n v E xs):∃ a c,v = .slice a (if E = 0 then xs.length else 0) c:=by
 by_cases hE:E = 0
 ·obtain ⟨a,c,e,-⟩:=aA_ (h.1 hE);exact ⟨a,c,by rw [if_pos hE];exact e⟩
 ·exact ⟨none,0,by rw [if_neg hE];exact h.2 hE⟩
theorem mH_ {E:Int} {xs:List ByteArray} {u v:Value} {w:World} {n n':Nat} (hl:xs.length≤1000) (hu:eB_ w n u E xs) (hv:eB_ w n' v E xs):Calls Tryz.prog 15 #[u,v] w fun e w'=>e = .returned (.bool true)∧Below w.heap.size w w':=by
 by_cases hE:E = 0
 ·have h1:=hu.1 hE;have h2:=hv.1 hE;obtain ⟨a1,c1,rfl,-⟩:=aA_ h1;obtain ⟨a2,c2,rfl,-⟩:=aA_ h2;by_cases hx:xs = []
  ·subst hx;exact (js_ a1 a2 c1 c2 w).mono fun e w' h=>⟨h.1,by rw [h.2];exact Below.refl _ _⟩
  ·obtain ⟨g1,o1,rfl,t1⟩:=d4_ (eK_ h1) hx (Below.refl _ _);obtain ⟨g2,o2,rfl,t2⟩:=d4_ (eK_ h2) hx (Below.refl _ _);exact (gF_ xs g1 o1 c1 g2 o2 c2 w (by unfold maxLen;omega) t1 t2).mono fun e w' h=>⟨h.1,by obtain ⟨m,hm⟩:=h.2;rw [hm];exact bA_ (Below.refl _ _)⟩
 ·rw [hu.2 hE,hv.2 hE];exact (js_ none none 0 0 w).mono fun e w' h=>⟨h.1,by rw [h.2];exact Below.refl _ _⟩
theorem gv_ (xss:List (List ae_)):lenC xss = (xss.map (fun l=>(l.length:Int))).map (.int .i64):=by unfold lenC;rw [List.map_map];rfl
theorem nk_ {p:ad_} {s:ab_} {q:Int} {E:Int} (hE:E = drE p s q):E = 0→(drB s q).length≤1000:=fun h=>by
 have d:=drained (hE.symm.trans h);have:=d.was.line6 (a1_ d.ql);unfold drB;rw [List.length_map];omega
def outB (E:Int) (xs:List ByteArray):List ByteArray:=if E = 0 then xs else []
theorem eB_.out {W:World} {n:Nat} {v:Value} {E:Int} {xs:List ByteArray} (h:eB_ W n v E xs):eB_ W n v E (outB E xs):=by
 unfold outB;refine ⟨fun e=>?_,h.2⟩;rw [if_pos e];exact h.1 e
theorem gd_ (p:ad_) (a1 a2 a3:Option Addr) (n1 c1 n2 c2 n3 c3:Nat) (s:ab_) (b1 b2 b3:Option Addr) (m1 d1 m2 d2 m3 d3:Nat) (q:Int) (w:World) (hp:ap_ w a1 a2 a3 n1 n2 n3 p) (hs:al_ w b1 b2 b3 m1 m2 m3 s) (hn2:b2 = none→d2 = 0) (hn3:b3 = none→d3 = 0) :
 Calls Tryz.prog 3 #[.agg #[.slice a1 n1 c1,.slice a2 n2 c2,.slice a3 n3 c3],.agg #[.slice b1 m1 d1,.slice b2 m2 d2,.slice b3 m3 d3,.int .i64 s.nextSeq,.int .i64 s.nextTag,.int .i64 s.came,.int .i64 s.acked,.int .i64 s.dropped],.int .i64 q] w fun e w'=>e = .returned (.bool true)∧Below w.heap.size w w':=by
 obtain ⟨W2,hW2,hBw,hs2,hbx⟩:=bN_ w #[.slice a1 n1 c1,.slice a2 n2 c2,.slice a3 n3 c3] #[.slice b1 m1 d1,.slice b2 m2 d2,.slice b3 m3 d3,.int .i64 s.nextSeq,.int .i64 s.nextTag,.int .i64 s.came,.int .i64 s.acked,.int .i64 s.dropped];have HW2:=hidI hW2;have BX:=hidI hbx;have HS:=hidI (hs.keep hBw);have HP:=hidI (hp.keep hBw);have HN:=hidI (And.intro hn2 hn3);have s0:=hBw.size;have HBW:=hidI hBw;obtain ⟨E,hE⟩:∃ E,E = drE p s q:=⟨_,rfl⟩
 have HE:=hidI hE;obtain ⟨E0,hE0⟩:∃ E0,E0 = stE p s:=⟨_,rfl⟩
 have HE0:=hidI hE0;have HFEW:Hid ((outB E (drB s q)).length≤1000):=by
  show (outB E (drB s q)).length≤1000;unfold outB;by_cases h:E = 0
  ·rw [if_pos h];exact nk_ hE h
  ·rw [if_neg h];simp
 obtain ⟨x0,x1,x2⟩:=ai_ (hbx W2 (Below.refl _ _)).1;obtain ⟨y0,y1,y2,y3,y4,y5,y6,y7⟩:=aa_ (hbx W2 (Below.refl _ _)).2;clear hW2 hbx hs2 hp hs hBw hn2 hn3 hE hE0;go_enter Tryz.func3,Tryz.ntmps3;go_wp2_with fail
 rw [← HW2.out];refine (ej_ p _ _ _ _ _ _ _ _ _ s _ _ _ _ _ _ _ _ _ _ HP.out HS.out).mono ?_;rintro e w1 ⟨vl,rfl,hly,k1⟩;rw [← HE0.out] at hly ⊢;have HLY:=hidI hly;have K1:=hidI k1;obtain ⟨nl,hnl⟩:∃ nl:Nat,nl = if E0 = 0 then s.ready.length else 0:=⟨_,rfl⟩
 obtain ⟨al,cl,rfl⟩:∃ al cl,vl = .slice al nl cl:=by
  by_cases h:E0 = 0
  ·obtain ⟨a,c,e,-⟩:=aA_ (hly.1 h);exact ⟨a,c,by rw [hnl,if_pos h];exact e⟩
  ·exact ⟨none,0,by rw [hnl,if_neg h];exact hly.2 h⟩
 have HNL:=hidI hnl;clear x0 x1 x2 y0 y1 y2 y3 y4 y5 y6 y7 hly k1 hnl;obtain ⟨x0,x1,x2⟩:=ai_ (BX.out w1 K1.out).1;obtain ⟨y0,y1,y2,y3,y4,y5,y6,y7⟩:=aa_ (BX.out w1 K1.out).2;go_wp2_with fail
 refine (cE_ p _ _ _ _ _ _ _ _ _ s _ _ _ _ _ _ _ _ _ q _ (HP.out.keep K1.out) (HS.out.keep K1.out) HN.out.1 HN.out.2).mono ?_;rintro e u1 ⟨v1,tx,rfl,hr,htx,kk⟩;rw [← HE.out] at hr htx ⊢;obtain ⟨z11,z12,z13,t11,e11,t12,e12,t13,e13,i11,i12,i13,i14,i15,rfl⟩:=hr.shape;obtain ⟨w2,hw,lw,hb⟩:=ht_ hr;have D2:=hidI (kk.trans (lw.mono kk.size));have K2:=hidI (K1.out.trans (D2.out.mono K1.out.size));have HW2:=hidI hw;have HB2:=hidI hb;have HTX:=hidI (htx.keep lw).out;obtain ⟨B2,hB⟩:∃ B2,B2 = u1.heap.size:=⟨_,rfl⟩
 rw [← hB] at HB2;have HBB2:=hidI hB;clear x0 x1 x2 y0 y1 y2 y3 y4 y5 y6 y7 hr hw lw hb hB kk htx;obtain ⟨x0,x1,x2⟩:=ai_ (BX.out w2 K2.out).1;obtain ⟨y0,y1,y2,y3,y4,y5,y6,y7⟩:=aa_ (BX.out w2 K2.out).2;go_upto_region 3 with fail
 rw [← HW2.out,← HBB2.out];go_wp2_with fail
 refine (cI_ p _ _ _ _ _ _ _ _ _ s _ _ _ _ _ _ _ _ _ _ (HP.out.keep K2.out) (HS.out.keep K2.out)).mono ?_;rintro e w3 ⟨rfl,k3⟩;rw [← HE0.out];have D3:=hidI k3;have K3:=hidI (K2.out.trans (k3.mono K2.out.size));clear x0 x1 x2 y0 y1 y2 y3 y4 y5 y6 y7 k3;obtain ⟨y0,y1,y2,y3,y4,y5,y6,y7⟩:=aa_ (BX.out w3 K3.out).2;go_upto_if 35 with fail
 go_cut [13] (fun s13 wx=>∃ aw cw,s13 = .slice aw nl cw∧(E0 = 0→cC_ wx aw (s.ready.map (fun l=>(l.length:Int))))∧Below w3.heap.size w3 wx)
 case first=>
  by_cases hz:E0 = 0
  ·have HZ:=hidI hz;have hm1:m1≤100:=(HS.out.small (aE_ (HE0.out.symm.trans hz))).1;subst hz;go_wp2_with fail
   refine (iF_ s _ _ _ _ _ _ _ _ _ _ (HS.out.keep K3.out) hm1).mono ?_;rintro e w4 ⟨v4,rfl,ho4,k4⟩;obtain ⟨aw,cw,rfl,-⟩:=aA_ ho4;have HI4:=hidI (el_ ho4 (gv_ s.ready));have K4:=hidI k4;have hnn:nl = s.ready.length:=by rw [HNL.out];simp
   rw [← hnn];clear ho4 k4 hnn;go_wp2_with fail
   go_meet
   case rel=>exact ⟨aw,cw,rfl,fun _=>HI4.out,K4.out⟩
  ·have hz':(E0 == 0) = false:=by rw [beq_eq_false_iff_ne];exact hz
   have HZ:=hidI hz;have HN0:Hid (nl = 0):=by show nl = 0;rw [HNL.out];exact if_neg hz
   clear hz;go_wp2_with fail
   go_meet
   case rel=>exact ⟨none,0,by rw [HN0.out],fun h=>absurd h HZ.out,Below.refl _ _⟩
 case rest=>
  obtain ⟨aw,cw,rfl,hiw,k4⟩:=hcut;have HIW:=hidI hiw;have D4:=hidI k4;have K4:=hidI (K3.out.trans (k4.mono K3.out.size));clear y0 y1 y2 y3 y4 y5 y6 y7 hiw k4;obtain ⟨x0,x1,x2⟩:=ai_ (BX.out wc K4.out).1;obtain ⟨y0,y1,y2,y3,y4,y5,y6,y7⟩:=aa_ (BX.out wc K4.out).2;go_wp2_with fail
  refine (is_ p _ _ _ _ _ _ _ _ _ s _ _ _ _ _ _ _ _ _ q _ (HP.out.keep K4.out) (HS.out.keep K4.out) HN.out.1 HN.out.2).mono ?_;rintro e u5 ⟨v5,ty,rfl,hr,hty,kk⟩;rw [← HE.out] at hr hty ⊢;obtain ⟨z21,z22,z23,t21,e21,t22,e22,t23,e23,i21,i22,i23,i24,i25,rfl⟩:=hr.shape;obtain ⟨w5,hw,lw,hb⟩:=ht_ hr;have D5:=hidI (kk.trans (lw.mono kk.size));have HW5:=hidI hw;have HB5:=hidI hb;have HTY:=hidI (hty.keep lw).out;obtain ⟨B5,hB⟩:∃ B5,B5 = u5.heap.size:=⟨_,rfl⟩
  rw [← hB] at HB5;have HBB5:=hidI hB;obtain ⟨atx,ctx,htx⟩:=HTX.out.shape;obtain ⟨aty,cty,hty2⟩:=HTY.out.shape;clear x0 x1 x2 y0 y1 y2 y3 y4 y5 y6 y7 hr hw lw hb hB kk hty htx hty2;have gE:(E == E) = true:=by simp
  have gF:(E0 == E0) = true:=by simp
  go_upto_region 8 with fail
  rw [← HW5.out,← HBB5.out];go_wp2_with fail
  refine (bC_ _).mono ?_;rintro e w6 ⟨rfl,k6⟩;have K56:=hidI k6;have K46:=hidI (D5.out.trans (k6.mono D5.out.size));have K36:=hidI (D4.out.trans (K46.out.mono D4.out.size));have K26:=hidI (D3.out.trans (K36.out.mono D3.out.size));have K16:=hidI (D2.out.trans (K26.out.mono D2.out.size));have KW6:=hidI (K1.out.trans (K16.out.mono K1.out.size));clear k6;obtain ⟨zs,hzs⟩:∃ zs:List Int,zs = if E0 = 0 then s.ready.map (fun l=>(l.length:Int)) else []:=⟨_,rfl⟩
  have HI1:Hid (cC_ w6 al zs∧cC_ w6 aw zs∧zs.length = nl∧nl≤1000):=by
   show _∧_∧_∧_;by_cases h:E0 = 0
   ·rw [hzs,if_pos h];have h1:=(HLY.out).1 h;have hn:nl = s.ready.length:=by rw [HNL.out,if_pos h]
    rw [← hn] at h1;exact ⟨(el_ h1 (gv_ s.ready)).keep K16.out,(HIW.out h).keep K46.out,by rw [List.length_map,hn],by rw [hn];have:=(be_ (aE_ (HE0.out.symm.trans h))).1;omega⟩
   ·rw [hzs,if_neg h];have hn:nl = 0:=by rw [HNL.out,if_neg h]
    exact ⟨.inl rfl,.inl rfl,by rw [hn];rfl,by omega⟩
  clear hzs;go_wp2_with fail
  refine (h5_ zs _ _ nl _ _ _ HI1.out.2.2.1 HI1.out.2.2.2 HI1.out.1 HI1.out.2.1).mono ?_;rintro e w7 ⟨rfl,k7⟩;have K7:=hidI k7;clear k7;go_wp2_with fail
  refine (mH_ HFEW.out ((HTX.out.keep K26.out).keep K7.out) ((HTY.out.keep K56.out).keep K7.out)).mono ?_;rintro e w8 ⟨rfl,k8⟩;have K68:=hidI (K7.out.trans (k8.mono K7.out.size));have HB2q:=hidI ((HB2.out.keep K26.out).keep K68.out);have HB5q:=hidI ((HB5.out.keep K56.out).keep K68.out);obtain ⟨y0,y1,y2,y3,y4,y5,y6,y7⟩:=aa_ HB2q.out.box;obtain ⟨c0,c1,c2,c3,c4,c5,c6,c7⟩:=aa_ HB5q.out.box;clear k8;go_wp2_with fail
  refine (mI_ HB2q.out.res HB5q.out.res).mono ?_;rintro e w9 ⟨rfl,k9⟩;have K69:=hidI (K68.out.trans (k9.mono K68.out.size));go_wp2_with fail
  go_ret
  exact ⟨rfl,HBW.out.trans ((KW6.out.trans (K69.out.mono KW6.out.size)).mono s0)⟩
end Go.Proofs.YtlbnkpicnokgoaaGreat
