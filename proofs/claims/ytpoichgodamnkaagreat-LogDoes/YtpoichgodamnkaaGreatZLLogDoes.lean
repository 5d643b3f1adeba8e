/- The walk of the law LogDoes. -/
import Derived.Test.YtpoichgodamnkaaGreatOux
import Derived.Test.YtpoichgodamnkaaGreatWKb
import Derived.Test.YtpoichgodamnkaaGreatOxx
namespace Go.Proofs.YtpoichgodamnkaaGreat
open Go.RowKit Go.Maps
set_option linter.unusedVariables false
set_option maxRecDepth 100000
set_option maxHeartbeats 8000000
theorem l6_ (w:World) (pv sv av:Array Value):∃ W3,W3 = ((w.alloc (.cells pv 26)).alloc (.cells sv 31)).alloc (.cells av 72)∧Below w.heap.size w W3∧W3.heap.size = w.heap.size+3 ∧
 ∀ W',Below W3.heap.size W3 W'→W'.heap[w.heap.size]? = some (.cells pv 26 (0,0))∧W'.heap[w.heap.size+1]? = some (.cells sv 31 (0,0))∧W'.heap[w.heap.size+2]? = some (.cells av 72 (0,0)):=by
 obtain ⟨hz,hg,hB⟩:=aB_ [.cells pv 26,.cells sv 31,.cells av 72] w;refine ⟨_,rfl,hB,hz,fun W' hW=>⟨pkp_ (hg 0 _ rfl) hW,pkp_ (hg 1 _ rfl) hW,pkp_ (hg 2 _ rfl) hW⟩⟩
theorem fQ_ {W:World} {B:Nat} {v0 v1 v2 v3 v4:Value} {t:TypeId} (h:W.heap[B]? = some (.cells #[v0,v1,v2,v3,v4] t (0,0))):W.cell? ⟨B,0,none⟩ = some v0∧W.cell? ⟨B,1,none⟩ = some v1∧W.cell? ⟨B,2,none⟩ = some v2∧W.cell? ⟨B,3,none⟩ = some v3∧W.cell? ⟨B,4,none⟩ = some v4:=
 ⟨coc_ h 0,coc_ h 1,coc_ h 2,coc_ h 3,coc_ h 4⟩
theorem iH_ (p:ae_) (a1 a2 a3:Option Addr) (n1 c1 n2 c2 n3 c3:Nat) (s:ab_) (b1 b2 b3:Option Addr) (m1 d1 m2 d2 m3 d3:Nat) (x:ActD) (w:World) (hp:an_ w a1 a2 a3 n1 n2 n3 p) (hs:am_ w b1 b2 b3 m1 m2 m3 s) (hn2:b2 = none→d2 = 0) (hn3:b3 = none→d3 = 0) (hc2:m2≤d2) (hm2:d2≤maxLen) :
 Calls Tryz.prog 14 #[.agg #[.slice a1 n1 c1,.slice a2 n2 c2,.slice a3 n3 c3],.agg #[.slice b1 m1 d1,.slice b2 m2 d2,.slice b3 m3 d3,.int .i64 s.nextSeq,.int .i64 s.nextTag,.int .i64 s.came,.int .i64 s.acked,.int .i64 s.dropped],x.val] w fun e w'=>e = .returned (.bool true)∧Below w.heap.size w w':=by
 obtain ⟨kd,ka,kb,ky,bd⟩:=x;show Calls Tryz.prog 14 #[.agg #[.slice a1 n1 c1,.slice a2 n2 c2,.slice a3 n3 c3],.agg #[.slice b1 m1 d1,.slice b2 m2 d2,.slice b3 m3 d3,.int .i64 s.nextSeq,.int .i64 s.nextTag,.int .i64 s.came,.int .i64 s.acked,.int .i64 s.dropped],.agg #[.int .i64 kd,.int .i64 ka,.int .i64 kb,.string ky,.string bd]] w _;obtain ⟨W2,hW2,hBw,hs2,hbx⟩:=l6_ w #[.slice a1 n1 c1,.slice a2 n2 c2,.slice a3 n3 c3] #[.slice b1 m1 d1,.slice b2 m2 d2,.slice b3 m3 d3,.int .i64 s.nextSeq,.int .i64 s.nextTag,.int .i64 s.came,.int .i64 s.acked,.int .i64 s.dropped] #[.int .i64 kd,.int .i64 ka,.int .i64 kb,.string ky,.string bd];have HW2:=hidI hW2;have BX:=hidI hbx;have HS:=hidI (hs.keep hBw);have HP:=hidI (hp.keep hBw);have HN2:=hidI hn2;have HN3:=hidI hn3;have s0:=hBw.size;have HBW:=hidI hBw;have HC2:=hidI hc2;have HCM:=hidI hm2;clear hc2 hm2;obtain ⟨E,hE⟩:∃ E,E = doE p s ⟨kd,ka,kb,ky,bd⟩:=⟨_,rfl⟩
 have HE:=hidI hE;have K0:Hid (Below W2.heap.size W2 W2):=Below.refl _ _;obtain ⟨x0,x1,x2⟩:=ag_ (hbx W2 (Below.refl _ _)).1;obtain ⟨y0,y1,y2,y3,y4,y5,y6,y7⟩:=aa_ (hbx W2 (Below.refl _ _)).2.1;obtain ⟨c0,c1,c2,c3,c4⟩:=fQ_ (hbx W2 (Below.refl _ _)).2.2;clear hW2 hbx hs2 hp hs hBw hn2 hn3 hE;go_enter Tryz.func14,Tryz.ntmps14;go_wp2_with fail
 rw [← HW2.out];refine (lo_ p _ _ _ _ _ _ _ _ _ s _ _ _ _ _ _ _ _ _ ⟨kd,ka,kb,ky,bd⟩ _ (HP.out.keep K0.out) (HS.out.keep K0.out) HN2.out HN3.out).mono ?_;rintro e u1 ⟨v1,rfl,hr,kk⟩;rw [← HE.out] at hr ⊢;obtain ⟨z11,z12,z13,t11,e11,t12,e12,t13,e13,i11,i12,i13,i14,i15,rfl⟩:=hr.shape;obtain ⟨w1,hw,lw,hb⟩:=hS_ hr;have D1:=hidI (kk.trans (lw.mono kk.size));have K1:=hidI (K0.out.trans (D1.out.mono K0.out.size));have HW1:=hidI hw;have HB1:=hidI hb;obtain ⟨B1,hB⟩:∃ B1,B1 = u1.heap.size:=⟨_,rfl⟩
 rw [← hB] at HB1;have HBB1:=hidI hB;clear x0 x1 x2 y0 y1 y2 y3 y4 y5 y6 y7 c0 c1 c2 c3 c4 hr hw lw hb hB kk;obtain ⟨x0,x1,x2⟩:=ag_ (BX.out w1 K1.out).1;obtain ⟨y0,y1,y2,y3,y4,y5,y6,y7⟩:=aa_ (BX.out w1 K1.out).2.1;obtain ⟨c0,c1,c2,c3,c4⟩:=fQ_ (BX.out w1 K1.out).2.2;go_upto_region 2 with fail
 rw [← HW1.out,← HBB1.out];go_wp2_with fail
 refine (hm_ p _ _ _ _ _ _ _ _ _ s _ _ _ _ _ _ _ _ _ ⟨kd,ka,kb,ky,bd⟩ _ (HP.out.keep K1.out) (HS.out.keep K1.out) HN2.out HN3.out HC2.out HCM.out).mono ?_;rintro e u2 ⟨v2,rfl,hr,kk⟩;rw [← HE.out] at hr ⊢;obtain ⟨z21,z22,z23,t21,e21,t22,e22,t23,e23,i21,i22,i23,i24,i25,rfl⟩:=hr.shape;obtain ⟨w2,hw,lw,hb⟩:=hS_ hr;have D2:=hidI (kk.trans (lw.mono kk.size));have K2:=hidI (K1.out.trans (D2.out.mono K1.out.size));have HW2:=hidI hw;have HB2:=hidI hb;obtain ⟨B2,hB⟩:∃ B2,B2 = u2.heap.size:=⟨_,rfl⟩
 rw [← hB] at HB2;have HBB2:=hidI hB;clear x0 x1 x2 y0 y1 y2 y3 y4 y5 y6 y7 c0 c1 c2 c3 c4 hr hw lw hb hB kk;obtain ⟨x0,x1,x2⟩:=ag_ (BX.out w2 K2.out).1;obtain ⟨y0,y1,y2,y3,y4,y5,y6,y7⟩:=aa_ (BX.out w2 K2.out).2.1;obtain ⟨c0,c1,c2,c3,c4⟩:=fQ_ (BX.out w2 K2.out).2.2;have gE:(E == E) = true:=by simp
 go_upto_region 3 with fail
 rw [← HW2.out,← HBB2.out];go_wp2_with fail
 refine (c7_ _).mono ?_;rintro e q0 ⟨rfl,kq⟩;have Q2:=hidI kq;have KQ:=hidI (K2.out.trans (kq.mono K2.out.size));clear x0 x1 x2 y0 y1 y2 y3 y4 y5 y6 y7 c0 c1 c2 c3 c4 kq;have Q1:Hid (Below w1.heap.size w1 q0):=D2.out.trans (Q2.out.mono D2.out.size);have HB1q:=hidI (HB1.out.keep Q1.out);have HB2q:=hidI (HB2.out.keep Q2.out);obtain ⟨x0,x1,x2,x3,x4,x5,x6,x7⟩:=aa_ HB1q.out.box;obtain ⟨y0,y1,y2,y3,y4,y5,y6,y7⟩:=aa_ HB2q.out.box;have SR:=hidI (nq_ HB1q.out.res HB2q.out.res);go_wp2_with fail
 refine SR.out.mono ?_;rintro e q1 ⟨rfl,kq⟩;have KQ1:=hidI (KQ.out.trans (kq.mono KQ.out.size));clear x0 x1 x2 x3 x4 x5 x6 x7 y0 y1 y2 y3 y4 y5 y6 y7 kq SR;go_wp2_with fail
 go_ret
 exact ⟨rfl,HBW.out.trans (KQ1.out.mono s0)⟩
end Go.Proofs.YtpoichgodamnkaaGreat
