/- The walk of the law RestStates. -/
import Derived.Test.YtlbnkpicnokgoaaGreatUfx
import Derived.Test.YtlbnkpicnokgoaaGreatUux
import Derived.Test.YtlbnkpicnokgoaaGreatCKb
import Derived.Test.YtlbnkpicnokgoaaGreatUxx
namespace Go.Proofs.YtlbnkpicnokgoaaGreat
open Go.RowKit Go.Maps
set_option linter.unusedVariables false
set_option maxRecDepth 100000
set_option maxHeartbeats 8000000
theorem nn_ (w:World) (pv sv av:Array Value):∃ W3,W3 = ((w.alloc (.cells pv 26)).alloc (.cells sv 31)).alloc (.cells av 53)∧Below w.heap.size w W3∧W3.heap.size = w.heap.size+3 ∧
 ∀ W',Below W3.heap.size W3 W'→W'.heap[w.heap.size]? = some (.cells pv 26 (0,0))∧W'.heap[w.heap.size+1]? = some (.cells sv 31 (0,0))∧W'.heap[w.heap.size+2]? = some (.cells av 53 (0,0)):=by
 obtain ⟨hz,hg,hB⟩:=aD_ [.cells pv 26,.cells sv 31,.cells av 53] w;refine ⟨_,rfl,hB,hz,fun W' hW=>⟨pkp_ (hg 0 _ rfl) hW,pkp_ (hg 1 _ rfl) hW,pkp_ (hg 2 _ rfl) hW⟩⟩
theorem e0_ {W:World} {B:Nat} {v0 v1 v2 v3 v4:Value} {t:TypeId} (h:W.heap[B]? = some (.cells #[v0,v1,v2,v3,v4] t (0,0))):W.cell? ⟨B,0,none⟩ = some v0∧W.cell? ⟨B,1,none⟩ = some v1∧W.cell? ⟨B,2,none⟩ = some v2∧W.cell? ⟨B,3,none⟩ = some v3∧W.cell? ⟨B,4,none⟩ = some v4:=
 ⟨coc_ h 0,coc_ h 1,coc_ h 2,coc_ h 3,coc_ h 4⟩
theorem spoils {W0 W:World} {B:Nat} {p:ad_} {s:ab_} {x:ActD} {E:Int} {b1 b2 b3:Option Addr} {m1 d1 m2 d2 m3 d3:Nat} {i1 i2 i3 i4 i5:Int} (hE:E = doE p s x) (h:bn_ W W0.heap.size (.agg #[.slice b1 m1 d1,.slice b2 m2 d2,.slice b3 m3 d3,.int .i64 i1,.int .i64 i2,.int .i64 i3,.int .i64 i4,.int .i64 i5]) E (doS p s x)) (hb:W.heap[B]? = some (.cells #[.slice b1 m1 d1,.slice b2 m2 d2,.slice b3 m3 d3,.int .i64 i1,.int .i64 i2,.int .i64 i3,.int .i64 i4,.int .i64 i5] 31 (0,0))) (hB:Below W0.heap.size W0 W) :
 SpA W0 W B #[.slice b1 m1 d1,.slice b2 m2 d2,.slice b3 m3 d3,.int .i64 i1,.int .i64 i2,.int .i64 i3,.int .i64 i4,.int .i64 i5] b1 b2 b3 m1 m2 m3∧m1≤1000∧m2≤1000∧m3≤1000:=by
 by_cases hz:E = 0
 ·obtain ⟨g1,g2,g3,r1,e1,r2,e2,r3,e3,hv,ho⟩:=h.1 hz;cases hv;have hs:=bM_ (n1_ (hE.symm.trans hz)).right;refine ⟨ho.sp hs.2.1 hb hB,?_,?_,?_⟩
  ·have:=ho.l1;omega
  ·have:=ho.l2;omega
  ·have:=ho.l3;omega
 ·have hv:=h.2 hz;unfold zerS at hv;cases hv;exact ⟨ot_ hb hB,by omega,by omega,by omega⟩
theorem gp_ (p:ad_) (a1 a2 a3:Option Addr) (n1 c1 n2 c2 n3 c3:Nat) (s:ab_) (b1 b2 b3:Option Addr) (m1 d1 m2 d2 m3 d3:Nat) (x:ActD) (w:World) (hp:ap_ w a1 a2 a3 n1 n2 n3 p) (hs:an_ w b1 b2 b3 m1 m2 m3 s) (hn2:b2 = none→d2 = 0) (hn3:b3 = none→d3 = 0) (hc2:m2≤d2) (hm2:d2≤maxLen) :
 Calls Tryz.prog 7 #[.agg #[.slice a1 n1 c1,.slice a2 n2 c2,.slice a3 n3 c3],.agg #[.slice b1 m1 d1,.slice b2 m2 d2,.slice b3 m3 d3,.int .i64 s.nextSeq,.int .i64 s.nextTag,.int .i64 s.came,.int .i64 s.acked,.int .i64 s.dropped],x.val] w fun e w'=>e = .returned (.bool true)∧Below w.heap.size w w':=by
 obtain ⟨kd,ka,kb,ky,bd⟩:=x;show Calls Tryz.prog 7 #[.agg #[.slice a1 n1 c1,.slice a2 n2 c2,.slice a3 n3 c3],.agg #[.slice b1 m1 d1,.slice b2 m2 d2,.slice b3 m3 d3,.int .i64 s.nextSeq,.int .i64 s.nextTag,.int .i64 s.came,.int .i64 s.acked,.int .i64 s.dropped],.agg #[.int .i64 kd,.int .i64 ka,.int .i64 kb,.string ky,.string bd]] w _;obtain ⟨W2,hW2,hBw,hs2,hbx⟩:=nn_ w #[.slice a1 n1 c1,.slice a2 n2 c2,.slice a3 n3 c3] #[.slice b1 m1 d1,.slice b2 m2 d2,.slice b3 m3 d3,.int .i64 s.nextSeq,.int .i64 s.nextTag,.int .i64 s.came,.int .i64 s.acked,.int .i64 s.dropped] #[.int .i64 kd,.int .i64 ka,.int .i64 kb,.string ky,.string bd];have HW2:=hidI hW2;have BX:=hidI hbx;have HS:=hidI (hs.keep hBw);have HP:=hidI (hp.keep hBw);have HN2:=hidI hn2;have HN3:=hidI hn3;have s0:=hBw.size;have HBW:=hidI hBw;have HC2:=hidI hc2;have HCM:=hidI hm2;clear hc2 hm2;obtain ⟨E,hE⟩:∃ E,E = doE p s ⟨kd,ka,kb,ky,bd⟩:=⟨_,rfl⟩
 have HE:=hidI hE;obtain ⟨E0,hE0⟩:∃ E0,E0 = stE p s:=⟨_,rfl⟩
 have HE0:=hidI hE0;obtain ⟨x0,x1,x2⟩:=ag_ (hbx W2 (Below.refl _ _)).1;obtain ⟨y0,y1,y2,y3,y4,y5,y6,y7⟩:=aa_ (hbx W2 (Below.refl _ _)).2.1;clear hW2 hbx hs2 hp hs hBw hn2 hn3 hE hE0;go_enter Tryz.func7,Tryz.ntmps7;go_wp2_with fail
 rw [← HW2.out];refine (bl_ p _ _ _ _ _ _ _ _ _ s _ _ _ _ _ _ _ _ _ _ HP.out HS.out).mono ?_;rintro e w1 ⟨rfl,k1⟩;rw [← HE0.out];have K1:=hidI k1;clear x0 x1 x2 y0 y1 y2 y3 y4 y5 y6 y7 k1;by_cases hz:E0 = 0
 rotate_left
 ·have hz':(E0 != 0) = true:=bne_iff_ne.2 hz;clear hz;go_wp2_with fail
  refine (fr_ _).mono ?_;rintro e w7 ⟨rfl,k7⟩;go_wp2_with fail
  go_ret
  exact ⟨rfl,HBW.out.trans ((K1.out.trans (k7.mono K1.out.size)).mono s0)⟩
 have HR:=hidI (aK_ (HE0.out.symm.trans hz));subst hz;obtain ⟨q1,q2,q3,q4⟩:=HS.out.small HR.out;obtain ⟨y0,y1,y2,y3,y4,y5,y6,y7⟩:=aa_ (BX.out w1 K1.out).2.1;go_wp2_with fail
 refine (b4_ s _ _ _ _ _ _ _ _ _ _ (HS.out.keep K1.out) HN2.out HN3.out q1 q2 q3 q4).mono ?_;rintro e v2 ⟨u2,rfl,hv2,k2⟩;obtain ⟨o1,o2,o3,r1,f1,r2,f2,r3,f3,rfl,ho2⟩:=hv2;have hr1:r1 = m1:=ho2.l1.symm.trans HS.out.l1;have hr2:r2 = m2:=ho2.l2.symm.trans HS.out.l2;have hr3:r3 = m3:=ho2.l3.symm.trans HS.out.l3;subst hr1 hr2 hr3;obtain ⟨w2,hw2⟩:∃ w2,w2 = v2.alloc (.cells #[.slice o1 r1 f1,.slice o2 r2 f2,.slice o3 r3 f3,.int .i64 s.nextSeq,.int .i64 s.nextTag,.int .i64 s.came,.int .i64 s.acked,.int .i64 s.dropped] 31):=⟨_,rfl⟩
 have l2:Below v2.heap.size v2 w2:=by rw [hw2];exact (Below.refl _ _).alloc (Nat.le_refl _) _
 have b2':w2.heap[v2.heap.size]? = some (.cells #[.slice o1 r1 f1,.slice o2 r2 f2,.slice o3 r3 f3,.int .i64 s.nextSeq,.int .i64 s.nextTag,.int .i64 s.came,.int .i64 s.acked,.int .i64 s.dropped] 31 (0,0)):=by rw [hw2];exact World.alloc_heap_new v2 _
 obtain ⟨B7,hB7⟩:∃ B7,B7 = v2.heap.size:=⟨_,rfl⟩
 have HB7E:=hidI hB7;rw [← hB7] at b2';have HW7:=hidI hw2;have HB7:=hidI b2';have HSW:=hidI (ho2.keep l2).state;have K2:=hidI (K1.out.trans ((k2.trans (l2.mono k2.size)).mono K1.out.size));clear y0 y1 y2 y3 y4 y5 y6 y7 ho2 k2 l2 b2' hw2 hB7 q1 q2 q3 q4;obtain ⟨x0,x1,x2⟩:=ag_ (BX.out w2 K2.out).1;obtain ⟨y0,y1,y2,y3,y4,y5,y6,y7⟩:=aa_ (BX.out w2 K2.out).2.1;obtain ⟨c0,c1,c2,c3,c4⟩:=e0_ (BX.out w2 K2.out).2.2;go_upto_region 4 with fail
 rw [← HW7.out,← HB7E.out];go_wp2_with fail
 refine (jG_ p _ _ _ _ _ _ _ _ _ s _ _ _ _ _ _ _ _ _ ⟨kd,ka,kb,ky,bd⟩ _ (HP.out.keep K2.out) (HS.out.keep K2.out) HN2.out HN3.out).mono ?_;rintro e u1 ⟨v1,rfl,hr,kk⟩;rw [← HE.out] at hr ⊢;obtain ⟨z1,z2,z3,t1,e1,t2,e2,t3,e3,i1,i2,i3,i4,i5,rfl⟩:=hr.shape;obtain ⟨w3,hw,lw,hb⟩:=fR_ hr;obtain ⟨B8,hB⟩:∃ B8,B8 = u1.heap.size:=⟨_,rfl⟩
 rw [← hB] at hb;have HSP:=hidI (spoils HE.out hb.res hb.box (kk.trans (lw.mono kk.size)));have HW3:=hidI hw;have HBB3:=hidI hB;clear x0 x1 x2 y0 y1 y2 y3 y4 y5 y6 y7 c0 c1 c2 c3 c4 hr hw lw hb hB kk;go_upto_region 5 with fail
 rw [← HW3.out,← HBB3.out];obtain ⟨hsp,l1',l2',l3'⟩:=HSP.out;have HS0:=hidI hsp;clear hsp HSP;go_wp2_with fail
 go_loopw [10] (fun i wr=>∃ q:Nat,q≤t1∧i = .int .i64 q∧SpA w2 wr B8 #[.slice z1 t1 e1,.slice z2 t2 e2,.slice z3 t3 e3,.int .i64 i1,.int .i64 i2,.int .i64 i3,.int .i64 i4,.int .i64 i5] z1 z2 z3 t1 t2 t3) (fun i _=>t1 - (intOf i).toNat)
 case atStart=>exact ⟨0,Nat.zero_le _,rfl,HS0.out⟩
 case round=>
  obtain ⟨q,hq,rfl,hsp⟩:=hrel;have HSP:=hidI hsp;obtain ⟨y0,y1,y2,y3,y4,y5,y6,y7⟩:=aa_ hsp.box;clear hsp y1 y2 y3 y4 y5 y6 y7;by_cases hlt:q < t1
  ·obtain ⟨g,cur,bl,L,cl,hg1,hgh,hcq,hL,hwl⟩:=HSP.out.line hlt;subst hg1;have HLT:=hidI hlt;have HGH:=hidI hgh;have HCQ:=hidI hcq;have hgq:wr.cell? ⟨g,q,none⟩ = some (.slice bl L cl):=(coc_ hgh q).trans hcq;have j1:(0:Int)≤(q:Int):=by omega
   have j2:(q:Int) < t1:=by omega
   clear hgh hcq hgq hwl;go_wp2_with fail
   go_loopw [11] (fun i wk=>∃ k:Nat,k≤L∧i = .int .i64 k∧SpA w2 wk B8 #[.slice (some ⟨g,0,none⟩) t1 e1,.slice z2 t2 e2,.slice z3 t3 e3,.int .i64 i1,.int .i64 i2,.int .i64 i3,.int .i64 i4,.int .i64 i5] (some ⟨g,0,none⟩) z2 z3 t1 t2 t3∧wk.heap[g]? = some (.cells cur 46 (0,0))) (fun i _=>L - (intOf i).toNat)
   case atStart=>exact ⟨0,Nat.zero_le _,rfl,HSP.out,HGH.out⟩
   case round=>
    obtain ⟨k,hk,rfl,hsk,hgk⟩:=hrel;have HSK:=hidI hsk;have HGK:=hidI hgk;obtain ⟨y0,y1,y2,y3,y4,y5,y6,y7⟩:=aa_ hsk.box;have hgq:=(coc_ hgk q).trans HCQ.out;have hgl:=lth_ hgk;have fq:=foc_ hgk q;have hbl':=lth_ hsk.box;clear y1 y2 y3 y4 y5 y6 y7;by_cases hkl:k < L
    ·obtain ⟨g',cur',bl',L',cl',hg1',hgh',hcq',hL',hwl'⟩:=hsk.line HLT.out;cases hg1';rw [hgk] at hgh';cases hgh';rw [HCQ.out] at hcq';cases hcq';rcases hwl' with h0 | ⟨gl,ol,hbl,hblk⟩
     ·omega
     subst hbl;obtain ⟨⟨a0,d0⟩,f0⟩:=hblk.cell (i:=ol+k * 5) (by omega);obtain ⟨⟨a1',d1'⟩,f1'⟩:=hblk.cell (i:=ol+k * 5+1) (by omega);obtain ⟨⟨a2',d2'⟩,f2'⟩:=hblk.cell (i:=ol+k * 5+2) (by omega);obtain ⟨⟨a3',d3'⟩,f3'⟩:=hblk.cell (i:=ol+k * 5+3) (by omega);obtain ⟨⟨a4',d4'⟩,f4'⟩:=hblk.cell (i:=ol+k * 5+4) (by omega);have HBK:Hid (SpK w2 wr B8 _ (some ⟨g,0,none⟩) z2 z3 t1 t2 t3 gl 48 g (some (.cells cur 46 (0,0)))):=⟨hsk,hblk.any,hblk.ne hgk (by decide),hgk⟩;have k1':(0:Int)≤(k:Int):=by omega
     have k2':(k:Int) < L:=by omega
     have HKL:=hidI hkl;clear hsk hgk hblk;go_wp2_with fail
     go_roundw
     case rel=>
      have hf:=((((HBK.out.set (i:=ol+k * 5) (x:=.int .i64 0) (by decide)).set (i:=ol+k * 5+1) (x:=.string ⟨#[]⟩) (by decide)).set (i:=ol+k * 5+2) (x:=.string ⟨#[]⟩) (by decide)).set (i:=ol+k * 5+3) (x:=.bool false) (by decide)).set (i:=ol+k * 5+4) (x:=.int .i64 0) (by decide);exact ⟨k+1,HKL.out,by have:=HKL.out;go_num,hf.a,hf.k⟩
     case measure=>have:=HKL.out;simp [intOf];omega
    ·have hkq:k = L:=by omega
     subst hkq;clear hkl hk;go_wp2_with fail
     go_roundw
     case rel=>exact ⟨q+1,HLT.out,by have:=HLT.out;go_num,HSK.out.nil HLT.out⟩
     case measure=>have:=HLT.out;simp [intOf];omega
  ·have hqe:q = t1:=by omega
   subst hqe;clear hlt hq;go_wp2_with fail
   go_loopw [12] (fun i wr=>∃ k:Nat,k≤t2∧i = .int .i64 k∧SpA w2 wr B8 #[.slice z1 q e1,.slice z2 t2 e2,.slice z3 t3 e3,.int .i64 i1,.int .i64 i2,.int .i64 i3,.int .i64 i4,.int .i64 i5] z1 z2 z3 q t2 t3) (fun i _=>t2 - (intOf i).toNat)
   case atStart=>exact ⟨0,Nat.zero_le _,rfl,HSP.out⟩
   case round=>
    obtain ⟨k,hk,rfl,hsk⟩:=hrel;have HSK:=hidI hsk;clear y0;obtain ⟨y0,y1,y2,y3,y4,y5,y6,y7⟩:=aa_ hsk.box;have hbl':=lth_ hsk.box;clear y0 y2 y3 y4 y5 y6 y7;by_cases hkl:k < t2
    ·rcases hsk.ou with h0 | ⟨gl,hbl,hblk⟩
     ·omega
     subst hbl;obtain ⟨⟨a0c,d0c⟩,f0c⟩:=hblk.cell (i:=k * 8) (by omega);obtain ⟨⟨a1c,d1c⟩,f1c⟩:=hblk.cell (i:=k * 8+1) (by omega);obtain ⟨⟨a2c,d2c⟩,f2c⟩:=hblk.cell (i:=k * 8+2) (by omega);obtain ⟨⟨a3c,d3c⟩,f3c⟩:=hblk.cell (i:=k * 8+3) (by omega);obtain ⟨⟨a4c,d4c⟩,f4c⟩:=hblk.cell (i:=k * 8+4) (by omega);obtain ⟨⟨a5c,d5c⟩,f5c⟩:=hblk.cell (i:=k * 8+5) (by omega);obtain ⟨⟨a6c,d6c⟩,f6c⟩:=hblk.cell (i:=k * 8+6) (by omega);obtain ⟨⟨a7c,d7c⟩,f7c⟩:=hblk.cell (i:=k * 8+7) (by omega);have HBK:Hid (SpK w2 wr B8 _ z1 (some ⟨gl,0,none⟩) z3 q t2 t3 gl 67 wr.heap.size none):=⟨hsk,hblk.any,by have:=lth_ hblk.2.choose_spec.1;omega,by simp⟩;have k1':(0:Int)≤(k:Int):=by omega
     have k2':(k:Int) < t2:=by omega
     have HKL:=hidI hkl;clear hsk hblk;go_wp2_with fail
     go_roundw
     case rel=>
      have hf:=((((((((HBK.out.set (i:=k * 8) (x:=.int .i64 0) (by decide)).set (i:=k * 8+1) (x:=.int .i64 0) (by decide)).set (i:=k * 8+2) (x:=.int .i64 0) (by decide)).set (i:=k * 8+3) (x:=.int .i64 0) (by decide)).set (i:=k * 8+4) (x:=.string ⟨#[]⟩) (by decide)).set (i:=k * 8+5) (x:=.string ⟨#[]⟩) (by decide)).set (i:=k * 8+6) (x:=.bool false) (by decide)).set (i:=k * 8+7) (x:=.int .i64 0) (by decide));exact ⟨k+1,HKL.out,by have:=HKL.out;go_num,hf.a⟩
     case measure=>have:=HKL.out;simp [intOf];omega
    ·have hke:k = t2:=by omega
     subst hke;clear hkl hk;go_wp2_with fail
     go_loopw [13] (fun i wr=>∃ n:Nat,n≤t3∧i = .int .i64 n∧SpA w2 wr B8 #[.slice z1 q e1,.slice z2 k e2,.slice z3 t3 e3,.int .i64 i1,.int .i64 i2,.int .i64 i3,.int .i64 i4,.int .i64 i5] z1 z2 z3 q k t3) (fun i _=>t3 - (intOf i).toNat)
     case atStart=>exact ⟨0,Nat.zero_le _,rfl,HSK.out⟩
     case round=>
      obtain ⟨n,hn,rfl,hsn⟩:=hrel;have HSN:=hidI hsn;clear y1;obtain ⟨y0,y1,y2,y3,y4,y5,y6,y7⟩:=aa_ hsn.box;have hbn:=lth_ hsn.box;clear y0 y1 y3 y4 y5 y6 y7;by_cases hnl:n < t3
      ·rcases hsn.tk with h0 | ⟨gl,hbl,hblk⟩
       ·omega
       subst hbl;obtain ⟨⟨a0c,d0c⟩,f0c⟩:=hblk.cell (i:=n * 2) (by omega);obtain ⟨⟨a1c,d1c⟩,f1c⟩:=hblk.cell (i:=n * 2+1) (by omega);have HBK:Hid (SpK w2 wr B8 _ z1 z2 (some ⟨gl,0,none⟩) q k t3 gl 69 wr.heap.size none):=⟨hsn,hblk.any,by have:=lth_ hblk.2.choose_spec.1;omega,by simp⟩;have k1':(0:Int)≤(n:Int):=by omega
       have k2':(n:Int) < t3:=by omega
       have HKL:=hidI hnl;clear hsn hblk;go_wp2_with fail
       go_roundw
       case rel=>
        have hf:=((HBK.out.set (i:=n * 2) (x:=.int .i64 0) (by decide)).set (i:=n * 2+1) (x:=.int .i64 0) (by decide));exact ⟨n+1,HKL.out,by have:=HKL.out;go_num,hf.a⟩
       case measure=>have:=HKL.out;simp [intOf];omega
      ·have hne:n = t3:=by omega
       subst hne;have yb:=y2;clear hnl hn y2;have DB:=hidI HSN.out.bel;have K4:=hidI (K2.out.trans (HSN.out.bel.mono K2.out.size));obtain ⟨x0,x1,x2⟩:=ag_ (BX.out wr K4.out).1;obtain ⟨y0,y1,y2,y3,y4,y5,y6,y7⟩:=aa_ (BX.out wr K4.out).2.1;obtain ⟨c0,c1,c2,c3,c4⟩:=e0_ (BX.out wr K4.out).2.2;clear hsn;go_upto_region 21 with fail
       clear yb;go_wp2_with fail
       refine (jG_ p _ _ _ _ _ _ _ _ _ s _ _ _ _ _ _ _ _ _ ⟨kd,ka,kb,ky,bd⟩ _ (HP.out.keep K4.out) (HS.out.keep K4.out) HN2.out HN3.out).mono ?_;rintro e u5 ⟨v5,rfl,hr,kk⟩;rw [← HE.out] at hr ⊢;obtain ⟨z51,z52,z53,t51,e51,t52,e52,t53,e53,i51,i52,i53,i54,i55,rfl⟩:=hr.shape;obtain ⟨w5,hw,lw,hb⟩:=fR_ hr;have D5:=hidI (kk.trans (lw.mono kk.size));have K5:=hidI (K4.out.trans (D5.out.mono K4.out.size));have HW5:=hidI hw;have HB5:=hidI hb;obtain ⟨B5,hB⟩:∃ B5,B5 = u5.heap.size:=⟨_,rfl⟩
       rw [← hB] at HB5;have HBB5:=hidI hB;clear x0 x1 x2 y0 y1 y2 y3 y4 y5 y6 y7 c0 c1 c2 c3 c4 hr hw lw hb hB kk;obtain ⟨x0,x1,x2⟩:=ag_ (BX.out w5 K5.out).1;obtain ⟨y0,y1,y2,y3,y4,y5,y6,y7⟩:=aa_ (BX.out w5 K5.out).2.1;obtain ⟨c0,c1,c2,c3,c4⟩:=e0_ (BX.out w5 K5.out).2.2;go_upto_region 22 with fail
       rw [← HW5.out,← HBB5.out];go_wp2_with fail
       refine (m1_ p _ _ _ _ _ _ _ _ _ s _ _ _ _ _ _ _ _ _ ⟨kd,ka,kb,ky,bd⟩ _ (HP.out.keep K5.out) (HS.out.keep K5.out) HN2.out HN3.out HC2.out HCM.out).mono ?_;rintro e u6 ⟨v6,rfl,hr,kk⟩;rw [← HE.out] at hr ⊢;obtain ⟨z61,z62,z63,t61,e61,t62,e62,t63,e63,i61,i62,i63,i64,i65,rfl⟩:=hr.shape;obtain ⟨w6,hw,lw,hb⟩:=fR_ hr;have D6:=hidI (kk.trans (lw.mono kk.size));have K6:=hidI (K5.out.trans (D6.out.mono K5.out.size));have HW6:=hidI hw;have HB6:=hidI hb;obtain ⟨B6,hB⟩:∃ B6,B6 = u6.heap.size:=⟨_,rfl⟩
       rw [← hB] at HB6;have HBB6:=hidI hB;clear x0 x1 x2 y0 y1 y2 y3 y4 y5 y6 y7 c0 c1 c2 c3 c4 hr hw lw hb hB kk;have gE:(E == E) = true:=by simp
       go_upto_region 23 with fail
       rw [← HW6.out,← HBB6.out];go_wp2_with fail
       refine (fr_ _).mono ?_;rintro e w7 ⟨rfl,k7⟩;have Q6:=hidI k7;have Q5:Hid (Below w5.heap.size w5 w7):=D6.out.trans (k7.mono D6.out.size);have K7:=hidI (K6.out.trans (k7.mono K6.out.size));have Q4:Hid (Below wr.heap.size wr w7):=D5.out.trans (Q5.out.mono D5.out.size);have Q2:Hid (Below w2.heap.size w2 w7):=DB.out.trans (Q4.out.mono DB.out.size);obtain ⟨y0,y1,y2,y3,y4,y5,y6,y7⟩:=aa_ (BX.out w7 K7.out).2.1;obtain ⟨c0,c1,c2,c3,c4,c5,c6,c7⟩:=aa_ (pkp_ HB7.out Q2.out);clear k7;go_wp2_with fail
       refine (ew_ s _ _ _ _ _ _ _ _ _ _ _ _ _ _ _ _ (HS.out.keep K7.out) (HSW.out.keep Q2.out)).mono ?_;rintro e w8 ⟨rfl,k8⟩;have K8:=hidI k8;have HB5q:=hidI ((HB5.out.keep Q5.out).keep k8);have HB6q:=hidI ((HB6.out.keep Q6.out).keep k8);clear y0 y1 y2 y3 y4 y5 y6 y7 c0 c1 c2 c3 c4 c5 c6 c7 k8;obtain ⟨y0,y1,y2,y3,y4,y5,y6,y7⟩:=aa_ HB5q.out.box;obtain ⟨c0,c1,c2,c3,c4,c5,c6,c7⟩:=aa_ HB6q.out.box;go_wp2_with fail
       refine (nw_ HB5q.out.res HB6q.out.res).mono ?_;rintro e w9 ⟨rfl,k9⟩;have K9:=hidI (K7.out.trans ((K8.out.trans (k9.mono K8.out.size)).mono K7.out.size));go_wp2_with fail
       go_ret
       exact ⟨rfl,HBW.out.trans (K9.out.mono s0)⟩
end Go.Proofs.YtlbnkpicnokgoaaGreat
