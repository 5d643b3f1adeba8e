/- The walk of the law BookKept. -/
import Derived.OpenShut
import Derived.Deep.QuietTactic
import Derived.BigQuiet
import Derived.Test.YtlbnkpicnokgoaaGreatBDf
import Derived.Test.YtlbnkpicnokgoaaGreatSpx
namespace Go.Proofs.YtlbnkpicnokgoaaGreat
open Go.RowKit Go.Maps
set_option linter.unusedVariables false
set_option maxRecDepth 100000
set_option maxHeartbeats 8000000
theorem mA_ (w:World) (pv sv av:Array Value):∃ W3,W3 = ((w.alloc (.cells pv 26)).alloc (.cells sv 31)).alloc (.cells av 53)∧Below w.heap.size w W3∧W3.heap.size = w.heap.size+3 ∧
 ∀ W',Below W3.heap.size W3 W'→W'.heap[w.heap.size]? = some (.cells pv 26 (0,0))∧W'.heap[w.heap.size+1]? = some (.cells sv 31 (0,0))∧W'.heap[w.heap.size+2]? = some (.cells av 53 (0,0)):=by
 obtain ⟨hz,hg,hB⟩:=av_ [.cells pv 26,.cells sv 31,.cells av 53] w;refine ⟨_,rfl,hB,hz,fun W' hW=>⟨pkp_ (hg 0 _ rfl) hW,pkp_ (hg 1 _ rfl) hW,pkp_ (hg 2 _ rfl) hW⟩⟩
theorem jy_ {W:World} {B:Nat} {v0 v1 v2 v3 v4:Value} {t:TypeId} (h:W.heap[B]? = some (.cells #[v0,v1,v2,v3,v4] t (0,0))):W.cell? ⟨B,0,none⟩ = some v0∧W.cell? ⟨B,1,none⟩ = some v1∧W.cell? ⟨B,2,none⟩ = some v2∧W.cell? ⟨B,3,none⟩ = some v3∧W.cell? ⟨B,4,none⟩ = some v4:=
 ⟨coc_ h 0,coc_ h 1,coc_ h 2,coc_ h 3,coc_ h 4⟩
theorem k6_ (xss:List (List ae_)):lenC xss = (xss.map (fun l=>(l.length:Int))).map (.int .i64):=by unfold lenC;rw [List.map_map];rfl
theorem ma_.cell {W:World} {n:Nat} {a:Option Addr} {m c:Nat} {xss:List (List ae_)} (h:W.ownsRow n 3 1 (.slice a m c) m (lenC xss)) {k:Nat} (hk:k < xss.length):∃ g,a = some ⟨g,0,none⟩∧g < W.heap.size∧W.cell? ⟨g,k,none⟩ = some (.int .i64 ((xss[k]'hk).length:Nat)):=by
 rcases el_ h (k6_ xss) with h0 | ⟨g,ha,hg,h1⟩
 ·have:=congrArg List.length h0;simp at this;rw [this] at hk;simp at hk
 ·refine ⟨g,ha,hg,?_⟩;have:=h1 k (by simpa using hk);simpa using this
theorem hj_ (p:ad_) (a1 a2 a3:Option Addr) (n1 c1 n2 c2 n3 c3:Nat) (s:ab_) (b1 b2 b3:Option Addr) (m1 d1 m2 d2 m3 d3:Nat) (x:ActD) (w:World) (hp:ap_ w a1 a2 a3 n1 n2 n3 p) (hs:al_ w b1 b2 b3 m1 m2 m3 s) (hn2:b2 = none→d2 = 0) (hn3:b3 = none→d3 = 0) :
 Calls Tryz.prog 5 #[.agg #[.slice a1 n1 c1,.slice a2 n2 c2,.slice a3 n3 c3],.agg #[.slice b1 m1 d1,.slice b2 m2 d2,.slice b3 m3 d3,.int .i64 s.nextSeq,.int .i64 s.nextTag,.int .i64 s.came,.int .i64 s.acked,.int .i64 s.dropped],x.val] w fun e w'=>e = .returned (.bool true)∧Below w.heap.size w w':=by
 obtain ⟨kd,ka,kb,ky,bd⟩:=x;show Calls Tryz.prog 5 #[.agg #[.slice a1 n1 c1,.slice a2 n2 c2,.slice a3 n3 c3],.agg #[.slice b1 m1 d1,.slice b2 m2 d2,.slice b3 m3 d3,.int .i64 s.nextSeq,.int .i64 s.nextTag,.int .i64 s.came,.int .i64 s.acked,.int .i64 s.dropped],.agg #[.int .i64 kd,.int .i64 ka,.int .i64 kb,.string ky,.string bd]] w _;obtain ⟨W2,hW2,hBw,hs2,hbx⟩:=mA_ w #[.slice a1 n1 c1,.slice a2 n2 c2,.slice a3 n3 c3] #[.slice b1 m1 d1,.slice b2 m2 d2,.slice b3 m3 d3,.int .i64 s.nextSeq,.int .i64 s.nextTag,.int .i64 s.came,.int .i64 s.acked,.int .i64 s.dropped] #[.int .i64 kd,.int .i64 ka,.int .i64 kb,.string ky,.string bd];have HW2:=hidI hW2;have HS2:=hidI hs2;have BX:=hidI hbx;have HS:=hidI (hs.keep hBw);have HP:=hidI (hp.keep hBw);have HN2:=hidI hn2;have HN3:=hidI hn3;have s0:=hBw.size;have HBW:=hidI hBw;obtain ⟨E,hE⟩:∃ E,E = doE p s ⟨kd,ka,kb,ky,bd⟩:=⟨_,rfl⟩
 have HE:=hidI hE;obtain ⟨x0,x1,x2⟩:=ai_ (hbx W2 (Below.refl _ _)).1;obtain ⟨y0,y1,y2,y3,y4,y5,y6,y7⟩:=aa_ (hbx W2 (Below.refl _ _)).2.1;obtain ⟨c0,c1,c2,c3,c4⟩:=jy_ (hbx W2 (Below.refl _ _)).2.2;clear hW2 hbx hs2 hp hs hBw hn2 hn3 hE;go_enter Tryz.func5,Tryz.ntmps5;go_wp2_with fail
 rw [← HW2.out];refine (nJ_ p _ _ _ _ _ _ _ _ _ s _ _ _ _ _ _ _ _ _ ⟨kd,ka,kb,ky,bd⟩ _ HP.out HS.out HN2.out HN3.out).mono ?_;rintro e v1 ⟨u1,rfl,hr1,k1⟩;rw [← HE.out] at hr1 ⊢;obtain ⟨X,hX⟩:∃ X,X = resV E (doS p s ⟨kd,ka,kb,ky,bd⟩):=⟨_,rfl⟩
 obtain ⟨f11,f21,f31,t11,e11,t21,e21,t31,e31,w1,rfl,hw1,l1,hb1,hs1,hn1⟩:=hr1.boxV hX;have HX:=hidI hX;have HW1:=hidI hw1;have HS1:=hidI hs1;obtain ⟨B1,hB1⟩:∃ B1,B1 = v1.heap.size:=⟨_,rfl⟩
 have HBB1:=hidI hB1;rw [← hB1] at hb1;have HB1:=hidI hb1;have K1:=hidI (k1.trans (l1.mono k1.size));clear x0 x1 x2 y0 y1 y2 y3 y4 y5 y6 y7 c0 c1 c2 c3 c4 hr1 hw1 hs1 hn1 hB1 hX k1 l1 hb1;go_upto_region 2 with fail
 rw [← HW1.out,← HBB1.out];by_cases z1:E≠0
 ·have g1:(E != 0) = true:=bne_iff_ne.2 z1;clear z1;go_wp2_with fail
  refine (bC_ _).mono ?_;rintro e w7 ⟨rfl,k7⟩;go_wp2_with fail
  go_ret
  exact ⟨rfl,HBW.out.trans ((K1.out.trans (k7.mono K1.out.size)).mono s0)⟩
 rw [Classical.not_not] at z1;subst z1;have hXX:X = doS p s ⟨kd,ka,kb,ky,bd⟩:=by rw [HX.out];exact if_pos rfl
 have DN:=hidI (nj_ HE.out.symm);rw [← hXX] at DN;have HRS:=hidI DN.out.was;have HRT:=hidI DN.out.right;obtain ⟨x0,x1,x2⟩:=ai_ (BX.out w1 K1.out).1;obtain ⟨y0,y1,y2,y3,y4,y5,y6,y7⟩:=aa_ (BX.out w1 K1.out).2.1;clear hXX;go_wp2_with fail
 refine (ej_ p _ _ _ _ _ _ _ _ _ s _ _ _ _ _ _ _ _ _ _ (HP.out.keep K1.out) (HS.out.keep K1.out)).mono ?_;rintro e w2 ⟨va,rfl,hla,k2⟩;rw [HRS.out.ok] at hla ⊢;have hra:=hla.1 rfl;have hm1:s.ready.length = m1:=HS.out.l1;rw [hm1] at hra;obtain ⟨aa,ca,rfl,-⟩:=aA_ hra;have HRA:=hidI hra;have K2:=hidI (K1.out.trans (k2.mono K1.out.size));have HB2:=hidI (pkp_ HB1.out k2);have HSX2:=hidI (HS1.out.keep k2);clear x0 x1 x2 y0 y1 y2 y3 y4 y5 y6 y7 hla hra k2;obtain ⟨x0,x1,x2⟩:=ai_ (BX.out w2 K2.out).1;obtain ⟨y0,y1,y2,y3,y4,y5,y6,y7⟩:=aa_ HB2.out;go_wp2_with fail
 refine (ej_ p _ _ _ _ _ _ _ _ _ X _ _ _ _ _ _ _ _ _ _ (HP.out.keep K2.out) HSX2.out).mono ?_;rintro e w3 ⟨vb,rfl,hlb,k3⟩;rw [HRT.out.ok] at hlb ⊢;have hrb:=hlb.1 rfl;have hmx:X.ready.length = m1:=DN.out.len.trans hm1;rw [hmx] at hrb;obtain ⟨ab,cb,rfl,-⟩:=aA_ hrb;have HRB:=hidI hrb;have HRA3:=hidI (cp2_ HRA.out k3);have K3:=hidI (K2.out.trans (k3.mono K2.out.size));have HB3:=hidI (pkp_ HB2.out k3);have HM1:=hidI hm1;have HMX:=hidI hmx;have hl2:s.outs.length = m2:=HS.out.l2;have hlx:X.outs.length = t21:=HS1.out.l2;have HL2:=hidI hl2;have HLX:=hidI hlx;have hs3:=K3.out.size;obtain ⟨sm1,sm2,sm3,sm4⟩:=HS.out.small HRS.out;have sx2:t21≤1000:=(HS1.out.small HRT.out).2.2.1;clear x0 x1 x2 y0 y1 y2 y3 y4 y5 y6 y7 hlb hrb k3 hm1 hmx hl2 hlx sm2 sm4;obtain ⟨z0,z1,z2,z3,z4,z5,z6,z7⟩:=aa_ HB3.out;obtain ⟨y0,y1,y2,y3,y4,y5,y6,y7⟩:=aa_ (BX.out w3 K3.out).2.1;obtain ⟨M0,hM0⟩:∃ M0:Int,M0 = (t21:Int) - (m2:Int):=⟨_,rfl⟩
 have HM0:=hidI hM0;have hw0:IntKind.i64.wrap ((t21:Int) - (m2:Int)) = M0:=by rw [hM0,IntKind.wrap_i64];omega
 have HMM:Hid (M0 = fC_ s X 0):=by show M0 = _;unfold fC_;rw [HL2.out,HLX.out,hM0];simp [sumI]
 clear hM0;go_wp2_with fail
 go_loopw [13,14] (fun m i wr=>∃ (k:Nat) (M:Int),k≤m1∧i = .int .i64 k∧m = .int .i64 M∧M = fC_ s X k∧Below w3.heap.size w3 wr) (fun _ i _=>m1 - (intOf i).toNat)
 case atStart=>exact ⟨0,M0,Nat.zero_le _,rfl,rfl,HMM.out,Below.refl _ _⟩
 case round=>
  obtain ⟨k,M,hk,rfl,rfl,hM,hBr⟩:=hrel;have HM:=hidI hM;have HBR:=hidI hBr;have hMb:=j8_ HRS.out HRT.out k;rw [← hM] at hMb;have hsr:=hBr.size;clear hM hBr z0 z1 z2 z3 z4 z5 z6 z7 y0 y1 y2 y3 y4 y5 y6 y7;by_cases hlt:k < m1
  ·have hks:k < s.ready.length:=by rw [HM1.out];exact hlt
   have hkx:k < X.ready.length:=by rw [HMX.out];exact hlt
   obtain ⟨ga,hga,hgal,hca⟩:=ma_.cell (cp2_ HRA3.out HBR.out) hks;obtain ⟨gb,hgb,hgbl,hcb⟩:=ma_.cell (cp2_ HRB.out HBR.out) hkx;have la6:=HRS.out.line6 (List.getElem_mem hks);have lb6:=HRT.out.line6 (List.getElem_mem hkx);have HNX:=hidI (lf_ hks hkx);obtain ⟨la,hla⟩:∃ la:Nat,la = (s.ready[k]'hks).length:=⟨_,rfl⟩
   obtain ⟨lb,hlb⟩:∃ lb:Nat,lb = (X.ready[k]'hkx).length:=⟨_,rfl⟩
   rw [← hla] at hca la6 HNX;rw [← hlb] at hcb lb6 HNX;subst hga hgb;have q1:IntKind.i64.wrap (M+(lb:Int)) = M+lb:=by rw [IntKind.wrap_i64];omega
   have q2:IntKind.i64.wrap (M+(lb:Int) - (la:Int)) = M+lb - la:=by rw [IntKind.wrap_i64];omega
   have j1:(0:Int)≤(k:Int):=by omega
   have j2:(k:Int) < m1:=by omega
   have HLT:=hidI hlt;clear hla hlb;go_wp2_with fail
   go_quiet (fail)
   go_wp2_with fail
   go_roundw
   case rel=>exact ⟨k+1,M+lb - la,HLT.out,by have:=HLT.out;go_num,rfl,by rw [HNX.out,HM.out],bA_ HBR.out⟩
   case measure=>have:=HLT.out;simp [intOf];omega
  ·have hke:k = m1:=by omega
   subst hke;clear hlt hk;go_wp2_with fail
   refine (bC_ _).mono ?_;rintro e w5 ⟨rfl,k5⟩;have K5:Hid (Below w3.heap.size w3 w5):=HBR.out.trans (k5.mono HBR.out.size);have K6:=hidI (K3.out.trans (K5.out.mono K3.out.size));obtain ⟨z0,z1,z2,z3,z4,z5,z6,z7⟩:=aa_ (pkp_ HB3.out K5.out);obtain ⟨y0,y1,y2,y3,y4,y5,y6,y7⟩:=aa_ (BX.out w5 K6.out).2.1;obtain ⟨p1,p2⟩:=HRS.out.came_le;obtain ⟨p3,p4⟩:=HRT.out.came_le;obtain ⟨p5,p6⟩:=HRS.out.acked_le;obtain ⟨p7,p8⟩:=HRT.out.acked_le;obtain ⟨p9,p10⟩:=HRS.out.dropped_le;obtain ⟨p11,p12⟩:=HRT.out.dropped_le;have hsum:=mu_ HRS.out HRT.out DN.out.len;rw [HM1.out,← HM.out] at hsum;have g1:=DN.out.came;have g2:=DN.out.acked;have g3:=DN.out.dropped;have g4:=DN.out.tag;have q1:IntKind.i64.wrap (X.came - s.came) = X.came - s.came:=by rw [IntKind.wrap_i64];omega
   have q2:IntKind.i64.wrap (X.acked - s.acked) = X.acked - s.acked:=by rw [IntKind.wrap_i64];omega
   have q3:IntKind.i64.wrap (M+(X.acked - s.acked)) = M+(X.acked - s.acked):=by rw [IntKind.wrap_i64];omega
   have q4:IntKind.i64.wrap (X.dropped - s.dropped) = X.dropped - s.dropped:=by rw [IntKind.wrap_i64];omega
   have q5:IntKind.i64.wrap (M+(X.acked - s.acked)+(X.dropped - s.dropped)) = M+(X.acked - s.acked)+(X.dropped - s.dropped):=by rw [IntKind.wrap_i64];omega
   have q6:(X.came - s.came == M+(X.acked - s.acked)+(X.dropped - s.dropped)) = true:=by rw [beq_iff_eq];exact hsum
   clear p1 p2 p3 p4 p5 p6 p7 p8 p9 p10 p11 p12 hsum k5 hMb z0 z1 z2 z3 y0 y1 y2 y3;go_wp2_with fail
   go_ret
   exact ⟨rfl,HBW.out.trans (K6.out.mono s0)⟩
end Go.Proofs.YtlbnkpicnokgoaaGreat
