/- The walk of the law BookDrain. -/
import Derived.OpenShut
import Derived.Deep.QuietTactic
import Derived.BigQuiet
import Derived.Test.YtlbnkpicnokgoaaGreatBDf
import Derived.Test.YtlbnkpicnokgoaaGreatSpx
import Derived.Test.YtlbnkpicnokgoaaGreatSrx
import Derived.Test.YtlbnkpicnokgoaaGreatSbx
import Derived.Test.YtlbnkpicnokgoaaGreatSax
namespace Go.Proofs.YtlbnkpicnokgoaaGreat
open Go.RowKit Go.Maps
set_option linter.unusedVariables false
set_option maxRecDepth 100000
set_option maxHeartbeats 8000000
theorem Drained.line {p:ad_} {s:ab_} {q:Int} (h:Drained p s q) (j:Nat):af_ (drS s q) j = if j = q.toNat then [] else af_ s j:=h.emp.line j
theorem nl_ (s:ab_) (q:Int):(drB s q).length = (af_ s q.toNat).length:=by unfold drB;simp
theorem fT_ (p:ad_) (a1 a2 a3:Option Addr) (n1 c1 n2 c2 n3 c3:Nat) (s:ab_) (b1 b2 b3:Option Addr) (m1 d1 m2 d2 m3 d3:Nat) (v1 v2 v3 v4 v5:Int) (w:World) (e1:v1 = s.nextSeq) (e2:v2 = s.nextTag) (e3:v3 = s.came) (e4:v4 = s.acked) (e5:v5 = s.dropped) (hp:ap_ w a1 a2 a3 n1 n2 n3 p) (hs:al_ w b1 b2 b3 m1 m2 m3 s) :
 Calls Tryz.prog 18 #[.agg #[.slice a1 n1 c1,.slice a2 n2 c2,.slice a3 n3 c3],.agg #[.slice b1 m1 d1,.slice b2 m2 d2,.slice b3 m3 d3,.int .i64 v1,.int .i64 v2,.int .i64 v3,.int .i64 v4,.int .i64 v5]] w fun e w'=>e = .returned (.int .i64 (stE p s))∧Below w.heap.size w w':=by
 subst e1 e2 e3 e4 e5;exact cB_ p _ _ _ _ _ _ _ _ _ s _ _ _ _ _ _ _ _ _ w hp hs
theorem gc_ (p:ad_) (a1 a2 a3:Option Addr) (n1 c1 n2 c2 n3 c3:Nat) (s:ab_) (b1 b2 b3:Option Addr) (m1 d1 m2 d2 m3 d3:Nat) (q other:Int) (w:World) (hp:ap_ w a1 a2 a3 n1 n2 n3 p) (hs:al_ w b1 b2 b3 m1 m2 m3 s) (hn2:b2 = none→d2 = 0) (hn3:b3 = none→d3 = 0) (hov:(Lit.int .i64 other).wf = true) :
 Calls Tryz.prog 4 #[.agg #[.slice a1 n1 c1,.slice a2 n2 c2,.slice a3 n3 c3],.agg #[.slice b1 m1 d1,.slice b2 m2 d2,.slice b3 m3 d3,.int .i64 s.nextSeq,.int .i64 s.nextTag,.int .i64 s.came,.int .i64 s.acked,.int .i64 s.dropped],.int .i64 q,.int .i64 other] w fun e w'=>e = .returned (.bool true)∧Below w.heap.size w w':=by
 obtain ⟨W2,hW2,hBw,hs2,hbx⟩:=bN_ w #[.slice a1 n1 c1,.slice a2 n2 c2,.slice a3 n3 c3] #[.slice b1 m1 d1,.slice b2 m2 d2,.slice b3 m3 d3,.int .i64 s.nextSeq,.int .i64 s.nextTag,.int .i64 s.came,.int .i64 s.acked,.int .i64 s.dropped];have HW2:=hidI hW2;have BX:=hidI hbx;have HS:=hidI (hs.keep hBw);have HP:=hidI (hp.keep hBw);have HN:=hidI (And.intro hn2 hn3);have hov':-9223372036854775808≤other∧other≤9223372036854775807:=bounds_i64 hov;have HO:=hidI hov';clear hov hov';have s0:=hBw.size;have HBW:=hidI hBw;obtain ⟨E,hE⟩:∃ E,E = drE p s q:=⟨_,rfl⟩
 have HE:=hidI hE;obtain ⟨x0,x1,x2⟩:=ai_ (hbx W2 (Below.refl _ _)).1;obtain ⟨y0,y1,y2,y3,y4,y5,y6,y7⟩:=aa_ (hbx W2 (Below.refl _ _)).2;clear hW2 hbx hs2 hp hs hBw hn2 hn3 hE;go_enter Tryz.func4,Tryz.ntmps4;go_wp2_with fail
 rw [← HW2.out];refine (cE_ p _ _ _ _ _ _ _ _ _ s _ _ _ _ _ _ _ _ _ q _ HP.out HS.out HN.out.1 HN.out.2).mono ?_;rintro e v1 ⟨u1,tx,rfl,hr1,htx,k1⟩;rw [← HE.out] at hr1 htx ⊢;obtain ⟨X,hX⟩:∃ X,X = resV E (drS s q):=⟨_,rfl⟩
 obtain ⟨f11,f21,f31,t11,e11,t21,e21,t31,e31,w1,rfl,hw1,l1,hb1,hs1,hn1⟩:=hr1.boxV hX;have HX:=hidI hX;have HW1:=hidI hw1;have HS1:=hidI hs1;have HTX:Hid (E = 0→w1.ownsRow v1.heap.size 9 1 tx (drB s q).length ((drB s q).map .string)∨True):=fun h=>.inr trivial
 have HT1:Hid (E = 0→w1.ownsRow W2.heap.size 9 1 tx (drB s q).length ((drB s q).map .string)):=fun h=>cp2_ (htx.1 h) l1
 obtain ⟨B1,hB1⟩:∃ B1,B1 = v1.heap.size:=⟨_,rfl⟩
 have HBB1:=hidI hB1;rw [← hB1] at hb1;have HB1:=hidI hb1;have K1:=hidI (k1.trans (l1.mono k1.size));clear x0 x1 x2 y0 y1 y2 y3 y4 y5 y6 y7 hr1 hw1 hs1 hn1 hB1 hX k1 l1 hb1 htx HTX;go_upto_region 2 with fail
 rw [← HW1.out,← HBB1.out];by_cases z1:E≠0
 ·have g1:(E != 0) = true:=bne_iff_ne.2 z1;clear z1;go_wp2_with fail
  refine (bC_ _).mono ?_;rintro e w7 ⟨rfl,k7⟩;go_wp2_with fail
  go_ret
  exact ⟨rfl,HBW.out.trans ((K1.out.trans (k7.mono K1.out.size)).mono s0)⟩
 rw [Classical.not_not] at z1;subst z1;have hXX:X = drS s q:=by rw [HX.out];exact if_pos rfl
 have DD:=hidI (drained HE.out.symm);obtain ⟨j,rfl⟩:∃ j:Nat,q = j:=⟨q.toNat,(Int.toNat_of_nonneg DD.out.q0).symm⟩
 have hrow:=HT1.out rfl;obtain ⟨ta,tc,rfl,-⟩:=aA_ hrow;have hLen:=nl_ s (j:Int);rw [Int.toNat_natCast] at hLen;obtain ⟨L,hL⟩:∃ L:Nat,L = (af_ s j).length:=⟨_,rfl⟩
 rw [hLen,← hL] at hrow ⊢;have HRW:=hidI hrow;have HL:=hidI hL;have HR:=hidI DD.out.right;rw [← hXX] at HR;have hjl:j < s.ready.length:=by have:=DD.out.ql;simpa using this
 have hlr:X.ready.length = s.ready.length:=by rw [hXX];exact DD.out.emp.len
 obtain rfl:t11 = m1:=by have h1:=HS1.out.l1;have h2:=HS.out.l1;omega
 have hjm:j < t11:=by have h2:=HS.out.l1;omega
 have hm1:t11≤100:=by have h:=(be_ DD.out.was).1;have h2:=HS.out.l1;omega
 have hL6:L≤6:=by rw [hL];exact DD.out.was.line6 (a1_ hjl)
 have HXX:=hidI hXX;have HSS:=hidI (HS.out.keep K1.out);obtain ⟨g,o,bl,cl,ha,hg,hl⟩:=HSS.out.q1.get hjl;subst ha;have e1:=hl.cell;have hit:=hl.it;rw [← aU_ hjl] at e1 hit;rw [← hL] at e1;have HIT:=hidI hit;have j0:(0:Int)≤(j:Int):=by omega
 have j1:decide ((j:Int) < 0) = false:=by rw [decide_eq_false_iff_not];omega
 have j2:decide ((t11:Int)≤(j:Int)) = false:=by rw [decide_eq_false_iff_not];omega
 have j5:(j:Int) < (t11:Int):=by omega
 have j6:(((t11:Nat):Int) != ((t11:Nat):Int)) = false:=by simp
 have j7:(((L:Nat):Int) != ((L:Nat):Int)) = false:=by simp
 obtain ⟨y0,y1,y2,y3,y4,y5,y6,y7⟩:=aa_ (BX.out w1 K1.out).2;obtain ⟨z0,z1,z2,z3,z4,z5,z6,z7⟩:=aa_ HB1.out;clear hrow hL hXX hl hit hLen hlr;go_wp2_with fail
 go_loopw [12] (fun i wr=>∃ (k:Nat),k≤L∧i = .int .i64 k∧Below w1.heap.size w1 wr) (fun i _=>L - (intOf i).toNat)
 case atStart=>exact ⟨0,Nat.zero_le _,rfl,Below.refl _ _⟩
 case round=>
  obtain ⟨k,hk,rfl,hBr⟩:=hrel;have HBR:=hidI hBr;have hsr:=hBr.size;clear z0 z1 z2 z3 z4 z5 z6 z7 y0 y1 y2 y3 y4 y5 y6 y7 hBr;have KR:=hidI (K1.out.trans (HBR.out.mono K1.out.size));by_cases hlt:k < L
  ·have hkl:k < (af_ s j).length:=by rw [← HL.out];exact hlt
   obtain ⟨gi,oi,hbl,hgi,hci⟩:=(HIT.out.keep HBR.out).cells (by omega);subst hbl;obtain ⟨-,-,i2',-,-⟩:=hci k hkl;obtain ⟨gt,rfl⟩:∃ gt,ta = some ⟨gt,0,none⟩:=by
    rcases HRW.out.2 with ⟨e,e0⟩ | ⟨g,cap,cur,e,_⟩
    ·omega
    ·cases e;exact ⟨g,rfl⟩
   have htc:=(cp2_ HRW.out HBR.out).cellAt k (by rw [Nat.mul_one];exact hlt);obtain ⟨bd,hbd⟩:∃ bd,bd = ((af_ s j)[k]'hkl).body:=⟨_,rfl⟩
   rw [← hbd] at i2';have htd:wr.cell? ⟨gt,k,none⟩ = some (.string bd):=by
    have e:((drB s (j:Int)).map Value.string)[k]? = some (.string bd):=by
     unfold drB;rw [Int.toNat_natCast,List.getElem?_map,List.getElem?_map,List.getElem?_eq_getElem hkl,hbd];rfl
    rw [e] at htc;exact htc
   obtain ⟨y0,-,-,-,-,-,-,-⟩:=aa_ (BX.out wr KR.out).2;have e2:=(HBR.out.cell (p:=⟨g,o+j,none⟩) hg).trans e1;have i0:(0:Int)≤(k:Int):=by omega
   have i1:(k:Int) < L:=by omega
   have HLT:=hidI hlt;have hgr:g < wr.heap.size:=Nat.lt_of_lt_of_le hg hsr;have hkL:=hlt;clear hbd htc hci e1 j1 j2 j6 j7;go_wp2_with fail
   go_quiet (fail)
   go_wp2_with fail
   go_roundw
   case rel=>exact ⟨k+1,HLT.out,by have:=HLT.out;go_num,bA_ HBR.out⟩
   case measure=>have:=HLT.out;simp [intOf];omega
  ·have hke:k = L:=by omega
   subst hke;obtain ⟨y0,-,-,-,-,-,-,-⟩:=aa_ (BX.out wr KR.out).2;clear hlt hk e1 j1 j2 j6 j7;go_wp2_with fail
   refine (jF_ other t11 _ HO.out.1 HO.out.2 (by omega) (by omega)).mono ?_;rintro e w3 ⟨r,hr,rfl,hw3⟩;rw [hw3];clear hw3;have HSX:=hidI (HS1.out.keep HBR.out);have HSQ:=hidI (HS.out.keep KR.out);have hxj:j < X.ready.length:=by have h1:=HS1.out.l1;omega
   obtain ⟨gx,ox,bx,cx,ha,hgx,hlx⟩:=HSX.out.q1.get hxj;subst ha;have e3:=hlx.cell;have hle:af_ X j = []:=by rw [HXX.out,DD.out.line,if_pos (by simp)]
   rw [← aU_ hxj,hle,List.length_nil] at e3;have c1:X.came = s.came:=by rw [HXX.out];exact DD.out.emp.came
   have c2:X.acked = s.acked+k:=by rw [HXX.out,HL.out];have:=DD.out.emp.acked;rw [Int.toNat_natCast] at this;exact this
   have c3:X.dropped = s.dropped:=by rw [HXX.out];exact DD.out.emp.dropped
   have c4:t21 = m2:=by have h1:=HS1.out.l2;have h2:=HS.out.l2;have h3:X.outs = s.outs:=by { rw [HXX.out];exact DD.out.emp.outs };rw [h3] at h1;omega
   subst c4;have HC:=hidI (And.intro c1 (And.intro c2 c3));have hak:=DD.out.was.acked_le;have q1:IntKind.i64.wrap (s.acked+(k:Int)) = s.acked+k:=by rw [IntKind.wrap_i64];omega
   have E3:=hidI e3;obtain ⟨nx,hnx⟩:∃ nx,nx = X.nextSeq:=⟨_,rfl⟩
   obtain ⟨tx,htx⟩:∃ tx,tx = X.nextTag:=⟨_,rfl⟩
   have HNT:=hidI (And.intro hnx htx);clear c1 c2 c3 hak hlx hle e3 y0 hnx htx;by_cases hrj:r = j
   ·subst hrj;have q2:((r:Int) == (r:Int)) = true:=by simp
    have BB:Hid (∀ W',Below wr.heap.size wr W'→(W'.cell? ⟨w.heap.size,0,none⟩ = some (.slice a1 n1 c1)∧W'.cell? ⟨w.heap.size,1,none⟩ = some (.slice a2 n2 c2)∧W'.cell? ⟨w.heap.size,2,none⟩ = some (.slice a3 n3 c3)∧W'.cell? ⟨B1,0,none⟩ = some (.slice (some ⟨gx,ox,none⟩) t11 e11)∧W'.cell? ⟨B1,1,none⟩ = some (.slice f21 t21 e21)∧W'.cell? ⟨B1,2,none⟩ = some (.slice f31 t31 e31)∧W'.cell? ⟨B1,3,none⟩ = some (.int .i64 nx)∧W'.cell? ⟨B1,4,none⟩ = some (.int .i64 tx)∧W'.cell? ⟨B1,5,none⟩ = some (.int .i64 s.came)∧W'.cell? ⟨B1,6,none⟩ = some (.int .i64 (s.acked+k))∧W'.cell? ⟨B1,7,none⟩ = some (.int .i64 s.dropped)∧W'.cell? ⟨w.heap.size+1,0,none⟩ = some (.slice (some ⟨g,o,none⟩) t11 d1)∧W'.cell? ⟨w.heap.size+1,1,none⟩ = some (.slice b2 t21 d2)∧W'.cell? ⟨w.heap.size+1,5,none⟩ = some (.int .i64 s.came)∧W'.cell? ⟨w.heap.size+1,6,none⟩ = some (.int .i64 s.acked)∧W'.cell? ⟨w.heap.size+1,7,none⟩ = some (.int .i64 s.dropped)∧W'.cell? ⟨gx,ox+r,none⟩ = some (.slice bx 0 cx))∧Below wr.heap.size wr W'):=fun W' h=>by
     obtain ⟨x0,x1,x2⟩:=ai_ (BX.out W' (KR.out.trans (h.mono KR.out.size))).1;obtain ⟨v0,v1,-,-,-,v5,v6,v7⟩:=aa_ (BX.out W' (KR.out.trans (h.mono KR.out.size))).2;obtain ⟨u0,u1,u2,u3,u4,u5,u6,u7⟩:=aa_ (pkp_ HB1.out (HBR.out.trans (h.mono HBR.out.size)));have c1:=(h.cell (p:=⟨gx,ox+r,none⟩) hgx).trans E3.out;rw [← HNT.out.1] at u3;rw [← HNT.out.2] at u4;rw [HC.out.1] at u5;rw [HC.out.2.1] at u6;rw [HC.out.2.2] at u7;exact ⟨⟨x0,x1,x2,u0,u1,u2,u3,u4,u5,u6,u7,v0,v1,v5,v6,v7,c1⟩,h⟩
    go_upto_region 12 with fail
    simp only [List.append];refine wp_region_held_drew (S:=fun W'=>(W'.cell? ⟨w.heap.size,0,none⟩ = some (.slice a1 n1 c1)∧W'.cell? ⟨w.heap.size,1,none⟩ = some (.slice a2 n2 c2)∧W'.cell? ⟨w.heap.size,2,none⟩ = some (.slice a3 n3 c3)∧W'.cell? ⟨B1,0,none⟩ = some (.slice (some ⟨gx,ox,none⟩) t11 e11)∧W'.cell? ⟨B1,1,none⟩ = some (.slice f21 t21 e21)∧W'.cell? ⟨B1,2,none⟩ = some (.slice f31 t31 e31)∧W'.cell? ⟨B1,3,none⟩ = some (.int .i64 nx)∧W'.cell? ⟨B1,4,none⟩ = some (.int .i64 tx)∧W'.cell? ⟨B1,5,none⟩ = some (.int .i64 s.came)∧W'.cell? ⟨B1,6,none⟩ = some (.int .i64 (s.acked+k))∧W'.cell? ⟨B1,7,none⟩ = some (.int .i64 s.dropped)∧W'.cell? ⟨w.heap.size+1,0,none⟩ = some (.slice (some ⟨g,o,none⟩) t11 d1)∧W'.cell? ⟨w.heap.size+1,1,none⟩ = some (.slice b2 t21 d2)∧W'.cell? ⟨w.heap.size+1,5,none⟩ = some (.int .i64 s.came)∧W'.cell? ⟨w.heap.size+1,6,none⟩ = some (.int .i64 s.acked)∧W'.cell? ⟨w.heap.size+1,7,none⟩ = some (.int .i64 s.dropped)∧W'.cell? ⟨gx,ox+r,none⟩ = some (.slice bx 0 cx))∧Below wr.heap.size wr W') (by kernel_rfl) (BB.out _ (Below.refl _ _).drew) (fun hHeld=>?_)
    refine rdy 0 (fun K hK=>?_);go_simp;refine (bC_ _).mono ?_;rintro e w7 ⟨rfl,l7⟩;refine hK.out _ _ (BB.out _ (hHeld.2.trans (l7.mono hHeld.2.size))) (fun hHeld=>?_);clear hK K l7;try refine nrm ?_
    refine tk 1 ?_;refine tk 2 ?_;refine tk 3 ?_;refine rdy 4 (fun K hK=>?_);go_simp;refine (fT_ p _ _ _ _ _ _ _ _ _ X _ _ _ _ _ _ _ _ _ nx tx s.came (s.acked+k) s.dropped _ HNT.out.1 HNT.out.2 HC.out.1.symm HC.out.2.1.symm HC.out.2.2.symm (HP.out.keep (KR.out.trans (hHeld.2.mono KR.out.size))) (HS1.out.keep (HBR.out.trans (hHeld.2.mono HBR.out.size)))).mono ?_;rintro e w8 ⟨rfl,l8⟩;rw [HR.out.ok];refine hK.out _ _ (BB.out _ (hHeld.2.trans (l8.mono hHeld.2.size))) (fun hHeld=>?_);clear hK K l8;try refine nrm ?_
    refine tk 5 ?_;refine tk 6 ?_;refine tk 7 ?_;refine tk 8 ?_;refine tk 9 ?_;refine tk 10 ?_;refine tk 11 ?_;refine tk 12 ?_;refine tk 13 ?_;refine tk 14 ?_;refine tk 15 ?_;refine tk 16 ?_;refine tk 17 ?_;refine tk 18 ?_;refine tk 19 ?_;refine tk 20 ?_;refine sk 21 ?_;refine sk 22 ?_;refine sk 23 ?_;refine sk 24 ?_;refine sk 25 ?_;refine sk 26 ?_;refine sk 27 ?_;refine sk 28 ?_;refine sk 29 ?_;refine sk 30 ?_;refine sk 31 ?_;refine tk 32 ?_;refine tk 33 ?_;refine tk 34 ?_;refine tk 35 ?_;refine tk 36 ?_;refine tk 37 ?_;refine tk 38 ?_;refine tk 39 ?_;refine tk 40 ?_;refine tk 41 ?_;refine tk 42 ?_;refine tk 43 ?_;refine tk 44 ?_;refine tk 45 ?_;refine tk 46 ?_;refine tk 47 ?_;refine tk 48 ?_;refine tk 49 ?_;refine tk 50 ?_;refine tk 51 ?_;refine tk 52 ?_;refine tk 53 ?_;refine tk 54 ?_;refine tk 55 ?_;refine tk 56 ?_;refine tk 57 ?_;refine tk 58 ?_;refine tk 59 ?_;refine tk 60 ?_;refine tk 61 ?_
    refine tk 62 ?_;refine tk 63 ?_;refine tk 64 ?_;refine tk 65 ?_;refine tk 66 ?_;refine tk 67 ?_;refine wpAnyH_done (by kernel_rfl) ?_ _;have KF:=hidI (KR.out.trans (hHeld.2.mono KR.out.size));clear hHeld;go_wp2_with fail
    go_ret
    exact ⟨rfl,HBW.out.trans (KF.out.mono s0)⟩
   ·skip
    have q2:((r:Int) == (j:Int)) = false:=by rw [beq_eq_false_iff_ne];omega
    have hrx:r < X.ready.length:=by have h1:=HS1.out.l1;omega
    have hrs:r < s.ready.length:=by have h1:=HS.out.l1;omega
    have hsame:X.ready[r]'hrx = s.ready[r]'hrs:=by
     rw [← aU_ hrx,← aU_ hrs,HXX.out,DD.out.line,if_neg (by simpa using hrj)]
    obtain ⟨gy,oy,by_,cy,ha,hgy,hly⟩:=HSX.out.q1.get hrx;cases ha;obtain ⟨gs,os,bs,cs,ha,hgs,hls⟩:=HSQ.out.q1.get hrs;cases ha;rw [hsame] at hly;obtain ⟨LL,hLL⟩:∃ LL,LL = s.ready[r]'hrs:=⟨_,rfl⟩
    rw [← hLL] at hly hls;obtain ⟨ln,hlnn⟩:∃ ln,ln = LL.length:=⟨_,rfl⟩
    have HLL:=hidI hlnn;have HLY:=hidI hly;have HLS:=hidI hls;have HLN:Hid (ln≤maxLen):=by show ln≤maxLen;have h1:=hls.le;have h2:=hls.cm;omega
    have r0:(0:Int)≤(r:Int):=by omega
    have r1:(r:Int) < (t11:Int):=by omega
    clear hLL hly hls hsame hlnn;have BB:Hid (∀ W',Below wr.heap.size wr W'→(W'.cell? ⟨w.heap.size,0,none⟩ = some (.slice a1 n1 c1)∧W'.cell? ⟨w.heap.size,1,none⟩ = some (.slice a2 n2 c2)∧W'.cell? ⟨w.heap.size,2,none⟩ = some (.slice a3 n3 c3)∧W'.cell? ⟨B1,0,none⟩ = some (.slice (some ⟨gx,ox,none⟩) t11 e11)∧W'.cell? ⟨B1,1,none⟩ = some (.slice f21 t21 e21)∧W'.cell? ⟨B1,2,none⟩ = some (.slice f31 t31 e31)∧W'.cell? ⟨B1,3,none⟩ = some (.int .i64 nx)∧W'.cell? ⟨B1,4,none⟩ = some (.int .i64 tx)∧W'.cell? ⟨B1,5,none⟩ = some (.int .i64 s.came)∧W'.cell? ⟨B1,6,none⟩ = some (.int .i64 (s.acked+k))∧W'.cell? ⟨B1,7,none⟩ = some (.int .i64 s.dropped)∧W'.cell? ⟨w.heap.size+1,0,none⟩ = some (.slice (some ⟨g,o,none⟩) t11 d1)∧W'.cell? ⟨w.heap.size+1,1,none⟩ = some (.slice b2 t21 d2)∧W'.cell? ⟨w.heap.size+1,5,none⟩ = some (.int .i64 s.came)∧W'.cell? ⟨w.heap.size+1,6,none⟩ = some (.int .i64 s.acked)∧W'.cell? ⟨w.heap.size+1,7,none⟩ = some (.int .i64 s.dropped)∧W'.cell? ⟨gx,ox+j,none⟩ = some (.slice bx 0 cx)∧W'.cell? ⟨gx,ox+r,none⟩ = some (.slice by_ ln cy)∧W'.cell? ⟨g,o+r,none⟩ = some (.slice bs ln cs))∧Below wr.heap.size wr W'):=fun W' h=>by
     obtain ⟨x0,x1,x2⟩:=ai_ (BX.out W' (KR.out.trans (h.mono KR.out.size))).1;obtain ⟨v0,v1,-,-,-,v5,v6,v7⟩:=aa_ (BX.out W' (KR.out.trans (h.mono KR.out.size))).2;obtain ⟨u0,u1,u2,u3,u4,u5,u6,u7⟩:=aa_ (pkp_ HB1.out (HBR.out.trans (h.mono HBR.out.size)));have c1:=(h.cell (p:=⟨gx,ox+j,none⟩) hgx).trans E3.out;have c2:=(HLY.out.keep hgx h).cell;have c3:=(HLS.out.keep hgs h).cell;rw [← HLL.out] at c2 c3;rw [← HNT.out.1] at u3;rw [← HNT.out.2] at u4;rw [HC.out.1] at u5;rw [HC.out.2.1] at u6;rw [HC.out.2.2] at u7;exact ⟨⟨x0,x1,x2,u0,u1,u2,u3,u4,u5,u6,u7,v0,v1,v5,v6,v7,c1,c2,c3⟩,h⟩
    go_upto_region 12 with fail
    simp only [List.append];refine wp_region_held_drew (S:=fun W'=>(W'.cell? ⟨w.heap.size,0,none⟩ = some (.slice a1 n1 c1)∧W'.cell? ⟨w.heap.size,1,none⟩ = some (.slice a2 n2 c2)∧W'.cell? ⟨w.heap.size,2,none⟩ = some (.slice a3 n3 c3)∧W'.cell? ⟨B1,0,none⟩ = some (.slice (some ⟨gx,ox,none⟩) t11 e11)∧W'.cell? ⟨B1,1,none⟩ = some (.slice f21 t21 e21)∧W'.cell? ⟨B1,2,none⟩ = some (.slice f31 t31 e31)∧W'.cell? ⟨B1,3,none⟩ = some (.int .i64 nx)∧W'.cell? ⟨B1,4,none⟩ = some (.int .i64 tx)∧W'.cell? ⟨B1,5,none⟩ = some (.int .i64 s.came)∧W'.cell? ⟨B1,6,none⟩ = some (.int .i64 (s.acked+k))∧W'.cell? ⟨B1,7,none⟩ = some (.int .i64 s.dropped)∧W'.cell? ⟨w.heap.size+1,0,none⟩ = some (.slice (some ⟨g,o,none⟩) t11 d1)∧W'.cell? ⟨w.heap.size+1,1,none⟩ = some (.slice b2 t21 d2)∧W'.cell? ⟨w.heap.size+1,5,none⟩ = some (.int .i64 s.came)∧W'.cell? ⟨w.heap.size+1,6,none⟩ = some (.int .i64 s.acked)∧W'.cell? ⟨w.heap.size+1,7,none⟩ = some (.int .i64 s.dropped)∧W'.cell? ⟨gx,ox+j,none⟩ = some (.slice bx 0 cx)∧W'.cell? ⟨gx,ox+r,none⟩ = some (.slice by_ ln cy)∧W'.cell? ⟨g,o+r,none⟩ = some (.slice bs ln cs))∧Below wr.heap.size wr W') (by kernel_rfl) (BB.out _ (Below.refl _ _).drew) (fun hHeld=>?_)
    refine rdy 0 (fun K hK=>?_);go_simp;refine (bC_ _).mono ?_;rintro e w7 ⟨rfl,l7⟩;refine hK.out _ _ (BB.out _ (hHeld.2.trans (l7.mono hHeld.2.size))) (fun hHeld=>?_);clear hK K l7;try refine nrm ?_
    refine tk 1 ?_;refine tk 2 ?_;refine tk 3 ?_;refine rdy 4 (fun K hK=>?_);go_simp;refine (fT_ p _ _ _ _ _ _ _ _ _ X _ _ _ _ _ _ _ _ _ nx tx s.came (s.acked+k) s.dropped _ HNT.out.1 HNT.out.2 HC.out.1.symm HC.out.2.1.symm HC.out.2.2.symm (HP.out.keep (KR.out.trans (hHeld.2.mono KR.out.size))) (HS1.out.keep (HBR.out.trans (hHeld.2.mono HBR.out.size)))).mono ?_;rintro e w8 ⟨rfl,l8⟩;rw [HR.out.ok];refine hK.out _ _ (BB.out _ (hHeld.2.trans (l8.mono hHeld.2.size))) (fun hHeld=>?_);clear hK K l8;try refine nrm ?_
    refine tk 5 ?_;refine tk 6 ?_;refine tk 7 ?_;refine tk 8 ?_;refine tk 9 ?_;refine tk 10 ?_;refine tk 11 ?_;refine tk 12 ?_;refine tk 13 ?_;refine tk 14 ?_;refine tk 15 ?_;refine tk 16 ?_;refine tk 17 ?_;refine tk 18 ?_;refine tk 19 ?_;refine tk 20 ?_;refine tk 21 ?_;refine tk 22 ?_;refine tk 23 ?_;refine tk 24 ?_;refine tk 25 ?_;refine tk 26 ?_;refine tk 27 ?_;refine tk 28 ?_;refine tk 29 ?_;refine tk 30 ?_;refine rdy 31 (fun K hK=>?_);go_simp;refine (gE_ LL _ _ ln _ _ _ HLL.out.symm HLN.out (HLY.out.keep hgx hHeld.2).it (HLS.out.keep hgs hHeld.2).it).mono ?_;rintro e w9 ⟨rfl,l9⟩;refine hK.out _ _ (BB.out _ (hHeld.2.trans (l9.mono hHeld.2.size))) (fun hHeld=>?_);clear hK K l9;try refine nrm ?_
    refine tk 32 ?_;refine tk 33 ?_;refine tk 34 ?_;refine tk 35 ?_;refine tk 36 ?_;refine tk 37 ?_;refine tk 38 ?_;refine tk 39 ?_;refine tk 40 ?_;refine tk 41 ?_;refine tk 42 ?_;refine tk 43 ?_;refine tk 44 ?_;refine tk 45 ?_;refine tk 46 ?_;refine tk 47 ?_;refine tk 48 ?_;refine tk 49 ?_;refine tk 50 ?_;refine tk 51 ?_;refine tk 52 ?_;refine tk 53 ?_;refine tk 54 ?_;refine tk 55 ?_;refine tk 56 ?_;refine tk 57 ?_;refine tk 58 ?_;refine tk 59 ?_;refine tk 60 ?_;refine tk 61 ?_;refine tk 62 ?_;refine tk 63 ?_;refine tk 64 ?_;refine tk 65 ?_;refine tk 66 ?_;refine tk 67 ?_;refine wpAnyH_done (by kernel_rfl) ?_ _;have KF:=hidI (KR.out.trans (hHeld.2.mono KR.out.size));clear hHeld;go_wp2_with fail
    go_ret
    exact ⟨rfl,HBW.out.trans (KF.out.mono s0)⟩
end Go.Proofs.YtlbnkpicnokgoaaGreat
