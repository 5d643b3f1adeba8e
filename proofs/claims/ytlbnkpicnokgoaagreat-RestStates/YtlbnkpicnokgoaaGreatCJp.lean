import Derived.Deep.RegionHeld3
import Derived.Test.YtlbnkpicnokgoaaGreatUvx
import Derived.Test.YtlbnkpicnokgoaaGreatCJe
import Derived.Test.YtlbnkpicnokgoaaGreatCAk
import Derived.Test.YtlbnkpicnokgoaaGreatUax
namespace Go.Proofs.YtlbnkpicnokgoaaGreat
open Go.RowKit Go.Maps
set_option linter.unusedVariables false
set_option maxRecDepth 100000
set_option maxHeartbeats 8000000
theorem dz_:type_of% @tk:=@tk
theorem aM_.turnLow {W W':World} {n B:Nat} {b1 b2 b3:Option Addr} {m1 d1 m2 d2 m3 d3:Nat} {s:ab_} (h:aM_ W n b1 b2 b3 m1 d1 m2 d2 m3 d3 s) (hB:B < n) (k:aZ_ B W W'):aM_ W' n b1 b2 b3 m1 d1 m2 d2 m3 d3 s:=by
 obtain ⟨vs,h1,h2⟩:=h.r1;have KR:∀ {T':TypeId} {size m:Nat} {v:Value} {cs:List Value},W.ownsRow n T' size v m cs→W'.ownsRow n T' size v m cs:=fun h=>ch_ h (fun j hj=>k.block j (h.lt j hj).2 (fun e=>by have:=(h.lt j hj).1;omega))
 exact ⟨h.l1,h.l2,h.l3,h.x2,⟨vs,KR h1,h2.keepT ⟨k.size,fun i cur' hn hi=>k.block i (lth_ hi) (by omega)⟩⟩,KR h.r2,KR h.r3⟩
theorem mB_ {p:ad_} {s:ab_} {q:Nat} {x:ae_} (hq:q < s.ready.length):gj_ p { s with ready:=s.ready.set q (ay_ (af_ s q) x) } q = putS p s q x∧af_ { s with ready:=s.ready.set q (ay_ (af_ s q) x) } q = ay_ (af_ s q) x:=by
 have h:af_ { s with ready:=s.ready.set q (ay_ (af_ s q) x) } q = ay_ (af_ s q) x:=by
  unfold af_;simp [hq]
 refine ⟨?_,h⟩;unfold gj_ putS;rw [h];simp [List.set_set]
theorem d1_ (p:ad_) (a1 a2 a3:Option Addr) (n1 c1 n2 c2 n3 c3:Nat) (s:ab_) (b1 b2 b3:Option Addr) (m1 d1 m2 d2 m3 d3:Nat) (tag:Int) (back:Bool) (w:World) (hp:ap_ w a1 a2 a3 n1 n2 n3 p) (hs:an_ w b1 b2 b3 m1 m2 m3 s) (hn2:b2 = none→d2 = 0) (hn3:b3 = none→d3 = 0) (hc2:m2≤d2) (hm2:d2≤maxLen) :
 Calls Tryz.prog 71 #[.agg #[.slice a1 n1 c1,.slice a2 n2 c2,.slice a3 n3 c3],.agg #[.slice b1 m1 d1,.slice b2 m2 d2,.slice b3 m3 d3,.int .i64 s.nextSeq,.int .i64 s.nextTag,.int .i64 s.came,.int .i64 s.acked,.int .i64 s.dropped],.int .i64 tag,.bool back] w fun e w'=>∃ v,e = .returned (.tuple #[v,.int .i64 (rejE p s tag)])∧bn_ w' w.heap.size v (rejE p s tag) (rejS p s tag back)∧Below w.heap.size w w':=by
 obtain ⟨E,hE⟩:∃ E,E = rejE p s tag:=⟨_,rfl⟩
 rw [← hE];obtain ⟨E0,hE0⟩:∃ E0,E0 = stE p s:=⟨_,rfl⟩
 obtain ⟨W3,hW3,hBw,hs3,hbx⟩:=cW_ w #[.slice a1 n1 c1,.slice a2 n2 c2,.slice a3 n3 c3] #[.slice b1 m1 d1,.slice b2 m2 d2,.slice b3 m3 d3,.int .i64 s.nextSeq,.int .i64 s.nextTag,.int .i64 s.came,.int .i64 s.acked,.int .i64 s.dropped];have HW3:=hidI hW3;have BX:=hidI hbx;have HE:=hidI hE;have HE0:=hidI hE0;have HS:=hidI (hs.keep hBw);have HP:=hidI (hp.keep hBw);have HBW:=hidI hBw;have HS3:=hidI hs3;have HN2:=hidI hn2;have HN3:=hidI hn3;have HC2:=hidI hc2;have HCM:=hidI hm2;have HM2:Hid (s.outs.length = m2):=hs.l2;have HPN:Hid (p.queues.length = n2):=hp.l2;have s0:=hBw.size;obtain ⟨x0,x1,x2⟩:=ag_ (hbx W3 (Below.refl _ _)).1;obtain ⟨y0,y1,y2,y3,y4,y5,y6,y7⟩:=aa_ (hbx W3 (Below.refl _ _)).2.1;have HER:Hid (∀ (D:Int) (W W4:World),D≠0→E = D→Below W3.heap.size W3 W→aZ_ (w.heap.size+2) W W4→∃ v,Ending.returned (.tuple #[zerS,.int .i64 D]) = .returned (.tuple #[v,.int .i64 E])∧bn_ W4 w.heap.size v E (rejS p s tag back)∧Below w.heap.size w W4):=fun D W W4 hD hED hB hT=>by
  refine ⟨zerS,by rw [hED],⟨fun h=>absurd (hED ▸ h) hD,fun _=>rfl⟩,HBW.out.trans ((hB.mono s0).trans (hT.below (by have:=hB.size;have:=HS3.out;omega) (by omega)))⟩
 clear hW3 hbx hs3 hp hs hBw hE hE0 hn2 hn3 hc2 hm2;go_enter Tryz.func71,Tryz.ntmps71;go_wp2_with fail
 rw [← HW3.out];refine (bl_ p _ _ _ _ _ _ _ _ _ s _ _ _ _ _ _ _ _ _ _ HP.out HS.out).mono ?_;rintro e w4 ⟨rfl,k4⟩;rw [← HE0.out];have s4:=k4.size;have K4:=hidI k4;clear x0 x1 x2 y0 y1 y2 y3 y4 y5 y6 y7 k4;by_cases hz:E0 = 0
 rotate_left
 ·have hz':(E0 != 0) = true:=bne_iff_ne.2 hz;have HZ:=hidI hz;have r4:=(BX.out w4 K4.out).2.2;obtain ⟨z0,z1,z2,z3,z4,z5,z6,z7⟩:=aa_ r4;have e0:=foc_ r4 0;have e1:=foc_ r4 1;have e2:=foc_ r4 2;have e3:=foc_ r4 3;have e4:=foc_ r4 4;have e5:=foc_ r4 5;have e6:=foc_ r4 6;have e7:=foc_ r4 7;have R4:=hidI r4;clear r4;clear hz;go_wp2_with fail
  generalize hW4:World.setCell (World.setCell (World.setCell (World.setCell (World.setCell (World.setCell (World.setCell (World.setCell w4 _ _) _ _) _ _) _ _) _ _) _ _) _ _) _ _ = W4;obtain ⟨b4,t4⟩:=store8 R4.out hW4;obtain ⟨z0,z1,z2,z3,z4,z5,z6,z7⟩:=aa_ b4;exact bodyPost_ret (v:=.tuple #[zerS,.int .i64 E0]) (by simp [results,Tryz.results71,go_sem,z0,z1,z2,z3,z4,z5,z6,z7,zerS]) rfl (HER.out E0 _ _ HZ.out (by rw [HE.out];have hak:ackE p s tag = stE p s:=(by unfold ackE;rw [if_pos (by rw [← HE0.out];exact HZ.out)]);unfold rejE;rw [hak,if_pos (by rw [← HE0.out];exact HZ.out)];rw [HE0.out]) K4.out t4)
 subst hz;have HR:=hidI (aK_ HE0.out.symm);obtain ⟨q1,q2,q3,q4⟩:=HS.out.small HR.out;have HQ:Hid (m1≤100∧(∀ l ∈ s.ready,l.length≤100)∧m2≤1000∧m3≤100):=⟨q1,q2,q3,q4⟩;clear q1 q2 q3 q4;obtain ⟨y0,y1,y2,y3,y4,y5,y6,y7⟩:=aa_ (BX.out w4 K4.out).2.1;go_wp2_with fail
 refine (ir_ s _ _ _ _ _ _ _ _ _ tag _ (HS.out.keep K4.out)).mono ?_;rintro e w5 ⟨rfl,k5'⟩;rw [jh_];have K5:Hid (Below W3.heap.size W3 w5):=K4.out.trans (k5'.mono s4);have s5:=K5.out.size;clear y0 y1 y2 y3 y4 y5 y6 y7 k5';by_cases hi:outIdx s tag < s.outs.length
 rotate_left
 ·rw [if_neg hi];have hie:outIdx s tag = s.outs.length:=by have:=eJ_ s tag;omega
  have HIE:=hidI hie;have r4:=(BX.out w5 K5.out).2.2;obtain ⟨z0,z1,z2,z3,z4,z5,z6,z7⟩:=aa_ r4;have e0:=foc_ r4 0;have e1:=foc_ r4 1;have e2:=foc_ r4 2;have e3:=foc_ r4 3;have e4:=foc_ r4 4;have e5:=foc_ r4 5;have e6:=foc_ r4 6;have e7:=foc_ r4 7;have R4:=hidI r4;clear r4;clear hi hie;go_wp2_with fail
  generalize hW4:World.setCell (World.setCell (World.setCell (World.setCell (World.setCell (World.setCell (World.setCell (World.setCell w5 _ _) _ _) _ _) _ _) _ _) _ _) _ _) _ _ = W4;obtain ⟨b4,t4⟩:=store8 R4.out hW4;obtain ⟨z0,z1,z2,z3,z4,z5,z6,z7⟩:=aa_ b4;exact bodyPost_ret (v:=.tuple #[zerS,.int .i64 5]) (by simp [results,Tryz.results71,go_sem,z0,z1,z2,z3,z4,z5,z6,z7,zerS]) rfl (HER.out 5 _ _ (by decide) (by rw [HE.out,eb_ HE0.out.symm];unfold rejX;rw [if_pos HIE.out]) K5.out t4)
 rw [if_pos hi];have HNE:Hid (outIdx s tag≠s.outs.length):=Nat.ne_of_lt hi;obtain ⟨i,o,hO⟩:=jP_ (Nat.ne_of_lt hi);have HOUT:=hidI hO;rw [hO.idx] at hi ⊢;have HIL:=hidI hi;have j0:¬ (i:Int) < 0:=by omega
 have j0':decide ((i:Int) < 0) = false:=by rw [decide_eq_false_iff_not];omega
 clear hi hO;obtain ⟨y0,y1,y2,y3,y4,y5,y6,y7⟩:=aa_ (BX.out w5 K5.out).2.1;by_cases hq:524288 < s.nextSeq
 ·have HE2:Hid (E = 2):=by show E = 2;rw [HE.out,eb_ HE0.out.symm];unfold rejX;rw [if_neg HNE.out,if_pos hq]
  have hqd:decide (524288 < s.nextSeq) = true:=decide_eq_true hq;have r4:=(BX.out w5 K5.out).2.2;obtain ⟨z0,z1,z2,z3,z4,z5,z6,z7⟩:=aa_ r4;have e0:=foc_ r4 0;have e1:=foc_ r4 1;have e2:=foc_ r4 2;have e3:=foc_ r4 3;have e4:=foc_ r4 4;have e5:=foc_ r4 5;have e6:=foc_ r4 6;have e7:=foc_ r4 7;have R4:=hidI r4;clear r4;go_wp2_with fail
  generalize hW4:World.setCell (World.setCell (World.setCell (World.setCell (World.setCell (World.setCell (World.setCell (World.setCell w5 _ _) _ _) _ _) _ _) _ _) _ _) _ _) _ _ = W4;obtain ⟨b4,t4⟩:=store8 R4.out hW4;obtain ⟨z0,z1,z2,z3,z4,z5,z6,z7⟩:=aa_ b4;exact bodyPost_ret (v:=.tuple #[zerS,.int .i64 2]) (by simp [results,Tryz.results71,go_sem,z0,z1,z2,z3,z4,z5,z6,z7,zerS]) rfl (HER.out 2 _ _ (by decide) HE2.out K5.out t4)
 have HEZ:Hid (E = 0):=by show E = 0;rw [HE.out,eb_ HE0.out.symm];unfold rejX;rw [if_neg HNE.out,if_neg hq]
 have HSQ:Hid (s.nextSeq≤524288):=by show s.nextSeq≤_;omega
 have hqd:decide (524288 < s.nextSeq) = false:=by rw [decide_eq_false_iff_not];exact hq
 obtain ⟨gq,oq,ha,hgq,oc0,oc1,oc2,oci⟩:=(HS.out.keep K5.out).q2.get HIL.out;obtain ⟨od0,od1,od2,od3,od4⟩:=oci;rw [HOUT.out.get] at oc0 oc1 oc2 od0 od1 od2 od3 od4;have HOK:Hid (am_ o.item = true):=(HR.out.fine HOUT.out.mem).2.item;obtain ⟨hq0,hq1,hq2⟩:=HOUT.out.queue HR.out;obtain ⟨q,hqq⟩:∃ q:Nat,o.queue = q:=⟨o.queue.toNat,by omega⟩
 obtain ⟨tg,tk,qu,it⟩:=o;dsimp only at hqq hq0 hq1 hq2 oc0 oc1 oc2;subst hqq;obtain ⟨sq,ky,bd,ag,de⟩:=it;dsimp only at od0 od1 od2 od3 od4;have i1:(0:Int)≤(i:Int):=by omega
 have i2:(i:Int) < m2:=by rw [← HM2.out];have:=HIL.out;omega
 have HQ1:Hid (q < s.ready.length∧q < p.queues.length):=⟨by omega,by omega⟩;subst ha;obtain ⟨w5b,hw5b⟩:∃ w5b,w5b = w5.alloc (.cells #[.int .i64 tg,.int .i64 tk,.int .i64 (q:Int),.int .i64 sq,.string ky,.string bd,.bool ag,.int .i64 de] 67):=⟨_,rfl⟩
 have hx5:w5b.heap[w5.heap.size]? = some (.cells #[.int .i64 tg,.int .i64 tk,.int .i64 (q:Int),.int .i64 sq,.string ky,.string bd,.bool ag,.int .i64 de] 67 (0,0)):=by rw [hw5b];exact World.alloc_heap_new w5 _
 have K5b:Hid (Below W3.heap.size W3 w5b):=by show Below W3.heap.size W3 w5b;rw [hw5b];exact K5.out.alloc s5 _
 have HW5:=hidI hw5b;obtain ⟨BO,hBO⟩:∃ BO,BO = w5.heap.size:=⟨_,rfl⟩
 have HBO:=hidI hBO;rw [← hBO] at hx5;have HX5:=hidI hx5;have HBG:Hid (W3.heap.size≤BO∧BO < w5b.heap.size):=⟨by rw [hBO];exact s5,lth_ hx5⟩;clear hq hw5b hx5 hBO hq0 hq1 hq2;go_upto_region 10 with fail
 rw [← HW5.out,← HBO.out];clear y0 y1 y2 y3 y4 y5 y6 y7 oc0 oc1 oc2 od0 od1 od2 od3 od4 hqd;obtain ⟨y0,y1,y2,y3,y4,y5,y6,y7⟩:=aa_ (BX.out w5b K5b.out).2.1;go_wp2_with fail
 refine (gq_ s _ _ _ _ _ _ _ _ _ i w5b (HS.out.keep K5b.out) HN2.out HN3.out HC2.out HCM.out HQ.out.1 HQ.out.2.1 HQ.out.2.2.1 HQ.out.2.2.2 HIL.out).mono ?_;rintro e w6 ⟨v6,rfl,hv6,k6'⟩;have hls:({ s with outs:=s.outs.eraseIdx i }:ab_) = bg_ s tag:=by unfold bg_;rw [HOUT.out.idx]
 rw [hls] at hv6;obtain ⟨L,hL⟩:∃ L,L = bg_ s tag:=⟨_,rfl⟩
 rw [← hL] at hv6;have HL:=hidI hL;obtain ⟨g1,g2,g3,l1,r1,l2,r2,l3,r3,rfl,ho⟩:=hv6;have k6:=K5b.out.trans (k6'.mono K5b.out.size);have s6:=k6.size;obtain ⟨w7,hw7⟩:∃ w7,w7 = w6.alloc (.cells #[.slice g1 l1 r1,.slice g2 l2 r2,.slice g3 l3 r3,.int .i64 L.nextSeq,.int .i64 L.nextTag,.int .i64 L.came,.int .i64 L.acked,.int .i64 L.dropped] 31):=⟨_,rfl⟩
 have l7:Below w6.heap.size w6 w7:=by rw [hw7];exact (Below.refl _ _).alloc (Nat.le_refl _) _
 have b7:w7.heap[w6.heap.size]? = some (.cells #[.slice g1 l1 r1,.slice g2 l2 r2,.slice g3 l3 r3,.int .i64 L.nextSeq,.int .i64 L.nextTag,.int .i64 L.came,.int .i64 L.acked,.int .i64 L.dropped] 31 (0,0)):=by rw [hw7];exact World.alloc_heap_new w6 _
 have K7:Hid (Below W3.heap.size W3 w7):=k6.trans (l7.mono s6);have HW7:=hidI hw7;obtain ⟨B7,hB7⟩:∃ B7,B7 = w6.heap.size:=⟨_,rfl⟩
 have HB7:=hidI hB7;rw [← hB7] at b7;have BB7:=hidI b7;have HG7:Hid (W3.heap.size≤B7):=by show _≤B7;rw [hB7];exact s6
 have HO7:=hidI (ho.keep l7);have L67:Hid (Below w5b.heap.size w5b w7):=k6'.trans (l7.mono k6'.size);clear y0 y1 y2 y3 y4 y5 y6 y7 k6' k6 hw7 l7 hB7 b7 ho hls hL j0 j0' i1 i2;go_upto_region 12 with fail
 rw [← HW7.out,← HB7.out];have hx7:=pkp_ HX5.out L67.out;have HX7:=hidI hx7;obtain ⟨NN,hNN⟩:∃ NN,NN = w5b.heap.size:=⟨_,rfl⟩
 have HNN:Hid (W3.heap.size≤NN∧BO < NN∧NN≤w7.heap.size):=⟨by rw [hNN];exact K5b.out.size,by rw [hNN];exact HBG.out.2,by rw [hNN];exact L67.out.size⟩;rw [← hNN] at HO7;have HBN:Hid (BO≠B7):=by
  show BO≠B7;intro e;have h1:=HX7.out;rw [e,BB7.out] at h1;cases h1
 obtain ⟨M,hM⟩:∃ M,M = rejM p s tag back:=⟨_,rfl⟩
 obtain ⟨A,hA⟩:∃ A,A = rejA p s tag back:=⟨_,rfl⟩
 have HM:=hidI hM;have HA:=hidI hA;have HRL:Hid (ak_ p L 1):=by show ak_ p L 1;rw [HL.out];exact HR.out.less HOUT.out
 have HNI:Hid (sq ∉ as_ L):=by show sq ∉ _;rw [HL.out];exact HOUT.out.notin HR.out
 have HLR:Hid (L.ready = s.ready∧L.dropped = s.dropped):=by rw [HL.out];exact ⟨rfl,rfl⟩
 have HSR':Hid (arrS p 600 M A = rejS p s tag back):=by show _ = _;rw [HM.out,HA.out];rfl
 obtain ⟨gm1,gm2,gm3⟩:=HR.out.rejM HOUT.out back;rw [← hM] at gm1;rw [← hA] at gm2 gm3;have HGM:Hid (ak_ p M 0∧(∀ a ∈ A,c9_ p a)∧A.length≤4∧M.nextSeq≤524288):=⟨gm1,gm2,gm3,by rw [hM,(ec_ p s tag back).1];exact HSQ.out⟩;clear hNN hM hA gm1 gm2 gm3;cases back with
 | true =>
   have f6:=foc_ hx7 6;obtain ⟨v0,v1,v2,v3,v4,v5,v6,v7⟩:=cells8 hx7;go_upto_region 14 with fail
   generalize hw8:w7.setCell ⟨BO,6,none⟩ (.bool true) = w8;have x3:w8.heap[BO]? = some (.cells #[.int .i64 tg,.int .i64 tk,.int .i64 (q:Int),.int .i64 sq,.string ky,.string bd,.bool true,.int .i64 de] 67 (0,0)):=by rw [← hw8];exact scb_ HX7.out (j:=6) _
   have t8:aZ_ BO w7 w8:=by rw [← hw8];exact sct_ w7 BO 6 _
   have hb:=(t8.block B7 (lth_ BB7.out) (fun e=>HBN.out e.symm)).trans BB7.out;have ho:=HO7.out.turnLow HNN.out.2.1 t8;have K8:Hid (Below W3.heap.size W3 w8):=K7.out.trans (t8.below K7.out.size HBG.out.1);have N8:Hid (NN≤w8.heap.size):=Nat.le_trans HNN.out.2.2 t8.size;have HQL:Hid (q < L.ready.length):=by show q < L.ready.length;rw [HLR.out.1];exact HQ1.out.1
   obtain ⟨vs,hr1,hlv⟩:=ho.r1;have hm1:L.ready.length = l1:=ho.l1;have hqm:q < l1:=by rw [← hm1];exact HQL.out
   obtain ⟨g,rfl⟩:∃ g,g1 = some ⟨g,0,none⟩:=by
    rcases hr1.2 with ⟨e,e0⟩ | ⟨g,cap,cur,e,_⟩
    ·exfalso;omega
    ·cases e;exact ⟨g,rfl⟩
   obtain ⟨v,bl,cl,hv1,hlj⟩:=hlv.get q HQL.out;have hcell:=hr1.cellAt q (by omega);have hfrz:=hr1.frozenAt q;rw [hv1,hlj.v] at hcell;have hsj:L.ready[q]'HQL.out = af_ L q:=(a3_ HQL.out).symm;rw [hsj] at hcell hlj;obtain ⟨LL,hLL⟩:∃ LL,LL = (af_ L q).length:=⟨_,rfl⟩
   rw [← hLL] at hcell;have hL6:LL≤6:=by rw [hLL];exact HRL.out.line6 (a7_ HQL.out)
   have hg3:g < w8.heap.size:=(hr1.lt g rfl).2;have hgn:NN≤g:=(hr1.lt g rfl).1;obtain ⟨_,curg,hgb⟩:=aT_ hr1;have htl3:=lth_ hb;have HGB:=hidI hgb;have SS:Hid (∀ W':World,W'.heap[B7]? = w8.heap[B7]?→W'.heap[BO]? = w8.heap[BO]?→(W'.cell? ⟨B7,0,none⟩ = some (.slice (some ⟨g,0,none⟩) l1 r1)∧W'.cell? ⟨BO,2,none⟩ = some (.int .i64 (q:Int))∧W'.cell? ⟨BO,3,none⟩ = some (.int .i64 sq)∧W'.cell? ⟨BO,4,none⟩ = some (.string ky)∧W'.cell? ⟨BO,5,none⟩ = some (.string bd)∧W'.cell? ⟨BO,6,none⟩ = some (.bool true)∧W'.cell? ⟨BO,7,none⟩ = some (.int .i64 de))):=fun W' h1 h2=>by
    have hb':=h1.trans hb;have hx':=h2.trans x3;exact ⟨coc_ hb' 0,coc_ hx' 2,coc_ hx' 3,coc_ hx' 4,coc_ hx' 5,coc_ hx' 6,coc_ hx' 7⟩
   have HB:=hidI hb;have X3:=hidI x3;have HOS:=hidI ho;have HLJ:=hidI hlj;have HLLH:=hidI hLL;have HCE:=hidI hcell;have HFZ:=hidI hfrz;have hXL:=lth_ x3;have j1:(0:Int)≤(q:Int):=by omega
   have j2:(q:Int) < l1:=by omega
   clear t8 hb ho x3 hr1 hlv hm1 hqm hv1 hlj hcell hfrz hsj hLL hgb f6 v0 v1 v2 v3 v4 v5 v6 v7 hx7 hw8;refine wp_region_held_drew (S:=fun W'=>(W'.cell? ⟨B7,0,none⟩ = some (.slice (some ⟨g,0,none⟩) l1 r1)∧W'.cell? ⟨BO,2,none⟩ = some (.int .i64 (q:Int))∧W'.cell? ⟨BO,3,none⟩ = some (.int .i64 sq)∧W'.cell? ⟨BO,4,none⟩ = some (.string ky)∧W'.cell? ⟨BO,5,none⟩ = some (.string bd)∧W'.cell? ⟨BO,6,none⟩ = some (.bool true)∧W'.cell? ⟨BO,7,none⟩ = some (.int .i64 de))) (by kernel_rfl) (SS.out _ rfl rfl) (fun hHeld=>?_);obtain ⟨wd,hwd⟩:∃ wd,wd = w8.drew:=⟨_,rfl⟩
   rw [← hwd] at hHeld ⊢;have ld:Below w8.heap.size w8 wd:=by rw [hwd];exact (Below.refl _ _).drew
   clear hwd;refine dz_ 0 ?_;refine dz_ 1 ?_;refine dz_ 2 ?_;refine dz_ 3 ?_;refine dz_ 4 ?_;refine dz_ 5 ?_;refine dz_ 6 ?_;refine dz_ 7 ?_;refine dz_ 8 ?_;refine dz_ 10 ?_;refine dz_ 11 ?_;refine rdy 9 (fun K hK=>?_);have cq:=(ld.cell (p:=⟨g,q,none⟩) hg3).trans HCE.out;go_simp;refine hK.out _ _ (SS.out _ (ld.block B7 htl3) (ld.block BO hXL)) (fun _=>?_);clear hK K cq;try refine nrm ?_
   refine rdy 12 (fun K hK=>?_);go_simp;have hlo:at_ (af_ L q) = true:=HRL.out.line _ (a7_ HQL.out);have hno:bL_ sq (af_ L q) = false:=cD_ (x:=⟨sq,ky,bd,true,de⟩) HQL.out hlo HNI.out;refine (iC_ (af_ L q) bl LL cl sq de ky bd true _ HLLH.out.symm (by omega) (HLJ.out.it.keep ld) hno).mono ?_;rintro e w9 ⟨v9,m9,rfl,o9,k9⟩;have l9:Below w8.heap.size w8 w9:=ld.trans (k9.mono ld.size);refine hK.out _ _ (SS.out _ (l9.block B7 htl3) (l9.block BO hXL)) (fun hH5=>?_);clear hK K;try refine nrm ?_
   refine dz_ 13 ?_;have hnd:NN≤wd.heap.size:=by have:=ld.size;have:=N8.out;omega
   obtain ⟨b9,c9,hv9,hm9⟩:=bD_ o9 hnd;have hv9v:=hv9.v;subst hv9v;obtain ⟨PL,hPL⟩:∃ PL,PL = (ay_ (af_ L q) ⟨sq,ky,bd,true,de⟩).length:=⟨_,rfl⟩
   rw [← hPL] at hv9 ⊢;have HPLL:=hidI hPL;clear hPL;have c8:=(l9.cell (p:=⟨g,q,none⟩) hg3).trans HCE.out;have f8:=(l9.frozen (p:=⟨g,q,none⟩) hg3).trans HFZ.out;refine rdy 14 (fun K hK=>?_);go_simp;obtain ⟨w10,hw10⟩:∃ w10,w10 = w9.setCell ⟨g,q,none⟩ (.slice b9 PL c9):=⟨_,rfl⟩
   rw [← hw10];have hg9:=(l9.block g hg3).trans HGB.out;have kt10:av_ 46 w9 w10:=by rw [hw10];exact av_.setCell hg9 _
   have bt9:=pkp_ HB.out l9;have xh9:=pkp_ X3.out l9;have bt10:=(kt10.block B7 _ _ bt9 (by decide)).trans bt9;have xh10:=(kt10.block BO _ _ xh9 (by decide)).trans xh9;refine hK.out _ _ (SS.out _ (bt10.trans HB.out.symm) (xh10.trans X3.out.symm)) (fun _=>?_);clear hK K;try refine nrm ?_
   refine wpAnyH_done (by kernel_rfl) ?_ _;obtain ⟨S1,hS1⟩:∃ S1:ab_,S1 = { L with ready:=L.ready.set q (ay_ (af_ L q) ⟨sq,ky,bd,true,de⟩) }:=⟨_,rfl⟩
   have ho10:aM_ w10 NN (some ⟨g,0,none⟩) g2 g3 l1 r1 l2 r2 l3 r3 S1:=by rw [hS1];exact (HOS.out.keep l9).line HQL.out hv9 hw10
   have hbx10:StBox w10 NN B7 S1:=⟨_,_,_,_,_,_,_,_,_,by rw [hS1];exact bt10,ho10⟩;have t10:aZ_ g w9 w10:=by rw [hw10];exact sct_ w9 g q _
   have K10:Hid (Below W3.heap.size W3 w10):=(K8.out.trans (l9.mono K8.out.size)).trans (t10.below (Nat.le_trans K8.out.size l9.size) (by have:=HNN.out.1;omega));have hsp:=mB_ (p:=p) (x:=⟨sq,ky,bd,true,de⟩) HQL.out;rw [← hS1] at hsp;have hl10:at_ (af_ S1 q) = true:=by rw [hsp.2];exact ds_ hlo HOK.out hno
   have hdl:=HR.out.dropped_le;have hdr:S1.dropped = s.dropped:=by rw [hS1];exact HLR.out.2
   have hsr:S1.ready.length = n2:=by rw [hS1];show (L.ready.set q _).length = n2;rw [List.length_set,HLR.out.1,HR.out.len,HPN.out]
   have HSH:=hidI (g5_ p a1 a2 a3 n1 c1 n2 c2 n3 c3 S1 q NN B7 W3 w10 HP.out K10.out (by have:=HG7.out;have:=HNN.out;omega) HNN.out.1 (by have:=N8.out;have:=l9.size;have:=t10.size;omega) HR.out.pl (by rw [← HPN.out];exact HQ1.out.2) hsr hl10 (by rw [hdr];omega) hbx10);rw [hsp.1,hsp.2] at HSH;have XH10:=hidI xh10;have HSZ:Hid (w8.heap.size≤w10.heap.size):=Nat.le_trans l9.size t10.size;obtain ⟨v0,v1,v2,v3,v4,v5,v6,v7⟩:=cells8 xh10;obtain ⟨x0,x1,x2⟩:=ag_ (BX.out w10 K10.out).1;clear bt9 bt10 xh9 xh10 kt10 ho10 hbx10 t10 hsp hl10 hsr hdr hdl hw10 c8 f8 hg9 o9 hv9 hm9 k9 l9 ld hnd hlo hno hH5 hHeld hS1;go_wp2_with fail
   refine HSH.out.mono ?_;rintro e w11 ⟨v11,rfl,har,hst,hF11,hKp⟩;have hMe:putS p L q ⟨sq,ky,bd,true,de⟩ = M:=by rw [HM.out,HL.out];unfold rejM;rw [if_pos rfl,HOUT.out.out];rfl
   have hAe:putA p q (ay_ (af_ L q) ⟨sq,ky,bd,true,de⟩) = A:=by rw [HA.out,HL.out];unfold rejA putB;rw [if_pos rfl,HOUT.out.out];rfl
   rw [hMe] at hst;rw [hAe] at har;have K11:Hid (Below W3.heap.size W3 w11):=K10.out.trans (hF11.below HNN.out.1 HG7.out);have N11:Hid (NN≤w11.heap.size):=by show NN≤_;have:=hF11.size;have:=lth_ XH10.out;have h8:=N8.out;have:=hg3;exact Nat.le_trans h8 (Nat.le_trans HSZ.out hF11.size)
   obtain ⟨ma,hra⟩:=har;obtain ⟨aa,ca,hva,hca,hcm,hna,-⟩:=aH_ hra;subst hva;have hAL:A.length = ma:=by have h:=hra.1;rw [aV_] at h;omega
   have HAR:=hidI (ev_ p a1 a2 a3 n1 c1 n2 c2 n3 c3 M A aa ma ca NN B7 W3 w11 HP.out K11.out HG7.out HNN.out.1 N11.out HGM.out.1 (dx_ hra) hAL HGM.out.2.2.1 hca hcm HGM.out.2.1 HGM.out.2.2.2 hst);obtain ⟨x0,x1,x2⟩:=ag_ (BX.out w11 K11.out).1;clear hra hna hAL hst hca hcm hMe hAe hF11 hKp v0 v1 v2 v3 v4 v5 v6 v7;go_wp2_with fail
   refine HAR.out.mono ?_;rintro e w12 ⟨rfl,hbx12,hF12⟩;have HF8:Hid (Below W3.heap.size W3 w12):=K11.out.trans (hF12.below HNN.out.1 HG7.out);rw [HSR'.out] at hbx12;obtain ⟨SR,hSR⟩:∃ SR,SR = rejS p s tag true:=⟨_,rfl⟩
   rw [← hSR] at hbx12;obtain ⟨c1',c2',c3',p1,u1,p2,u2,p3,u3,hb12,ho12⟩:=hbx12;have HO8:=hidI (ho12.lower (n':=W3.heap.size) HNN.out.1);have HSR:=hidI hSR;have r8:=(BX.out w12 HF8.out).2.2;obtain ⟨y0,y1,y2,y3,y4,y5,y6,y7⟩:=aa_ hb12;obtain ⟨z0,z1,z2,z3,z4,z5,z6,z7⟩:=aa_ r8;have e0:=foc_ r8 0;have e1:=foc_ r8 1;have e2:=foc_ r8 2;have e3:=foc_ r8 3;have e4:=foc_ r8 4;have e5:=foc_ r8 5;have e6:=foc_ r8 6;have e7:=foc_ r8 7;have R8:=hidI r8;clear r8 hb12 ho12 hF12 x0 x1 x2 hSR;go_wp2_with fail
   generalize hW9:World.setCell (World.setCell (World.setCell (World.setCell (World.setCell (World.setCell (World.setCell (World.setCell w12 _ _) _ _) _ _) _ _) _ _) _ _) _ _) _ _ = W9;obtain ⟨b9,t9⟩:=store8 R8.out hW9;obtain ⟨z0,z1,z2,z3,z4,z5,z6,z7⟩:=aa_ b9;exact bodyPost_ret (v:=.tuple #[.agg #[.slice c1' p1 u1,.slice c2' p2 u2,.slice c3' p3 u3,.int .i64 SR.nextSeq,.int .i64 SR.nextTag,.int .i64 SR.came,.int .i64 SR.acked,.int .i64 SR.dropped],.int .i64 0]) (by simp [results,Tryz.results71,go_sem,z0,z1,z2,z3,z4,z5,z6,z7]) rfl ⟨_,by rw [HEZ.out],⟨fun _=>by rw [← HSR.out];exact ⟨_,_,_,_,_,_,_,_,_,rfl,(HO8.out.turn R8.out (by decide) t9).lower (by have:=HS3.out;omega)⟩,fun h=>absurd HEZ.out h⟩,HBW.out.trans ((HF8.out.mono s0).trans (t9.below (by have:=HF8.out.size;have:=HS3.out;omega) (by omega)))⟩
 | false =>
   obtain ⟨v0,v1,v2,v3,v4,v5,v6,v7⟩:=cells8 hx7;have y7:=(aa_ BB7.out).2.2.2.2.2.2.2;have f7:=foc_ BB7.out 7;have j7:IntKind.i64.wrap (L.dropped+1) = L.dropped+1:=by rw [HLR.out.2];exact hK_ HR.out.dropped_le.1 (by have:=HR.out.dropped_le.2;omega)
   go_upto_region 17 with fail
   generalize hw8:w7.setCell ⟨B7,7,none⟩ (.int .i64 (L.dropped+1)) = w8;have t8:aZ_ B7 w7 w8:=by rw [← hw8];exact sct_ w7 B7 7 _
   have hst8:StBox w8 NN B7 { L with dropped:=L.dropped+1 }:=by rw [← hw8];exact StBox.field7 ⟨_,_,_,_,_,_,_,_,_,BB7.out,HO7.out⟩ _
   have hMe:({ L with dropped:=L.dropped+1 }:ab_) = M:=by rw [HM.out,HL.out];unfold rejM;rw [if_neg (by decide)];rfl
   rw [hMe] at hst8;have HST8:=hidI hst8;have K8:Hid (Below W3.heap.size W3 w8):=K7.out.trans (t8.below K7.out.size HG7.out);have N8:Hid (NN≤w8.heap.size):=Nat.le_trans HNN.out.2.2 t8.size;have x8:=(t8.block BO (lth_ HX7.out) HBN.out).trans HX7.out;clear v0 v1 v2 v3 v4 v5 v6 v7 y7 f7 j7 hx7 t8 hst8 hMe hw8;obtain ⟨v0,v1,v2,v3,v4,v5,v6,v7⟩:=cells8 x8;obtain ⟨x0,x1,x2⟩:=ag_ (BX.out w8 K8.out).1;clear x8;go_wp2_with fail
   refine (h3_ p a1 a2 a3 n1 c1 n2 c2 n3 c3 q ⟨sq,ky,bd,ag,de⟩ w8 (HP.out.keep K8.out) HR.out.pl (by rw [← HPN.out];exact HQ1.out.2) HOK.out).mono ?_;rintro e w11 ⟨v11,rfl,har,k11⟩;have hAe:dieL p q ⟨sq,ky,bd,ag,de⟩ = A:=by rw [HA.out];unfold rejA;rw [if_neg (by decide),HOUT.out.out];rfl
   rw [hAe] at har;have hst:=HST8.out.keep k11;have K11:Hid (Below W3.heap.size W3 w11):=K8.out.trans (k11.mono K8.out.size);have N11:Hid (NN≤w11.heap.size):=Nat.le_trans N8.out k11.size;obtain ⟨ma,hra⟩:=har;obtain ⟨aa,ca,hva,hca,hcm,hna,-⟩:=aH_ hra;subst hva;have hAL:A.length = ma:=by have h:=hra.1;rw [aV_] at h;omega
   have HAR:=hidI (ev_ p a1 a2 a3 n1 c1 n2 c2 n3 c3 M A aa ma ca NN B7 W3 w11 HP.out K11.out HG7.out HNN.out.1 N11.out HGM.out.1 (dx_ hra) hAL HGM.out.2.2.1 hca hcm HGM.out.2.1 HGM.out.2.2.2 hst);obtain ⟨x0,x1,x2⟩:=ag_ (BX.out w11 K11.out).1;clear hra hna hAL hst hca hcm hAe k11 v0 v1 v2 v3 v4 v5 v6 v7;go_wp2_with fail
   refine HAR.out.mono ?_;rintro e w12 ⟨rfl,hbx12,hF12⟩;have HF8:Hid (Below W3.heap.size W3 w12):=K11.out.trans (hF12.below HNN.out.1 HG7.out);rw [HSR'.out] at hbx12;obtain ⟨SR,hSR⟩:∃ SR,SR = rejS p s tag false:=⟨_,rfl⟩
   rw [← hSR] at hbx12;obtain ⟨c1',c2',c3',p1,u1,p2,u2,p3,u3,hb12,ho12⟩:=hbx12;have HO8:=hidI (ho12.lower (n':=W3.heap.size) HNN.out.1);have HSR:=hidI hSR;have r8:=(BX.out w12 HF8.out).2.2;obtain ⟨y0,y1,y2,y3,y4,y5,y6,y7⟩:=aa_ hb12;obtain ⟨z0,z1,z2,z3,z4,z5,z6,z7⟩:=aa_ r8;have e0:=foc_ r8 0;have e1:=foc_ r8 1;have e2:=foc_ r8 2;have e3:=foc_ r8 3;have e4:=foc_ r8 4;have e5:=foc_ r8 5;have e6:=foc_ r8 6;have e7:=foc_ r8 7;have R8:=hidI r8;clear r8 hb12 ho12 hF12 x0 x1 x2 hSR;go_wp2_with fail
   generalize hW9:World.setCell (World.setCell (World.setCell (World.setCell (World.setCell (World.setCell (World.setCell (World.setCell w12 _ _) _ _) _ _) _ _) _ _) _ _) _ _) _ _ = W9;obtain ⟨b9,t9⟩:=store8 R8.out hW9;obtain ⟨z0,z1,z2,z3,z4,z5,z6,z7⟩:=aa_ b9;exact bodyPost_ret (v:=.tuple #[.agg #[.slice c1' p1 u1,.slice c2' p2 u2,.slice c3' p3 u3,.int .i64 SR.nextSeq,.int .i64 SR.nextTag,.int .i64 SR.came,.int .i64 SR.acked,.int .i64 SR.dropped],.int .i64 0]) (by simp [results,Tryz.results71,go_sem,z0,z1,z2,z3,z4,z5,z6,z7]) rfl ⟨_,by rw [HEZ.out],⟨fun _=>by rw [← HSR.out];exact ⟨_,_,_,_,_,_,_,_,_,rfl,(HO8.out.turn R8.out (by decide) t9).lower (by have:=HS3.out;omega)⟩,fun h=>absurd HEZ.out h⟩,HBW.out.trans ((HF8.out.mono s0).trans (t9.below (by have:=HF8.out.size;have:=HS3.out;omega) (by omega)))⟩
end Go.Proofs.YtlbnkpicnokgoaaGreat
