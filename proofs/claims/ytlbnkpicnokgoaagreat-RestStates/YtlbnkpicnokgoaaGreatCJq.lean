import Derived.Deep.RegionHeld3
import Derived.Deep.DeepCutAuto
import Derived.Test.YtlbnkpicnokgoaaGreatCJp
import Derived.Test.YtlbnkpicnokgoaaGreatCJg
import Derived.Test.YtlbnkpicnokgoaaGreatUax
namespace Go.Proofs.YtlbnkpicnokgoaaGreat
open Go.RowKit Go.Maps
set_option linter.unusedVariables false
set_option maxRecDepth 100000
set_option maxHeartbeats 8000000
theorem cL_:type_of% @tk:=@tk
theorem jc_ (p:ad_) (a1 a2 a3:Option Addr) (n1 c1 n2 c2 n3 c3:Nat) (s:ab_) (b1 b2 b3:Option Addr) (m1 d1 m2 d2 m3 d3:Nat) (tk:Int) (w:World) (hp:ap_ w a1 a2 a3 n1 n2 n3 p) (hs:an_ w b1 b2 b3 m1 m2 m3 s) (hn2:b2 = none→d2 = 0) (hn3:b3 = none→d3 = 0) (hc2:m2≤d2) (hm2:d2≤maxLen) :
 Calls Tryz.prog 70 #[.agg #[.slice a1 n1 c1,.slice a2 n2 c2,.slice a3 n3 c3],.agg #[.slice b1 m1 d1,.slice b2 m2 d2,.slice b3 m3 d3,.int .i64 s.nextSeq,.int .i64 s.nextTag,.int .i64 s.came,.int .i64 s.acked,.int .i64 s.dropped],.int .i64 tk] w fun e w'=>∃ v,e = .returned (.tuple #[v,.int .i64 (dB_ p s tk)])∧bn_ w' w.heap.size v (dB_ p s tk) (e6_ p s tk)∧Below w.heap.size w w':=by
 obtain ⟨E,hE⟩:∃ E,E = dB_ p s tk:=⟨_,rfl⟩
 rw [← hE];obtain ⟨E0,hE0⟩:∃ E0,E0 = stE p s:=⟨_,rfl⟩
 obtain ⟨W3,hW3,hBw,hs3,hbx⟩:=cW_ w #[.slice a1 n1 c1,.slice a2 n2 c2,.slice a3 n3 c3] #[.slice b1 m1 d1,.slice b2 m2 d2,.slice b3 m3 d3,.int .i64 s.nextSeq,.int .i64 s.nextTag,.int .i64 s.came,.int .i64 s.acked,.int .i64 s.dropped];have HW3:=hidI hW3;have BX:=hidI hbx;have HE:=hidI hE;have HE0:=hidI hE0;have HS:=hidI (hs.keep hBw);have HP:=hidI (hp.keep hBw);have HBW:=hidI hBw;have HS3:=hidI hs3;have HN2:=hidI hn2;have HN3:=hidI hn3;have HC2:=hidI hc2;have HCM:=hidI hm2;have HM2:Hid (s.outs.length = m2):=hs.l2;have HPN:Hid (p.queues.length = n2):=hp.l2;have s0:=hBw.size;obtain ⟨x0,x1,x2⟩:=ag_ (hbx W3 (Below.refl _ _)).1;obtain ⟨y0,y1,y2,y3,y4,y5,y6,y7⟩:=aa_ (hbx W3 (Below.refl _ _)).2.1;have HER:Hid (∀ (D:Int) (W W4:World),D≠0→E = D→Below W3.heap.size W3 W→aZ_ (w.heap.size+2) W W4→∃ v,Ending.returned (.tuple #[zerS,.int .i64 D]) = .returned (.tuple #[v,.int .i64 E])∧bn_ W4 w.heap.size v E (e6_ p s tk)∧Below w.heap.size w W4):=fun D W W4 hD hED hB hT=>by
  refine ⟨zerS,by rw [hED],⟨fun h=>absurd (hED ▸ h) hD,fun _=>rfl⟩,HBW.out.trans ((hB.mono s0).trans (hT.below (by have:=hB.size;have:=HS3.out;omega) (by omega)))⟩
 clear hW3 hbx hs3 hp hs hBw hE hE0 hn2 hn3 hc2 hm2;go_enter Tryz.func70,Tryz.ntmps70;go_wp2_with fail
 rw [← HW3.out];refine (bl_ p _ _ _ _ _ _ _ _ _ s _ _ _ _ _ _ _ _ _ _ HP.out HS.out).mono ?_;rintro e w4 ⟨rfl,k4⟩;rw [← HE0.out];have s4:=k4.size;have K4:=hidI k4;clear x0 x1 x2 y0 y1 y2 y3 y4 y5 y6 y7 k4;by_cases hz:E0 = 0
 rotate_left
 ·have hz':(E0 != 0) = true:=bne_iff_ne.2 hz;have HZ:=hidI hz;have r4:=(BX.out w4 K4.out).2.2;obtain ⟨z0,z1,z2,z3,z4,z5,z6,z7⟩:=aa_ r4;have e0:=foc_ r4 0;have e1:=foc_ r4 1;have e2:=foc_ r4 2;have e3:=foc_ r4 3;have e4:=foc_ r4 4;have e5:=foc_ r4 5;have e6:=foc_ r4 6;have e7:=foc_ r4 7;have R4:=hidI r4;clear r4;clear hz;go_wp2_with fail
  generalize hW4:World.setCell (World.setCell (World.setCell (World.setCell (World.setCell (World.setCell (World.setCell (World.setCell w4 _ _) _ _) _ _) _ _) _ _) _ _) _ _) _ _ = W4;obtain ⟨b4,t4⟩:=store8 R4.out hW4;obtain ⟨z0,z1,z2,z3,z4,z5,z6,z7⟩:=aa_ b4;exact bodyPost_ret (v:=.tuple #[zerS,.int .i64 E0]) (by simp [results,Tryz.results70,go_sem,z0,z1,z2,z3,z4,z5,z6,z7,zerS]) rfl (HER.out E0 _ _ HZ.out (by rw [HE.out];unfold dB_;rw [if_pos (by rw [← HE0.out];exact HZ.out)];rw [HE0.out]) K4.out t4)
 subst hz;have HR:=hidI (aK_ HE0.out.symm);obtain ⟨q1,q2,q3,q4⟩:=HS.out.small HR.out;have HQ:Hid (m1≤100∧(∀ l ∈ s.ready,l.length≤100)∧m2≤1000∧m3≤100):=⟨q1,q2,q3,q4⟩;clear q1 q2 q3 q4;have HM3:Hid (s.takers.length = m3):=HS.out.l3;have HEX:Hid (E = c2_ p s tk):=by show E = _;rw [HE.out];unfold dB_ c2_;rw [if_neg (by rw [← HE0.out];simp)]
 have hw:IntKind.i64.wrap ((m3:Int) - 1) = (m3:Int) - 1:=by rw [IntKind.wrap_i64];have:=HQ.out.2.2.2;omega
 obtain ⟨y0,y1,y2,y3,y4,y5,y6,y7⟩:=aa_ (BX.out w4 K4.out).2.1;have r4:=(BX.out w4 K4.out).2.2;obtain ⟨z0,z1,z2,z3,z4,z5,z6,z7⟩:=aa_ r4;have e0:=foc_ r4 0;have e1:=foc_ r4 1;have e2:=foc_ r4 2;have e3:=foc_ r4 3;have e4:=foc_ r4 4;have e5:=foc_ r4 5;have e6:=foc_ r4 6;have e7:=foc_ r4 7;have R4:=hidI r4;clear r4;go_wp2_with fail
 refine (aC_ tk 0 ((m3:Int) - 1) _).mono ?_;rintro e w5 ⟨rfl,hw5⟩;subst hw5;by_cases hn:ar_ tk m3 = false
 ·have hi:inR tk 0 ((m3:Int) - 1) = false:=by rw [d6_] at hn;exact ib_ (by omega)
  have HE5:Hid (E = 5):=by show E = 5;rw [HEX.out];unfold c2_;rw [if_pos (by rw [HM3.out];exact hn)]
  rw [hi];clear hn;go_wp2_with fail
  generalize hW4:World.setCell (World.setCell (World.setCell (World.setCell (World.setCell (World.setCell (World.setCell (World.setCell w5 _ _) _ _) _ _) _ _) _ _) _ _) _ _) _ _ = W4;obtain ⟨b4,t4⟩:=store8 R4.out hW4;obtain ⟨z0,z1,z2,z3,z4,z5,z6,z7⟩:=aa_ b4;exact bodyPost_ret (v:=.tuple #[zerS,.int .i64 5]) (by simp [results,Tryz.results70,go_sem,z0,z1,z2,z3,z4,z5,z6,z7,zerS]) rfl (HER.out 5 _ _ (by decide) HE5.out K4.out t4)
 have hnn:=aB_.1 (by simpa using hn:ar_ tk m3 = true);have hi:inR tk 0 ((m3:Int) - 1) = true:=fY_ hnn.1 (by omega);rw [hi];obtain ⟨kk,hkk⟩:∃ kk:Nat,tk = kk:=⟨tk.toNat,by omega⟩
 subst hkk;have hkm:kk < m3:=by omega
 have hkl:kk < s.takers.length:=by rw [HM3.out];exact hkm
 obtain ⟨gt,ot,ha,hgt,ct0,ct1⟩:=(HS.out.keep K4.out).q3.get hkl;subst ha;obtain ⟨qu,hqu⟩:∃ qu,qu = (s.takers[kk]'hkl).queue:=⟨_,rfl⟩
 rw [← hqu] at ct0;have HQU:Hid ((tAt s kk).queue = qu):=by show _ = qu;unfold tAt;rw [List.getD_eq_getElem?_getD,List.getElem?_eq_getElem hkl,hqu];rfl
 have HLX0:Hid (E = if qu = -1 then 5 else cd_ p kk s.outs s):=by
  show E = _;rw [HEX.out];unfold c2_;rw [if_neg (by rw [HM3.out];exact hn),Int.toNat_natCast,HQU.out]
 have i1:(0:Int)≤(kk:Int):=by omega
 have i2:(kk:Int) < m3:=by omega
 have HKL:=hidI hkl;clear hn hnn hi hqu hkl ct1;by_cases hqn:qu = -1
 ·have hb:(qu == -1) = true:=by simp [hqn]
  have HE5:Hid (E = 5):=by show E = 5;rw [HLX0.out,if_pos hqn]
  clear hqn;go_wp2_with fail
  generalize hW4:World.setCell (World.setCell (World.setCell (World.setCell (World.setCell (World.setCell (World.setCell (World.setCell w5 _ _) _ _) _ _) _ _) _ _) _ _) _ _) _ _ = W4;obtain ⟨b4,t4⟩:=store8 R4.out hW4;obtain ⟨z0,z1,z2,z3,z4,z5,z6,z7⟩:=aa_ b4;exact bodyPost_ret (v:=.tuple #[zerS,.int .i64 5]) (by simp [results,Tryz.results70,go_sem,z0,z1,z2,z3,z4,z5,z6,z7,zerS]) rfl (HER.out 5 _ _ (by decide) HE5.out K4.out t4)
 have hb:(qu == -1) = false:=by simp [hqn]
 have HLX:Hid (E = cd_ p kk s.outs s):=by show E = _;rw [HLX0.out,if_neg hqn]
 clear hqn;go_wp2_with fail
 refine (b4_ s _ _ _ _ _ _ _ _ _ _ (HS.out.keep K4.out) HN2.out HN3.out HQ.out.1 HQ.out.2.1 HQ.out.2.2.1 HQ.out.2.2.2).mono ?_;rintro e w6 ⟨v6,rfl,hv6,k6'⟩;obtain ⟨o1,o2,o3,k1,j1,k2,j2,k3,j3,rfl,ho⟩:=hv6;have k6:=K4.out.trans (k6'.mono s4);have s6:=k6.size;obtain ⟨w7,hw7⟩:∃ w7,w7 = w6.alloc (.cells #[.slice o1 k1 j1,.slice o2 k2 j2,.slice o3 k3 j3,.int .i64 s.nextSeq,.int .i64 s.nextTag,.int .i64 s.came,.int .i64 s.acked,.int .i64 s.dropped] 31):=⟨_,rfl⟩
 have l7:Below w6.heap.size w6 w7:=by rw [hw7];exact (Below.refl _ _).alloc (Nat.le_refl _) _
 have b7:w7.heap[w6.heap.size]? = some (.cells #[.slice o1 k1 j1,.slice o2 k2 j2,.slice o3 k3 j3,.int .i64 s.nextSeq,.int .i64 s.nextTag,.int .i64 s.came,.int .i64 s.acked,.int .i64 s.dropped] 31 (0,0)):=by rw [hw7];exact World.alloc_heap_new w6 _
 have K7:Hid (Below W3.heap.size W3 w7):=k6.trans (l7.mono s6);have HW7:=hidI hw7;obtain ⟨B7,hB7⟩:∃ B7,B7 = w6.heap.size:=⟨_,rfl⟩
 have HB7:=hidI hB7;rw [← hB7] at b7;have HG7:Hid (W3.heap.size≤B7):=by show _≤B7;rw [hB7];exact s6
 have HST7:Hid (StBox w7 W3.heap.size B7 s):=⟨_,_,_,_,_,_,_,_,_,b7,(ho.lower (n':=W3.heap.size) s4).keep l7⟩;have hm2:m2≤1000:=HQ.out.2.2.1;clear y0 y1 y2 y3 y4 y5 y6 y7 z0 z1 z2 z3 z4 z5 z6 z7 e0 e1 e2 e3 e4 e5 e6 e7 k6' k6 hw7 l7 hB7 b7 ho ct0 hb hw hgt;go_upto_region 7 with fail
 rw [← HW7.out,← HB7.out];go_wp2_with fail
 go_loopw [10] (fun i wr=>∃ (k:Nat),k≤m2∧i = .int .i64 k∧∃ cur,ou_ p s kk W3.heap.size B7 w7 wr k cur) (fun i _=>m2 - (intOf i).toNat)
 case atStart=>exact ⟨0,Nat.zero_le _,rfl,s,HST7.out,ac_.refl _ _ _,rfl,by simp,by simp⟩
 case round=>
  obtain ⟨k,hk,rfl,cur,hinv⟩:=hrel;have KWr:Hid (Below W3.heap.size W3 wr):=K7.out.trans (hinv.fr.below (Nat.le_refl _) HG7.out);have hszr:=KWr.out.size;obtain ⟨g1,g2,g3,l1,r1,l2,r2,l3,r3,hbr,hor⟩:=hinv.box;have HLE:=hidI hinv.le;have HLL:=hidI hinv.ll;have HTS:=hidI hinv.tk;have HFR:=hidI hinv.fr;have HBR:=hidI hbr;have HOR:=hidI hor;obtain ⟨y0,y1,y2,y3,y4,y5,y6,y7⟩:=aa_ (BX.out wr KWr.out).2.1;clear hinv hbr hor;by_cases hlt:k < m2
  ·have HLT:=hidI hlt;have hkl2:k < s.outs.length:=by rw [HM2.out];exact hlt
   obtain ⟨gq,oq,ha,hgq,oc0,oc1,oc2,oci⟩:=(HS.out.keep KWr.out).q2.get hkl2;have hdr:s.outs.drop k = s.outs[k] :: s.outs.drop (k+1):=List.drop_eq_getElem_cons hkl2;obtain ⟨x,hx⟩:∃ x,x = s.outs[k]:=⟨_,rfl⟩
   rw [← hx] at oc0 oc1 oc2 oci hdr;have HDR:=hidI hdr;obtain ⟨tg,tkr,qq,it⟩:=x;dsimp only at oc0 oc1 oc2;have i3:(0:Int)≤(k:Int):=by omega
   have i4:(k:Int) < m2:=by omega
   have HGQ:=hidI hgq;have OC0:=hidI oc0;clear hdr hx oc2 oci;subst ha;by_cases htk:tkr = kk
   rotate_left
   ·have hb:(tkr != (kk:Int)) = true:=bne_iff_ne.2 htk;have HNT:=hidI htk;clear htk;go_wp2_with fail
    go_roundw
    case rel=>
     refine ⟨k+1,HLT.out,by have:=HLT.out;go_num,cur,⟨_,_,_,_,_,_,_,_,_,HBR.out,HOR.out⟩,HFR.out,HTS.out,?_,?_⟩
     ·rw [HLE.out,HDR.out];conv=>lhs;unfold cd_
      rw [if_neg HNT.out]
     ·rw [HLL.out,HDR.out];conv=>lhs;unfold cm_
      rw [if_neg HNT.out]
    case measure=>have:=HLT.out;simp [intOf];omega
   have hb:(tkr != (kk:Int)) = false:=by simp [htk]
   have HTK:Hid ((⟨tg,tkr,qq,it⟩:OutD).taker = (kk:Int)):=htk;have HPV:=hidI (HP.out.keep KWr.out);have HNR:Hid (W3.heap.size≤wr.heap.size):=hszr;have HCAP:Hid (l2≤r2∧r2≤maxLen):=⟨(eL_ HOR.out.r2).1,(eL_ HOR.out.r2).2.1⟩;obtain ⟨EE,hEE⟩:∃ EE,EE = rejE p cur tg:=⟨_,rfl⟩
   have HEE:=hidI hEE;have SC:Hid (∀ W',Below wr.heap.size wr W'→((W'.cell? ⟨w.heap.size,0,none⟩ = some (.slice a1 n1 c1)∧W'.cell? ⟨w.heap.size,1,none⟩ = some (.slice a2 n2 c2)∧W'.cell? ⟨w.heap.size,2,none⟩ = some (.slice a3 n3 c3))∧(W'.cell? ⟨B7,0,none⟩ = some (.slice g1 l1 r1)∧W'.cell? ⟨B7,1,none⟩ = some (.slice g2 l2 r2)∧W'.cell? ⟨B7,2,none⟩ = some (.slice g3 l3 r3)∧W'.cell? ⟨B7,3,none⟩ = some (.int .i64 cur.nextSeq)∧W'.cell? ⟨B7,4,none⟩ = some (.int .i64 cur.nextTag)∧W'.cell? ⟨B7,5,none⟩ = some (.int .i64 cur.came)∧W'.cell? ⟨B7,6,none⟩ = some (.int .i64 cur.acked)∧W'.cell? ⟨B7,7,none⟩ = some (.int .i64 cur.dropped))∧W'.cell? ⟨w.heap.size+1,1,none⟩ = some (.slice (some ⟨gq,oq,none⟩) m2 d2)∧W'.cell? ⟨gq,oq+k * 8,none⟩ = some (.int .i64 tg))):=fun W' h=>by
    have hh:=KWr.out.trans (h.mono KWr.out.size);exact ⟨ag_ (BX.out W' hh).1,aa_ (pkp_ HBR.out h),(aa_ (BX.out W' hh).2.1).2.1,(h.cell (p:=⟨gq,oq+k * 8,none⟩) HGQ.out).trans OC0.out⟩
   clear htk hEE;go_upto_region 11 with fail
   go_cut [11,12] from 39 to 70 (fun s11 s12 wx=>∃ BB u,s11 = .pointer (some ⟨BB,0,none⟩)∧s12 = .int .i64 EE∧wx.heap[BB]? = some (.cells u 31 (0,0))∧bn_ wx W3.heap.size (.agg u) EE (rejS p cur tg true)∧Below wr.heap.size wr wx)
   case first=>
    refine wp_region_held_drew (S:=fun W'=>(W'.cell? ⟨w.heap.size,0,none⟩ = some (.slice a1 n1 c1)∧W'.cell? ⟨w.heap.size,1,none⟩ = some (.slice a2 n2 c2)∧W'.cell? ⟨w.heap.size,2,none⟩ = some (.slice a3 n3 c3))∧(W'.cell? ⟨B7,0,none⟩ = some (.slice g1 l1 r1)∧W'.cell? ⟨B7,1,none⟩ = some (.slice g2 l2 r2)∧W'.cell? ⟨B7,2,none⟩ = some (.slice g3 l3 r3)∧W'.cell? ⟨B7,3,none⟩ = some (.int .i64 cur.nextSeq)∧W'.cell? ⟨B7,4,none⟩ = some (.int .i64 cur.nextTag)∧W'.cell? ⟨B7,5,none⟩ = some (.int .i64 cur.came)∧W'.cell? ⟨B7,6,none⟩ = some (.int .i64 cur.acked)∧W'.cell? ⟨B7,7,none⟩ = some (.int .i64 cur.dropped))∧W'.cell? ⟨w.heap.size+1,1,none⟩ = some (.slice (some ⟨gq,oq,none⟩) m2 d2)∧W'.cell? ⟨gq,oq+k * 8,none⟩ = some (.int .i64 tg)) (by kernel_rfl) (SC.out _ (Below.refl _ _).drew) (fun hHeld=>?_);obtain ⟨wq,hwq⟩:∃ wq,wq = wr.drew:=⟨_,rfl⟩
    have Lwq:Hid (Below wr.heap.size wr wq):=by show Below wr.heap.size wr wq;rw [hwq];exact (Below.refl _ _).drew
    rw [← hwq] at hHeld ⊢;clear hwq;refine cL_ 0 ?_;refine cL_ 1 ?_;refine cL_ 2 ?_;refine cL_ 3 ?_;refine cL_ 4 ?_;refine cL_ 5 ?_;refine cL_ 6 ?_;refine cL_ 7 ?_;refine wpAnyH_ready (rs:=[8,12]) (by kernel_rfl) (by simp) ?_;refine AllReadyH.cons rfl (fun K hK=>?_) (AllReadyH.cons rfl (fun K hK=>?_) AllReadyH.nil)
    ·go_simp;refine (d1_ p a1 a2 a3 n1 c1 n2 c2 n3 c3 cur g1 g2 g3 l1 r1 l2 r2 l3 r3 tg true _ (HPV.out.keep Lwq.out) (HOR.out.keep Lwq.out).state (HOR.out.keep Lwq.out).nils.1 (HOR.out.keep Lwq.out).nils.2 HCAP.out.1 HCAP.out.2).mono ?_;rintro e wd ⟨vd,rfl,hresd,kd⟩;rw [← HEE.out] at hresd ⊢;obtain ⟨x1,x2,x3,q1,e1,q2,e2,q3,e3,i1,i2,i3,i4,i5,rfl⟩:=hresd.shape;have Lwd:Hid (Below wr.heap.size wr wd):=Lwq.out.trans (kd.mono Lwq.out.size);have HSd:=hidI (hresd.lower (n':=W3.heap.size) (by have:=Lwq.out.size;have:=HNR.out;omega));refine hK.out _ _ (SC.out _ Lwd.out) (fun hHd=>?_);clear hK K hresd kd;try refine nrm ?_
     refine cL_ 9 ?_;refine cL_ 10 ?_;refine cL_ 11 ?_;refine rdy 12 (fun K hK=>?_);go_simp;obtain ⟨wa,hwa⟩:∃ wa,wa = wd.alloc (.cells #[.slice none 0 0,.slice none 0 0,.slice none 0 0,.int .i64 0,.int .i64 0,.int .i64 0,.int .i64 0,.int .i64 0] 31):=⟨_,rfl⟩
     have la:Below wd.heap.size wd wa:=by rw [hwa];exact (Below.refl _ _).alloc (Nat.le_refl _) _
     have Lwa:Hid (Below wr.heap.size wr wa):=Lwd.out.trans (la.mono Lwd.out.size);have ba:wa.heap[wd.heap.size]? = some (.cells #[.slice none 0 0,.slice none 0 0,.slice none 0 0,.int .i64 0,.int .i64 0,.int .i64 0,.int .i64 0,.int .i64 0] 31 (0,0)):=by rw [hwa];exact World.alloc_heap_new wd _
     obtain ⟨BB,hBB⟩:∃ BB,BB = wd.heap.size:=⟨_,rfl⟩
     have hBg:wr.heap.size≤BB:=by rw [hBB];exact Lwd.out.size
     rw [← hwa,← hBB];rw [← hBB] at ba;have HSa:=hidI (HSd.out.keep la);refine hK.out _ _ (SC.out _ Lwa.out) (fun hHa=>?_);clear hK K hwa hBB;try refine nrm ?_
     refine rdy 13 (fun K hK=>?_);obtain ⟨c0,c1',c2',c3',c4,c5,c6,c7⟩:=aa_ ba;have g0:=foc_ ba 0;have g1:=foc_ ba 1;have g2:=foc_ ba 2;have g3:=foc_ ba 3;have g4:=foc_ ba 4;have g5:=foc_ ba 5;have g6:=foc_ ba 6;have g7:=foc_ ba 7;go_simp;generalize hWz:World.setCell (World.setCell (World.setCell (World.setCell (World.setCell (World.setCell (World.setCell (World.setCell wa _ _) _ _) _ _) _ _) _ _) _ _) _ _) _ _ = Wz;obtain ⟨bz,tz⟩:=store8 ba hWz;have lz:Below wr.heap.size wr Wz:=Lwa.out.trans (tz.below Lwa.out.size hBg);have rz:=HSa.out.turn ba tz;have RL:=hidI (And.intro bz (And.intro rz lz));refine hK.out _ _ (SC.out _ lz) (fun hHz=>?_);clear hK K;try refine nrm ?_
     refine cL_ 14 ?_;refine wpAnyH_done (by kernel_rfl) ?_ _;clear c0 c1' c2' c3' c4 c5 c6 c7 g0 g1 g2 g3 g4 g5 g6 g7 bz rz lz hHz tz hWz;go_wp2_with fail
     go_meet
     case rel=>exact ⟨BB,_,rfl,rfl,RL.out⟩
    ·go_simp;obtain ⟨wa,hwa⟩:∃ wa,wa = wq.alloc (.cells #[.slice none 0 0,.slice none 0 0,.slice none 0 0,.int .i64 0,.int .i64 0,.int .i64 0,.int .i64 0,.int .i64 0] 31):=⟨_,rfl⟩
     have la:Below wq.heap.size wq wa:=by rw [hwa];exact (Below.refl _ _).alloc (Nat.le_refl _) _
     have Lwa:Hid (Below wr.heap.size wr wa):=Lwq.out.trans (la.mono Lwq.out.size);have ba:wa.heap[wq.heap.size]? = some (.cells #[.slice none 0 0,.slice none 0 0,.slice none 0 0,.int .i64 0,.int .i64 0,.int .i64 0,.int .i64 0,.int .i64 0] 31 (0,0)):=by rw [hwa];exact World.alloc_heap_new wq _
     obtain ⟨BB,hBB⟩:∃ BB,BB = wq.heap.size:=⟨_,rfl⟩
     have hBg:wr.heap.size≤BB:=by rw [hBB];exact Lwq.out.size
     rw [← hwa,← hBB];rw [← hBB] at ba;refine hK.out _ _ (SC.out _ Lwa.out) (fun hHa=>?_);clear hK K hwa hBB;try refine nrm ?_
     refine rdy 8 (fun K hK=>?_);go_simp;refine (d1_ p a1 a2 a3 n1 c1 n2 c2 n3 c3 cur g1 g2 g3 l1 r1 l2 r2 l3 r3 tg true _ (HPV.out.keep Lwa.out) (HOR.out.keep Lwa.out).state (HOR.out.keep Lwa.out).nils.1 (HOR.out.keep Lwa.out).nils.2 HCAP.out.1 HCAP.out.2).mono ?_;rintro e wd ⟨vd,rfl,hresd,kd⟩;rw [← HEE.out] at hresd ⊢;obtain ⟨x1,x2,x3,q1,e1,q2,e2,q3,e3,i1,i2,i3,i4,i5,rfl⟩:=hresd.shape;have Lwd:Hid (Below wr.heap.size wr wd):=Lwa.out.trans (kd.mono Lwa.out.size);have HSd:=hidI (hresd.lower (n':=W3.heap.size) (by have:=Lwa.out.size;have:=HNR.out;omega));have bd:=pkp_ ba kd;refine hK.out _ _ (SC.out _ Lwd.out) (fun hHd=>?_);clear hK K hresd kd;try refine nrm ?_
     refine cL_ 9 ?_;refine cL_ 10 ?_;refine cL_ 11 ?_;refine rdy 13 (fun K hK=>?_);obtain ⟨c0,c1',c2',c3',c4,c5,c6,c7⟩:=aa_ bd;have g0:=foc_ bd 0;have g1:=foc_ bd 1;have g2:=foc_ bd 2;have g3:=foc_ bd 3;have g4:=foc_ bd 4;have g5:=foc_ bd 5;have g6:=foc_ bd 6;have g7:=foc_ bd 7;go_simp;generalize hWz:World.setCell (World.setCell (World.setCell (World.setCell (World.setCell (World.setCell (World.setCell (World.setCell wd _ _) _ _) _ _) _ _) _ _) _ _) _ _) _ _ = Wz;obtain ⟨bz,tz⟩:=store8 bd hWz;have lz:Below wr.heap.size wr Wz:=Lwd.out.trans (tz.below Lwd.out.size hBg);have rz:=HSd.out.turn bd tz;have RL:=hidI (And.intro bz (And.intro rz lz));refine hK.out _ _ (SC.out _ lz) (fun hHz=>?_);clear hK K;try refine nrm ?_
     refine cL_ 14 ?_;refine wpAnyH_done (by kernel_rfl) ?_ _;clear c0 c1' c2' c3' c4 c5 c6 c7 g0 g1 g2 g3 g4 g5 g6 g7 bz rz lz hHz tz hWz;go_wp2_with fail
     go_meet
     case rel=>exact ⟨BB,_,rfl,rfl,RL.out⟩
   case rest=>
    obtain ⟨BB,u,rfl,rfl,hbb,hrs,hBx⟩:=hcut;have HBB:=hidI hbb;have HRS:=hidI hrs;have KX:=hidI hBx;have K6:Hid (Below W3.heap.size W3 wc):=KWr.out.trans (hBx.mono KWr.out.size);clear hbb hrs hBx;by_cases hz:EE = 0
    rotate_left
    ·have hz':(EE != 0) = true:=bne_iff_ne.2 hz;have HZN:=hidI hz;have HX:Hid (E = EE):=by
      show E = EE;rw [HLX.out,HLE.out,HDR.out];unfold cd_;rw [if_pos HTK.out,if_pos (by rw [← HEE.out];exact HZN.out),HEE.out]
     clear hz;have r4:=(BX.out wc K6.out).2.2;obtain ⟨z0,z1,z2,z3,z4,z5,z6,z7⟩:=aa_ r4;have e0:=foc_ r4 0;have e1:=foc_ r4 1;have e2:=foc_ r4 2;have e3:=foc_ r4 3;have e4:=foc_ r4 4;have e5:=foc_ r4 5;have e6:=foc_ r4 6;have e7:=foc_ r4 7;have R4:=hidI r4;clear r4;go_wp2_with fail
     generalize hW4:World.setCell (World.setCell (World.setCell (World.setCell (World.setCell (World.setCell (World.setCell (World.setCell wc _ _) _ _) _ _) _ _) _ _) _ _) _ _) _ _ = W4;obtain ⟨b4,t4⟩:=store8 R4.out hW4;obtain ⟨z0,z1,z2,z3,z4,z5,z6,z7⟩:=aa_ b4;exact bodyPost_ret (v:=.tuple #[zerS,.int .i64 EE]) (by simp [results,Tryz.results70,go_sem,z0,z1,z2,z3,z4,z5,z6,z7,zerS]) rfl (HER.out EE _ _ HZN.out HX.out K6.out t4)
    have HEZ:=hidI hz;have hE0:=HRS.out.1 hz;obtain ⟨y1',y2',y3',h1,f1,h2,f2,h3,f3,hv,ho⟩:=hE0;cases hv;have HOX:=hidI ho;clear ho;subst hz;have T6:=hidI (pkp_ HBR.out KX.out);obtain ⟨c0,c1',c2',c3',c4,c5,c6,c7⟩:=aa_ HBB.out;obtain ⟨z0,z1,z2,z3,z4,z5,z6,z7⟩:=aa_ T6.out;have e0:=foc_ T6.out 0;have e1:=foc_ T6.out 1;have e2:=foc_ T6.out 2;have e3:=foc_ T6.out 3;have e4:=foc_ T6.out 4;have e5:=foc_ T6.out 5;have e6:=foc_ T6.out 6;have e7:=foc_ T6.out 7;go_wp2_with fail
    generalize hWz:World.setCell (World.setCell (World.setCell (World.setCell (World.setCell (World.setCell (World.setCell (World.setCell wc _ _) _ _) _ _) _ _) _ _) _ _) _ _) _ _ = Wz;obtain ⟨bz,tz⟩:=store8 T6.out hWz;have oz:=HOX.out.turn T6.out (by decide) tz;go_roundw
    case rel=>
     refine ⟨k+1,HLT.out,by have:=HLT.out;go_num,rejS p cur tg true,⟨_,_,_,_,_,_,_,_,_,bz,oz⟩,(HFR.out.trans (ac_.of_below KX.out HNR.out)).turnB tz (by have:=K6.out.size;omega),(ge_ p cur tg true).trans HTS.out,?_,?_⟩
     ·rw [HLE.out,HDR.out];conv=>lhs;unfold cd_
      rw [if_pos HTK.out,if_neg (by rw [← HEE.out];simp)]
     ·rw [HLL.out,HDR.out];conv=>lhs;unfold cm_
      rw [if_pos HTK.out]
    case measure=>have:=HLT.out;simp [intOf];omega
  ·have hke:k = m2:=by omega
   subst hke;clear hlt hk;rw [← HM2.out,List.drop_length] at HLE HLL;have HEZ:Hid (E = 0):=by show E = (0:Int);rw [HLX.out,HLE.out];rfl
   have HCU:Hid (cm_ p kk s.outs s = cur):=by show _ = cur;rw [HLL.out];rfl
   have hr3:=HOR.out.r3;have hl3:l3 = s.takers.length:=by rw [← HTS.out];exact HOR.out.l3.symm
   have hkk3:kk < l3:=by rw [hl3];exact HKL.out
   obtain ⟨gU,rfl⟩:∃ gU,g3 = some ⟨gU,0,none⟩:=by
    rcases hr3.2 with ⟨e,e0⟩ | ⟨g,cap,cc,e,_⟩
    ·exfalso;omega
    ·cases e;exact ⟨g,rfl⟩
   have hkc:kk < cur.takers.length:=by rw [HTS.out];exact HKL.out
   have cc:wr.cell? ⟨gU,kk * 2,none⟩ = some (.int .i64 (cur.takers[kk]'hkc).queue):=by
    rw [hr3.cellAt (kk * 2) (by omega)];exact bJ_ (f:=aj_.cells) (k:=2) (fun _=>rfl) cur.takers kk hkc 0 (by omega)
   have ff:=hr3.frozenAt (kk * 2);have u2:=(aa_ HBR.out).2.2.1;have i3:(kk:Int) < l3:=by omega
   obtain ⟨qz,hqz⟩:∃ qz,qz = (cur.takers[kk]'hkc).queue:=⟨_,rfl⟩
   rw [← hqz] at cc;have HKC:=hidI hkc;clear hr3 hl3 hqz hkc;go_upto_region 16 with fail
   clear y0 y1 y2 y3 y4 y5 y6 y7;generalize hw8:wr.setCell ⟨gU,kk * 2,none⟩ (.int .i64 (-1)) = w8;obtain ⟨h1,h2,h3⟩:=HOR.out.takerQ HKC.out (-1) hw8.symm;have hbt:=(h2.block B7 _ _ HBR.out (by decide)).trans HBR.out;have HF8:Hid (Below W3.heap.size W3 w8):=by show Below _ W3 w8;rw [← hw8];exact KWr.out.setCell (p:=⟨gU,kk * 2,none⟩) h3 _
   obtain ⟨SR,hSR⟩:∃ SR,SR = e6_ p s kk:=⟨_,rfl⟩
   have he:({ cur with takers:=cur.takers.set kk ⟨-1,(cur.takers[kk]'HKC.out).most⟩ }:ab_) = SR:=by
    rw [hSR];unfold e6_ dQ_;rw [HCU.out,Int.toNat_natCast,List.getD_eq_getElem?_getD,List.getElem?_eq_getElem HKC.out];rfl
   rw [he] at h1;have hbt':w8.heap[B7]? = some (.cells #[.slice g1 l1 r1,.slice g2 l2 r2,.slice (some ⟨gU,0,none⟩) l3 r3,.int .i64 SR.nextSeq,.int .i64 SR.nextTag,.int .i64 SR.came,.int .i64 SR.acked,.int .i64 SR.dropped] 31 (0,0)):=by rw [← he];exact hbt
   have HO8:=hidI h1;have HSR:=hidI hSR;have r8:=(BX.out w8 HF8.out).2.2;obtain ⟨y0,y1,y2,y3,y4,y5,y6,y7⟩:=aa_ hbt';obtain ⟨z0,z1,z2,z3,z4,z5,z6,z7⟩:=aa_ r8;have e0:=foc_ r8 0;have e1:=foc_ r8 1;have e2:=foc_ r8 2;have e3:=foc_ r8 3;have e4:=foc_ r8 4;have e5:=foc_ r8 5;have e6:=foc_ r8 6;have e7:=foc_ r8 7;have R8:=hidI r8;clear r8 hbt hbt' h1 h2 h3 he hSR hw8 cc ff u2;go_wp2_with fail
   generalize hW9:World.setCell (World.setCell (World.setCell (World.setCell (World.setCell (World.setCell (World.setCell (World.setCell w8 _ _) _ _) _ _) _ _) _ _) _ _) _ _) _ _ = W9;obtain ⟨b9,t9⟩:=store8 R8.out hW9;obtain ⟨z0,z1,z2,z3,z4,z5,z6,z7⟩:=aa_ b9;exact bodyPost_ret (v:=.tuple #[.agg #[.slice g1 l1 r1,.slice g2 l2 r2,.slice (some ⟨gU,0,none⟩) l3 r3,.int .i64 SR.nextSeq,.int .i64 SR.nextTag,.int .i64 SR.came,.int .i64 SR.acked,.int .i64 SR.dropped],.int .i64 0]) (by simp [results,Tryz.results70,go_sem,z0,z1,z2,z3,z4,z5,z6,z7]) rfl ⟨_,by rw [HEZ.out],⟨fun _=>by rw [← HSR.out];exact ⟨_,_,_,_,_,_,_,_,_,rfl,(HO8.out.turn R8.out (by decide) t9).lower (by have:=HS3.out;omega)⟩,fun h=>absurd HEZ.out h⟩,HBW.out.trans ((HF8.out.mono s0).trans (t9.below (by have:=HF8.out.size;have:=HS3.out;omega) (by omega)))⟩
end Go.Proofs.YtlbnkpicnokgoaaGreat
