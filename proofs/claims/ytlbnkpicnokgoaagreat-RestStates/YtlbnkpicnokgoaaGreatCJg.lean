import Derived.Deep.RegionHeld3
import Derived.Deep.DeepCutAuto
import Derived.Test.YtlbnkpicnokgoaaGreatCJe
import Derived.Test.YtlbnkpicnokgoaaGreatUax
namespace Go.Proofs.YtlbnkpicnokgoaaGreat
open Go.RowKit Go.Maps
set_option linter.unusedVariables false
set_option maxRecDepth 100000
set_option maxHeartbeats 8000000
theorem bj_:type_of% @tk:=@tk
def c2_ (p:ad_) (s:ab_) (t:Int):Int:=if ar_ t s.takers.length = false then 5 else if (tAt s t.toNat).queue = -1 then 5 else cd_ p t s.outs s
theorem gn_ {xs:List aj_} {k:Nat} (hk:k < xs.length) (q:Int):(tkC_ xs).set (k * 2) (.int .i64 q) = tkC_ (xs.set k ⟨q,xs[k].most⟩):=by
 rw [← el_ hk ⟨q,xs[k].most⟩];have e1:=bJ_ (f:=aj_.cells) (k:=2) (fun _=>rfl) xs k hk 1 (by omega);have e2:(tkC_ xs)[k * 2+1]? = some (.int .i64 xs[k].most):=e1;apply List.ext_getElem?
 intro j;rw [List.getElem?_set (i:=k * 2+1)];by_cases h:k * 2+1 = j
 ·subst h;rw [if_pos rfl,if_pos (by rw [List.length_set,bq_];omega),List.getElem?_set,if_neg (by omega),e2]
 ·rw [if_neg h]
theorem aM_.takerQ {W W':World} {n g:Nat} {b1 b2:Option Addr} {m1 d1 m2 d2 m3 d3:Nat} {s:ab_} (h:aM_ W n b1 b2 (some ⟨g,0,none⟩) m1 d1 m2 d2 m3 d3 s) {k:Nat} (hk:k < s.takers.length) (q:Int) (hW:W' = W.setCell ⟨g,k * 2,none⟩ (.int .i64 q)):aM_ W' n b1 b2 (some ⟨g,0,none⟩) m1 d1 m2 d2 m3 d3 { s with takers:=s.takers.set k ⟨q,s.takers[k].most⟩ }∧av_ 69 W W'∧n≤g:=by
 obtain ⟨hn,cur,hg⟩:=aT_ h.r3;have s1:=h.r3.stored (k * 2) (.int .i64 q);have kt:av_ 69 W W':=by rw [hW];exact av_.setCell hg _
 refine ⟨h.takers kt ?_,kt,hn⟩;rw [hW,← gn_ hk];exact s1.1
structure ou_ (p:ad_) (s:ab_) (kk:Int) (n t:Nat) (W wr:World) (k:Nat) (cur:ab_):Prop where
 box:StBox wr n t cur
 fr:ac_ n t W wr
 tk:cur.takers = s.takers
 le:cd_ p kk s.outs s = cd_ p kk (s.outs.drop k) cur
 ll:cm_ p kk s.outs s = cm_ p kk (s.outs.drop k) cur
theorem gR_ {p:ad_} {s:ab_} {t:Int} (h:t < 0∨(s.takers.length:Int)≤t):c2_ p s t = 5:=by
 unfold c2_;rw [if_pos (d6_.2 (by omega))]
theorem jb_ (p:ad_) (a1 a2 a3:Option Addr) (n1 c1 n2 c2 n3 c3:Nat) (s:ab_) (b1 b2 b3:Option Addr) (m1 d1 m2 d2 m3 d3:Nat) (tk:Int) (Bp Bs Bt:Nat) (w:World) (hp:ap_ w a1 a2 a3 n1 n2 n3 p) (hs:an_ w b1 b2 b3 m1 m2 m3 s) (x0:w.heap[Bp]? = some (.cells #[.slice a1 n1 c1,.slice a2 n2 c2,.slice a3 n3 c3] 26 (0,0))) (x1:w.heap[Bs]? = some (.cells #[.slice b1 m1 d1,.slice b2 m2 d2,.slice b3 m3 d3,.int .i64 s.nextSeq,.int .i64 s.nextTag,.int .i64 s.came,.int .i64 s.acked,.int .i64 s.dropped] 31 (0,0))) (x2:w.heap[Bt]? = some (.cells #[.int .i64 tk] 3 (0,0))) (hR:ak_ p s 0) :
 hL_ 82 #[.pointer (some ⟨Bt,0,none⟩),.pointer (some ⟨Bs,0,none⟩),.pointer (some ⟨Bp,0,none⟩)] w s (c2_ p s tk) (e6_ p s tk):=by
 intro W n t hBW hwt htn hnW hbx;have hap:(#[Value.pointer (some ⟨t,0,none⟩)] ++ #[Value.pointer (some ⟨Bt,0,none⟩),Value.pointer (some ⟨Bs,0,none⟩),Value.pointer (some ⟨Bp,0,none⟩)]:Array Value) = #[.pointer (some ⟨t,0,none⟩),.pointer (some ⟨Bt,0,none⟩),.pointer (some ⟨Bs,0,none⟩),.pointer (some ⟨Bp,0,none⟩)]:=rfl;rw [hap];have HBX:=hidI hbx;obtain ⟨o1,o2,o3,k1,j1,k2,j2,k3,j3,hb,ho⟩:=hbx;have hk3:k3 = s.takers.length:=ho.l3.symm;have HR:=hidI hR;have X0:=hidI x0;have X1:=hidI x1;have X2:=hidI x2;have HP:=hidI hp;have HS:=hidI hs;have HBW:=hidI hBW;have hz:=hBW.size;have lp:=lth_ x0;have ls:=lth_ x1;have lt:=lth_ x2;have HB:=hidI hb;have HO:=hidI ho;have HM2:Hid (s.outs.length = m2):=hs.l2;have hm2:m2≤1000:=by rw [← hs.l2];exact (bM_ hR).2.2.1
 have hm3:k3≤4:=by rw [hk3];exact hR.tk
 have HK3:=hidI hk3;have SA:Hid (∀ W',Below W.heap.size W W'→(W'.cell? ⟨Bt,0,none⟩ = some (.int .i64 tk)∧W'.cell? ⟨t,2,none⟩ = some (.slice o3 k3 j3))):=fun W' h=>⟨by have:=coc_ (pkp_ (pkp_ X2.out HBW.out) h) 0;simpa using this,(aa_ (pkp_ HB.out h)).2.2.1⟩
 clear hap x0 x1 x2 hR hp hs hb ho hk3 hBW;go_enter Tryz.func82,Tryz.ntmps82;go_upto_region 0 with fail
 refine wp_region_held_drew (S:=fun W'=>W'.cell? ⟨Bt,0,none⟩ = some (.int .i64 tk)∧W'.cell? ⟨t,2,none⟩ = some (.slice o3 k3 j3)) (by kernel_rfl) (SA.out _ (Below.refl _ _).drew) (fun hHeld=>?_);obtain ⟨wq,hwq⟩:∃ wq,wq = W.drew:=⟨_,rfl⟩
 have Lwq:Hid (Below W.heap.size W wq):=by show Below W.heap.size W wq;rw [hwq];exact (Below.refl _ _).drew
 rw [← hwq] at hHeld ⊢;clear hwq;refine bj_ 0 ?_;refine bj_ 1 ?_;refine bj_ 2 ?_;refine bj_ 3 ?_;refine bj_ 4 ?_;refine bj_ 5 ?_;refine bj_ 6 ?_;refine bj_ 7 ?_;refine bj_ 8 ?_;refine rdy 9 (fun K hK=>?_);go_simp;obtain ⟨wa,hwa⟩:∃ wa,wa = wq.alloc (.cells #[.bool (decide (tk < 0)),.bool (decide ((k3:Int)≤tk))] 4):=⟨_,rfl⟩
 have HBN:Hid (be_ wa wq.heap.size 0 [decide (tk < 0),decide ((k3:Int)≤tk)]):=by show be_ wa wq.heap.size 0 _;rw [hwa];exact bk_ wq [decide (tk < 0),decide ((k3:Int)≤tk)]
 have Lwa:Hid (Below W.heap.size W wa):=by show Below W.heap.size W wa;rw [hwa];exact Lwq.out.alloc Lwq.out.size _
 rw [← hwa];refine hK.out _ _ (SA.out _ Lwa.out) (fun hHa=>?_);clear hK K hwa;try refine nrm ?_
 refine rdy 10 (fun K hK=>?_);go_simp;by_cases hbad:tk < 0∨(k3:Int)≤tk
 ·refine (ax_ 5 [decide (tk < 0),decide ((k3:Int)≤tk)] _ _ (by simp) HBN.out (by simp;omega)).mono ?_;rintro e wb ⟨rfl,rfl⟩;exact ⟨rfl,ac_.of_below Lwa.out hnW,.inl ⟨by rw [gR_ (by rw [← HK3.out];exact hbad)];decide,by rw [gR_ (by rw [← HK3.out];exact hbad)];rfl⟩⟩
 refine (aF_ 5 [decide (tk < 0),decide ((k3:Int)≤tk)] _ _ (by simp) HBN.out (by simp;omega)).mono ?_;rintro e wb ⟨rfl,hwb⟩;rw [hwb];refine hK.out _ _ (SA.out _ Lwa.out) (fun hHb=>?_);clear hK K hwb;try refine nrm ?_
 refine wpAnyH_done (by kernel_rfl) ?_ _;obtain ⟨kk,hkk⟩:∃ kk:Nat,tk = kk:=⟨tk.toNat,by omega⟩
 subst hkk;have hkm:kk < k3:=by omega
 have hkl:kk < s.takers.length:=by rw [← HK3.out];exact hkm
 have ra:=(HO.out.keep Lwa.out).r3;obtain ⟨gT,rfl⟩:∃ gT,o3 = some ⟨gT,0,none⟩:=by
  rcases ra.2 with ⟨e,e0⟩ | ⟨g,cap,cur,e,_⟩
  ·exfalso;omega
  ·cases e;exact ⟨g,rfl⟩
 have cc:wa.cell? ⟨gT,kk * 2,none⟩ = some (.int .i64 (s.takers[kk]'hkl).queue):=by
  rw [ra.cellAt (kk * 2) (by omega)];exact bJ_ (f:=aj_.cells) (k:=2) (fun _=>rfl) s.takers kk hkl 0 (by omega)
 have hgl:gT < wa.heap.size:=(ra.lt gT rfl).2;obtain ⟨qu,hqu⟩:∃ qu,qu = (s.takers[kk]'hkl).queue:=⟨_,rfl⟩
 rw [← hqu] at cc;have HQU:Hid ((tAt s kk).queue = qu):=by show _ = qu;unfold tAt;rw [List.getD_eq_getElem?_getD,List.getElem?_eq_getElem hkl,hqu];rfl
 have HKL:=hidI hkl;have CC:=hidI cc;have SB:Hid (∀ W',Below wa.heap.size wa W'→(W'.cell? ⟨Bt,0,none⟩ = some (.int .i64 (kk:Int))∧W'.cell? ⟨t,2,none⟩ = some (.slice (some ⟨gT,0,none⟩) k3 j3)∧W'.cell? ⟨gT,kk * 2,none⟩ = some (.int .i64 qu))):=fun W' h=>by
  have:=SA.out W' (Lwa.out.trans (h.mono Lwa.out.size));exact ⟨this.1,this.2,(h.cell (p:=⟨gT,kk * 2,none⟩) hgl).trans CC.out⟩
 have i1:(0:Int)≤(kk:Int):=by omega
 have i2:(kk:Int) < k3:=by omega
 have HLX0:Hid (c2_ p s kk = if qu = -1 then 5 else cd_ p kk s.outs s):=by
  show _ = _;unfold c2_;rw [if_neg (by rw [aB_.2 ⟨i1,by rw [← HK3.out];omega⟩];decide),Int.toNat_natCast,HQU.out]
 clear hbad ra cc hqu hHeld hHa hHb;go_upto_region 1 with fail
 refine wp_region_held_drew (S:=fun W'=>W'.cell? ⟨Bt,0,none⟩ = some (.int .i64 (kk:Int))∧W'.cell? ⟨t,2,none⟩ = some (.slice (some ⟨gT,0,none⟩) k3 j3)∧W'.cell? ⟨gT,kk * 2,none⟩ = some (.int .i64 qu)) (by kernel_rfl) (SB.out _ (Below.refl _ _).drew) (fun hHeld=>?_);obtain ⟨wp,hwq⟩:∃ wp,wp = wa.drew:=⟨_,rfl⟩
 have Lwp:Hid (Below wa.heap.size wa wp):=by show Below wa.heap.size wa wp;rw [hwq];exact (Below.refl _ _).drew
 rw [← hwq] at hHeld ⊢;clear hwq;refine bj_ 0 ?_;refine bj_ 1 ?_;refine bj_ 2 ?_;refine bj_ 3 ?_;refine bj_ 4 ?_;refine bj_ 5 ?_;refine bj_ 6 ?_;refine bj_ 7 ?_;refine bj_ 8 ?_;refine rdy 9 (fun K hK=>?_);go_simp;obtain ⟨wc,hwa⟩:∃ wc,wc = wp.alloc (.cells #[.bool (qu == -1)] 4):=⟨_,rfl⟩
 have HBN:Hid (be_ wc wp.heap.size 0 [qu == -1]):=by show be_ wc wp.heap.size 0 _;rw [hwa];exact bk_ wp [qu == -1]
 have Lwc:Hid (Below wa.heap.size wa wc):=by show Below wa.heap.size wa wc;rw [hwa];exact Lwp.out.alloc Lwp.out.size _
 rw [← hwa];refine hK.out _ _ (SB.out _ Lwc.out) (fun hHa=>?_);clear hK K hwa;try refine nrm ?_
 refine rdy 10 (fun K hK=>?_);go_simp;by_cases hbad:qu = -1
 ·refine (ax_ 5 [qu == -1] _ _ (by simp) HBN.out (by simp [hbad])).mono ?_;rintro e wb ⟨rfl,rfl⟩;exact ⟨rfl,ac_.of_below (Lwa.out.trans (Lwc.out.mono Lwa.out.size)) hnW,.inl ⟨by rw [HLX0.out,if_pos hbad];decide,by rw [HLX0.out,if_pos hbad];rfl⟩⟩
 refine (aF_ 5 [qu == -1] _ _ (by simp) HBN.out (by simp [hbad])).mono ?_;rintro e wb ⟨rfl,hwb⟩;rw [hwb];refine hK.out _ _ (SB.out _ Lwc.out) (fun hHb=>?_);clear hK K hwb;try refine nrm ?_
 refine wpAnyH_done (by kernel_rfl) ?_ _;have HLX:Hid (c2_ p s kk = cd_ p kk s.outs s):=by show _ = _;rw [HLX0.out,if_neg hbad]
 have KC:Hid (Below W.heap.size W wc):=Lwa.out.trans (Lwc.out.mono Lwa.out.size);have hSc:=aa_ (pkp_ (pkp_ X1.out HBW.out) KC.out);have y1:=hSc.2.1;clear hbad hSc hHeld hHa hHb i1 i2;go_wp2_with fail
 go_loopw [34] (fun i wr=>∃ (k:Nat),k≤m2∧i = .int .i64 k∧∃ cur,ou_ p s kk n t W wr k cur) (fun i _=>m2 - (intOf i).toNat)
 case atStart=>exact ⟨0,Nat.zero_le _,rfl,s,HBX.out.keep KC.out,ac_.of_below KC.out hnW,rfl,by simp,by simp⟩
 case round=>
  obtain ⟨k,hk,rfl,cur,hinv⟩:=hrel;have hFr:=hinv.fr;have hszr:=hFr.size;have KWr:Hid (Below w.heap.size w wr):=HBW.out.trans (hFr.below (by omega) hwt);obtain ⟨g1,g2,g3,l1,r1,l2,r2,l3,r3,hbr,hor⟩:=hinv.box;have HLE:=hidI hinv.le;have HLL:=hidI hinv.ll;have HTS:=hidI hinv.tk;have HFR:=hidI hFr;have HBR:=hidI hbr;have HOR:=hidI hor;have ctk:=coc_ (pkp_ X2.out KWr.out) 0;simp at ctk;have hBtr:Bt < wr.heap.size:=by omega
  clear hinv hFr hbr hor;by_cases hlt:k < m2
  ·have HLT:=hidI hlt;have hkl2:k < s.outs.length:=by rw [HM2.out];exact hlt
   obtain ⟨gq,oq,ha,hgq,oc0,oc1,oc2,oci⟩:=(HS.out.keep KWr.out).q2.get hkl2;obtain ⟨od0,od1,od2,od3,od4⟩:=oci;have hdr:s.outs.drop k = s.outs[k] :: s.outs.drop (k+1):=List.drop_eq_getElem_cons hkl2;obtain ⟨x,hx⟩:∃ x,x = s.outs[k]:=⟨_,rfl⟩
   rw [← hx] at oc0 oc1 oc2 od0 od1 od2 od3 od4 hdr;have HDR:=hidI hdr;have HDT:Hid (x = x):=rfl;obtain ⟨tg,tkr,qq,it⟩:=x;dsimp only at oc0 oc1 oc2 od0 od1 od2 od3 od4;have i1:(0:Int)≤(k:Int):=by omega
   have i2:(k:Int) < m2:=by omega
   clear hdr hx HDT;subst ha;obtain ⟨w5,hw5⟩:∃ w5,w5 = wr.alloc (.cells #[.int .i64 tg,.int .i64 tkr,.int .i64 qq,.int .i64 it.seq,.string it.key,.string it.body,.bool it.again,.int .i64 it.deaths] 67):=⟨_,rfl⟩
   have l5:Below wr.heap.size wr w5:=by rw [hw5];exact (Below.refl _ _).alloc (Nat.le_refl _) _
   have b5:w5.heap[wr.heap.size]? = some (.cells #[.int .i64 tg,.int .i64 tkr,.int .i64 qq,.int .i64 it.seq,.string it.key,.string it.body,.bool it.again,.int .i64 it.deaths] 67 (0,0)):=by rw [hw5];exact World.alloc_heap_new wr _
   have HW5:=hidI hw5;have L5:=hidI l5;obtain ⟨BO,hBO⟩:∃ BO,BO = wr.heap.size:=⟨_,rfl⟩
   have HBO:=hidI hBO;rw [← hBO] at b5;have B5:=hidI b5;have HF5:Hid (ac_ n t W w5):=HFR.out.trans (ac_.of_below l5 (by omega));have HN5:Hid (n≤w5.heap.size):=by show n≤_;have:=l5.size;omega
   clear hw5 l5 b5 hBO;by_cases htk:tkr = kk
   rotate_left
   ·have hb:(tkr != (kk:Int)) = true:=bne_iff_ne.2 htk;have HNT:=hidI htk;clear htk;go_wp2_with fail
    rw [← HW5.out];go_roundw
    case rel=>
     refine ⟨k+1,HLT.out,by have:=HLT.out;go_num,cur,⟨_,_,_,_,_,_,_,_,_,pkp_ HBR.out L5.out,HOR.out.keep L5.out⟩,HF5.out,HTS.out,?_,?_⟩
     ·rw [HLE.out,HDR.out];conv=>lhs;unfold cd_
      rw [if_neg HNT.out]
     ·rw [HLL.out,HDR.out];conv=>lhs;unfold cm_
      rw [if_neg HNT.out]
    case measure=>have:=HLT.out;simp [intOf];omega
   have hb:(tkr != (kk:Int)) = false:=by simp [htk]
   have HTK:Hid ((⟨tg,tkr,qq,it⟩:OutD).taker = (kk:Int)):=htk;have HBV:=hidI (pkp_ HBR.out L5.out);have HOV:=hidI (HOR.out.keep L5.out);have HPV:=hidI (HP.out.keep (KWr.out.trans (L5.out.mono KWr.out.size)));obtain ⟨E,hE⟩:∃ E,E = rejE p cur tg:=⟨_,rfl⟩
   have HE:=hidI hE;have SC:Hid (∀ W',Below w5.heap.size w5 W'→((W'.cell? ⟨Bp,0,none⟩ = some (.slice a1 n1 c1)∧W'.cell? ⟨Bp,1,none⟩ = some (.slice a2 n2 c2)∧W'.cell? ⟨Bp,2,none⟩ = some (.slice a3 n3 c3))∧(W'.cell? ⟨t,0,none⟩ = some (.slice g1 l1 r1)∧W'.cell? ⟨t,1,none⟩ = some (.slice g2 l2 r2)∧W'.cell? ⟨t,2,none⟩ = some (.slice g3 l3 r3)∧W'.cell? ⟨t,3,none⟩ = some (.int .i64 cur.nextSeq)∧W'.cell? ⟨t,4,none⟩ = some (.int .i64 cur.nextTag)∧W'.cell? ⟨t,5,none⟩ = some (.int .i64 cur.came)∧W'.cell? ⟨t,6,none⟩ = some (.int .i64 cur.acked)∧W'.cell? ⟨t,7,none⟩ = some (.int .i64 cur.dropped))∧W'.cell? ⟨BO,0,none⟩ = some (.int .i64 tg))):=fun W' h=>by
    exact ⟨ag_ (pkp_ (pkp_ X0.out (KWr.out.trans (L5.out.mono KWr.out.size))) h),aa_ (pkp_ HBV.out h),by have:=coc_ (pkp_ B5.out h) 0;simpa using this⟩
   clear htk hE;go_upto_region 6 with fail
   rw [← HW5.out,← HBO.out];go_cut [7,8] from 35 to 58 (fun s7 s8 wx=>∃ BB u,s7 = .pointer (some ⟨BB,0,none⟩)∧s8 = .int .i64 E∧wx.heap[BB]? = some (.cells u 31 (0,0))∧bn_ wx n (.agg u) E (rejS p cur tg true)∧Below w5.heap.size w5 wx)
   case first=>
    refine wp_region_held_drew (S:=fun W'=>(W'.cell? ⟨Bp,0,none⟩ = some (.slice a1 n1 c1)∧W'.cell? ⟨Bp,1,none⟩ = some (.slice a2 n2 c2)∧W'.cell? ⟨Bp,2,none⟩ = some (.slice a3 n3 c3))∧(W'.cell? ⟨t,0,none⟩ = some (.slice g1 l1 r1)∧W'.cell? ⟨t,1,none⟩ = some (.slice g2 l2 r2)∧W'.cell? ⟨t,2,none⟩ = some (.slice g3 l3 r3)∧W'.cell? ⟨t,3,none⟩ = some (.int .i64 cur.nextSeq)∧W'.cell? ⟨t,4,none⟩ = some (.int .i64 cur.nextTag)∧W'.cell? ⟨t,5,none⟩ = some (.int .i64 cur.came)∧W'.cell? ⟨t,6,none⟩ = some (.int .i64 cur.acked)∧W'.cell? ⟨t,7,none⟩ = some (.int .i64 cur.dropped))∧W'.cell? ⟨BO,0,none⟩ = some (.int .i64 tg)) (by kernel_rfl) (SC.out _ (Below.refl _ _).drew) (fun hHeld=>?_);obtain ⟨wq,hwq⟩:∃ wq,wq = w5.drew:=⟨_,rfl⟩
    have Lwq:Hid (Below w5.heap.size w5 wq):=by show Below w5.heap.size w5 wq;rw [hwq];exact (Below.refl _ _).drew
    rw [← hwq] at hHeld ⊢;clear hwq;refine bj_ 0 ?_;refine bj_ 1 ?_;refine bj_ 2 ?_;refine bj_ 3 ?_;refine bj_ 4 ?_;refine bj_ 5 ?_;refine wpAnyH_ready (rs:=[6,10]) (by kernel_rfl) (by simp) ?_;refine AllReadyH.cons rfl (fun K hK=>?_) (AllReadyH.cons rfl (fun K hK=>?_) AllReadyH.nil)
    ·go_simp;refine (fg_ p a1 a2 a3 n1 c1 n2 c2 n3 c3 cur g1 g2 g3 l1 r1 l2 r2 l3 r3 tg true _ (HPV.out.keep Lwq.out) (HOV.out.keep Lwq.out).state (HOV.out.keep Lwq.out).nils.1 (HOV.out.keep Lwq.out).nils.2).mono ?_;rintro e wd ⟨vd,rfl,hresd,kd⟩;rw [← HE.out] at hresd ⊢;obtain ⟨x1,x2,x3,q1,e1,q2,e2,q3,e3,i1,i2,i3,i4,i5,rfl⟩:=hresd.shape;have Lwd:Hid (Below w5.heap.size w5 wd):=Lwq.out.trans (kd.mono Lwq.out.size);have HSd:=hidI (hresd.lower (n':=n) (by have:=Lwq.out.size;have:=HN5.out;omega));refine hK.out _ _ (SC.out _ Lwd.out) (fun hHd=>?_);clear hK K hresd kd;try refine nrm ?_
     refine bj_ 7 ?_;refine bj_ 8 ?_;refine bj_ 9 ?_;refine rdy 10 (fun K hK=>?_);go_simp;obtain ⟨wa,hwa⟩:∃ wa,wa = wd.alloc (.cells #[.slice none 0 0,.slice none 0 0,.slice none 0 0,.int .i64 0,.int .i64 0,.int .i64 0,.int .i64 0,.int .i64 0] 31):=⟨_,rfl⟩
     have la:Below wd.heap.size wd wa:=by rw [hwa];exact (Below.refl _ _).alloc (Nat.le_refl _) _
     have Lwa:Hid (Below w5.heap.size w5 wa):=Lwd.out.trans (la.mono Lwd.out.size);have ba:wa.heap[wd.heap.size]? = some (.cells #[.slice none 0 0,.slice none 0 0,.slice none 0 0,.int .i64 0,.int .i64 0,.int .i64 0,.int .i64 0,.int .i64 0] 31 (0,0)):=by rw [hwa];exact World.alloc_heap_new wd _
     obtain ⟨BB,hBB⟩:∃ BB,BB = wd.heap.size:=⟨_,rfl⟩
     have hBg:w5.heap.size≤BB:=by rw [hBB];exact Lwd.out.size
     rw [← hwa,← hBB];rw [← hBB] at ba;have HSa:=hidI (HSd.out.keep la);refine hK.out _ _ (SC.out _ Lwa.out) (fun hHa=>?_);clear hK K hwa hBB;try refine nrm ?_
     refine rdy 11 (fun K hK=>?_);obtain ⟨c0,c1',c2',c3',c4,c5,c6,c7⟩:=aa_ ba;have g0:=foc_ ba 0;have g1:=foc_ ba 1;have g2:=foc_ ba 2;have g3:=foc_ ba 3;have g4:=foc_ ba 4;have g5:=foc_ ba 5;have g6:=foc_ ba 6;have g7:=foc_ ba 7;go_simp;generalize hWz:World.setCell (World.setCell (World.setCell (World.setCell (World.setCell (World.setCell (World.setCell (World.setCell wa _ _) _ _) _ _) _ _) _ _) _ _) _ _) _ _ = Wz;obtain ⟨bz,tz⟩:=store8 ba hWz;have lz:Below w5.heap.size w5 Wz:=Lwa.out.trans (tz.below Lwa.out.size hBg);have rz:=HSa.out.turn ba tz;have RL:=hidI (And.intro bz (And.intro rz lz));refine hK.out _ _ (SC.out _ lz) (fun hHz=>?_);clear hK K;try refine nrm ?_
     refine bj_ 12 ?_;refine wpAnyH_done (by kernel_rfl) ?_ _;clear c0 c1' c2' c3' c4 c5 c6 c7 g0 g1 g2 g3 g4 g5 g6 g7 bz rz lz hHz tz hWz;go_wp2_with fail
     go_meet
     case rel=>exact ⟨BB,_,rfl,rfl,RL.out⟩
    ·go_simp;obtain ⟨wa,hwa⟩:∃ wa,wa = wq.alloc (.cells #[.slice none 0 0,.slice none 0 0,.slice none 0 0,.int .i64 0,.int .i64 0,.int .i64 0,.int .i64 0,.int .i64 0] 31):=⟨_,rfl⟩
     have la:Below wq.heap.size wq wa:=by rw [hwa];exact (Below.refl _ _).alloc (Nat.le_refl _) _
     have Lwa:Hid (Below w5.heap.size w5 wa):=Lwq.out.trans (la.mono Lwq.out.size);have ba:wa.heap[wq.heap.size]? = some (.cells #[.slice none 0 0,.slice none 0 0,.slice none 0 0,.int .i64 0,.int .i64 0,.int .i64 0,.int .i64 0,.int .i64 0] 31 (0,0)):=by rw [hwa];exact World.alloc_heap_new wq _
     obtain ⟨BB,hBB⟩:∃ BB,BB = wq.heap.size:=⟨_,rfl⟩
     have hBg:w5.heap.size≤BB:=by rw [hBB];exact Lwq.out.size
     rw [← hwa,← hBB];rw [← hBB] at ba;refine hK.out _ _ (SC.out _ Lwa.out) (fun hHa=>?_);clear hK K hwa hBB;try refine nrm ?_
     refine rdy 6 (fun K hK=>?_);go_simp;refine (fg_ p a1 a2 a3 n1 c1 n2 c2 n3 c3 cur g1 g2 g3 l1 r1 l2 r2 l3 r3 tg true _ (HPV.out.keep Lwa.out) (HOV.out.keep Lwa.out).state (HOV.out.keep Lwa.out).nils.1 (HOV.out.keep Lwa.out).nils.2).mono ?_;rintro e wd ⟨vd,rfl,hresd,kd⟩;rw [← HE.out] at hresd ⊢;obtain ⟨x1,x2,x3,q1,e1,q2,e2,q3,e3,i1,i2,i3,i4,i5,rfl⟩:=hresd.shape;have Lwd:Hid (Below w5.heap.size w5 wd):=Lwa.out.trans (kd.mono Lwa.out.size);have HSd:=hidI (hresd.lower (n':=n) (by have:=Lwa.out.size;have:=HN5.out;omega));have bd:=pkp_ ba kd;refine hK.out _ _ (SC.out _ Lwd.out) (fun hHd=>?_);clear hK K hresd kd;try refine nrm ?_
     refine bj_ 7 ?_;refine bj_ 8 ?_;refine bj_ 9 ?_;refine rdy 11 (fun K hK=>?_);obtain ⟨c0,c1',c2',c3',c4,c5,c6,c7⟩:=aa_ bd;have g0:=foc_ bd 0;have g1:=foc_ bd 1;have g2:=foc_ bd 2;have g3:=foc_ bd 3;have g4:=foc_ bd 4;have g5:=foc_ bd 5;have g6:=foc_ bd 6;have g7:=foc_ bd 7;go_simp;generalize hWz:World.setCell (World.setCell (World.setCell (World.setCell (World.setCell (World.setCell (World.setCell (World.setCell wd _ _) _ _) _ _) _ _) _ _) _ _) _ _) _ _ = Wz;obtain ⟨bz,tz⟩:=store8 bd hWz;have lz:Below w5.heap.size w5 Wz:=Lwd.out.trans (tz.below Lwd.out.size hBg);have rz:=HSd.out.turn bd tz;have RL:=hidI (And.intro bz (And.intro rz lz));refine hK.out _ _ (SC.out _ lz) (fun hHz=>?_);clear hK K;try refine nrm ?_
     refine bj_ 12 ?_;refine wpAnyH_done (by kernel_rfl) ?_ _;clear c0 c1' c2' c3' c4 c5 c6 c7 g0 g1 g2 g3 g4 g5 g6 g7 bz rz lz hHz tz hWz;go_wp2_with fail
     go_meet
     case rel=>exact ⟨BB,_,rfl,rfl,RL.out⟩
   case rest=>
    obtain ⟨BB,u,rfl,rfl,hbb,hrs,hBx⟩:=hcut;have HBB:=hidI hbb;have HRS:=hidI hrs;have KX:=hidI hBx;have hsx:=hBx.size;clear hbb hrs hBx;by_cases hz:E = 0
    rotate_left
    ·have HZN:=hidI hz;clear hz;go_wp2_with fail
     refine (dw_ E _ _ (aP_ _ _ _) (by simp) HZN.out).mono ?_;rintro e w6 ⟨rfl,k6⟩;have ka:=KX.out.alloc hsx (.cells #[.int .i64 E] 33);have HX:c2_ p s kk = E:=by
      rw [HLX.out,HLE.out,HDR.out];unfold cd_;rw [if_pos HTK.out,if_pos (by rw [← HE.out];exact HZN.out),HE.out]
     exact ⟨rfl,HF5.out.trans (ac_.of_below (ka.trans (k6.mono ka.size)) HN5.out),.inl ⟨by rw [HX];exact HZN.out,by rw [HX];rfl⟩⟩
    have HEZ:=hidI hz;have hE0:=HRS.out.1 hz;obtain ⟨y1,y2,y3,i1,f1,i2,f2,i3,f3,hv,ho⟩:=hE0;cases hv;have HOX:=hidI ho;have ka:=KX.out.alloc KX.out.size (.cells #[.int .i64 0] 33);clear ho;subst hz;go_wp2_with fail
    refine (dY_ _ _ (aP_ _ _ _) (by simp)).mono ?_;rintro e w6 ⟨rfl,k6⟩;have K6:=hidI (ka.trans (k6.mono ka.size));have HO6:=hidI ((HOX.out.keep ((Below.refl _ _).alloc (Nat.le_refl _) (.cells #[.int .i64 0] 33))).keep k6);have B6:=hidI (pkp_ (pkp_ HBB.out ((Below.refl _ _).alloc (Nat.le_refl _) (.cells #[.int .i64 0] 33))) k6);have T6:=hidI (pkp_ HBV.out K6.out);obtain ⟨c0,c1',c2',c3',c4,c5,c6,c7⟩:=aa_ B6.out;obtain ⟨z0,z1,z2,z3,z4,z5,z6,z7⟩:=aa_ T6.out;have g0:=foc_ T6.out 0;have g1':=foc_ T6.out 1;have g2':=foc_ T6.out 2;have g3':=foc_ T6.out 3;have g4:=foc_ T6.out 4;have g5:=foc_ T6.out 5;have g6:=foc_ T6.out 6;have g7:=foc_ T6.out 7;have hlt:=HLT.out;clear ka k6;go_wp2_with fail
    generalize hWz:World.setCell (World.setCell (World.setCell (World.setCell (World.setCell (World.setCell (World.setCell (World.setCell w6 _ _) _ _) _ _) _ _) _ _) _ _) _ _) _ _ = Wz;obtain ⟨bz,tz⟩:=store8 T6.out hWz;have oz:=HO6.out.turn T6.out (by decide) tz;go_roundw
    case rel=>
     refine ⟨k+1,HLT.out,by have:=HLT.out;go_num,rejS p cur tg true,⟨_,_,_,_,_,_,_,_,_,bz,oz⟩,(HF5.out.trans (ac_.of_below K6.out HN5.out)).turnB tz (by have:=K6.out.size;have:=HN5.out;omega),(ge_ p cur tg true).trans HTS.out,?_,?_⟩
     ·rw [HLE.out,HDR.out];conv=>lhs;unfold cd_
      rw [if_pos HTK.out,if_neg (by rw [← HE.out];simp)]
     ·rw [HLL.out,HDR.out];conv=>lhs;unfold cm_
      rw [if_pos HTK.out]
    case measure=>have:=HLT.out;simp [intOf];omega
  ·have hke:k = m2:=by omega
   subst hke;clear hlt hk;rw [← HM2.out,List.drop_length] at HLE HLL;have HE0:Hid (c2_ p s kk = 0):=by show _ = (0:Int);rw [HLX.out,HLE.out];rfl
   have HCU:Hid (cm_ p kk s.outs s = cur):=by show _ = cur;rw [HLL.out];rfl
   have hr3:=HOR.out.r3;have hl3:l3 = s.takers.length:=by rw [← HTS.out];exact HOR.out.l3.symm
   have hkk3:kk < l3:=by rw [hl3];exact HKL.out
   obtain ⟨gU,rfl⟩:∃ gU,g3 = some ⟨gU,0,none⟩:=by
    rcases hr3.2 with ⟨e,e0⟩ | ⟨g,cap,cc,e,_⟩
    ·exfalso;omega
    ·cases e;exact ⟨g,rfl⟩
   have hkc:kk < cur.takers.length:=by rw [HTS.out];exact HKL.out
   have cc:wr.cell? ⟨gU,kk * 2,none⟩ = some (.int .i64 (cur.takers[kk]'hkc).queue):=by
    rw [hr3.cellAt (kk * 2) (by omega)];exact bJ_ (f:=aj_.cells) (k:=2) (fun _=>rfl) cur.takers kk hkc 0 (by omega)
   have ff:=hr3.frozenAt (kk * 2);obtain ⟨y0,y1',y2,y3,y4,y5,y6,y7⟩:=aa_ HBR.out;have i1:(0:Int)≤(kk:Int):=by omega
   have i2:(kk:Int) < l3:=by omega
   obtain ⟨qz,hqz⟩:∃ qz,qz = (cur.takers[kk]'hkc).queue:=⟨_,rfl⟩
   rw [← hqz] at cc;have HKC:=hidI hkc;clear hr3 hl3 hqz hkc;go_wp2_with fail
   go_region
   go_wp2_with fail
   go_end0
   obtain ⟨h1,h2,h3⟩:=HOR.out.takerQ HKC.out (-1) rfl;have hbt:=(h2.block t _ _ HBR.out (by decide)).trans HBR.out;have he:e6_ p s kk = { cur with takers:=cur.takers.set kk ⟨-1,(cur.takers[kk]'HKC.out).most⟩ }:=by
    unfold e6_ dQ_;rw [HCU.out,Int.toNat_natCast,List.getD_eq_getElem?_getD,List.getElem?_eq_getElem HKC.out];rfl
   refine ⟨(HFR.out.typeSet h3 _).drew,.inr ⟨HE0.out,rfl,?_⟩⟩;rw [he];exact StBox.drew ⟨_,_,_,_,_,_,_,_,_,hbt,h1⟩
theorem lG_ (p:ad_) (a1 a2 a3:Option Addr) (n1 c1 n2 c2 n3 c3:Nat) (s:ab_) (b1 b2 b3:Option Addr) (m1 d1 m2 d2 m3 d3:Nat) (tk:Int) (w:World) (hp:ap_ w a1 a2 a3 n1 n2 n3 p) (hs:an_ w b1 b2 b3 m1 m2 m3 s) (hn2:b2 = none→d2 = 0) (hn3:b3 = none→d3 = 0) :
 Calls Tryz.prog 44 #[.agg #[.slice a1 n1 c1,.slice a2 n2 c2,.slice a3 n3 c3],.agg #[.slice b1 m1 d1,.slice b2 m2 d2,.slice b3 m3 d3,.int .i64 s.nextSeq,.int .i64 s.nextTag,.int .i64 s.came,.int .i64 s.acked,.int .i64 s.dropped],.int .i64 tk] w fun e w'=>∃ v,e = .returned (.tuple #[v,.int .i64 (dB_ p s tk)])∧bn_ w' w.heap.size v (dB_ p s tk) (e6_ p s tk)∧Below w.heap.size w w':=by
 obtain ⟨hz5,hg5,hB5⟩:=aD_ [.cells #[.slice a1 n1 c1,.slice a2 n2 c2,.slice a3 n3 c3] 26,.cells #[.slice b1 m1 d1,.slice b2 m2 d2,.slice b3 m3 d3,.int .i64 s.nextSeq,.int .i64 s.nextTag,.int .i64 s.came,.int .i64 s.acked,.int .i64 s.dropped] 31,.cells #[.int .i64 tk] 3,.cells #[.slice none 0 0,.slice none 0 0,.slice none 0 0,.int .i64 0,.int .i64 0,.int .i64 0,.int .i64 0,.int .i64 0] 31] w;obtain ⟨W5,hW5⟩:∃ W5,W5 = List.foldl World.alloc w [.cells #[.slice a1 n1 c1,.slice a2 n2 c2,.slice a3 n3 c3] 26,.cells #[.slice b1 m1 d1,.slice b2 m2 d2,.slice b3 m3 d3,.int .i64 s.nextSeq,.int .i64 s.nextTag,.int .i64 s.came,.int .i64 s.acked,.int .i64 s.dropped] 31,.cells #[.int .i64 tk] 3,.cells #[.slice none 0 0,.slice none 0 0,.slice none 0 0,.int .i64 0,.int .i64 0,.int .i64 0,.int .i64 0,.int .i64 0] 31]:=⟨_,rfl⟩
 rw [← hW5] at hz5 hg5 hB5;have HW5:Hid (W5 = ((((w.alloc (.cells #[.slice a1 n1 c1,.slice a2 n2 c2,.slice a3 n3 c3] 26)).alloc (.cells #[.slice b1 m1 d1,.slice b2 m2 d2,.slice b3 m3 d3,.int .i64 s.nextSeq,.int .i64 s.nextTag,.int .i64 s.came,.int .i64 s.acked,.int .i64 s.dropped] 31)).alloc (.cells #[.int .i64 tk] 3)).alloc (.cells #[.slice none 0 0,.slice none 0 0,.slice none 0 0,.int .i64 0,.int .i64 0,.int .i64 0,.int .i64 0,.int .i64 0] 31))):=hW5;have hz5':W5.heap.size = w.heap.size+4:=by rw [hz5];rfl
 have x0:=hg5 0 _ rfl;have x1:=hg5 1 _ rfl;have x2:=hg5 2 _ rfl;have x3:=hg5 3 _ rfl;obtain ⟨E,hE⟩:∃ E,E = dB_ p s tk:=⟨_,rfl⟩
 rw [← hE];have T:=hy_ p a1 a2 a3 n1 c1 n2 c2 n3 c3 s b1 b2 b3 m1 d1 m2 d2 m3 d3 82 (fun _ _=>rfl) #[.pointer (some ⟨w.heap.size+2,0,none⟩),.pointer (some ⟨w.heap.size+1,0,none⟩),.pointer (some ⟨w.heap.size,0,none⟩)] E (e6_ p s tk) W5 (hp.keep hB5) (hs.keep hB5) hn2 hn3
  (fun h=>by rw [hE];unfold dB_;rw [if_pos h])
  (fun h=>by
   have e:E = c2_ p s tk:=by rw [hE];unfold dB_ c2_;rw [if_neg (by simp [h])]
   rw [e];exact jb_ p a1 a2 a3 n1 c1 n2 c2 n3 c3 s b1 b2 b3 m1 d1 m2 d2 m3 d3 tk _ _ _ W5 (hp.keep hB5) (hs.keep hB5) x0 x1 x2 (aK_ h))
 have HT:=hidI T;have X4:=hidI x3;have HZ5:=hidI hz5';have HB5:=hidI hB5;have hmf:∀ (fn:Fn) (first cap:Array Value) (w:World),(Instr.makeFunc fn first cap).run Tryz.prog w = .ok (.func fn first cap) w:=fun _ _ _ _=>rfl
 clear T hW5 hz5 hz5' hg5 hB5 x0 x1 x2 x3 hE hp hs hn2 hn3;go_enter Tryz.func44,Tryz.ntmps44;go_wp2_with fail
 rw [← HW5.out];refine HT.out.mono ?_;rintro e w6 ⟨v,rfl,hres,hB6⟩;have x6:=pkp_ X4.out hB6;obtain ⟨y0,y1,y2,y3,y4,y5,y6,y7⟩:=aa_ x6;have f0:=foc_ x6 0;have f1:=foc_ x6 1;have f2:=foc_ x6 2;have f3:=foc_ x6 3;have f4:=foc_ x6 4;have f5:=foc_ x6 5;have f6:=foc_ x6 6;have f7:=foc_ x6 7;obtain ⟨x1,x2,x3,k1,e1,k2,e2,k3,e3,i1,i2,i3,i4,i5,rfl⟩:=hres.shape;have X6:=hidI x6;have HRES:=hidI hres;have HB6:=hidI hB6;clear x6 hres hB6;go_wp2_with fail
 generalize hW4:World.setCell (World.setCell (World.setCell (World.setCell (World.setCell (World.setCell (World.setCell (World.setCell w6 _ _) _ _) _ _) _ _) _ _) _ _) _ _) _ _ = W4;obtain ⟨b4,t4⟩:=store8 X6.out hW4;obtain ⟨z0,z1,z2,z3,z4,z5,z6,z7⟩:=aa_ b4;exact bodyPost_ret (v:=.tuple #[.agg #[.slice x1 k1 e1,.slice x2 k2 e2,.slice x3 k3 e3,.int .i64 i1,.int .i64 i2,.int .i64 i3,.int .i64 i4,.int .i64 i5],.int .i64 E]) (by simp [results,Tryz.results44,go_sem,z0,z1,z2,z3,z4,z5,z6,z7]) rfl ⟨_,rfl,(HRES.out.turn X6.out t4).lower (by have:=HZ5.out;omega),HB5.out.trans ((HB6.out.mono HB5.out.size).trans (t4.below (by have:=HB6.out.size;have:=HZ5.out;omega) (by omega)))⟩
end Go.Proofs.YtlbnkpicnokgoaaGreat
