import Derived.Test.YtlbnkpicnokgoaaGreatUnx
import Derived.Test.YtlbnkpicnokgoaaGreatUtx
namespace Go.Proofs.YtlbnkpicnokgoaaGreat
open Go.RowKit Go.Maps
set_option linter.unusedVariables false
set_option maxRecDepth 100000
set_option maxHeartbeats 8000000
theorem hC_ (p:ad_) (a1 a2 a3:Option Addr) (n1 c1 n2 c2 n3 c3:Nat) (s:ab_) (b1 b2 b3:Option Addr) (m1 d1 m2 d2 m3 d3:Nat) (post:Int) (key body:ByteArray) (w:World) (hp:ap_ w a1 a2 a3 n1 n2 n3 p) (hs:an_ w b1 b2 b3 m1 m2 m3 s) (hn2:b2 = none→d2 = 0) (hn3:b3 = none→d3 = 0) :
 Calls Tryz.prog 69 #[.agg #[.slice a1 n1 c1,.slice a2 n2 c2,.slice a3 n3 c3],.agg #[.slice b1 m1 d1,.slice b2 m2 d2,.slice b3 m3 d3,.int .i64 s.nextSeq,.int .i64 s.nextTag,.int .i64 s.came,.int .i64 s.acked,.int .i64 s.dropped],.int .i64 post,.string key,.string body] w fun e w'=>∃ v,e = .returned (.tuple #[v,.int .i64 (a9_ (pubE p s post key body) ((qsC p key post.toNat).length:Nat)),.int .i64 (pubE p s post key body)])∧bn_ w' w.heap.size v (pubE p s post key body) (arrS p 600 s (pubL p post key body))∧Below w.heap.size w w':=by
 obtain ⟨E,hE⟩:∃ E,E = pubE p s post key body:=⟨_,rfl⟩
 rw [← hE];obtain ⟨N,hN⟩:∃ N,N = a9_ E ((qsC p key post.toNat).length:Nat):=⟨_,rfl⟩
 rw [← hN];obtain ⟨E0,hE0⟩:∃ E0,E0 = stE p s:=⟨_,rfl⟩
 obtain ⟨W3,hW3,hBw,hs3,hbx⟩:=cW_ w #[.slice a1 n1 c1,.slice a2 n2 c2,.slice a3 n3 c3] #[.slice b1 m1 d1,.slice b2 m2 d2,.slice b3 m3 d3,.int .i64 s.nextSeq,.int .i64 s.nextTag,.int .i64 s.came,.int .i64 s.acked,.int .i64 s.dropped];have HW3:=hidI hW3;have BX:=hidI hbx;have HE:=hidI hE;have HE0:=hidI hE0;have HN:=hidI hN;have HS:=hidI (hs.keep hBw);have HP:=hidI (hp.keep hBw);have HBW:=hidI hBw;have HS3:=hidI hs3;have HN2:=hidI hn2;have HN3:=hidI hn3;have s0:=hBw.size;obtain ⟨x0,x1,x2⟩:=ag_ (hbx W3 (Below.refl _ _)).1;obtain ⟨y0,y1,y2,y3,y4,y5,y6,y7⟩:=aa_ (hbx W3 (Below.refl _ _)).2.1;have HER:Hid (∀ (D:Int) (W W4:World),D≠0→E = D→Below W3.heap.size W3 W→aZ_ (w.heap.size+2) W W4→∃ v,Ending.returned (.tuple #[zerS,.int .i64 0,.int .i64 D]) = .returned (.tuple #[v,.int .i64 N,.int .i64 E])∧bn_ W4 w.heap.size v E (arrS p 600 s (pubL p post key body))∧Below w.heap.size w W4):=fun D W W4 hD hED hB hT=>by
  have hN0:N = 0:=by rw [HN.out];unfold a9_;rw [if_neg (by rw [hED];exact hD)]
  refine ⟨zerS,by rw [hN0,hED],⟨fun h=>absurd (hED ▸ h) hD,fun _=>rfl⟩,HBW.out.trans ((hB.mono s0).trans (hT.below (by have:=hB.size;have:=HS3.out;omega) (by omega)))⟩
 clear hW3 hbx hs3 hp hs hBw hE hE0 hN hn2 hn3;go_enter Tryz.func69,Tryz.ntmps69;go_wp2_with fail
 rw [← HW3.out];refine (bl_ p _ _ _ _ _ _ _ _ _ s _ _ _ _ _ _ _ _ _ _ HP.out HS.out).mono ?_;rintro e w4 ⟨rfl,k4⟩;rw [← HE0.out];have s4:=k4.size;have K4:=hidI k4;clear x0 x1 x2 y0 y1 y2 y3 y4 y5 y6 y7;have r4:=(BX.out w4 k4).2.2;obtain ⟨z0,z1,z2,z3,z4,z5,z6,z7⟩:=aa_ r4;have e0:=foc_ r4 0;have e1:=foc_ r4 1;have e2:=foc_ r4 2;have e3:=foc_ r4 3;have e4:=foc_ r4 4;have e5:=foc_ r4 5;have e6:=foc_ r4 6;have e7:=foc_ r4 7;have R4:=hidI r4;clear r4;clear k4;by_cases hz:E0 = 0
 rotate_left
 ·have hz':(E0 != 0) = true:=bne_iff_ne.2 hz;have HZ:=hidI hz;have HEE:Hid (E = E0):=by show E = E0;rw [HE.out];unfold pubE;rw [if_pos (by rw [← HE0.out];exact hz),HE0.out]
  clear hz;go_wp2_with fail
  generalize hW4:World.setCell (World.setCell (World.setCell (World.setCell (World.setCell (World.setCell (World.setCell (World.setCell w4 _ _) _ _) _ _) _ _) _ _) _ _) _ _) _ _ = W4;obtain ⟨b4,t4⟩:=store8 R4.out hW4;obtain ⟨z0,z1,z2,z3,z4,z5,z6,z7⟩:=aa_ b4;exact bodyPost_ret (v:=.tuple #[zerS,.int .i64 0,.int .i64 E0]) (by simp [results,Tryz.results69,go_sem,z0,z1,z2,z3,z4,z5,z6,z7,zerS]) rfl (HER.out E0 _ _ HZ.out HEE.out K4.out t4)
 subst hz;have HR:=hidI (aK_ HE0.out.symm);have HE1:Hid (E = pubX p s post key body):=by show E = _;rw [HE.out];unfold pubE;rw [if_neg (by simp [← HE0.out])]
 obtain ⟨x0,x1,x2⟩:=ag_ (BX.out w4 K4.out).1;go_wp2_with fail
 refine (gA_ p _ _ _ _ _ _ _ _ _ post key w4 (HP.out.keep K4.out)).mono ?_;rintro e w5 ⟨rfl,k5'⟩;obtain ⟨E1,hE1⟩:∃ E1,E1 = rtE p post key:=⟨_,rfl⟩
 rw [← hE1];have HX1:=hidI hE1;have K5:=hidI (K4.out.trans (k5'.mono s4));have s5:=K5.out.size;clear z0 z1 z2 z3 z4 z5 z6 z7 e0 e1 e2 e3 e4 e5 e6 e7;clear x0 x1 x2 hE1 k5' R4;have r5:=(BX.out w5 K5.out).2.2;obtain ⟨z0,z1,z2,z3,z4,z5,z6,z7⟩:=aa_ r5;have e0:=foc_ r5 0;have e1:=foc_ r5 1;have e2:=foc_ r5 2;have e3:=foc_ r5 3;have e4:=foc_ r5 4;have e5:=foc_ r5 5;have e6:=foc_ r5 6;have e7:=foc_ r5 7;have R5:=hidI r5;clear r5;by_cases hz:E1 = 0
 rotate_left
 ·have hz':(E1 != 0) = true:=bne_iff_ne.2 hz;have HZ:=hidI hz;have HEE:Hid (E = E1):=by show E = E1;rw [HE1.out];unfold pubX;rw [if_pos (by rw [← HX1.out];exact hz),HX1.out]
  clear hz;go_wp2_with fail
  generalize hW4:World.setCell (World.setCell (World.setCell (World.setCell (World.setCell (World.setCell (World.setCell (World.setCell w5 _ _) _ _) _ _) _ _) _ _) _ _) _ _) _ _ = W4;obtain ⟨b4,t4⟩:=store8 R5.out hW4;obtain ⟨z0,z1,z2,z3,z4,z5,z6,z7⟩:=aa_ b4;exact bodyPost_ret (v:=.tuple #[zerS,.int .i64 0,.int .i64 E1]) (by simp [results,Tryz.results69,go_sem,z0,z1,z2,z3,z4,z5,z6,z7,zerS]) rfl (HER.out E1 _ _ HZ.out HEE.out K5.out t4)
 subst hz;have HE2:Hid (E = if 12 < body.size then 1 else letE p s (pubL p post key body)):=by show E = _;rw [HE1.out];unfold pubX;rw [if_neg (by rw [← HX1.out];simp)]
 by_cases hb:(12:Int) < (body.size:Int)
 ·have HEE:Hid (E = 1):=by show E = 1;rw [HE2.out,if_pos (by omega)]
  go_wp2_with fail
  generalize hW4:World.setCell (World.setCell (World.setCell (World.setCell (World.setCell (World.setCell (World.setCell (World.setCell w5 _ _) _ _) _ _) _ _) _ _) _ _) _ _) _ _ = W4;obtain ⟨b4,t4⟩:=store8 R5.out hW4;obtain ⟨z0,z1,z2,z3,z4,z5,z6,z7⟩:=aa_ b4;exact bodyPost_ret (v:=.tuple #[zerS,.int .i64 0,.int .i64 1]) (by simp [results,Tryz.results69,go_sem,z0,z1,z2,z3,z4,z5,z6,z7,zerS]) rfl (HER.out 1 _ _ (by decide) HEE.out K5.out t4)
 have HE3:Hid (E = letE p s (pubL p post key body)):=by show E = _;rw [HE2.out,if_neg (by omega)]
 have hb':¬ (12:Int) < (body.size:Int):=hb;have h1:ar_ post p.posts.length = true∧kerr key.data.toList = 0:=by
  have h1:=HX1.out;unfold rtE at h1;rw [if_pos HR.out.pl] at h1;by_cases h:ar_ post p.posts.length = true
  ·rw [if_pos h] at h1;exact ⟨h,h1.symm⟩
  ·rw [if_neg h] at h1;cases h1
 obtain ⟨pn,hpn⟩:∃ pn:Nat,post = pn:=⟨post.toNat,by have:=aB_.1 h1.1;omega⟩
 subst hpn;have HPN:Hid (pn < n1):=by have h:=aB_.1 h1.1;have:=HP.out.l1;show pn < n1;omega
 have HKS:Hid (key.size≤24):=by have:=(dk_ h1.2).1;show key.size≤24;simpa using this
 obtain ⟨x0,x1,x2⟩:=ag_ (BX.out w5 K5.out).1;clear h1 hb R5 z0 z1 z2 z3 z4 z5 z6 z7 e0 e1 e2 e3 e4 e5 e6 e7;go_wp2_with fail
 refine (fu_ p _ _ _ _ _ _ _ _ _ pn key w5 (HP.out.keep K5.out) HR.out.rp HPN.out HKS.out).mono ?_;rintro e w6 ⟨zs,az,cz,rfl,hz1,hzl,hzi,k6'⟩;have HZQ:Hid (zs = qsC p key pn):=hz1.uniq (j0_ HR.out.rp (by have:=HPN.out;have:=HP.out.l1;omega));obtain ⟨nz,hnz⟩:∃ nz,nz = zs.length:=⟨_,rfl⟩
 have HNZ:=hidI hnz;rw [← hnz] at hzl ⊢;have HZI:=hidI hzi;have K6:=hidI (K5.out.trans (k6'.mono s5));have s6:=K6.out.size;clear hz1 hzi hnz x0 x1 x2 k6' hb';go_wp2_with fail
 go_loopw [15,17] (fun l i wr=>∃ (k:Nat),k≤nz∧i = .int .i64 k∧wr.ownsRow w6.heap.size 150 4 l k (aw_ (bb_ (zs.take k) key body 0))∧Below w6.heap.size w6 wr) (fun _ i _=>nz - (intOf i).toNat)
 case atStart=>exact ⟨0,Nat.zero_le _,rfl,World.ownsRow_nil _ _ _ _,Below.refl _ _⟩
 case round=>
  obtain ⟨k,hk,rfl,hown,hB⟩:=hrel;have HO:=hidI hown;have HB:=hidI hB;have hBs:=hB.size;clear hown;by_cases hlt:k < nz
  ·have HLT:=hidI hlt;have hkl:k < zs.length:=by rw [← HNZ.out];exact hlt
   obtain ⟨g,ha,hg,hc⟩:∃ g,az = some ⟨g,0,none⟩∧g < wr.heap.size∧wr.cell? ⟨g,k,none⟩ = some (.int .i64 (zs[k]'hkl)):=by
    rcases HZI.out.keep hB with e | ⟨g,ha,hg,h⟩
    ·exfalso;rw [e] at hkl;simp at hkl
    ·exact ⟨g,ha,hg,h k hkl⟩
   have HNX:Hid (bb_ (zs.take (k+1)) key body 0 = bb_ (zs.take k) key body 0 ++ [⟨zs[k]'hkl,key,body,0⟩]):=by show bb_ _ _ _ _ = _;unfold bb_;rw [List.take_succ_eq_append_getElem hkl,List.map_append];rfl
   obtain ⟨z,hzz⟩:∃ z,z = zs[k]'hkl:=⟨_,rfl⟩
   rw [← hzz] at hc HNX;subst ha;obtain ⟨W4,hW4⟩:∃ W4,W4 = wr.alloc (.cells #[.int .i64 z,.string key,.string body,.int .i64 0] 150):=⟨_,rfl⟩
   have k4:Below wr.heap.size wr W4:=by rw [hW4];exact (Below.refl _ _).alloc (Nat.le_refl _) _
   have HO4:=hidI (cp2_ HO.out k4);have HRW:Hid (aO_ W4 (some ⟨wr.heap.size,0,none⟩) (aw_ [⟨z,key,body,0⟩])):=by show aO_ W4 _ _;rw [hW4];exact gf_ (cs:=[.int .i64 z,.string key,.string body,.int .i64 0])
   have K4':=hidI (hB.trans (k4.mono hBs));have HW4:=hidI hW4;have hs4:=K4'.out.size;have j1:(0:Int)≤(k:Int):=by omega
   have j2:(k:Int) < nz:=by omega
   clear hW4 k4 hzz;go_wp2_with (at_builtin;rw [← HW4.out];refine a1_ eq_ (by kernel_rfl) _ _ rfl w6.heap.size _ k (aw_ (bb_ (zs.take k) key body 0)) rfl HO4.out (some ⟨wr.heap.size,0,none⟩) 1 1 (aw_ [⟨z,key,body,0⟩]) rfl rfl (fun h=>by cases h) HRW.out (bI_ _) (by unfold maxLen;omega) (by omega) hs4 ?_;intro v6 w7 hown6 hgrow6 hblk6)
   go_roundw
   case rel=>exact ⟨k+1,HLT.out,by have:=HLT.out;go_num,by rw [HNX.out,br_];exact hown6,K4'.out.grown hgrow6 hs4 (fun j hj=>(HO4.out.lt j hj).1)⟩
   case measure=>have:=HLT.out;simp [intOf];omega
  ·have hke:k = nz:=by omega
   obtain rfl:=hke.symm;have hO:=HO.out;rw [List.take_of_length_le (by rw [HNZ.out];exact Nat.le_refl _)] at hO;obtain ⟨al,cl,hvl,hlc,hlm,hln,hla⟩:=aH_ hO;subst hvl;have HPL:Hid (bb_ zs key body 0 = pubL p (pn:Int) key body):=by show bb_ zs key body 0 = _;unfold pubL;rw [HZQ.out,Int.toNat_natCast]
   have HAL:Hid (bh_ wr al (pubL p (pn:Int) key body)):=by show bh_ wr al _;rw [← HPL.out];exact hla
   have HAN:Hid ((pubL p (pn:Int) key body).length = nz):=by show _ = nz;rw [← HPL.out];unfold bb_;rw [List.length_map,HNZ.out]
   have K7:=hidI (K6.out.trans (HB.out.mono s6));have s7:=K7.out.size;have HLC:Hid (nz≤cl∧cl≤maxLen):=⟨hlc,hlm⟩;obtain ⟨x0,x1,x2⟩:=ag_ (BX.out wr K7.out).1;obtain ⟨y0,y1,y2,y3,y4,y5,y6,y7⟩:=aa_ (BX.out wr K7.out).2.1;clear hlt hk hO hla hlc hlm hln hB;go_wp2_with fail
   refine (hx_ p _ _ _ _ _ _ _ _ _ s _ _ _ _ _ _ _ _ _ (pubL p (pn:Int) key body) al nz cl wr (HP.out.keep K7.out) (HS.out.keep K7.out) HN2.out HN3.out HAL.out HAN.out HLC.out.1 HLC.out.2).mono ?_;rintro e w8 ⟨v8,rfl,hr8,k8'⟩;rw [← HE3.out] at hr8 ⊢;obtain ⟨g1,g2,g3,t1,f1,t2,f2,t3,f3,i1,i2,i3,i4,i5,rfl⟩:=hr8.shape;obtain ⟨w9,hw9⟩:∃ w9,w9 = w8.alloc (.cells #[.slice g1 t1 f1,.slice g2 t2 f2,.slice g3 t3 f3,.int .i64 i1,.int .i64 i2,.int .i64 i3,.int .i64 i4,.int .i64 i5] 31):=⟨_,rfl⟩
   have l9:Below w8.heap.size w8 w9:=by rw [hw9];exact (Below.refl _ _).alloc (Nat.le_refl _) _
   have b9:w9.heap[w8.heap.size]? = some (.cells #[.slice g1 t1 f1,.slice g2 t2 f2,.slice g3 t3 f3,.int .i64 i1,.int .i64 i2,.int .i64 i3,.int .i64 i4,.int .i64 i5] 31 (0,0)):=by rw [hw9];exact World.alloc_heap_new w8 _
   have K8:=hidI (K7.out.trans (k8'.mono s7));have K9:=hidI (K8.out.trans (l9.mono K8.out.size));have HR9:=hidI ((hr8.lower (n':=w.heap.size) (by omega)).keep l9);have HW9:=hidI hw9;have r9:=(BX.out w9 K9.out).2.2;have R9:=hidI r9;have B9:=hidI b9;clear x0 x1 x2 y0 y1 y2 y3 y4 y5 y6 y7 hw9 l9 hr8 k8';go_upto_region 16 with fail
   rw [← HW9.out];obtain ⟨z0,z1,z2,z3,z4,z5,z6,z7⟩:=aa_ r9;have e0:=foc_ r9 0;have e1:=foc_ r9 1;have e2:=foc_ r9 2;have e3:=foc_ r9 3;have e4:=foc_ r9 4;have e5:=foc_ r9 5;have e6:=foc_ r9 6;have e7:=foc_ r9 7;obtain ⟨y0,y1,y2,y3,y4,y5,y6,y7⟩:=aa_ b9;clear r9 b9;by_cases hz:E = 0
   rotate_left
   ·have hz':(E != 0) = true:=bne_iff_ne.2 hz;have HZ:=hidI hz;clear hz;go_wp2_with fail
    generalize hW4:World.setCell (World.setCell (World.setCell (World.setCell (World.setCell (World.setCell (World.setCell (World.setCell w9 _ _) _ _) _ _) _ _) _ _) _ _) _ _) _ _ = W4;obtain ⟨b4,t4⟩:=store8 R9.out hW4;obtain ⟨z0,z1,z2,z3,z4,z5,z6,z7⟩:=aa_ b4;exact bodyPost_ret (v:=.tuple #[zerS,.int .i64 0,.int .i64 E]) (by simp [results,Tryz.results69,go_sem,z0,z1,z2,z3,z4,z5,z6,z7,zerS]) rfl (HER.out E _ _ HZ.out rfl K9.out t4)
   have HNV:Hid (N = (nz:Int)):=by show N = _;rw [HN.out];unfold a9_;rw [if_pos hz,Int.toNat_natCast,← HZQ.out,HNZ.out]
   have HEZ:=hidI hz;subst hz;go_wp2_with fail
   generalize hW4:World.setCell (World.setCell (World.setCell (World.setCell (World.setCell (World.setCell (World.setCell (World.setCell w9 _ _) _ _) _ _) _ _) _ _) _ _) _ _) _ _ = W4;obtain ⟨b4,t4⟩:=store8 R9.out hW4;obtain ⟨z0,z1,z2,z3,z4,z5,z6,z7⟩:=aa_ b4;exact bodyPost_ret (v:=.tuple #[.agg #[.slice g1 t1 f1,.slice g2 t2 f2,.slice g3 t3 f3,.int .i64 i1,.int .i64 i2,.int .i64 i3,.int .i64 i4,.int .i64 i5],.int .i64 nz,.int .i64 0]) (by simp [results,Tryz.results69,go_sem,z0,z1,z2,z3,z4,z5,z6,z7]) rfl ⟨_,by rw [HNV.out],HR9.out.turn R9.out t4,HBW.out.trans ((K9.out.mono s0).trans (t4.below (by have:=K9.out.size;have:=HS3.out;omega) (by omega)))⟩
end Go.Proofs.YtlbnkpicnokgoaaGreat
