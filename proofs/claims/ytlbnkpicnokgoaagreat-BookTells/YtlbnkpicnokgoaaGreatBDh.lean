import Derived.Test.YtlbnkpicnokgoaaGreatSnx
import Derived.Test.YtlbnkpicnokgoaaGreatStx
import Derived.Test.YtlbnkpicnokgoaaGreatSux
namespace Go.Proofs.YtlbnkpicnokgoaaGreat
open Go.RowKit Go.Maps
set_option linter.unusedVariables false
set_option maxRecDepth 100000
set_option maxHeartbeats 8000000
theorem iF_ (s:ab_) (b1 b2 b3:Option Addr) (m1 d1 m2 d2 m3 d3:Nat) (w:World) (hs:al_ w b1 b2 b3 m1 m2 m3 s) (hm1:m1≤100) :
 Calls Tryz.prog 11 #[.agg #[.slice b1 m1 d1,.slice b2 m2 d2,.slice b3 m3 d3,.int .i64 s.nextSeq,.int .i64 s.nextTag,.int .i64 s.came,.int .i64 s.acked,.int .i64 s.dropped]] w fun e w'=>∃ v,e = .returned v∧w'.ownsRow w.heap.size 3 1 v s.ready.length (lenC s.ready)∧Below w.heap.size w w':=by
 obtain ⟨w1,hw1⟩:∃ w1,w1 = w.alloc (.cells #[.slice b1 m1 d1,.slice b2 m2 d2,.slice b3 m3 d3,.int .i64 s.nextSeq,.int .i64 s.nextTag,.int .i64 s.came,.int .i64 s.acked,.int .i64 s.dropped] 31):=⟨_,rfl⟩
 have l1:Below w.heap.size w w1:=by rw [hw1];exact (Below.refl _ _).alloc (Nat.le_refl _) _
 have x1:w1.heap[w.heap.size]? = some (.cells #[.slice b1 m1 d1,.slice b2 m2 d2,.slice b3 m3 d3,.int .i64 s.nextSeq,.int .i64 s.nextTag,.int .i64 s.came,.int .i64 s.acked,.int .i64 s.dropped] 31 (0,0)):=by rw [hw1];exact World.alloc_heap_new w _
 have HW1:=hidI hw1;have K1:=hidI l1;have HS1:=hidI (hs.keep l1);have X1:=hidI x1;have HL1:Hid (s.ready.length = m1):=hs.l1;have hsz:=l1.size;clear hw1 l1 hs x1;go_enter Tryz.func11,Tryz.ntmps11;go_wp2_with fail
 rw [← HW1.out];go_loopw [3,4] (fun l i wr=>∃ (k:Nat),k≤m1∧i = .int .i64 k∧wr.ownsRow w1.heap.size 3 1 l k (lenC (s.ready.take k))∧Below w1.heap.size w1 wr) (fun _ i _=>m1 - (intOf i).toNat)
 case atStart=>exact ⟨0,Nat.zero_le _,rfl,by simpa [lenC] using World.ownsRow_nil w1 w1.heap.size 3 1,Below.refl _ _⟩
 case round=>
  rename_i lv iv;obtain ⟨k,hk,rfl,hrow,hBr⟩:=hrel;obtain ⟨al,cl,rfl,hcc,-⟩:=aA_ hrow;have HO:=hidI hrow;have HB:=hidI hBr;have hsr:=hBr.size;obtain ⟨y0,y1,y2,y3,y4,y5,y6,y7⟩:=aa_ (pkp_ X1.out hBr);clear hrow hBr hcc y1 y2 y3 y4 y5 y6 y7;by_cases hlt:k < m1
  ·have hkl:k < s.ready.length:=by rw [HL1.out];exact hlt
   obtain ⟨g,o,bl,ccl,ha,hg,hlc⟩:=((HS1.out.keep HB.out).q1).get hkl;subst ha;have hcell:=hlc.1;obtain ⟨L,hL⟩:∃ L:Nat,L = (s.ready[k]'hkl).length:=⟨_,rfl⟩
   rw [← hL] at hcell;have HNX:Hid (lenC (s.ready.take (k+1)) = lenC (s.ready.take k) ++ [.int .i64 (L:Nat)]):=by show _ = _;rw [hQ_ hkl,hL]
   have HLT:=hidI hlt;have j1:(0:Int)≤(k:Int):=by omega
   have j2:(k:Int) < m1:=by omega
   obtain ⟨w4,hw4⟩:∃ w4,w4 = wr.alloc (.cells #[.int .i64 (L:Nat)] 3):=⟨_,rfl⟩
   have l4:Below wr.heap.size wr w4:=by rw [hw4];exact (Below.refl _ _).alloc (Nat.le_refl _) _
   have HRW:Hid (a7_ w4 (some ⟨wr.heap.size,0,none⟩) [.int .i64 (L:Nat)]):=by show a7_ w4 _ _;rw [hw4];exact fP_ (w:=wr) (cs:=[.int .i64 (L:Nat)])
   have HW4:=hidI hw4;have HO4:=hidI (cp2_ HO.out l4);have HB4:=hidI (HB.out.trans (l4.mono HB.out.size));have hs4:=HB4.out.size;clear hw4 l4 hL hlc;go_wp2_with (at_builtin;rw [← HW4.out];refine a0_ jc_ (by kernel_rfl) _ _ rfl w1.heap.size _ k (lenC (s.ready.take k)) rfl HO4.out (some ⟨wr.heap.size,0,none⟩) 1 1 [.int .i64 (L:Nat)] rfl rfl (fun h=>by cases h) HRW.out (fun u hu=>by cases List.mem_singleton.1 hu;rfl) (by unfold maxLen;omega) (by omega) (by omega) ?_;intro v5 w5 ho5 hg5 hblk;have HO5:=hidI ho5;have K5:=hidI (HB4.out.grown hg5 HB4.out.size (fun j hj=>(HO4.out.lt j hj).1));clear ho5 hg5 hblk)
   go_roundw
   case rel=>exact ⟨k+1,HLT.out,by have:=HLT.out;go_num,by rw [HNX.out];exact HO5.out,K5.out⟩
   case measure=>have:=HLT.out;simp [intOf];omega
  ·have hke:k = m1:=by omega
   subst hke;go_wp2_with fail
   go_ret
   exact ⟨_,rfl,by have h:=HO.out;rw [List.take_of_length_le (by rw [HL1.out];omega)] at h;rw [HL1.out];exact a2_ h hsz,K1.out.trans (HB.out.mono K1.out.size)⟩
def lenW:Value→Nat
 | .slice _ m _=>m
 | _=>0
structure DrJ (p:ad_) (s:ab_) (q:Int) (n t:Nat) (W wr:World) (k:Nat) (cur:ab_) (b:Option Addr) (c:Nat):Prop where
 le:k≤(af_ s q.toNat).length
 box:StBox wr n t cur
 row:wr.ownsRow W.heap.size 9 1 (.slice b k c) k (((drB s q).take k).map .string)
 fr:ac_ W.heap.size t W wr
 line:af_ cur q.toNat = (af_ s q.toNat).drop k
 right:ag_ p cur 0
 ql:q.toNat < cur.ready.length
 te:b7_ p q (af_ s q.toNat) (bE_ s q 1) = b7_ p q ((af_ s q.toNat).drop k) cur
 ts:drM s q = dD_ q ((af_ s q.toNat).drop k) cur
theorem is_ (p:ad_) (a1 a2 a3:Option Addr) (n1 c1 n2 c2 n3 c3:Nat) (s:ab_) (b1 b2 b3:Option Addr) (m1 d1 m2 d2 m3 d3:Nat) (q:Int) (w:World) (hp:ap_ w a1 a2 a3 n1 n2 n3 p) (hs:al_ w b1 b2 b3 m1 m2 m3 s) (hn2:b2 = none→d2 = 0) (hn3:b3 = none→d3 = 0) :
 Calls Tryz.prog 12 #[.agg #[.slice a1 n1 c1,.slice a2 n2 c2,.slice a3 n3 c3],.agg #[.slice b1 m1 d1,.slice b2 m2 d2,.slice b3 m3 d3,.int .i64 s.nextSeq,.int .i64 s.nextTag,.int .i64 s.came,.int .i64 s.acked,.int .i64 s.dropped],.int .i64 q] w fun e w'=>∃ v u,e = .returned (.tuple #[v,u,.int .i64 (drE p s q)])∧a4_ w' w.heap.size v (drE p s q) (drS s q)∧eB_ w' w.heap.size u (drE p s q) (drB s q)∧Below w.heap.size w w':=by
 obtain ⟨E,hE⟩:∃ E,E = drE p s q:=⟨_,rfl⟩
 rw [← hE];obtain ⟨W3,hW3,hBw,hs3,hbx⟩:=em_ w #[.slice a1 n1 c1,.slice a2 n2 c2,.slice a3 n3 c3] #[.slice b1 m1 d1,.slice b2 m2 d2,.slice b3 m3 d3,.int .i64 s.nextSeq,.int .i64 s.nextTag,.int .i64 s.came,.int .i64 s.acked,.int .i64 s.dropped];have HW3:=hidI hW3;have BX:=hidI hbx;have HE:=hidI hE;have HS:=hidI (hs.keep hBw);have HP:=hidI (hp.keep hBw);have HBW:=hidI hBw;have HS3:=hidI hs3;have HN2:=hidI hn2;have HN3:=hidI hn3;have s0:=hBw.size;have hnn:p.queues.length = n2:=hp.l2;have HNN:=hidI hnn;have HER:Hid (∀ (EE:Int) (Wa Wb:World),EE≠0→E = EE→Below W3.heap.size W3 Wa→bh_ (w.heap.size+2) Wa Wb→∃ v u,Ending.returned (.tuple #[zerS,.slice none 0 0,.int .i64 EE]) = .returned (.tuple #[v,u,.int .i64 E])∧a4_ Wb w.heap.size v E (drS s q)∧eB_ Wb w.heap.size u E (drB s q)∧Below w.heap.size w Wb):=fun EE Wa Wb h1 h2 h3 h4=>by
  subst h2;exact ⟨_,_,rfl,⟨fun h=>absurd h h1,fun _=>rfl⟩,⟨fun h=>absurd h h1,fun _=>rfl⟩,HBW.out.trans ((h3.mono s0).trans (h4.below (by have:=h3.size;have:=HS3.out;omega) (by omega)))⟩
 obtain ⟨x0,x1,x2⟩:=ai_ (hbx W3 (Below.refl _ _)).1;obtain ⟨y0,y1,y2,y3,y4,y5,y6,y7⟩:=aa_ (hbx W3 (Below.refl _ _)).2.1;clear hW3 hbx hs3 hp hs hBw hE hn2 hn3 hnn;go_enter Tryz.func12,Tryz.ntmps12;go_wp2_with fail
 rw [← HW3.out];refine (c0_ p _ _ _ _ _ _ _ _ _ s _ _ _ _ _ _ _ _ _ q _ HP.out HS.out).mono ?_;rintro e w1 ⟨rfl,k1⟩;obtain ⟨QE,hQE⟩:∃ QE,QE = quE p s q:=⟨_,rfl⟩
 rw [← hQE];have HQE:=hidI hQE;have K1:=hidI k1;have hs1:=k1.size;clear x0 x1 x2 y0 y1 y2 y3 y4 y5 y6 y7 hQE k1;by_cases hz:QE = 0
 rotate_left
 ·have hz':(QE != 0) = true:=bne_iff_ne.2 hz;have HZN:=hidI hz;have HX:Hid (E = QE):=by
   show E = QE;have hq:=HQE.out;rw [HE.out];unfold drE drX;unfold quE at hq;by_cases h1:stE p s = 0
   ·rw [if_neg (by simp [h1])] at hq ⊢;by_cases h2:aq_ q p.queues.length = false
    ·rw [if_pos h2] at hq ⊢;exact hq.symm
    ·rw [if_neg h2] at hq;exact absurd hq HZN.out
   ·rw [if_pos h1] at hq ⊢;exact hq.symm
  clear hz;have r4:=(BX.out w1 K1.out).2.2;obtain ⟨z0,z1,z2,z3,z4,z5,z6,z7⟩:=aa_ r4;have e0:=foc_ r4 0;have e1:=foc_ r4 1;have e2:=foc_ r4 2;have e3:=foc_ r4 3;have e4:=foc_ r4 4;have e5:=foc_ r4 5;have e6:=foc_ r4 6;have e7:=foc_ r4 7;have R4:=hidI r4;clear r4;go_wp2_with fail
  generalize hW4:World.setCell (World.setCell (World.setCell (World.setCell (World.setCell (World.setCell (World.setCell (World.setCell w1 _ _) _ _) _ _) _ _) _ _) _ _) _ _) _ _ = W4;obtain ⟨b4,t4⟩:=store8 R4.out hW4;obtain ⟨z0,z1,z2,z3,z4,z5,z6,z7⟩:=aa_ b4;exact bodyPost_ret (v:=.tuple #[zerS,.slice none 0 0,.int .i64 QE]) (by simp [results,Tryz.results12,go_sem,z0,z1,z2,z3,z4,z5,z6,z7,zerS]) rfl (HER.out QE _ _ HZN.out HX.out K1.out t4)
 have HQ0:Hid (stE p s = 0∧aq_ q p.queues.length = true):=by
  have hq:=HQE.out;rw [hz] at hq;unfold quE at hq;show _∧_;by_cases h1:stE p s = 0
  ·rw [if_neg (by simp [h1])] at hq;by_cases h2:aq_ q p.queues.length = false
   ·rw [if_pos h2] at hq;cases hq
   ·exact ⟨h1,by simpa using h2⟩
  ·rw [if_pos h1] at hq;exact absurd hq.symm h1
 have HR:=hidI (aE_ HQ0.out.1);subst hz;have hm3:m3≤4:=by have:=HR.out.tk;have:=HS.out.l3;omega
 have HM3:Hid (s.takers.length = m3):=HS.out.l3;go_wp2_with fail
 go_loopw [10] (fun i wr=>∃ (k:Nat),k≤m3∧i = .int .i64 k∧(∀ t ∈ s.takers.take k,t.queue≠q)∧wr = w1) (fun i _=>m3 - (intOf i).toNat)
 case atStart=>exact ⟨0,Nat.zero_le _,rfl,by simp,rfl⟩
 case round=>
  obtain ⟨k,hk,rfl,ha,rfl⟩:=hrel;have HA:=hidI ha;obtain ⟨y0,y1,y2,y3,y4,y5,y6,y7⟩:=aa_ (BX.out wr K1.out).2.1;clear ha y0 y1 y3 y4 y5 y6 y7;by_cases hlt:k < m3
  ·have hkl:k < s.takers.length:=by rw [HM3.out];exact hlt
   obtain ⟨g,o,rfl,hg,tq,tm⟩:=(HS.out.keep K1.out).q3.get hkl;obtain ⟨tk,htk⟩:∃ tk,tk = (s.takers[k]'hkl).queue:=⟨_,rfl⟩
   rw [← htk] at tq;have j1:(0:Int)≤(k:Int):=by omega
   have j2:(k:Int) < m3:=by omega
   have HLT:=hidI hlt;have HTK:=hidI htk;clear htk tm;by_cases hq:tk = q
   ·have hq':(tk == q) = true:=by rw [hq];simp
    have HX:Hid (E = 9):=by
     show E = 9;rw [HE.out];unfold drE drX;rw [if_neg (by simp [HQ0.out.1]),if_neg (by rw [HQ0.out.2];simp),if_pos];unfold il_;rw [List.any_eq_true];exact ⟨_,List.getElem_mem hkl,by simp;rw [← HTK.out];exact hq⟩
    have HN9:Hid ((9:Int)≠0):=by show (9:Int)≠0;decide
    clear hq;have r4:=(BX.out wr K1.out).2.2;obtain ⟨z0,z1,z2,z3,z4,z5,z6,z7⟩:=aa_ r4;have e0:=foc_ r4 0;have e1:=foc_ r4 1;have e2:=foc_ r4 2;have e3:=foc_ r4 3;have e4:=foc_ r4 4;have e5:=foc_ r4 5;have e6:=foc_ r4 6;have e7:=foc_ r4 7;have R4:=hidI r4;clear r4;go_wp2_with fail
    generalize hW4:World.setCell (World.setCell (World.setCell (World.setCell (World.setCell (World.setCell (World.setCell (World.setCell wr _ _) _ _) _ _) _ _) _ _) _ _) _ _) _ _ = W4;obtain ⟨b4,t4⟩:=store8 R4.out hW4;obtain ⟨z0,z1,z2,z3,z4,z5,z6,z7⟩:=aa_ b4;exact bodyPost_ret (v:=.tuple #[zerS,.slice none 0 0,.int .i64 9]) (by simp [results,Tryz.results12,go_sem,z0,z1,z2,z3,z4,z5,z6,z7,zerS]) rfl (HER.out 9 _ _ HN9.out HX.out K1.out t4)
   ·have hq':(tk == q) = false:=by rw [beq_eq_false_iff_ne];exact hq
    have HNX:Hid (∀ t ∈ s.takers.take (k+1),t.queue≠q):=fun t ht=>by
     rw [List.take_succ_eq_append_getElem hkl,List.mem_append,List.mem_singleton] at ht;rcases ht with ht | rfl
     ·exact HA.out t ht
     ·rw [← HTK.out];exact hq
    clear hq;go_wp2_with fail
    go_roundw
    case rel=>exact ⟨k+1,HLT.out,by have:=HLT.out;go_num,HNX.out,trivial⟩
    case measure=>have:=HLT.out;simp [intOf];omega
  ·have hke:k = m3:=by omega
   subst hke;have HBQ:Hid (il_ s q = false):=by
    show il_ s q = false;unfold il_;rw [List.any_eq_false];intro t ht e;exact HA.out t (by rw [List.take_of_length_le (by rw [HM3.out];omega)];exact ht) (by simpa using e)
   have HEJ:Hid (E = if bB_ p s q 1≠0 then bB_ p s q 1 else b7_ p q (af_ s q.toNat) (bE_ s q 1)):=by
    show E = _;rw [HE.out];unfold drE drX;rw [if_neg (by simp [HQ0.out.1]),if_neg (by rw [HQ0.out.2];simp),if_neg (by rw [HBQ.out];simp)]
   obtain ⟨EJ,hEJ⟩:∃ EJ,EJ = bB_ p s q 1:=⟨_,rfl⟩
   have HJ:=hidI hEJ;rw [← hEJ] at HEJ;obtain ⟨num,hnum⟩:∃ num,num = bg_ EJ (goneIdx s.takers:Nat):=⟨_,rfl⟩
   have HNUM:=hidI hnum;obtain ⟨x0,x1,x2⟩:=ai_ (BX.out wr K1.out).1;obtain ⟨y0,y1,y2,y3,y4,y5,y6,y7⟩:=aa_ (BX.out wr K1.out).2.1;clear hlt hk hEJ hnum;go_wp2_with fail
   refine (jS_ p _ _ _ _ _ _ _ _ _ s _ _ _ _ _ _ _ _ _ q 1 _ (HP.out.keep K1.out) (HS.out.keep K1.out) HN2.out HN3.out).mono ?_;rintro e w2 ⟨v2,rfl,hr2,k2⟩;rw [← HJ.out] at hr2 ⊢;rw [← HNUM.out];obtain ⟨z1,z2,z3,t1,e1,t2,e2,t3,e3,i1,i2,i3,i4,i5,rfl⟩:=hr2.shape;obtain ⟨w3,hw3⟩:∃ w3,w3 = w2.alloc (.cells #[.slice z1 t1 e1,.slice z2 t2 e2,.slice z3 t3 e3,.int .i64 i1,.int .i64 i2,.int .i64 i3,.int .i64 i4,.int .i64 i5] 31):=⟨_,rfl⟩
   have l3:Below w2.heap.size w2 w3:=by rw [hw3];exact (Below.refl _ _).alloc (Nat.le_refl _) _
   have b3':w3.heap[w2.heap.size]? = some (.cells #[.slice z1 t1 e1,.slice z2 t2 e2,.slice z3 t3 e3,.int .i64 i1,.int .i64 i2,.int .i64 i3,.int .i64 i4,.int .i64 i5] 31 (0,0)):=by rw [hw3];exact World.alloc_heap_new w2 _
   obtain ⟨BJ,hBJ⟩:∃ BJ,BJ = w2.heap.size:=⟨_,rfl⟩
   have HBJ:=hidI hBJ;rw [← hBJ] at b3';have HW4:=hidI hw3;have HB3:=hidI b3';have K3:Hid (Below W3.heap.size W3 w3):=K1.out.trans ((k2.trans (l3.mono k2.size)).mono hs1);have HBG:Hid (W3.heap.size≤BJ):=by show _≤BJ;have:=k2.size;omega
   have HR3:=hidI ((hr2.keep l3).lower (n':=w.heap.size) (by omega));have HLB:Hid (BJ < w3.heap.size):=lth_ b3';clear x0 x1 x2 y0 y1 y2 y3 y4 y5 y6 y7 hr2 k2 l3 b3' hw3 hBJ;go_upto_region 10 with fail
   rw [← HW4.out,← HBJ.out];by_cases hz:EJ = 0
   rotate_left
   ·have hz':(EJ != 0) = true:=bne_iff_ne.2 hz;have HZN:=hidI hz;have HX:Hid (E = EJ):=by show E = EJ;rw [HEJ.out,if_pos HZN.out]
    clear hz;have r4:=(BX.out w3 K3.out).2.2;obtain ⟨z0,z1,z2,z3,z4,z5,z6,z7⟩:=aa_ r4;have e0:=foc_ r4 0;have e1:=foc_ r4 1;have e2:=foc_ r4 2;have e3:=foc_ r4 3;have e4:=foc_ r4 4;have e5:=foc_ r4 5;have e6:=foc_ r4 6;have e7:=foc_ r4 7;have R4:=hidI r4;clear r4;go_wp2_with fail
    generalize hW4:World.setCell (World.setCell (World.setCell (World.setCell (World.setCell (World.setCell (World.setCell (World.setCell w3 _ _) _ _) _ _) _ _) _ _) _ _) _ _) _ _ = W4;obtain ⟨b4,t4⟩:=store8 R4.out hW4;obtain ⟨z0,z1,z2,z3,z4,z5,z6,z7⟩:=aa_ b4;exact bodyPost_ret (v:=.tuple #[zerS,.slice none 0 0,.int .i64 EJ]) (by simp [results,Tryz.results12,go_sem,z0,z1,z2,z3,z4,z5,z6,z7,zerS]) rfl (HER.out EJ _ _ HZN.out HX.out K3.out t4)
   have hj:bB_ p s q 1 = 0:=HJ.out.symm.trans hz;have HET:Hid (E = b7_ p q (af_ s q.toNat) (bE_ s q 1)):=by show E = _;rw [HEJ.out,if_neg (by simp [hz])]
   obtain ⟨hR0,q0,hql,hJR⟩:=cy_ hj;obtain ⟨qn,hqn⟩:∃ qn:Nat,q = qn:=⟨q.toNat,by omega⟩
   subst hqn;have hgi:num = (goneIdx s.takers:Nat):=by rw [HNUM.out,hz];rfl
   obtain ⟨gi,hgi2⟩:∃ gi:Nat,gi = goneIdx s.takers:=⟨_,rfl⟩
   rw [← hgi2] at hgi;have HGI:=hidI hgi2;obtain ⟨j1',j2',j3',r1,f1,r2,f2,r3,f3,hv,ho⟩:=HR3.out.1 hz;cases hv;have HINV:Hid (DrJ p s (qn:Int) w.heap.size BJ w3 w3 0 (bE_ s (qn:Int) 1) none 0):=⟨Nat.zero_le _,⟨_,_,_,_,_,_,_,_,_,HB3.out,ho⟩,by simpa using World.ownsRow_nil w3 w3.heap.size 9 1,ac_.refl _ _ _,by simp;rfl,hJR,hql,by simp,by simp;rfl⟩;have HL6:Hid ((af_ s qn).length≤6):=HR.out.line6 (a1_ (by simpa using hql));have HJZ:=hidI hj;subst hz;subst hgi;clear hj hR0 q0 hql hJR hgi2 ho;go_wp2_with fail
   go_loopw [14] (fun l wr=>∃ k cur b c,l = .slice b k c∧DrJ p s (qn:Int) w.heap.size BJ w3 wr k cur b c) (fun l _=>(af_ s qn).length - lenW l)
   case atStart=>exact ⟨0,_,_,_,rfl,HINV.out⟩
   case round=>
    obtain ⟨k,cur,b,c,rfl,hinv⟩:=hrel;have HI:=hidI hinv;have hszr:=hinv.fr.size;have BR:Hid (Below W3.heap.size W3 wr):=K3.out.trans (hinv.fr.below (by have:=K3.out.size;omega) HBG.out);obtain ⟨b1',b2',b3',m1',d1',m2',d2',m3',d3',hbr,hor⟩:=hinv.box;obtain ⟨g,bl,cl,hg1,hgc,hit,-,-⟩:=hor.lineCellB (q:=qn) (by simpa using hinv.ql);subst hg1;have hm1:qn < m1':=by have:=hor.l1;have:=hinv.ql;simp at this;omega
    obtain ⟨y0,y1,y2,y3,y4,y5,y6,y7⟩:=aa_ hbr;have HOR:=hidI hor;have HBR:=hidI hbr;have HIT:=hidI hit;have hbl:BJ < wr.heap.size:=lth_ hbr;have hgr:g < wr.heap.size:=gO_ hgc;have j1:(0:Int)≤(qn:Int):=by omega
    have j2:(qn:Int) < m1':=by omega
    obtain ⟨l0,hl0⟩:∃ l0,l0 = af_ cur qn:=⟨_,rfl⟩
    rw [← hl0] at hgc HIT;have HL0:=hidI hl0;have HLD:Hid (l0 = (af_ s qn).drop k):=by show l0 = _;rw [hl0];have:=hinv.line;simpa using this
    clear hinv hbr hor hit hl0;cases l0 with
    | nil =>
      simp only [List.length_nil] at hgc;have hk:k = (af_ s qn).length:=by
       have h1:=congrArg List.length HLD.out;simp at h1;have h2:=HI.out.le;simp at h2;omega
      have HK:=hidI hk;have HEZ:Hid (E = 0):=by
       show E = 0;have h1:=HI.out.te;simp only [Int.toNat_natCast] at h1;rw [HET.out,Int.toNat_natCast,h1,← HLD.out];rfl
      have hM:drM s (qn:Int) = cur:=by
       have h1:=HI.out.ts;simp only [Int.toNat_natCast] at h1;rw [h1,← HLD.out];rfl
      have HM:=hidI hM;have hEM:Emptied p (qn:Int) (af_ s (qn:Int).toNat) (bE_ s (qn:Int) 1) cur:=by
       rw [← HM.out];obtain ⟨_,_,h3,h4⟩:=cy_ HJZ.out;exact emptied _ _ h4 h3 rfl (by rw [← HET.out];exact HEZ.out)
      have hgl:gi < cur.takers.length:=by
       rw [hEM.takers,HGI.out];exact (List.getElem?_eq_some_iff.1 (ef_ s.takers (qn:Int) 1)).1
      have hr3:=HOR.out.r3;have hkk3:gi < m3':=by have:=HOR.out.l3;omega
      obtain ⟨gU,rfl⟩:∃ gU,b3' = some ⟨gU,0,none⟩:=by
       rcases hr3.2 with ⟨e,e0⟩ | ⟨g,cap,cc,e,_⟩
       ·exfalso;omega
       ·cases e;exact ⟨g,rfl⟩
      have cc:wr.cell? ⟨gU,gi * 2,none⟩ = some (.int .i64 (cur.takers[gi]'hgl).queue):=by
       rw [hr3.cellAt (gi * 2) (by omega)];exact bK_ (f:=aj_.cells) (k:=2) (fun _=>rfl) cur.takers gi hgl 0 (by omega)
      have ff:=hr3.frozenAt (gi * 2);have i3':(gi:Int) < m3':=by omega
      have i0':(0:Int)≤(gi:Int):=by omega
      obtain ⟨qz,hqz⟩:∃ qz,qz = (cur.takers[gi]'hgl).queue:=⟨_,rfl⟩
      rw [← hqz] at cc;have HGL:=hidI hgl;clear hr3 hqz hgl hk hM hEM;go_upto_region 20 with fail
      clear y0 y1 y2 y3 y4 y5 y6 y7;generalize hw8:wr.setCell ⟨gU,gi * 2,none⟩ (.int .i64 (-1)) = w8;obtain ⟨h1,h2,h3⟩:=HOR.out.takerQ HGL.out (-1) hw8.symm;have hbt:=(h2.block BJ _ _ HBR.out (by decide)).trans HBR.out;have hr8:=h2.row HI.out.row (by decide);have HF8:Hid (Below w.heap.size w w8):=by show Below _ w w8;rw [← hw8];exact (HBW.out.trans (BR.out.mono s0)).setCell (p:=⟨gU,gi * 2,none⟩) h3 _
      obtain ⟨SR,hSR⟩:∃ SR,SR = drS s (qn:Int):=⟨_,rfl⟩
      have he:({ cur with takers:=cur.takers.set gi ⟨-1,(cur.takers[gi]'HGL.out).most⟩ }:ab_) = SR:=by
       rw [hSR];unfold drS c2_;rw [HM.out,← HGI.out,List.getD_eq_getElem?_getD,List.getElem?_eq_getElem HGL.out];rfl
      rw [he] at h1;have hbt':w8.heap[BJ]? = some (.cells #[.slice (some ⟨g,0,none⟩) m1' d1',.slice b2' m2' d2',.slice (some ⟨gU,0,none⟩) m3' d3',.int .i64 SR.nextSeq,.int .i64 SR.nextTag,.int .i64 SR.came,.int .i64 SR.acked,.int .i64 SR.dropped] 31 (0,0)):=by rw [← he];exact hbt
      have HO8:=hidI h1;have HSR:=hidI hSR;have HR8:=hidI hr8;have r8:w8.heap[w.heap.size+2]? = some (.cells #[.slice none 0 0,.slice none 0 0,.slice none 0 0,.int .i64 0,.int .i64 0,.int .i64 0,.int .i64 0,.int .i64 0] 31 (0,0)):=(h2.block _ _ _ (BX.out wr BR.out).2.2 (by decide)).trans (BX.out wr BR.out).2.2;obtain ⟨y0,y1,y2,y3,y4,y5,y6,y7⟩:=aa_ hbt';obtain ⟨z0,z1,z2,z3,z4,z5,z6,z7⟩:=aa_ r8;have e0:=foc_ r8 0;have e1:=foc_ r8 1;have e2:=foc_ r8 2;have e3:=foc_ r8 3;have e4:=foc_ r8 4;have e5:=foc_ r8 5;have e6:=foc_ r8 6;have e7:=foc_ r8 7;have R8:=hidI r8;clear r8 hbt hbt' h1 h2 h3 he hSR hw8 cc ff hr8;go_wp2_with fail
      generalize hW9:World.setCell (World.setCell (World.setCell (World.setCell (World.setCell (World.setCell (World.setCell (World.setCell w8 _ _) _ _) _ _) _ _) _ _) _ _) _ _) _ _ = W9;obtain ⟨b9,t9⟩:=store8 R8.out hW9;obtain ⟨z0,z1,z2,z3,z4,z5,z6,z7⟩:=aa_ b9;have hr9:=bq_ HR8.out (fun j hj=>t9.block j (HR8.out.lt j hj).2 (fun e=>bl_ HR8.out R8.out (by decide) (by rw [hj,e])));have hLn:(drB s (qn:Int)).length = k:=by rw [HK.out];unfold drB;simp
      rw [List.take_of_length_le (by omega)] at hr9;exact bodyPost_ret (v:=.tuple #[.agg #[.slice (some ⟨g,0,none⟩) m1' d1',.slice b2' m2' d2',.slice (some ⟨gU,0,none⟩) m3' d3',.int .i64 SR.nextSeq,.int .i64 SR.nextTag,.int .i64 SR.came,.int .i64 SR.acked,.int .i64 SR.dropped],.slice b k c,.int .i64 0]) (by simp [results,Tryz.results12,go_sem,z0,z1,z2,z3,z4,z5,z6,z7]) rfl ⟨_,_,by rw [HEZ.out],⟨fun _=>by rw [← HSR.out];exact ⟨_,_,_,_,_,_,_,_,_,rfl,HO8.out.turn R8.out (by decide) t9⟩,fun h=>absurd HEZ.out h⟩,⟨fun _=>by rw [hLn];exact a2_ hr9 (by have:=K3.out.size;omega),fun h=>absurd HEZ.out h⟩,HF8.out.trans (t9.below HF8.out.size (by omega))⟩
    | cons y r =>
      rcases HIT.out with hnil | ⟨gl,ol,hbl',hgll,hc⟩
      ·cases hnil
      have hc0:=hc 0 (by simp);subst hbl';obtain ⟨e0,e1,e2,e3,e4⟩:=hc0;obtain ⟨bd,hbd⟩:∃ bd,bd = y.body:=⟨_,rfl⟩
      have HBD:=hidI hbd;simp only [Nat.zero_mul,Nat.add_zero,List.getElem_cons_zero] at e2;rw [← hbd] at e2;obtain ⟨L,hL⟩:∃ L,L = (y :: r).length:=⟨_,rfl⟩
      rw [← hL] at hgc;have hL0:0 < L:=by rw [hL];simp
      have hL1:(0:Int) < (L:Int):=by omega
      have hkl6:k≤6:=by have h1:=HI.out.le;have h2:=HL6.out;simp only [Int.toNat_natCast] at h1;omega
      obtain ⟨w4,hw4⟩:∃ w4,w4 = wr.alloc (.cells #[.string bd] 9):=⟨_,rfl⟩
      have l4:Below wr.heap.size wr w4:=by rw [hw4];exact (Below.refl _ _).alloc (Nat.le_refl _) _
      have HRW:Hid (a7_ w4 (some ⟨wr.heap.size,0,none⟩) [.string bd]):=by show a7_ w4 _ _;rw [hw4];exact fP_ (w:=wr) (cs:=[.string bd])
      have HWA:=hidI hw4;have HO4:=hidI (cp2_ HI.out.row l4);have L4:=hidI l4;have hs4:=l4.size;clear hw4 l4 hL hc e0 e1 e3 e4 hbd y1 y2 y3 y4 y5 y6 y7;go_wp2_with (at_builtin;rw [← HWA.out];refine a0_ gY_ (by kernel_rfl) _ _ rfl w3.heap.size _ k (((drB s (qn:Int)).take k).map .string) rfl HO4.out (some ⟨wr.heap.size,0,none⟩) 1 1 [.string bd] rfl rfl (fun h=>by cases h) HRW.out (fun u hu=>by cases List.mem_singleton.1 hu;rfl) (by unfold maxLen;omega) (by omega) (by omega) ?_;intro v5 w5 ho5 hg5 hblk;obtain ⟨b5,c5,rfl,-⟩:=aA_ ho5;have HO5:=hidI ho5;have T5:=hidI ((ax_.of_below L4.out).trans (ax_.grown HO4.out hg5));have F5:Hid (ac_ w3.heap.size BJ w3 w5):=(HI.out.fr.trans (ac_.of_below L4.out hszr)).grown hg5 (by omega) (fun j hj=>(HO4.out.lt j hj).1);clear ho5 hg5 hblk;clear y0 hgc e2;have HB5:=hidI ((T5.out.block BJ _ _ HBR.out (by decide)).trans HBR.out);have B5:Hid (Below W3.heap.size W3 w5):=K3.out.trans (F5.out.below (by have:=K3.out.size;omega) HBG.out);obtain ⟨x0,x1,x2⟩:=ai_ (BX.out w5 B5.out).1;obtain ⟨y0,y1,y2,y3,y4,y5,y6,y7⟩:=aa_ HB5.out)
      obtain ⟨ED,hED⟩:∃ ED,ED = delE p cur (qn:Int):=⟨_,rfl⟩
      have HED:=hidI hED;obtain ⟨nd,hnd⟩:∃ nd,nd = bg_ ED cur.nextTag:=⟨_,rfl⟩
      have HND:=hidI hnd;have HOR5:=hidI (HOR.out.typeT T5.out (by decide));have HTE:Hid (E = b7_ p (qn:Int) (y :: r) cur):=by
       show E = _;have h1:=HI.out.te;simp only [Int.toNat_natCast] at h1;rw [HET.out,Int.toNat_natCast,h1,← HLD.out]
      have hs5:=B5.out.size;refine (gW_ p _ _ _ _ _ _ _ _ _ cur _ _ _ _ _ _ _ _ _ (qn:Int) _ (HP.out.keep B5.out) HOR5.out.state HOR5.out.nils.1 HOR5.out.nils.2).mono ?_;rintro e w6 ⟨v6,rfl,hr6,k6⟩;rw [← HED.out] at hr6 ⊢;rw [← HND.out];obtain ⟨z1',z2',z3',t1',e1',t2',e2',t3',e3',i1',i2',i3',i4',i5',rfl⟩:=hr6.shape;obtain ⟨w7,hw7⟩:∃ w7,w7 = w6.alloc (.cells #[.slice z1' t1' e1',.slice z2' t2' e2',.slice z3' t3' e3',.int .i64 i1',.int .i64 i2',.int .i64 i3',.int .i64 i4',.int .i64 i5'] 31):=⟨_,rfl⟩
      have l7:Below w6.heap.size w6 w7:=by rw [hw7];exact (Below.refl _ _).alloc (Nat.le_refl _) _
      have b7:w7.heap[w6.heap.size]? = some (.cells #[.slice z1' t1' e1',.slice z2' t2' e2',.slice z3' t3' e3',.int .i64 i1',.int .i64 i2',.int .i64 i3',.int .i64 i4',.int .i64 i5'] 31 (0,0)):=by rw [hw7];exact World.alloc_heap_new w6 _
      obtain ⟨BD,hBD⟩:∃ BD,BD = w6.heap.size:=⟨_,rfl⟩
      have HBDD:=hidI hBD;rw [← hBD] at b7;have HW7:=hidI hw7;have HB7:=hidI b7;have K57:Hid (Below w5.heap.size w5 w7):=k6.trans (l7.mono k6.size);have K7:Hid (Below W3.heap.size W3 w7):=B5.out.trans (K57.out.mono hs5);have HR7:=hidI ((hr6.keep l7).lower (n':=w.heap.size) (by omega));clear x0 x1 x2 y0 y1 y2 y3 y4 y5 y6 y7 hr6 k6 l7 b7 hw7 hBD hED hnd;go_upto_region 16 with fail
      rw [← HW7.out,← HBDD.out];by_cases hz:ED = 0
      rotate_left
      ·have hz':(ED != 0) = true:=bne_iff_ne.2 hz;have HZN:=hidI hz;have HX:Hid (E = ED):=by show E = ED;rw [HTE.out];unfold b7_;rw [if_pos (by rw [← HED.out];exact HZN.out),HED.out]
       clear hz;have r4:=(BX.out w7 K7.out).2.2;obtain ⟨z0,z1,z2,z3,z4,z5,z6,z7⟩:=aa_ r4;have e0:=foc_ r4 0;have e1:=foc_ r4 1;have e2:=foc_ r4 2;have e3:=foc_ r4 3;have e4:=foc_ r4 4;have e5:=foc_ r4 5;have e6:=foc_ r4 6;have e7:=foc_ r4 7;have R4:=hidI r4;clear r4;go_wp2_with fail
       generalize hW4:World.setCell (World.setCell (World.setCell (World.setCell (World.setCell (World.setCell (World.setCell (World.setCell w7 _ _) _ _) _ _) _ _) _ _) _ _) _ _) _ _ = W4;obtain ⟨b4,t4⟩:=store8 R4.out hW4;obtain ⟨z0,z1,z2,z3,z4,z5,z6,z7⟩:=aa_ b4;exact bodyPost_ret (v:=.tuple #[zerS,.slice none 0 0,.int .i64 ED]) (by simp [results,Tryz.results12,go_sem,z0,z1,z2,z3,z4,z5,z6,z7,zerS]) rfl (HER.out ED _ _ HZN.out HX.out K7.out t4)
      have hdz:delE p cur (qn:Int) = 0:=HED.out.symm.trans hz;have HAC:=hidI (gK_ hdz);have HDZ:=hidI hdz;have hnd:nd = cur.nextTag:=by rw [HND.out,hz];rfl
      have HNDN:=hidI hnd;obtain ⟨j1',j2',j3',r1',f1',r2',f2',r3',f3',hv,ho⟩:=HR7.out.1 hz;cases hv;have HO7:=hidI ho;have HBJ7:=hidI (pkp_ HB5.out K57.out);obtain ⟨x0,x1,x2⟩:=ai_ (BX.out w7 K7.out).1;obtain ⟨y0,y1,y2,y3,y4,y5,y6,y7⟩:=aa_ HB7.out;have hcap:=fF_ ho.r2;subst hz;clear ho hdz hnd;go_wp2_with fail
      refine (kx_ p _ _ _ _ _ _ _ _ _ (delS cur (qn:Int)) _ _ _ _ _ _ _ _ _ nd _ (HP.out.keep K7.out) HO7.out.state HO7.out.nils.1 HO7.out.nils.2 hcap.1 hcap.2.1).mono ?_;rw [HNDN.out];rintro e w8 ⟨v8,rfl,hr8,k8⟩;rw [HAC.out.1] at hr8 ⊢;rw [HAC.out.2] at hr8;obtain ⟨k1',k2',k3',s1',g1',s2',g2',s3',g3',rfl,ho8⟩:=hr8.1 rfl;have r8:=pkp_ HBJ7.out k8;obtain ⟨z0,z1,z2,z3,z4,z5,z6,z7⟩:=aa_ r8;have e0:=foc_ r8 0;have e1:=foc_ r8 1;have e2:=foc_ r8 2;have e3:=foc_ r8 3;have e4:=foc_ r8 4;have e5:=foc_ r8 5;have e6:=foc_ r8 6;have e7:=foc_ r8 7;have R8:=hidI r8;have HO8:=hidI (ho8.lower (n':=w.heap.size) (by have:=K7.out.size;omega));have K58:Hid (Below w5.heap.size w5 w8):=K57.out.trans (k8.mono K57.out.size);clear x0 x1 x2 y0 y1 y2 y3 y4 y5 y6 y7 hr8 k8 ho8 r8 hcap;go_wp2_with fail
      generalize hWz:World.setCell (World.setCell (World.setCell (World.setCell (World.setCell (World.setCell (World.setCell (World.setCell w8 _ _) _ _) _ _) _ _) _ _) _ _) _ _) _ _ = Wz;obtain ⟨bz,tz⟩:=store8 R8.out hWz;have oz:=HO8.out.turn R8.out (by decide) tz;have hF:ac_ w3.heap.size BJ w3 Wz:=(F5.out.trans (ac_.of_below K58.out (by have:=F5.out.size;omega))).turnB tz (by have:=F5.out.size;have:=K58.out.size;omega);have hr0:=cp2_ HO5.out K58.out;have hrz:=bq_ hr0 (fun j hj=>tz.block j (hr0.lt j hj).2 (fun e=>bl_ hr0 R8.out (by decide) (by rw [hj,e])));have hdrop:(af_ s qn).drop (k+1) = r:=by rw [← List.tail_drop,← HLD.out];rfl
      have hget:(af_ s qn)[k]? = some y:=by
       have h1:((af_ s qn).drop k)[0]? = some y:=by rw [← HLD.out];rfl
       rw [List.getElem?_drop] at h1;simpa using h1
      have hkl:k+1≤(af_ s qn).length:=(List.getElem?_eq_some_iff.1 hget).1;have htake:((drB s (qn:Int)).take (k+1)).map Value.string = ((drB s (qn:Int)).take k).map Value.string ++ [.string bd]:=by
       have e:(drB s (qn:Int))[k]? = some bd:=by unfold drB;rw [List.getElem?_map,Int.toNat_natCast,hget,HBD.out];rfl
       rw [List.take_add_one,e,List.map_append];rfl
      have hql:=HI.out.ql;have hnew:DrJ p s (qn:Int) w.heap.size BJ w3 Wz (k+1) (dM_ cur (qn:Int)) b5 c5:=by
       refine ⟨by rw [Int.toNat_natCast];exact hkl,⟨_,_,_,_,_,_,_,_,_,bz,oz⟩,by rw [htake];exact hrz,hF,?_,eT_ HDZ.out,?_,?_,?_⟩
       ·rw [ex_ hql,if_pos rfl,Int.toNat_natCast,hdrop,← HL0.out];rfl
       ·show _ < (cur.ready.set _ _).length;rw [List.length_set];exact hql
       ·rw [← HET.out,HTE.out,Int.toNat_natCast,hdrop];conv=>lhs;unfold b7_
        rw [if_neg (by simp [HDZ.out])]
       ·have h1:=HI.out.ts;rw [h1,Int.toNat_natCast,hdrop,← HLD.out];rfl
      have HNEW:=hidI hnew;have HKL:=hidI hkl;clear hF hr0 hrz hdrop hget hkl htake hql hnew bz oz tz hWz;go_roundw
      case rel=>exact ⟨k+1,_,_,_,rfl,HNEW.out⟩
      case measure=>have:=HKL.out;show (af_ s qn).length - (k+1) < (af_ s qn).length - k;omega
end Go.Proofs.YtlbnkpicnokgoaaGreat
