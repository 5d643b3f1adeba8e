import Derived.Test.YtlbnkpicnokgoaaGreatBDd
import Derived.KernelRfl
import Derived.Deep.RegionHeld3
import Derived.Test.YtlbnkpicnokgoaaGreatSex
import Derived.Test.YtlbnkpicnokgoaaGreatSax
namespace Go.Proofs.YtlbnkpicnokgoaaGreat
open Go.RowKit Go.Maps
set_option linter.unusedVariables false
set_option maxRecDepth 100000
set_option maxHeartbeats 8000000
def eB_ (W:World) (n:Nat) (v:Value) (E:Int) (xs:List ByteArray):Prop:=(E = 0→W.ownsRow n 9 1 v xs.length (xs.map .string))∧(E≠0→v = .slice none 0 0)
theorem cE_ (p:ad_) (a1 a2 a3:Option Addr) (n1 c1 n2 c2 n3 c3:Nat) (s:ab_) (b1 b2 b3:Option Addr) (m1 d1 m2 d2 m3 d3:Nat) (q:Int) (w:World) (hp:ap_ w a1 a2 a3 n1 n2 n3 p) (hs:al_ w b1 b2 b3 m1 m2 m3 s) (hn2:b2 = none→d2 = 0) (hn3:b3 = none→d3 = 0) :
 Calls Tryz.prog 9 #[.agg #[.slice a1 n1 c1,.slice a2 n2 c2,.slice a3 n3 c3],.agg #[.slice b1 m1 d1,.slice b2 m2 d2,.slice b3 m3 d3,.int .i64 s.nextSeq,.int .i64 s.nextTag,.int .i64 s.came,.int .i64 s.acked,.int .i64 s.dropped],.int .i64 q] w fun e w'=>∃ v u,e = .returned (.tuple #[v,u,.int .i64 (drE p s q)])∧a4_ w' w.heap.size v (drE p s q) (drS s q)∧eB_ w' w.heap.size u (drE p s q) (drB s q)∧Below w.heap.size w w':=by
 obtain ⟨hz5,hg5,hB5⟩:=av_ [.cells #[.slice a1 n1 c1,.slice a2 n2 c2,.slice a3 n3 c3] 26,.cells #[.slice b1 m1 d1,.slice b2 m2 d2,.slice b3 m3 d3,.int .i64 s.nextSeq,.int .i64 s.nextTag,.int .i64 s.came,.int .i64 s.acked,.int .i64 s.dropped] 31,.cells #[.int .i64 q] 3,.cells #[.slice none 0 0,.slice none 0 0,.slice none 0 0,.int .i64 0,.int .i64 0,.int .i64 0,.int .i64 0,.int .i64 0] 31,.cells #[.slice none 0 0] 36] w;obtain ⟨W5,hW5⟩:∃ W5,W5 = List.foldl World.alloc w [.cells #[.slice a1 n1 c1,.slice a2 n2 c2,.slice a3 n3 c3] 26,.cells #[.slice b1 m1 d1,.slice b2 m2 d2,.slice b3 m3 d3,.int .i64 s.nextSeq,.int .i64 s.nextTag,.int .i64 s.came,.int .i64 s.acked,.int .i64 s.dropped] 31,.cells #[.int .i64 q] 3,.cells #[.slice none 0 0,.slice none 0 0,.slice none 0 0,.int .i64 0,.int .i64 0,.int .i64 0,.int .i64 0,.int .i64 0] 31,.cells #[.slice none 0 0] 36]:=⟨_,rfl⟩
 rw [← hW5] at hz5 hg5 hB5;have HW5:Hid (W5 = (((((w.alloc (.cells #[.slice a1 n1 c1,.slice a2 n2 c2,.slice a3 n3 c3] 26)).alloc (.cells #[.slice b1 m1 d1,.slice b2 m2 d2,.slice b3 m3 d3,.int .i64 s.nextSeq,.int .i64 s.nextTag,.int .i64 s.came,.int .i64 s.acked,.int .i64 s.dropped] 31)).alloc (.cells #[.int .i64 q] 3)).alloc (.cells #[.slice none 0 0,.slice none 0 0,.slice none 0 0,.int .i64 0,.int .i64 0,.int .i64 0,.int .i64 0,.int .i64 0] 31)).alloc (.cells #[.slice none 0 0] 36))):=hW5;have hz5':W5.heap.size = w.heap.size+5:=by rw [hz5];rfl
 have x0:=hg5 0 _ rfl;have x2:=hg5 2 _ rfl;have x3:=hg5 3 _ rfl;have x4:=hg5 4 _ rfl;obtain ⟨E,hE⟩:∃ E,E = drE p s q:=⟨_,rfl⟩
 rw [← hE];have T:=la_ p a1 a2 a3 n1 c1 n2 c2 n3 c3 s b1 b2 b3 m1 d1 m2 d2 m3 d3 29 (fun _ _=>rfl) #[.pointer (some ⟨w.heap.size+2,0,none⟩),.pointer (some ⟨w.heap.size,0,none⟩),.pointer (some ⟨w.heap.size+4,0,none⟩)] E (drS s q) (w.heap.size+4) (drB s q) W5 (by omega) (hp.keep hB5) (hs.keep hB5) hn2 hn3
  (fun h=>by rw [hE];unfold drE;rw [if_pos h])
  (fun h=>by
   have e:E = drX p s q:=by rw [hE];unfold drE;rw [if_neg (by simp [h])]
   rw [e];exact ir_ p a1 a2 a3 n1 c1 n2 c2 n3 c3 s q _ _ _ w W5 hp hB5 (by omega) x2 x0 x4 (aE_ h))
 have HT:=hidI T;have X3:=hidI x3;have HZ5:=hidI hz5';have HB5:=hidI hB5;have hmf:∀ (fn:Fn) (first cap:Array Value) (w:World),(Instr.makeFunc fn first cap).run Tryz.prog w = .ok (.func fn first cap) w:=fun _ _ _ _=>rfl
 clear T hW5 hz5 hz5' hg5 hB5 x0 x2 x3 x4 hE hp hs hn2 hn3;go_enter Tryz.func9,Tryz.ntmps9;go_wp2_with fail
 rw [← HW5.out];refine HT.out.mono ?_;rintro e w6 ⟨v,rfl,hres,htx,hF6⟩;have hs6:=hF6.size;have x6:w6.heap[w.heap.size+3]? = _:=(hF6.block _ (by have:=HZ5.out;omega) (by omega)).trans X3.out;obtain ⟨x1,x2,x3,k1,e1,k2,e2,k3,e3,i1,i2,i3,i4,i5,rfl⟩:=hres.shape;have hB6:Below w.heap.size w w6:=HB5.out.trans (hF6.below (by have:=HZ5.out;omega) (by omega));have X6:=hidI x6;have HRES:=hidI (hres.lower (n':=w.heap.size) (by have:=HZ5.out;omega));have HB6:=hidI hB6;have HTX:=hidI htx;have HS5:Hid (w.heap.size+5≤w6.heap.size):=by have:=HZ5.out;show w.heap.size+5≤w6.heap.size;omega
 obtain ⟨y0,y1,y2,y3,y4,y5,y6,y7⟩:=aa_ x6;have f0:=foc_ x6 0;have f1:=foc_ x6 1;have f2:=foc_ x6 2;have f3:=foc_ x6 3;have f4:=foc_ x6 4;have f5:=foc_ x6 5;have f6:=foc_ x6 6;have f7:=foc_ x6 7;have hlt:=lth_ x6;have hlt4:w.heap.size+4 < w6.heap.size:=by have:=HS5.out;omega
 clear x6 hres hB6 htx hF6 hs6;by_cases hz:E = 0
 ·have HEZ:=hidI hz;obtain ⟨u,hbx,hrw⟩:=HTX.out hz;have HBX:=hidI hbx;have HRW:=hidI (a2_ hrw (base':=w.heap.size) (by have:=HZ5.out;omega));have c4:=coc_ hbx 0;simp at c4;subst hz;clear hbx hrw;go_wp2_with fail
  go_region
  generalize hW7:World.setCell (World.setCell (World.setCell (World.setCell (World.setCell (World.setCell (World.setCell (World.setCell w6 _ _) _ _) _ _) _ _) _ _) _ _) _ _) _ _ = W7;obtain ⟨b7,t7⟩:=store8 X6.out hW7;have l8:Below W7.heap.size W7 ((W7.alloc (.cells #[.slice x1 k1 e1,.slice x2 k2 e2,.slice x3 k3 e3,.int .i64 i1,.int .i64 i2,.int .i64 i3,.int .i64 i4,.int .i64 i5] 31)).drew):=((Below.refl _ _).alloc (Nat.le_refl _) _).drew;obtain ⟨z0,z1,z2,z3,z4,z5,z6,z7⟩:=aa_ (pkp_ b7 l8);have hB7:Below w.heap.size w W7:=HB6.out.trans (t7.below HB6.out.size (by omega));have hr7:=bq_ HRW.out (fun j hj=>t7.block j (HRW.out.lt j hj).2 (fun e=>bl_ HRW.out X6.out (by decide) (by rw [hj,e])));go_wp2_with fail
  exact bodyPost_ret (v:=.tuple #[.agg #[.slice x1 k1 e1,.slice x2 k2 e2,.slice x3 k3 e3,.int .i64 i1,.int .i64 i2,.int .i64 i3,.int .i64 i4,.int .i64 i5],u,.int .i64 0]) (by simp [results,Tryz.results9,go_sem,z0,z1,z2,z3,z4,z5,z6,z7]) rfl ⟨_,_,rfl,(HRES.out.turn X6.out t7).keep l8,⟨fun _=>cp2_ hr7 l8,fun h=>absurd rfl h⟩,hB7.trans (l8.mono hB7.size)⟩
 ·have HZN:=hidI hz;have hz':(E != 0) = true:=bne_iff_ne.2 hz;clear hz;go_wp2_with fail
  generalize hW7:World.setCell (World.setCell (World.setCell (World.setCell (World.setCell (World.setCell (World.setCell (World.setCell w6 _ _) _ _) _ _) _ _) _ _) _ _) _ _) _ _ = W7;obtain ⟨b7,t7⟩:=store8 X6.out hW7;have l8:Below W7.heap.size W7 (W7.alloc (.cells #[.slice x1 k1 e1,.slice x2 k2 e2,.slice x3 k3 e3,.int .i64 i1,.int .i64 i2,.int .i64 i3,.int .i64 i4,.int .i64 i5] 31)):=(Below.refl _ _).alloc (Nat.le_refl _) _;obtain ⟨z0,z1,z2,z3,z4,z5,z6,z7⟩:=aa_ (pkp_ b7 l8);have hB7:Below w.heap.size w W7:=HB6.out.trans (t7.below HB6.out.size (by omega));exact bodyPost_ret (v:=.tuple #[zerS,.slice none 0 0,.int .i64 E]) (by simp [results,Tryz.results9,go_sem,z0,z1,z2,z3,z4,z5,z6,z7,zerS]) rfl ⟨zerS,_,rfl,⟨fun h=>absurd h HZN.out,fun _=>rfl⟩,⟨fun h=>absurd h HZN.out,fun _=>rfl⟩,hB7.trans (l8.mono hB7.size)⟩
theorem Tryz.infoIntB:(Tryz.prog.info? 3).map (fun i=>(i.zero,i.size,i.bytes)) = some (some (.int .i64 0),1,8):=by kernel_rfl
theorem jc_:eA_ 32 3 1 8:=c6_ Tryz.underlying32 Tryz.infoIntB rfl (by omega)
def lenC (xss:List (List ae_)):List Value:=xss.map (fun l=>.int .i64 (l.length:Nat))
theorem hQ_ {xss:List (List ae_)} {k:Nat} (h:k < xss.length):lenC (xss.take (k+1)) = lenC (xss.take k) ++ [.int .i64 ((xss[k]'h).length:Nat)]:=by
 unfold lenC;rw [List.take_succ_eq_append_getElem h,List.map_append];rfl
def ma_ (W:World) (n:Nat) (v:Value) (E:Int) (xss:List (List ae_)):Prop:=(E = 0→W.ownsRow n 3 1 v xss.length (lenC xss))∧(E≠0→v = .slice none 0 0)
theorem ej_ (p:ad_) (a1 a2 a3:Option Addr) (n1 c1 n2 c2 n3 c3:Nat) (s:ab_) (b1 b2 b3:Option Addr) (m1 d1 m2 d2 m3 d3:Nat) (w:World) (hp:ap_ w a1 a2 a3 n1 n2 n3 p) (hs:al_ w b1 b2 b3 m1 m2 m3 s) :
 Calls Tryz.prog 8 #[.agg #[.slice a1 n1 c1,.slice a2 n2 c2,.slice a3 n3 c3],.agg #[.slice b1 m1 d1,.slice b2 m2 d2,.slice b3 m3 d3,.int .i64 s.nextSeq,.int .i64 s.nextTag,.int .i64 s.came,.int .i64 s.acked,.int .i64 s.dropped]] w fun e w'=>∃ v,e = .returned (.tuple #[v,.int .i64 (stE p s)])∧ma_ w' w.heap.size v (stE p s) s.ready∧Below w.heap.size w w':=by
 obtain ⟨hz5,hg5,hB5⟩:=av_ [.cells #[.slice a1 n1 c1,.slice a2 n2 c2,.slice a3 n3 c3] 26,.cells #[.slice b1 m1 d1,.slice b2 m2 d2,.slice b3 m3 d3,.int .i64 s.nextSeq,.int .i64 s.nextTag,.int .i64 s.came,.int .i64 s.acked,.int .i64 s.dropped] 31] w;obtain ⟨W5,hW5⟩:∃ W5,W5 = List.foldl World.alloc w [.cells #[.slice a1 n1 c1,.slice a2 n2 c2,.slice a3 n3 c3] 26,.cells #[.slice b1 m1 d1,.slice b2 m2 d2,.slice b3 m3 d3,.int .i64 s.nextSeq,.int .i64 s.nextTag,.int .i64 s.came,.int .i64 s.acked,.int .i64 s.dropped] 31]:=⟨_,rfl⟩
 rw [← hW5] at hz5 hg5 hB5;have HW5:Hid (W5 = ((w.alloc (.cells #[.slice a1 n1 c1,.slice a2 n2 c2,.slice a3 n3 c3] 26)).alloc (.cells #[.slice b1 m1 d1,.slice b2 m2 d2,.slice b3 m3 d3,.int .i64 s.nextSeq,.int .i64 s.nextTag,.int .i64 s.came,.int .i64 s.acked,.int .i64 s.dropped] 31))):=hW5;have x1:=hg5 1 _ rfl;obtain ⟨E,hE⟩:∃ E,E = stE p s:=⟨_,rfl⟩
 rw [← hE];have HE:=hidI hE;have X1:=hidI x1;have HB5:=hidI hB5;have HP:=hidI (hp.keep hB5);have HS:=hidI (hs.keep hB5);clear hW5 hz5 hg5 hB5 x1 hE hp hs;go_enter Tryz.func8,Tryz.ntmps8;go_wp2_with fail
 rw [← HW5.out];refine (cB_ p _ _ _ _ _ _ _ _ _ s _ _ _ _ _ _ _ _ _ _ HP.out HS.out).mono ?_;rintro e w1 ⟨rfl,k1⟩;rw [← HE.out];have K1:=hidI (HB5.out.trans (k1.mono HB5.out.size));have HS1:=hidI (HS.out.keep k1);obtain ⟨y0,y1,y2,y3,y4,y5,y6,y7⟩:=aa_ (pkp_ X1.out k1);have hsz:=K1.out.size;clear k1 y1 y2 y3 y4 y5 y6 y7;by_cases hz:E = 0
 rotate_left
 ·have HZN:=hidI hz;have hz':(E != 0) = true:=bne_iff_ne.2 hz;clear hz;go_wp2_with fail
  exact bodyPost_ret (v:=.tuple #[.slice none 0 0,.int .i64 E]) (by simp [results,Tryz.results8,go_sem]) rfl ⟨_,rfl,⟨fun h=>absurd h HZN.out,fun _=>rfl⟩,K1.out⟩
 have HR:=hidI (aE_ (HE.out.symm.trans hz));have hm1:m1≤100:=(HS1.out.small HR.out).1;have HL1:Hid (s.ready.length = m1):=HS1.out.l1;subst hz;go_wp2_with fail
 go_loopw [7,19] (fun l i wr=>∃ (k:Nat),k≤m1∧i = .int .i64 k∧wr.ownsRow w1.heap.size 3 1 l k (lenC (s.ready.take k))∧Below w1.heap.size w1 wr) (fun _ i _=>m1 - (intOf i).toNat)
 case atStart=>exact ⟨0,Nat.zero_le _,rfl,by simpa [lenC] using World.ownsRow_nil w1 w1.heap.size 3 1,Below.refl _ _⟩
 case round=>
  rename_i lv iv;obtain ⟨k,hk,rfl,hrow,hBr⟩:=hrel;obtain ⟨al,cl,rfl,hcc,-⟩:=aA_ hrow;have HO:=hidI hrow;have HB:=hidI hBr;have hsr:=hBr.size;clear hrow hBr hcc;by_cases hlt:k < m1
  ·have hkl:k < s.ready.length:=by rw [HL1.out];exact hlt
   obtain ⟨g,o,bl,ccl,ha,hg,hlc⟩:=((HS1.out.keep HB.out).q1).get hkl;subst ha;have hcell:=hlc.1;obtain ⟨L,hL⟩:∃ L:Nat,L = (s.ready[k]'hkl).length:=⟨_,rfl⟩
   rw [← hL] at hcell;have HNX:Hid (lenC (s.ready.take (k+1)) = lenC (s.ready.take k) ++ [.int .i64 (L:Nat)]):=by show _ = _;rw [hQ_ hkl,hL]
   have HLT:=hidI hlt;have j1:(0:Int)≤(k:Int):=by omega
   have j2:(k:Int) < m1:=by omega
   obtain ⟨w4,hw4⟩:∃ w4,w4 = wr.alloc (.cells #[.int .i64 (L:Nat)] 3):=⟨_,rfl⟩
   have l4:Below wr.heap.size wr w4:=by rw [hw4];exact (Below.refl _ _).alloc (Nat.le_refl _) _
   have HRW:Hid (a7_ w4 (some ⟨wr.heap.size,0,none⟩) [.int .i64 (L:Nat)]):=by show a7_ w4 _ _;rw [hw4];exact fP_ (w:=wr) (cs:=[.int .i64 (L:Nat)])
   have HW4:=hidI hw4;have HO4:=hidI (cp2_ HO.out l4);have HB4:=hidI (HB.out.trans (l4.mono HB.out.size));have hs4:=HB4.out.size;clear hw4 l4 hL hlc;go_wp2_with (at_builtin;rw [← HW4.out];refine a0_ jc_ (by kernel_rfl) _ _ rfl w1.heap.size _ k (lenC (s.ready.take k)) rfl HO4.out (some ⟨wr.heap.size,0,none⟩) 1 1 [.int .i64 (L:Nat)] rfl rfl (fun h=>by cases h) HRW.out (fun u hu=>by cases List.mem_singleton.1 hu;rfl) (by unfold maxLen;omega) (by omega) (by omega) ?_;intro v5 w5 ho5 hg5 hblk;have HO5:=hidI ho5;have K5:=hidI (HB4.out.grown hg5 HB4.out.size (fun j hj=>(HO4.out.lt j hj).1));clear ho5 hg5 hblk)
   go_roundw
   case rel=>exact ⟨k+1,HLT.out,by have:=HLT.out;go_num,by rw [HNX.out];exact HO5.out,K5.out⟩
   case measure=>have:=HLT.out;simp [intOf];omega
  ·have hke:k = m1:=by omega
   subst hke;go_wp2_with fail
   exact bodyPost_ret (v:=.tuple #[.slice al k cl,.int .i64 0]) (by simp [results,Tryz.results8,go_sem]) rfl ⟨_,rfl,⟨fun _=>by have h:=HO.out;rw [List.take_of_length_le (by rw [HL1.out];omega)] at h;rw [HL1.out];exact a2_ h hsz,fun h=>absurd rfl h⟩,K1.out.trans (HB.out.mono K1.out.size)⟩
def bS:ab_:=nI_ (bOut 1) ⟨-1,1⟩ ⟨0,2⟩ 1
end Go.Proofs.YtlbnkpicnokgoaaGreat
