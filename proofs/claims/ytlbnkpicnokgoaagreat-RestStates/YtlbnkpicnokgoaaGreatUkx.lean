import Derived.Deep.DeepCutAuto
import Derived.Test.YtlbnkpicnokgoaaGreatUjx
namespace Go.Proofs.YtlbnkpicnokgoaaGreat
open Go.RowKit Go.Maps
set_option linter.unusedVariables false
set_option maxRecDepth 100000
set_option maxHeartbeats 4000000
theorem StBox.field7 {W:World} {n t:Nat} {s:ab_} (h:StBox W n t s) (d:Int):StBox (W.setCell ⟨t,7,none⟩ (.int .i64 d)) n t { s with dropped:=d }:=by
 obtain ⟨b1,b2,b3,m1,d1,m2,d2,m3,d3,hb,ho⟩:=h;exact ⟨b1,b2,b3,m1,d1,m2,d2,m3,d3,scb_ hb (j:=7) _,(ho.turn hb (by decide) (sct_ W t 7 _)).same rfl rfl rfl⟩
theorem StBox.field6 {W:World} {n t:Nat} {s:ab_} (h:StBox W n t s) (d:Int):StBox (W.setCell ⟨t,6,none⟩ (.int .i64 d)) n t { s with acked:=d }:=by
 obtain ⟨b1,b2,b3,m1,d1,m2,d2,m3,d3,hb,ho⟩:=h;exact ⟨b1,b2,b3,m1,d1,m2,d2,m3,d3,scb_ hb (j:=6) _,(ho.turn hb (by decide) (sct_ W t 6 _)).same rfl rfl rfl⟩
theorem StBox.field5 {W:World} {n t:Nat} {s:ab_} (h:StBox W n t s) (d:Int):StBox (W.setCell ⟨t,5,none⟩ (.int .i64 d)) n t { s with came:=d }:=by
 obtain ⟨b1,b2,b3,m1,d1,m2,d2,m3,d3,hb,ho⟩:=h;exact ⟨b1,b2,b3,m1,d1,m2,d2,m3,d3,scb_ hb (j:=5) _,(ho.turn hb (by decide) (sct_ W t 5 _)).same rfl rfl rfl⟩
theorem StBox.field3 {W:World} {n t:Nat} {s:ab_} (h:StBox W n t s) (d:Int):StBox (W.setCell ⟨t,3,none⟩ (.int .i64 d)) n t { s with nextSeq:=d }:=by
 obtain ⟨b1,b2,b3,m1,d1,m2,d2,m3,d3,hb,ho⟩:=h;exact ⟨b1,b2,b3,m1,d1,m2,d2,m3,d3,scb_ hb (j:=3) _,(ho.turn hb (by decide) (sct_ W t 3 _)).same rfl rfl rfl⟩
theorem ac_.turnB {n t:Nat} {A B C:World} (h:ac_ n t A B) (k:aZ_ t B C) (hn:n≤B.heap.size):ac_ n t A C:=h.trans ⟨k.os,k.tape,k.output,k.size,fun i h1 h2=>k.block i (by omega) h2⟩
def jw_ (W:World) (n:Nat) (v:Value) (l:List ArrD):Prop:=∃ m,W.ownsRow n 150 4 v m (aw_ l)
theorem h2_ {p:ad_} {q:Nat} {x:ae_} (hc:chkP p = 0) (hq:q < p.queues.length) (hx:am_ x = true) (hd:(qAt p q).dead≠-1):0≤(qAt p q).dead∧(qAt p q).dead < p.posts.length∧rtE p (qAt p q).dead x.key = 0:=by
 have hr:=bc_ hc;have h1:=hr.queues _ (List.getElem_mem hq);rw [← eu_ hq] at h1;refine ⟨by omega,h1.2.2.2,?_⟩;unfold rtE;rw [if_pos hc,if_pos (aB_.2 ⟨by omega,h1.2.2.2⟩)];exact (by_ hx).2.2.1
theorem jH_ (p:ad_) (a1 a2 a3:Option Addr) (n1 c1 n2 c2 n3 c3:Nat) (s:ab_) (q:Nat) (x:ae_) (n t:Nat) (w0 w:World) (hp:ap_ w0 a1 a2 a3 n1 n2 n3 p) (h0:Below w0.heap.size w0 w) (ht:w0.heap.size≤t) (hc:chkP p = 0) (hq:q < n2) (hx:am_ x = true) (hd:0≤s.dropped∧s.dropped≤100000000) (hbx:StBox w n t s) :
 Calls Tryz.prog 110 #[.agg #[.slice a1 n1 c1,.slice a2 n2 c2,.slice a3 n3 c3],.pointer (some ⟨t,0,none⟩),.int .i64 q,x.val] w fun e w'=>∃ v,e = .returned v∧jw_ w' w.heap.size v (dieL p q x)∧StBox w' n t { s with dropped:=s.dropped+1 }∧ac_ w.heap.size t w w':=by
 obtain ⟨W2,hW2⟩:∃ W2,W2 = (w.alloc (.cells #[.slice a1 n1 c1,.slice a2 n2 c2,.slice a3 n3 c3] 26)).alloc (.cells #[.int .i64 x.seq,.string x.key,.string x.body,.bool x.again,.int .i64 x.deaths] 48):=⟨_,rfl⟩
 obtain ⟨hz2,hb1,hb2,hB2⟩:=cz_ w _ _ _ hW2;have hlt:t < w.heap.size:=by obtain ⟨_,_,_,_,_,_,_,_,_,h,_⟩:=hbx;exact lth_ h
 have hs0:=h0.size;have hbx2:=hbx.keep hB2;obtain ⟨W3,hW3⟩:∃ W3,W3 = W2.setCell ⟨t,7,none⟩ (.int .i64 (s.dropped+1)):=⟨_,rfl⟩
 have t3:aZ_ t W2 W3:=by rw [hW3];exact sct_ _ _ _ _
 have hbx3:StBox W3 n t { s with dropped:=s.dropped+1 }:=by rw [hW3];exact hbx2.field7 _
 have k3:Below w0.heap.size w0 W3:=(h0.trans (hB2.mono hs0)).trans (t3.below (by omega) ht);have hp3:=hp.keep k3;have x1:=(t3.block _ (lth_ hb1) (by omega)).trans hb1;have x2:=(t3.block _ (lth_ hb2) (by omega)).trans hb2;have HF3:Hid (ac_ w.heap.size t w W3):=(ac_.of_below hB2 (Nat.le_refl _)).turnB t3 (by omega);have HZ3:Hid (w.heap.size+2≤W3.heap.size):=by have:=t3.size;show w.heap.size+2≤W3.heap.size;omega
 have HBX3:=hidI hbx3;have HP3:=hidI hp3;have HW2:=hidI hW2;have HW3:=hidI hW3;have HC:=hidI hc;have HXX:=hidI hx;have hnq:p.queues.length = n2:=hp.l2;obtain ⟨g,o,hga,hgl,e0,e1,e2⟩:=hp3.p2.get (k:=q) (by rw [hnq];exact hq);have hqd:(p.queues[q]'(by rw [hnq];exact hq)) = qAt p q:=(eu_ (by rw [hnq];exact hq)).symm;rw [hqd] at e0 e1 e2;have HNL:Hid (q < p.queues.length):=by show q < p.queues.length;rw [hnq];exact hq
 obtain ⟨dd,hdd⟩:∃ dd,dd = (qAt p q).dead:=⟨_,rfl⟩
 rw [← hdd] at e2;have HDD:=hidI hdd;obtain ⟨b1,b2,b3,m1,d1,m2,d2,m3,d3,hb,ho⟩:=hbx2;obtain ⟨y0,y1,y2,y3,y4,y5,y6,y7⟩:=aa_ hb;have f7:=foc_ hb 7;have jw:IntKind.i64.wrap (s.dropped+1) = s.dropped+1:=by rw [IntKind.wrap_i64];omega
 have X1:=hidI x1;have X2:=hidI x2;subst hga;clear hW2 hz2 hb1 hb2 hB2 hc hx hp hdd hb ho hbx hnq hqd hW3 t3 hbx3 k3 hp3 h0;unfold ae_.val;go_enter Tryz.func110,Tryz.ntmps110;go_upto_region 1 with fail
 rw [← HW2.out];go_upto_region 2 with fail
 rw [← HW3.out];clear y0 y1 y2 y3 y4 y5 y6 y7 f7 jw;obtain ⟨z0,z1,z2⟩:=ag_ x1;have i0:=coc_ x2 0;have i1:=coc_ x2 1;have i2:=coc_ x2 2;have i3:=coc_ x2 3;have i4:=coc_ x2 4;simp at i0 i1 i2 i3 i4;clear x1 x2;have j1:(0:Int)≤(q:Int):=by omega
 have j2:(q:Int) < n2:=by omega
 by_cases hc1:dd = -1∨2≤x.deaths
 ·have HDL:Hid (dieL p q x = []):=by show dieL p q x = [];unfold dieL;rw [if_pos (by rw [← HDD.out];exact hc1)]
  by_cases hc2:dd = -1
  ·subst hc2;go_wp2_with fail
   go_ret
   exact ⟨_,rfl,⟨0,by rw [HDL.out];exact World.ownsRow_nil _ _ _ _⟩,HBX3.out,HF3.out⟩
  ·have hc3:2≤x.deaths:=by rcases hc1 with h | h;(exact absurd h hc2);exact h
   have q1:(dd == -1) = false:=by rw [beq_eq_false_iff_ne];exact hc2
   clear hc1 hc2;go_wp2_with fail
   go_ret
   exact ⟨_,rfl,⟨0,by rw [HDL.out];exact World.ownsRow_nil _ _ _ _⟩,HBX3.out,HF3.out⟩
 ·have hc2:¬ dd = -1:=fun h=>hc1 (.inl h)
  have hc3:¬ 2≤x.deaths:=fun h=>hc1 (.inr h)
  have q1:(dd == -1) = false:=by rw [beq_eq_false_iff_ne];exact hc2
  obtain ⟨r1,r2,r3⟩:=h2_ HC.out HNL.out HXX.out (by rw [← HDD.out];exact hc2);rw [← HDD.out] at r1 r2 r3;have HR3:=hidI r3;have HDL:Hid (dieL p q x = bb_ (qsC p x.key dd.toNat) x.key x.body (x.deaths+1)):=by show dieL p q x = _;unfold dieL;rw [if_neg (by rw [← HDD.out];exact hc1),HDD.out]
  have HRR:Hid (0≤dd∧dd < p.posts.length):=⟨r1,r2⟩;have hdn:=(by_ HXX.out).2.2.2.2;have jd:IntKind.i64.wrap (x.deaths+1) = x.deaths+1:=by rw [IntKind.wrap_i64];omega
  clear hc1 hc2 r1 r2 r3;go_wp2_with fail
  refine (gZ_ p _ _ _ _ _ _ _ _ _ dd x.key W3 HP3.out).mono ?_;rintro e w4 ⟨zs,az,cz,rfl,hz1,-,hzl,hzi,k4⟩;rw [HR3.out];have hzq:zs = qsC p x.key dd.toNat:=(hz1 HR3.out).uniq (j0_ (bc_ HC.out) (by have:=HRR.out;omega));obtain ⟨nz,hnz⟩:∃ nz,nz = zs.length:=⟨_,rfl⟩
  have HNZ:=hidI hnz;rw [← hnz] at hzl ⊢;have HZQ:=hidI hzq;have HZI:=hidI hzi;have K4:=hidI k4;have s4:=k4.size;have k4':=k4.alloc s4 (.cells #[.int .i64 0] 33);clear hz1 hzq hzi hnz z0 z1 z2 i0 i1 i2 i3 i4 e0 e1 e2;go_wp2_with (go_at_call 47;refine (dY_ _ _ (aP_ _ _ _) (by simp)).mono ?_;rintro e w5 ⟨rfl,hB5⟩;have k5:=k4'.trans (hB5.mono k4'.size);have K5:=hidI k5;have x2:=pkp_ X2.out k5;have i1:=coc_ x2 1;have i2:=coc_ x2 2;have i4:=coc_ x2 4;simp at i1 i2 i4;have HZ5:=hidI ((HZI.out.keep ((Below.refl _ _).alloc (Nat.le_refl _) (.cells #[.int .i64 0] 33))).keep hB5);clear hB5 x2 k5)
  refine (dM_ zs az nz cz x.key x.body (x.deaths+1) w5 HNZ.out.symm (by omega) HZ5.out).mono ?_;rintro e w6 ⟨v6,rfl,hown6,k6⟩;have K6:=hidI (K5.out.trans (k6.mono K5.out.size));have HO6:=hidI hown6;have hw5:=K5.out.size;clear hown6 k6;go_wp2_with fail
  go_ret
  exact ⟨v6,rfl,⟨nz,by rw [HDL.out,← HZQ.out];exact bm_ HO6.out (by have:=HZ3.out;omega)⟩,HBX3.out.keep K6.out,HF3.out.trans (ac_.of_below K6.out (by have:=HZ3.out;omega))⟩
end Go.Proofs.YtlbnkpicnokgoaaGreat
