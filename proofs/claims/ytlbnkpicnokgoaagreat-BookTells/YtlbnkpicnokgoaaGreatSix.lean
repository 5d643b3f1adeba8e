import Derived.Test.YtlbnkpicnokgoaaGreatSfx
import Derived.Test.YtlbnkpicnokgoaaGreatShx
import Derived.Test.YtlbnkpicnokgoaaGreatSgx
import Derived.Deep.DeepCutAuto
namespace Go.Proofs.YtlbnkpicnokgoaaGreat
open Go.RowKit Go.Maps
set_option linter.unusedVariables false
set_option maxRecDepth 100000
set_option maxHeartbeats 4000000
def ArrD.cells (a:ArrD):List Value:=[.int .i64 a.queue,.string a.key,.string a.body,.int .i64 a.deaths]
def aV_ (xs:List ArrD):List Value:=xs.flatMap ArrD.cells
def b5_ (W:World) (a:Option Addr) (xs:List ArrD):Prop:=a7_ W a (aV_ xs)
theorem bz_ (xs:List ArrD):(aV_ xs).length = xs.length * 4:=bO_ (f:=ArrD.cells) (fun _=>rfl) xs
theorem cD_ (xs ys:List ArrD):aV_ (xs ++ ys) = aV_ xs ++ aV_ ys:=by unfold aV_;rw [List.flatMap_append]
theorem dt_ (xs:List ArrD):∀ u ∈ aV_ xs,u.oneCell' = true:=by
 intro u hu;obtain ⟨x,_,hx⟩:=List.mem_flatMap.1 hu;simp [ArrD.cells] at hx;rcases hx with rfl | rfl | rfl | rfl <;> rfl
theorem b5_.get {W:World} {a:Option Addr} {xs:List ArrD} (h:b5_ W a xs) {k:Nat} (hk:k < xs.length):∃ g o,a = some ⟨g,o,none⟩∧g < W.heap.size∧W.cell? ⟨g,o+k * 4,none⟩ = some (.int .i64 xs[k].queue)∧W.cell? ⟨g,o+k * 4+1,none⟩ = some (.string xs[k].key)∧W.cell? ⟨g,o+k * 4+2,none⟩ = some (.string xs[k].body)∧W.cell? ⟨g,o+k * 4+3,none⟩ = some (.int .i64 xs[k].deaths):=by
 rcases a7_.get (k:=4) (f:=ArrD.cells) (fun _=>rfl) h (by omega) with h | ⟨g,o,ha,hg,h⟩
 ·subst h;simp at hk
 ·exact ⟨g,o,ha,hg,h k hk 0 (by omega),h k hk 1 (by omega),h k hk 2 (by omega),h k hk 3 (by omega)⟩
theorem b5_.keep {W W':World} {a:Option Addr} {xs:List ArrD} (h:b5_ W a xs) (hB:Below W.heap.size W W'):b5_ W' a xs:=a7_.keep h hB
theorem lN_ {w:World} {cs:List Value} {T:TypeId}:a7_ (w.alloc (.cells cs.toArray T)) (some ⟨w.heap.size,0,none⟩) cs:=.inr ⟨_,0,rfl,by simp,fun j u hj=>by
 rw [coc_ (World.alloc_heap_new w _),Nat.zero_add];simpa using hj⟩
theorem Tryz.infoArr:(Tryz.prog.info? 150).map (fun i=>(i.zero,i.size,i.bytes)) = some (some (.agg #[.int .i64 0,.string ⟨#[]⟩,.string ⟨#[]⟩,.int .i64 0]),4,48):=by kernel_rfl
theorem it_:eA_ 132 150 4 48:=c6_ Tryz.underlying132 Tryz.infoArr rfl (by omega)
theorem du_ (zs:List Int) (a:Option Addr) (n c:Nat) (key body:ByteArray) (d:Int) (w:World) (hn:zs.length = n) (hm:n≤1000) (hz:cC_ w a zs) :
 Calls Tryz.prog 100 #[.slice a n c,.string key,.string body,.int .i64 d] w fun e w'=>∃ v,e = .returned v∧w'.ownsRow w.heap.size 150 4 v n (aV_ (ch_ zs key body d))∧Below w.heap.size w w':=by
 have HN:=hidI hn;have HZ:=hidI hz;clear hn hz;go_enter Tryz.func100,Tryz.ntmps100;go_wp2_with fail
 go_loopw [9,14] (fun l i wr=>∃ (k:Nat),k≤n∧i = .int .i64 k∧wr.ownsRow w.heap.size 150 4 l k (aV_ (ch_ (zs.take k) key body d))∧Below w.heap.size w wr) (fun _ i _=>n - (intOf i).toNat)
 case atStart=>exact ⟨0,Nat.zero_le _,rfl,World.ownsRow_nil _ _ _ _,Below.refl _ _⟩
 case round=>
  obtain ⟨k,hk,rfl,hown,hB⟩:=hrel;have HO:=hidI hown;have HB:=hidI hB;have hBs:=hB.size;clear hown;by_cases hlt:k < n
  ·have HLT:=hidI hlt;have hkl:k < zs.length:=by rw [HN.out];exact hlt
   obtain ⟨g,ha,hg,hc⟩:∃ g,a = some ⟨g,0,none⟩∧g < wr.heap.size∧wr.cell? ⟨g,k,none⟩ = some (.int .i64 (zs[k]'hkl)):=by
    rcases HZ.out.keep hB with e | ⟨g,ha,hg,h⟩
    ·exfalso;rw [e] at hkl;simp at hkl
    ·exact ⟨g,ha,hg,h k hkl⟩
   have HNX:Hid (ch_ (zs.take (k+1)) key body d = ch_ (zs.take k) key body d ++ [⟨zs[k]'hkl,key,body,d⟩]):=by show ch_ _ _ _ _ = _;unfold ch_;rw [List.take_succ_eq_append_getElem hkl,List.map_append];rfl
   obtain ⟨z,hzz⟩:∃ z,z = zs[k]'hkl:=⟨_,rfl⟩
   rw [← hzz] at hc HNX;subst ha;obtain ⟨W4,hW4⟩:∃ W4,W4 = wr.alloc (.cells #[.int .i64 z,.string key,.string body,.int .i64 d] 150):=⟨_,rfl⟩
   have k4:Below wr.heap.size wr W4:=by rw [hW4];exact (Below.refl _ _).alloc (Nat.le_refl _) _
   have HO4:=hidI (cp2_ HO.out k4);have HRW:Hid (a7_ W4 (some ⟨wr.heap.size,0,none⟩) (aV_ [⟨z,key,body,d⟩])):=by show a7_ W4 _ _;rw [hW4];exact lN_ (cs:=[.int .i64 z,.string key,.string body,.int .i64 d])
   have K4:=hidI (hB.trans (k4.mono hBs));have HW4:=hidI hW4;have hs4:=K4.out.size;have j1:(0:Int)≤(k:Int):=by omega
   have j2:(k:Int) < n:=by omega
   clear hW4 k4 hzz;go_wp2_with (at_builtin;rw [← HW4.out];refine a0_ it_ (by kernel_rfl) _ _ rfl w.heap.size _ k (aV_ (ch_ (zs.take k) key body d)) rfl HO4.out (some ⟨wr.heap.size,0,none⟩) 1 1 (aV_ [⟨z,key,body,d⟩]) rfl rfl (fun h=>by cases h) HRW.out (dt_ _) (by unfold maxLen;omega) (by omega) hs4 ?_;intro v6 w6 hown6 hgrow6 hblk6)
   go_roundw
   case rel=>exact ⟨k+1,HLT.out,by have:=HLT.out;go_num,by rw [HNX.out,cD_];exact hown6,K4.out.grown hgrow6 hs4 (fun j hj=>(HO4.out.lt j hj).1)⟩
   case measure=>have:=HLT.out;simp [intOf];omega
  ·have hke:k = n:=by omega
   obtain rfl:=hke.symm;clear hlt hk;go_wp2_with fail
   go_ret
   refine ⟨_,rfl,?_,hB⟩;have:=HO.out;rw [List.take_of_length_le (by rw [HN.out];exact Nat.le_refl _)] at this;exact this
theorem StBox.field7 {W:World} {n t:Nat} {s:ab_} (h:StBox W n t s) (d:Int):StBox (W.setCell ⟨t,7,none⟩ (.int .i64 d)) n t { s with dropped:=d }:=by
 obtain ⟨b1,b2,b3,m1,d1,m2,d2,m3,d3,hb,ho⟩:=h;exact ⟨b1,b2,b3,m1,d1,m2,d2,m3,d3,scb_ hb (j:=7) _,(ho.turn hb (by decide) (sct_ W t 7 _)).same rfl rfl rfl⟩
theorem StBox.field6 {W:World} {n t:Nat} {s:ab_} (h:StBox W n t s) (d:Int):StBox (W.setCell ⟨t,6,none⟩ (.int .i64 d)) n t { s with acked:=d }:=by
 obtain ⟨b1,b2,b3,m1,d1,m2,d2,m3,d3,hb,ho⟩:=h;exact ⟨b1,b2,b3,m1,d1,m2,d2,m3,d3,scb_ hb (j:=6) _,(ho.turn hb (by decide) (sct_ W t 6 _)).same rfl rfl rfl⟩
theorem StBox.field5 {W:World} {n t:Nat} {s:ab_} (h:StBox W n t s) (d:Int):StBox (W.setCell ⟨t,5,none⟩ (.int .i64 d)) n t { s with came:=d }:=by
 obtain ⟨b1,b2,b3,m1,d1,m2,d2,m3,d3,hb,ho⟩:=h;exact ⟨b1,b2,b3,m1,d1,m2,d2,m3,d3,scb_ hb (j:=5) _,(ho.turn hb (by decide) (sct_ W t 5 _)).same rfl rfl rfl⟩
theorem StBox.field3 {W:World} {n t:Nat} {s:ab_} (h:StBox W n t s) (d:Int):StBox (W.setCell ⟨t,3,none⟩ (.int .i64 d)) n t { s with nextSeq:=d }:=by
 obtain ⟨b1,b2,b3,m1,d1,m2,d2,m3,d3,hb,ho⟩:=h;exact ⟨b1,b2,b3,m1,d1,m2,d2,m3,d3,scb_ hb (j:=3) _,(ho.turn hb (by decide) (sct_ W t 3 _)).same rfl rfl rfl⟩
theorem ac_.turnB {n t:Nat} {A B C:World} (h:ac_ n t A B) (k:bh_ t B C) (hn:n≤B.heap.size):ac_ n t A C:=h.trans ⟨k.os,k.tape,k.output,k.size,fun i h1 h2=>k.block i (by omega) h2⟩
def m0_ (W:World) (n:Nat) (v:Value) (l:List ArrD):Prop:=∃ m,W.ownsRow n 150 4 v m (aV_ l)
theorem kL_ {p:ad_} {q:Nat} {x:ae_} (hc:chkP p = 0) (hq:q < p.queues.length) (hx:am_ x = true) (hd:(qAt p q).dead≠-1):0≤(qAt p q).dead∧(qAt p q).dead < p.posts.length∧rtE p (qAt p q).dead x.key = 0:=by
 have hr:=br_ hc;have h1:=hr.queues _ (List.getElem_mem hq);rw [← fL_ hq] at h1;refine ⟨by omega,h1.2.2.2,?_⟩;unfold rtE;rw [if_pos hc,if_pos (az_.2 ⟨by omega,h1.2.2.2⟩)];exact (cj_ hx).2.2.1
theorem ja_ (p:ad_) (a1 a2 a3:Option Addr) (n1 c1 n2 c2 n3 c3:Nat) (s:ab_) (q:Nat) (x:ae_) (n t:Nat) (w0 w:World) (hp:ap_ w0 a1 a2 a3 n1 n2 n3 p) (h0:Below w0.heap.size w0 w) (ht:w0.heap.size≤t) (hc:chkP p = 0) (hq:q < n2) (hx:am_ x = true) (hd:0≤s.dropped∧s.dropped≤100000000) (hbx:StBox w n t s) :
 Calls Tryz.prog 110 #[.agg #[.slice a1 n1 c1,.slice a2 n2 c2,.slice a3 n3 c3],.pointer (some ⟨t,0,none⟩),.int .i64 q,x.val] w fun e w'=>∃ v,e = .returned v∧m0_ w' w.heap.size v (dieL p q x)∧StBox w' n t { s with dropped:=s.dropped+1 }∧ac_ w.heap.size t w w':=by
 obtain ⟨W2,hW2⟩:∃ W2,W2 = (w.alloc (.cells #[.slice a1 n1 c1,.slice a2 n2 c2,.slice a3 n3 c3] 26)).alloc (.cells #[.int .i64 x.seq,.string x.key,.string x.body,.bool x.again,.int .i64 x.deaths] 48):=⟨_,rfl⟩
 obtain ⟨hz2,hb1,hb2,hB2⟩:=dJ_ w _ _ _ hW2;have hlt:t < w.heap.size:=by obtain ⟨_,_,_,_,_,_,_,_,_,h,_⟩:=hbx;exact lth_ h
 have hs0:=h0.size;have hbx2:=hbx.keep hB2;obtain ⟨W3,hW3⟩:∃ W3,W3 = W2.setCell ⟨t,7,none⟩ (.int .i64 (s.dropped+1)):=⟨_,rfl⟩
 have t3:bh_ t W2 W3:=by rw [hW3];exact sct_ _ _ _ _
 have hbx3:StBox W3 n t { s with dropped:=s.dropped+1 }:=by rw [hW3];exact hbx2.field7 _
 have k3:Below w0.heap.size w0 W3:=(h0.trans (hB2.mono hs0)).trans (t3.below (by omega) ht);have hp3:=hp.keep k3;have x1:=(t3.block _ (lth_ hb1) (by omega)).trans hb1;have x2:=(t3.block _ (lth_ hb2) (by omega)).trans hb2;have HF3:Hid (ac_ w.heap.size t w W3):=(ac_.of_below hB2 (Nat.le_refl _)).turnB t3 (by omega);have HZ3:Hid (w.heap.size+2≤W3.heap.size):=by have:=t3.size;show w.heap.size+2≤W3.heap.size;omega
 have HBX3:=hidI hbx3;have HP3:=hidI hp3;have HW2:=hidI hW2;have HW3:=hidI hW3;have HC:=hidI hc;have HXX:=hidI hx;have hnq:p.queues.length = n2:=hp.l2;obtain ⟨g,o,hga,hgl,e0,e1,e2⟩:=hp3.p2.get (k:=q) (by rw [hnq];exact hq);have hqd:(p.queues[q]'(by rw [hnq];exact hq)) = qAt p q:=(fL_ (by rw [hnq];exact hq)).symm;rw [hqd] at e0 e1 e2;have HNL:Hid (q < p.queues.length):=by show q < p.queues.length;rw [hnq];exact hq
 obtain ⟨dd,hdd⟩:∃ dd,dd = (qAt p q).dead:=⟨_,rfl⟩
 rw [← hdd] at e2;have HDD:=hidI hdd;obtain ⟨b1,b2,b3,m1,d1,m2,d2,m3,d3,hb,ho⟩:=hbx2;obtain ⟨y0,y1,y2,y3,y4,y5,y6,y7⟩:=aa_ hb;have f7:=foc_ hb 7;have jw:IntKind.i64.wrap (s.dropped+1) = s.dropped+1:=by rw [IntKind.wrap_i64];omega
 have X1:=hidI x1;have X2:=hidI x2;subst hga;clear hW2 hz2 hb1 hb2 hB2 hc hx hp hdd hb ho hbx hnq hqd hW3 t3 hbx3 k3 hp3 h0;unfold ae_.val;go_enter Tryz.func110,Tryz.ntmps110;go_upto_region 1 with fail
 rw [← HW2.out];go_upto_region 2 with fail
 rw [← HW3.out];clear y0 y1 y2 y3 y4 y5 y6 y7 f7 jw;obtain ⟨z0,z1,z2⟩:=ai_ x1;have i0:=coc_ x2 0;have i1:=coc_ x2 1;have i2:=coc_ x2 2;have i3:=coc_ x2 3;have i4:=coc_ x2 4;simp at i0 i1 i2 i3 i4;clear x1 x2;have j1:(0:Int)≤(q:Int):=by omega
 have j2:(q:Int) < n2:=by omega
 by_cases hc1:dd = -1∨2≤x.deaths
 ·have HDL:Hid (dieL p q x = []):=by show dieL p q x = [];unfold dieL;rw [if_pos (by rw [← HDD.out];exact hc1)]
  by_cases hc2:dd = -1
  ·subst hc2;go_wp2_with fail
   go_ret
   exact ⟨_,rfl,⟨0,by rw [HDL.out];exact World.ownsRow_nil _ _ _ _⟩,HBX3.out,HF3.out⟩
  ·have hc3:2≤x.deaths:=by rcases hc1 with h | h;(exact absurd h hc2);exact h
   have q1:(dd == -1) = false:=by rw [beq_eq_false_iff_ne];exact hc2
   clear hc1 hc2;go_wp2_with fail
   go_ret
   exact ⟨_,rfl,⟨0,by rw [HDL.out];exact World.ownsRow_nil _ _ _ _⟩,HBX3.out,HF3.out⟩
 ·have hc2:¬ dd = -1:=fun h=>hc1 (.inl h)
  have hc3:¬ 2≤x.deaths:=fun h=>hc1 (.inr h)
  have q1:(dd == -1) = false:=by rw [beq_eq_false_iff_ne];exact hc2
  obtain ⟨r1,r2,r3⟩:=kL_ HC.out HNL.out HXX.out (by rw [← HDD.out];exact hc2);rw [← HDD.out] at r1 r2 r3;have HR3:=hidI r3;have HDL:Hid (dieL p q x = ch_ (qsC p x.key dd.toNat) x.key x.body (x.deaths+1)):=by show dieL p q x = _;unfold dieL;rw [if_neg (by rw [← HDD.out];exact hc1),HDD.out]
  have HRR:Hid (0≤dd∧dd < p.posts.length):=⟨r1,r2⟩;have hdn:=(cj_ HXX.out).2.2.2.2;have jd:IntKind.i64.wrap (x.deaths+1) = x.deaths+1:=by rw [IntKind.wrap_i64];omega
  clear hc1 hc2 r1 r2 r3;go_wp2_with fail
  refine (gC_ p _ _ _ _ _ _ _ _ _ dd x.key W3 HP3.out).mono ?_;rintro e w4 ⟨zs,az,cz,rfl,hz1,-,hzl,hzi,k4⟩;rw [HR3.out];have hzq:zs = qsC p x.key dd.toNat:=(hz1 HR3.out).uniq (m8_ (br_ HC.out) (by have:=HRR.out;omega));obtain ⟨nz,hnz⟩:∃ nz,nz = zs.length:=⟨_,rfl⟩
  have HNZ:=hidI hnz;rw [← hnz] at hzl ⊢;have HZQ:=hidI hzq;have HZI:=hidI hzi;have K4:=hidI k4;have s4:=k4.size;have k4':=k4.alloc s4 (.cells #[.int .i64 0] 33);clear hz1 hzq hzi hnz z0 z1 z2 i0 i1 i2 i3 i4 e0 e1 e2;go_wp2_with (go_at_call 47;refine (cL_ _ _ (aB_ _ _ _) (by simp)).mono ?_;rintro e w5 ⟨rfl,hB5⟩;have k5:=k4'.trans (hB5.mono k4'.size);have K5:=hidI k5;have x2:=pkp_ X2.out k5;have i1:=coc_ x2 1;have i2:=coc_ x2 2;have i4:=coc_ x2 4;simp at i1 i2 i4;have HZ5:=hidI ((HZI.out.keep ((Below.refl _ _).alloc (Nat.le_refl _) (.cells #[.int .i64 0] 33))).keep hB5);clear hB5 x2 k5)
  refine (du_ zs az nz cz x.key x.body (x.deaths+1) w5 HNZ.out.symm (by omega) HZ5.out).mono ?_;rintro e w6 ⟨v6,rfl,hown6,k6⟩;have K6:=hidI (K5.out.trans (k6.mono K5.out.size));have HO6:=hidI hown6;have hw5:=K5.out.size;clear hown6 k6;go_wp2_with fail
  go_ret
  exact ⟨v6,rfl,⟨nz,by rw [HDL.out,← HZQ.out];exact a2_ HO6.out (by have:=HZ3.out;omega)⟩,HBX3.out.keep K6.out,HF3.out.trans (ac_.of_below K6.out (by have:=HZ3.out;omega))⟩
end Go.Proofs.YtlbnkpicnokgoaaGreat
