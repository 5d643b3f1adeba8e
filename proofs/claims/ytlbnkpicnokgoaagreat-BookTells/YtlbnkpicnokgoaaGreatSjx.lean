import Derived.Test.YtlbnkpicnokgoaaGreatBJa
import Derived.Test.YtlbnkpicnokgoaaGreatBAc
import Derived.Test.YtlbnkpicnokgoaaGreatShx
import Derived.Test.YtlbnkpicnokgoaaGreatSfx
import Derived.Deep.RegionHeld3
namespace Go.Proofs.YtlbnkpicnokgoaaGreat
open Go.RowKit Go.Maps
set_option linter.unusedVariables false
set_option maxRecDepth 100000
set_option maxHeartbeats 4000000
theorem iU_ (tag:Int) (B:Nat) (x:OutD) (w:World) (hb:w.heap[B]? = some (.cells #[.int .i64 tag] 3 (0,0))):Calls Tryz.prog 146 (#[x.val] ++ #[.pointer (some ⟨B,0,none⟩)]) w fun e w'=>e = .returned (.bool (decide (x.tag = tag)))∧Below w.heap.size w w':=by
 have h:(#[x.val] ++ #[.pointer (some ⟨B,0,none⟩)]:Array Value) = #[.agg #[.int .i64 x.tag,.int .i64 x.taker,.int .i64 x.queue,.int .i64 x.item.seq,.string x.item.key,.string x.item.body,.bool x.item.again,.int .i64 x.item.deaths],.pointer (some ⟨B,0,none⟩)]:=rfl;rw [h];clear h;obtain ⟨a,b,c,d⟩:=x;dsimp only;have hc:=coc_ hb 0;simp at hc;have hl:=lth_ hb;clear hb;go_enter Tryz.func146,Tryz.ntmps146;go_wp2_with fail
 go_ret
 exact ⟨at_ (by by_cases h:a = tag <;> simp [h]),(Below.refl _ _).alloc (Nat.le_refl _) _⟩
theorem cells8 {W:World} {B:Nat} {v0 v1 v2 v3 v4 v5 v6 v7:Value} {T:TypeId} (h:W.heap[B]? = some (.cells #[v0,v1,v2,v3,v4,v5,v6,v7] T (0,0))):W.cell? ⟨B,0,none⟩ = some v0∧W.cell? ⟨B,1,none⟩ = some v1∧W.cell? ⟨B,2,none⟩ = some v2∧W.cell? ⟨B,3,none⟩ = some v3∧W.cell? ⟨B,4,none⟩ = some v4∧W.cell? ⟨B,5,none⟩ = some v5∧W.cell? ⟨B,6,none⟩ = some v6∧W.cell? ⟨B,7,none⟩ = some v7:=
 ⟨coc_ h 0,coc_ h 1,coc_ h 2,coc_ h 3,coc_ h 4,coc_ h 5,coc_ h 6,coc_ h 7⟩
theorem bh_.frame {n t g:Nat} {A B C:World} (h:ac_ n t A B) (k:bh_ g B C) (hg:n≤g) (hn:n≤B.heap.size):ac_ n t A C:=
 h.trans ⟨k.os,k.tape,k.output,k.size,fun i h1 h2=>k.block i (by omega) (by omega)⟩
theorem aM_.turnO {W W':World} {n B g:Nat} {b1 b3:Option Addr} {m1 d1 m2 d2 m3 d3:Nat} {s:ab_} {cur:Array Value} (h:aM_ W n b1 (some ⟨g,0,none⟩) b3 m1 d1 m2 d2 m3 d3 s) (hB:W.heap[B]? = some (.cells cur 67 (0,0))) (hne:g≠B) (k:bh_ B W W'):aM_ W' n b1 (some ⟨g,0,none⟩) b3 m1 d1 m2 d2 m3 d3 s:=by
 obtain ⟨vs,h1,h2⟩:=h.r1;have KR:∀ {T':TypeId} {size m:Nat} {v:Value} {cs:List Value},W.ownsRow n T' size v m cs→T'≠67→W'.ownsRow n T' size v m cs:=fun h hne=>bq_ h (fun j hj=>k.block j (h.lt j hj).2 (fun e=>bl_ h hB hne (by rw [hj,e])))
 refine ⟨h.l1,h.l2,h.l3,h.x2,⟨vs,KR h1 (by decide),h2.keepT ⟨k.size,fun i cur' _ hi=>k.block i (lth_ hi) (fun e=>?_)⟩⟩,bq_ h.r2 (fun j hj=>k.block j (h.r2.lt j hj).2 (fun e=>?_)),KR h.r3 (by decide)⟩
 ·rw [e,hB] at hi;cases hi
 ·have:g = j:=by simpa [Value.ownBlock] using hj
  omega
theorem ls_ (s:ab_) (tag:Int):idxF (fun o:OutD=>decide (o.tag = tag)) s.outs = if outIdx s tag < s.outs.length then (outIdx s tag:Int) else -1:=rfl
theorem gI_ (s:ab_) (tag:Int) (n t:Nat) (W:World) (htn:t < n) (hnW:n≤W.heap.size) (hm:s.outs.length≤1000) (hbx:StBox W n t s) :
 Calls Tryz.prog 107 #[.pointer (some ⟨t,0,none⟩),.int .i64 tag] W fun e W'=>ac_ n t W W'∧((outIdx s tag = s.outs.length∧e = panE 5)∨(outIdx s tag≠s.outs.length∧e = .returned (ek_ s tag).val∧StBox W' n t (bb_ s tag))):=by
 obtain ⟨b1,b2,b3,m1,d1,m2,d2,m3,d3,hb,ho⟩:=hbx;obtain ⟨hz2,hg2,hB2⟩:=av_ [.cells #[.int .i64 tag] 3,.cells #[.int .i64 0,.int .i64 0,.int .i64 0,.int .i64 0,.string ⟨#[]⟩,.string ⟨#[]⟩,.bool false,.int .i64 0] 67] W;obtain ⟨W2,hW2⟩:∃ W2,W2 = List.foldl World.alloc W [.cells #[.int .i64 tag] 3,.cells #[.int .i64 0,.int .i64 0,.int .i64 0,.int .i64 0,.string ⟨#[]⟩,.string ⟨#[]⟩,.bool false,.int .i64 0] 67]:=⟨_,rfl⟩
 rw [← hW2] at hz2 hg2 hB2;have HW2:Hid (W2 = ((W.alloc (.cells #[.int .i64 tag] 3)).alloc (.cells #[.int .i64 0,.int .i64 0,.int .i64 0,.int .i64 0,.string ⟨#[]⟩,.string ⟨#[]⟩,.bool false,.int .i64 0] 67))):=hW2;have X0:=hidI (hg2 0 _ rfl);have X1:=hidI (hg2 1 _ rfl);have HZ2:Hid (W2.heap.size = W.heap.size+2):=by show _ = _;rw [hz2];rfl
 have K2:=hidI hB2;have HM2:Hid (s.outs.length = m2):=ho.l2;have HMM:Hid (m2≤1000):=by show m2≤1000;rw [← ho.l2];exact hm
 have HO:=hidI (ho.keep hB2);have HGL:Hid (∀ j,(Value.slice b2 m2 d2).ownBlock = some j→j < W.heap.size):=fun j hj=>(ho.r2.lt j hj).2
 have HOA:=hidI (cT_.2 (dB_ (ho.keep hB2).r2));have HB:=hidI (pkp_ hb hB2);obtain ⟨y0,y1,y2,y3,y4,y5,y6,y7⟩:=aa_ hb;have ht:=lth_ hb;clear hz2 hg2 hB2 hW2 ho hb hm;go_enter Tryz.func107,Tryz.ntmps107;go_wp2_with fail
 rw [← HW2.out];refine (hJ_ 146 (fun _ _=>rfl) #[.pointer (some ⟨W.heap.size,0,none⟩)] (fun o=>decide (o.tag = tag)) s.outs b2 m2 d2 W2 HM2.out (by have:=HMM.out;omega) HOA.out (fun x W' hB=>iU_ tag W.heap.size x W' (pkp_ X0.out hB))).mono ?_;rintro e w3 ⟨rfl,k3'⟩;rw [ls_];have k3:=K2.out.trans (k3'.mono K2.out.size);have K3:=hidI k3;have K3':=hidI k3';have s3:=k3.size;clear y0 y1 y2 y3 y4 y5 y6 y7 k3 k3';by_cases hi:outIdx s tag < s.outs.length
 rotate_left
 ·rw [if_neg hi];have hie:outIdx s tag = s.outs.length:=by have:=fE_ s tag;omega
  have HIE:=hidI hie;clear hi hie;go_wp2_with fail
  refine (au_ 5 [true] _ _ (by simp) (bng_ w3 _ rfl) (by simp)).mono ?_;rintro e w4 ⟨rfl,rfl⟩;exact ⟨rfl,ac_.of_below (K3.out.alloc s3 _) hnW,.inl ⟨HIE.out,rfl⟩⟩
 rw [if_pos hi];have HNE:Hid (outIdx s tag≠s.outs.length):=Nat.ne_of_lt hi;obtain ⟨k,hk⟩:∃ k,k = outIdx s tag:=⟨_,rfl⟩
 rw [← hk] at hi ⊢;have HK:=hidI hk;have HKL:=hidI hi;have hkm:k < m2:=by rw [← HM2.out];exact hi
 have j0:¬ (k:Int) < 0:=by omega
 have j0':decide ((k:Int) < 0) = false:=by rw [decide_eq_false_iff_not];omega
 clear hk hi;go_wp2_with fail
 refine (aC_ 5 [decide ((k:Int) < 0)] _ _ (by simp) (bng_ w3 _ (by simp)) (by simp)).mono ?_;rintro e w4 ⟨rfl,hw4⟩;have k4:Below w3.heap.size w3 w4:=by rw [hw4];exact (Below.refl _ _).alloc (Nat.le_refl _) _
 have K4':Hid (Below W2.heap.size W2 w4):=K3'.out.trans (k4.mono K3'.out.size);have K4:Hid (Below W.heap.size W w4):=K3.out.trans (k4.mono K3.out.size);have HO4:=hidI (HO.out.keep K4'.out);have HB4:=hidI (pkp_ HB.out K4'.out);have X4:=hidI (pkp_ X1.out K4'.out);clear hw4 k4 j0 j0';have hr4:=HO4.out.r2;obtain ⟨g,rfl⟩:∃ g,b2 = some ⟨g,0,none⟩:=by
  rcases hr4.2 with ⟨e,e0⟩ | ⟨g,cap,cur,e,_⟩
  ·exfalso;omega
  ·cases e;exact ⟨g,rfl⟩
 obtain ⟨o,hoo⟩:∃ o,o = s.outs[k]'HKL.out:=⟨_,rfl⟩
 have HOO:Hid (o = ek_ s tag):=by
  show o = _;unfold ek_;rw [List.getD_eq_getElem?_getD,← HK.out,List.getElem?_eq_getElem HKL.out,hoo];rfl
 have hcell:∀ j (hj:j < 8) v,(OutD.cells o)[j]? = some v→w4.cell? ⟨g,k * 8+j,none⟩ = some v:=by
  intro j hj v hv;rw [hr4.cellAt (k * 8+j) (by omega)];have:=bK_ (f:=OutD.cells) (k:=8) (fun _=>rfl) s.outs k HKL.out j hj;rw [← hoo] at this;exact this.trans hv
 have c0:=hcell 0 (by omega) _ rfl;have c1:=hcell 1 (by omega) _ rfl;have c2:=hcell 2 (by omega) _ rfl;have c3:=hcell 3 (by omega) _ rfl;have c4:=hcell 4 (by omega) _ rfl;have c5:=hcell 5 (by omega) _ rfl;have c6:=hcell 6 (by omega) _ rfl;have c7:=hcell 7 (by omega) _ rfl;rw [Nat.add_zero] at c0;obtain ⟨y0,y1,y2,y3,y4,y5,y6,y7⟩:=aa_ HB4.out;have f1:=foc_ HB4.out 1;have j1:(0:Int)≤(k:Int):=by omega
 have j2:(k:Int) < m2:=by omega
 have j3:IntKind.i64.wrap ((k:Int)+1) = (k:Int)+1:=by rw [IntKind.wrap_i64];have:=HMM.out;omega
 have htw:t < w4.heap.size:=by have:=K4.out.size;omega
 have hgW:=HGL.out g rfl;have hgn:=(bc_ hr4).1;obtain ⟨w5,hw5⟩:∃ w5,w5 = w4.alloc (.cells #[.int .i64 o.tag,.int .i64 o.taker,.int .i64 o.queue,.int .i64 o.item.seq,.string o.item.key,.string o.item.body,.bool o.item.again,.int .i64 o.item.deaths] 67):=⟨_,rfl⟩
 have l5:Below w4.heap.size w4 w5:=by rw [hw5];exact (Below.refl _ _).alloc (Nat.le_refl _) _
 have b5:w5.heap[w4.heap.size]? = some (.cells #[.int .i64 o.tag,.int .i64 o.taker,.int .i64 o.queue,.int .i64 o.item.seq,.string o.item.key,.string o.item.body,.bool o.item.again,.int .i64 o.item.deaths] 67 (0,0)):=by rw [hw5];exact World.alloc_heap_new w4 _
 have B5:=hidI b5;have HW5:=hidI hw5;have L5:=hidI l5;have HO5:=hidI (HO4.out.keep l5);clear hcell hoo hr4 hw5 b5 l5;go_wp2_with fail
 rw [← HW5.out];refine (jG_ s.outs n g m2 d2 k (k+1) _ HO5.out.r2 HM2.out hkm rfl (by have:=HMM.out;omega)).mono ?_;rintro e w6 ⟨rfl,hr6,t6⟩;have HR6:=hidI hr6;have T6:=hidI t6;have hs6:=t6.size;have h4z:=K4.out.size;have h5z:=L5.out.size;have b6:=(t6.block t (by omega) (by omega)).trans (pkp_ HB4.out L5.out);have HB6:=hidI b6;clear y0 y1 y2 y3 y4 y5 y6 y7 f1 c0 c1 c2 c3 c4 c5 c6 c7 hr6 t6;have f1:=foc_ b6 1;have y1:=(aa_ b6).2.1;clear b6;go_upto_region 5 with fail
 generalize hw7:w6.setCell ⟨t,1,none⟩ (.slice (some ⟨g,0,none⟩) (m2 - 1) d2) = w7;have b7:w7.heap[t]? = some (.cells #[.slice b1 m1 d1,.slice (some ⟨g,0,none⟩) (m2 - 1) d2,.slice b3 m3 d3,.int .i64 s.nextSeq,.int .i64 s.nextTag,.int .i64 s.came,.int .i64 s.acked,.int .i64 s.dropped] 31 (0,0)):=by rw [← hw7];exact scb_ HB6.out (j:=1) _
 have t7:bh_ t w6 w7:=by rw [← hw7];exact sct_ w6 t 1 _
 have kt6:ax_ 67 w5 w6:=by
  obtain ⟨_,cur,hg⟩:=bc_ HO5.out.r2;exact ⟨T6.out.size,fun i cur' T' hi hT=>T6.out.block i (lth_ hi) (fun e=>by rw [e,hg] at hi;cases hi;exact hT rfl)⟩
 have ho6:aM_ w6 n b1 (some ⟨g,0,none⟩) b3 m1 d1 (m2 - 1) d2 m3 d3 { s with outs:=s.outs.eraseIdx k }:=HO5.out.outs kt6 (by have:=HMM.out;omega) HR6.out;have ho7:=ho6.turn HB6.out (by decide) t7;have hF7:ac_ n t W w7:=(((ac_.of_below K4.out hnW).trans (ac_.of_below L5.out (by omega))).trans ⟨T6.out.os,T6.out.tape,T6.out.output,T6.out.size,fun i h1 h2=>T6.out.block i (by omega) (by omega)⟩).turnB t7 (by omega);have q7:=(t7.block w4.heap.size (by have:=lth_ B5.out;omega) (by omega)).trans ((T6.out.block w4.heap.size (lth_ B5.out) (by omega)).trans B5.out);have hz2:=HZ2.out;have r7:=(t7.block (W.heap.size+1) (by have:=K4'.out.size;omega) (by omega)).trans ((T6.out.block (W.heap.size+1) (by have:=K4'.out.size;omega) (by omega)).trans (pkp_ X4.out L5.out));have R7:=hidI r7;have B7:=hidI b7;have HO7:=hidI ho7;have HF7:=hidI hF7;obtain ⟨c0,c1,c2,c3,c4,c5,c6,c7⟩:=cells8 q7;obtain ⟨z0,z1,z2,z3,z4,z5,z6,z7⟩:=cells8 r7
 have e0:=foc_ r7 0;have e1:=foc_ r7 1;have e2:=foc_ r7 2;have e3:=foc_ r7 3;have e4:=foc_ r7 4;have e5:=foc_ r7 5;have e6:=foc_ r7 6;have e7:=foc_ r7 7;have h7z:=t7.size;have HH:Hid (n≤W.heap.size+1∧n≤w7.heap.size):=⟨by omega,by omega⟩;have HTN:Hid (t≠W.heap.size+1):=by show t≠_;omega
 have HGN:Hid (g≠W.heap.size+1):=by show g≠_;omega
 clear b7 t7 kt6 ho6 ho7 hF7 q7 r7 hw7 hz2 y1 f1 htw hgW hs6 h4z h5z h7z;go_wp2_with fail
 generalize hW8:World.setCell (World.setCell (World.setCell (World.setCell (World.setCell (World.setCell (World.setCell (World.setCell w7 _ _) _ _) _ _) _ _) _ _) _ _) _ _) _ _ = W8;obtain ⟨b8,t8⟩:=store8 R7.out hW8;obtain ⟨z0,z1,z2,z3,z4,z5,z6,z7⟩:=cells8 b8;have hb8:=(t8.block t (lth_ B7.out) HTN.out).trans B7.out;have ho8:=HO7.out.turnO R7.out HGN.out t8;have hls:bb_ s tag = { s with outs:=s.outs.eraseIdx k }:=by unfold bb_;rw [← HK.out]
 exact bodyPost_ret (v:=o.val) (by simp [results,Tryz.results107,go_sem,z0,z1,z2,z3,z4,z5,z6,z7,OutD.val]) rfl ⟨bh_.frame HF7.out t8 HH.out.1 HH.out.2,.inr ⟨HNE.out,by rw [HOO.out],by rw [hls];exact ⟨_,_,_,_,_,_,_,_,_,hb8,ho8⟩⟩⟩
def outX (s:ab_) (tag:Int):Int:=if outIdx s tag = s.outs.length then 5 else 0
theorem jx_ {x:Int} (h0:0≤x) (h1:x≤100000000):IntKind.i64.wrap (x+1) = x+1:=by rw [IntKind.wrap_i64];omega
theorem ag_.acked_le {p:ad_} {s:ab_} (h:ag_ p s 0):0≤s.acked∧s.acked≤1048576:=by
 have h1:=h.ak;have h2:=h.dr;have h3:=h.sum;have h4:=h.cs;have h5:=h.ns;omega
theorem ag_.dropped_le {p:ad_} {s:ab_} (h:ag_ p s 0):0≤s.dropped∧s.dropped≤1048576:=by
 have h1:=h.ak;have h2:=h.dr;have h3:=h.sum;have h4:=h.cs;have h5:=h.ns;omega
theorem kw_ (p:ad_) (s:ab_) (tag:Int) (B:Nat) (w:World) (x:w.heap[B]? = some (.cells #[.int .i64 tag] 3 (0,0))) (hR:ag_ p s 0):hk_ 106 #[.pointer (some ⟨B,0,none⟩)] w s (outX s tag) (ackS s tag):=by
 intro W n t hBW hwt htn hnW hbx;have HT:=hidI (gI_ s tag n t W htn hnW (be_ hR).2.2.1 hbx);have hap:(#[Value.pointer (some ⟨t,0,none⟩)] ++ #[Value.pointer (some ⟨B,0,none⟩)]:Array Value) = #[.pointer (some ⟨t,0,none⟩),.pointer (some ⟨B,0,none⟩)]:=rfl;rw [hap];have c0:=coc_ (pkp_ x hBW) 0;simp at c0;have HA:=hidI hR.acked_le;clear hap x hbx hR;go_enter Tryz.func106,Tryz.ntmps106;go_wp2_with fail
 refine HT.out.mono ?_;rintro e w1 ⟨hF,hc⟩;have HF:=hidI hF;clear hF c0;rcases hc with ⟨he,rfl⟩ | ⟨hne,rfl,hb⟩
 ·unfold panE;exact ⟨rfl,HF.out,.inl ⟨by unfold outX;rw [if_pos he];decide,by unfold outX;rw [if_pos he];rfl⟩⟩
 ·have HB:=hidI hb;have HNE:=hidI hne;obtain ⟨b1,b2,b3,m1,d1,m2,d2,m3,d3,hb1,ho1⟩:=hb;obtain ⟨y0,y1,y2,y3,y4,y5,y6,y7⟩:=aa_ hb1;have f6:=foc_ hb1 6;have j1:IntKind.i64.wrap ((bb_ s tag).acked+1) = s.acked+1:=jx_ HA.out.1 (by have:=HA.out.2;show s.acked≤_;omega);obtain ⟨ac,hac⟩:∃ ac,ac = (bb_ s tag).acked:=⟨_,rfl⟩
  rw [← hac] at y6 j1;unfold OutD.val;clear hne hb1 ho1 hac;go_wp2_with fail
  go_end0
  exact ⟨HF.out.setCell (.inr rfl) _,.inr ⟨by unfold outX;rw [if_neg HNE.out],rfl,HB.out.field6 _⟩⟩
theorem ky_ (p:ad_) (a1 a2 a3:Option Addr) (n1 c1 n2 c2 n3 c3:Nat) (s:ab_) (b1 b2 b3:Option Addr) (m1 d1 m2 d2 m3 d3:Nat) (tag:Int) (w:World) (hp:ap_ w a1 a2 a3 n1 n2 n3 p) (hs:al_ w b1 b2 b3 m1 m2 m3 s) (hn2:b2 = none→d2 = 0) (hn3:b3 = none→d3 = 0) :
 Calls Tryz.prog 59 #[.agg #[.slice a1 n1 c1,.slice a2 n2 c2,.slice a3 n3 c3],.agg #[.slice b1 m1 d1,.slice b2 m2 d2,.slice b3 m3 d3,.int .i64 s.nextSeq,.int .i64 s.nextTag,.int .i64 s.came,.int .i64 s.acked,.int .i64 s.dropped],.int .i64 tag] w fun e w'=>∃ v,e = .returned (.tuple #[v,.int .i64 (ackE p s tag)])∧a4_ w' w.heap.size v (ackE p s tag) (ackS s tag)∧Below w.heap.size w w':=by
 obtain ⟨hz5,hg5,hB5⟩:=av_ [.cells #[.slice a1 n1 c1,.slice a2 n2 c2,.slice a3 n3 c3] 26,.cells #[.slice b1 m1 d1,.slice b2 m2 d2,.slice b3 m3 d3,.int .i64 s.nextSeq,.int .i64 s.nextTag,.int .i64 s.came,.int .i64 s.acked,.int .i64 s.dropped] 31,.cells #[.int .i64 tag] 3,.cells #[.slice none 0 0,.slice none 0 0,.slice none 0 0,.int .i64 0,.int .i64 0,.int .i64 0,.int .i64 0,.int .i64 0] 31] w;obtain ⟨W5,hW5⟩:∃ W5,W5 = List.foldl World.alloc w [.cells #[.slice a1 n1 c1,.slice a2 n2 c2,.slice a3 n3 c3] 26,.cells #[.slice b1 m1 d1,.slice b2 m2 d2,.slice b3 m3 d3,.int .i64 s.nextSeq,.int .i64 s.nextTag,.int .i64 s.came,.int .i64 s.acked,.int .i64 s.dropped] 31,.cells #[.int .i64 tag] 3,.cells #[.slice none 0 0,.slice none 0 0,.slice none 0 0,.int .i64 0,.int .i64 0,.int .i64 0,.int .i64 0,.int .i64 0] 31]:=⟨_,rfl⟩
 rw [← hW5] at hz5 hg5 hB5;have HW5:Hid (W5 = ((((w.alloc (.cells #[.slice a1 n1 c1,.slice a2 n2 c2,.slice a3 n3 c3] 26)).alloc (.cells #[.slice b1 m1 d1,.slice b2 m2 d2,.slice b3 m3 d3,.int .i64 s.nextSeq,.int .i64 s.nextTag,.int .i64 s.came,.int .i64 s.acked,.int .i64 s.dropped] 31)).alloc (.cells #[.int .i64 tag] 3)).alloc (.cells #[.slice none 0 0,.slice none 0 0,.slice none 0 0,.int .i64 0,.int .i64 0,.int .i64 0,.int .i64 0,.int .i64 0] 31))):=hW5;have hz5':W5.heap.size = w.heap.size+4:=by rw [hz5];rfl
 have x0:=hg5 0 _ rfl;have x1:=hg5 1 _ rfl;have x2:=hg5 2 _ rfl;have x3:=hg5 3 _ rfl;obtain ⟨E,hE⟩:∃ E,E = ackE p s tag:=⟨_,rfl⟩
 rw [← hE];have T:=g9_ p a1 a2 a3 n1 c1 n2 c2 n3 c3 s b1 b2 b3 m1 d1 m2 d2 m3 d3 106 (fun _ _=>rfl) #[.pointer (some ⟨w.heap.size+2,0,none⟩)] E (ackS s tag) W5 (hp.keep hB5) (hs.keep hB5) hn2 hn3
  (fun h=>by rw [hE];unfold ackE;rw [if_pos h])
  (fun h=>by
   have e:E = outX s tag:=by rw [hE];unfold ackE outX;rw [if_neg (by simp [h])]
   rw [e];exact kw_ p s tag _ W5 x2 (aE_ h))
 have HT:=hidI T;have X4:=hidI x3;have HZ5:=hidI hz5';have HB5:=hidI hB5;have hmf:∀ (fn:Fn) (first cap:Array Value) (w:World),(Instr.makeFunc fn first cap).run Tryz.prog w = .ok (.func fn first cap) w:=fun _ _ _ _=>rfl
 clear T hW5 hz5 hz5' hg5 hB5 x0 x1 x2 x3 hE hp hs hn2 hn3;go_enter Tryz.func59,Tryz.ntmps59;go_wp2_with fail
 rw [← HW5.out];refine HT.out.mono ?_;rintro e w6 ⟨v,rfl,hres,hB6⟩;have x6:=pkp_ X4.out hB6;obtain ⟨y0,y1,y2,y3,y4,y5,y6,y7⟩:=aa_ x6;have f0:=foc_ x6 0;have f1:=foc_ x6 1;have f2:=foc_ x6 2;have f3:=foc_ x6 3;have f4:=foc_ x6 4;have f5:=foc_ x6 5;have f6:=foc_ x6 6;have f7:=foc_ x6 7;obtain ⟨x1,x2,x3,k1,e1,k2,e2,k3,e3,i1,i2,i3,i4,i5,rfl⟩:=hres.shape;have X6:=hidI x6;have HRES:=hidI hres;have HB6:=hidI hB6;clear x6 hres hB6;go_wp2_with fail
 generalize hW4:World.setCell (World.setCell (World.setCell (World.setCell (World.setCell (World.setCell (World.setCell (World.setCell w6 _ _) _ _) _ _) _ _) _ _) _ _) _ _) _ _ = W4;obtain ⟨b4,t4⟩:=store8 X6.out hW4;obtain ⟨z0,z1,z2,z3,z4,z5,z6,z7⟩:=aa_ b4;exact bodyPost_ret (v:=.tuple #[.agg #[.slice x1 k1 e1,.slice x2 k2 e2,.slice x3 k3 e3,.int .i64 i1,.int .i64 i2,.int .i64 i3,.int .i64 i4,.int .i64 i5],.int .i64 E]) (by simp [results,Tryz.results59,go_sem,z0,z1,z2,z3,z4,z5,z6,z7]) rfl ⟨_,rfl,(HRES.out.turn X6.out t4).lower (by have:=HZ5.out;omega),HB5.out.trans ((HB6.out.mono HB5.out.size).trans (t4.below (by have:=HB6.out.size;have:=HZ5.out;omega) (by omega)))⟩
structure Hall (W:World) (N H t:Nat) (v1 v2 v3:Value) (xs:List ArrD) (a:Option Addr) (m c:Nat):Prop where
 box:W.heap[H]? = some (.cells #[.pointer (some ⟨t,0,none⟩),v1,v2,v3,.slice a m c] 168 (0,0))
 row:W.ownsRow N 150 4 (.slice a m c) m (aV_ xs)
theorem Hall.len {W:World} {N H t:Nat} {v1 v2 v3:Value} {xs:List ArrD} {a:Option Addr} {m c:Nat} (h:Hall W N H t v1 v2 v3 xs a m c):m = xs.length:=by
 have:=h.row.1;rw [bz_] at this;omega
theorem Hall.keep {W W':World} {N H t:Nat} {v1 v2 v3:Value} {xs:List ArrD} {a:Option Addr} {m c:Nat} (h:Hall W N H t v1 v2 v3 xs a m c) (hB:Below W.heap.size W W'):Hall W' N H t v1 v2 v3 xs a m c:=⟨pkp_ h.box hB,cp2_ h.row hB⟩
theorem Hall.keep2 {W W':World} {N H t:Nat} {v1 v2 v3:Value} {xs:List ArrD} {a:Option Addr} {m c:Nat} (h:Hall W N H t v1 v2 v3 xs a m c) (k:Keep2 W W'):Hall W' N H t v1 v2 v3 xs a m c:=by
 refine ⟨(k H _ _ h.box (by decide) (by decide)).trans h.box,h.row.1,?_⟩;rcases h.row.2 with e | ⟨g,cap,cur,h1,h2,h3,h4⟩
 ·exact .inl e
 ·exact .inr ⟨g,cap,cur,h1,h2,(k g cur _ h3 (by decide) (by decide)).trans h3,h4⟩
structure nc_ (N H:Nat) (row:Option Nat) (W W':World):Prop where
 os:W'.os = W.os
 tape:W'.tape = W.tape
 output:W'.output = W.output
 size:W.heap.size≤W'.heap.size
 low:∀ k,k < N→k≠H→W'.heap[k]? = W.heap[k]?
 blk:∀ k,k < W.heap.size→k≠H→row≠some k→W'.heap[k]? = W.heap[k]?
 typ:∀ (k:Nat) (cur:Array Value) (T:TypeId),W.heap[k]? = some (Obj.cells cur T (0,0))→T≠150→k≠H→W'.heap[k]? = W.heap[k]?
theorem nc_.stBox {N H n t:Nat} {row:Option Nat} {W W':World} {s:ab_} (h:nc_ N H row W W') (hb:StBox W n t s) (hH:∃ cur,W.heap[H]? = some (.cells cur 168 (0,0))):StBox W' n t s:=by
 obtain ⟨b1,b2,b3,m1,d1,m2,d2,m3,d3,hb,ho⟩:=hb;obtain ⟨cu,hcu⟩:=hH;have ne:∀ (k:Nat) (cur:Array Value) (T:TypeId),W.heap[k]? = some (Obj.cells cur T (0,0))→T≠168→k≠H:=fun k cur T hk hT e=>by rw [e,hcu] at hk;cases hk;exact hT rfl
 have kr:∀ {T:TypeId} {base size m:Nat} {v:Value} {cs:List Value},W.ownsRow base T size v m cs→T≠150→T≠168→W'.ownsRow base T size v m cs:=fun hr h1 h2=>by
  refine ⟨hr.1,?_⟩;rcases hr.2 with e | ⟨g,cap,cur,q1,q2,q3,q4⟩
  ·exact .inl e
  ·exact .inr ⟨g,cap,cur,q1,q2,(h.typ g cur _ q3 h1 (ne g cur _ q3 h2)).trans q3,q4⟩
 obtain ⟨vs,r1,r2⟩:=ho.r1;exact ⟨b1,b2,b3,m1,d1,m2,d2,m3,d3,(h.typ t _ _ hb (by decide) (ne t _ _ hb (by decide))).trans hb,ho.l1,ho.l2,ho.l3,ho.x2,⟨vs,kr r1 (by decide) (by decide),r2.keepT ⟨h.size,fun g cur _ hg=>h.typ g cur _ hg (by decide) (ne g cur _ hg (by decide))⟩⟩,kr ho.r2 (by decide) (by decide),kr ho.r3 (by decide) (by decide)⟩
theorem hi_ (N H t:Nat) (v1 v2 v3:Value) (xs ys:List ArrD) (a b:Option Addr) (m c mb cb:Nat) (w:World) (hh:Hall w N H t v1 v2 v3 xs a m c) (hH:H < N) (hN:N≤w.heap.size) (hy:b5_ w b ys) (hyl:ys.length = mb) (hyn:b = none→cb = 0∧mb = 0) (hm:m+mb≤1000000) :
 Calls Tryz.prog 141 #[.pointer (some ⟨H,0,none⟩),.slice b mb cb] w fun e w'=>∃ a' c',e = okE∧Hall w' N H t v1 v2 v3 (xs ++ ys) a' (m+mb) c'∧nc_ N H (Value.slice a m c).ownBlock w w':=by
 have HH:=hidI hh;have HY:=hidI hy;have HYL:Hid ((aV_ ys).length = mb * 4):=by show (aV_ ys).length = mb * 4;rw [bz_,hyl]
 have HYN:=hidI hyn;have c4:=coc_ hh.box 4;simp at c4;clear hh hy hyl hyn;go_enter Tryz.func141,Tryz.ntmps141;go_wp2_with (at_builtin;refine a0_ it_ (by kernel_rfl) _ _ rfl N _ m (aV_ xs) rfl HH.out.row b mb cb (aV_ ys) rfl HYL.out HYN.out HY.out (dt_ _) (by unfold maxLen;omega) (by omega) hN ?_;intro v6 w6 ho6 hg6 _;have hb6:=(hg6.block H (by omega) (fun e=>by have:=HH.out.row.lt H e.symm;omega)).trans HH.out.box;clear c4;have c4:=coc_ hb6 4;have f4:=foc_ hb6 4;simp at c4;have HB6:=hidI hb6;have HO6:=hidI ho6;have HG6:=hidI hg6;obtain ⟨a6,c6,hv6,-⟩:=aA_ ho6;subst hv6;clear hb6 ho6 hg6)
 go_end0
 have hT:=sct_ w6 H 4 (.slice a6 (m+mb) c6);refine ⟨a6,c6,rfl,⟨scb_ HB6.out (j:=4) _,fQ_ (by rw [cD_];exact HO6.out) hT hH⟩,⟨hT.os.trans HG6.out.os,hT.tape.trans HG6.out.tape,hT.output.trans HG6.out.output,Nat.le_trans HG6.out.size hT.size,fun k h1 h2=>?_,fun k h1 h2 h3=>?_,fun k cur T hk h1 h2=>?_⟩⟩
 ·exact (hT.block k (by have:=HG6.out.size;omega) h2).trans (HG6.out.block k (by omega) (fun e=>by have:=HH.out.row.lt k e.symm;omega))
 ·exact (hT.block k (by have:=HG6.out.size;omega) h2).trans (HG6.out.block k h1 (fun e=>h3 e.symm))
 ·exact (hT.block k (by have:=HG6.out.size;have:=lth_ hk;omega) h2).trans (HG6.out.block k (lth_ hk) (fun e=>bl_ HH.out.row hk (fun e=>h1 e.symm) e.symm))
theorem eH_ (q d seq:Int) (ky b:ByteArray) (w:World) :
 Calls Tryz.prog 169 #[.agg #[.int .i64 q,.string ky,.string b,.int .i64 d],.int .i64 seq] w fun e w'=>e = .returned (.agg #[.int .i64 seq,.string ky,.string b,.bool false,.int .i64 d])∧Below w.heap.size w w':=by
 obtain ⟨W2,hW2⟩:∃ W2,W2 = (w.alloc (.cells #[.int .i64 q,.string ky,.string b,.int .i64 d] 150)).alloc (.cells #[.int .i64 0,.string ⟨#[]⟩,.string ⟨#[]⟩,.bool false,.int .i64 0] 48):=⟨_,rfl⟩
 obtain ⟨hz2,hb1,hb2,hB2⟩:=dJ_ w _ _ _ hW2;have HW2:=hidI hW2;have HB2:=hidI hB2;have HX2:=hidI hb2;have c0:=coc_ hb1 0;have c1:=coc_ hb1 1;have c2:=coc_ hb1 2;have c3:=coc_ hb1 3;have d0:=coc_ hb2 0;have d1:=coc_ hb2 1;have d2:=coc_ hb2 2;have d3:=coc_ hb2 3;have d4:=coc_ hb2 4;have f0:=foc_ hb2 0;have f1:=foc_ hb2 1;have f2:=foc_ hb2 2;have f3:=foc_ hb2 3;have f4:=foc_ hb2 4;simp at c0 c1 c2 c3 d0 d1 d2 d3 d4;have hs:=hB2.size;clear hW2 hz2 hb1 hb2 hB2;go_enter Tryz.func169,Tryz.ntmps169;go_upto_region 1 with fail
 rw [← HW2.out];go_wp2_with fail
 generalize hW4:World.setCell (World.setCell (World.setCell (World.setCell (World.setCell W2 _ _) _ _) _ _) _ _) _ _ = W4;have b4:W4.heap[w.heap.size+1]? = some (.cells #[.int .i64 seq,.string ky,.string b,.bool false,.int .i64 d] 48 (0,0)):=by rw [← hW4];exact scb_ (scb_ (scb_ (scb_ (scb_ HX2.out (j:=0) _) (j:=1) _) (j:=2) _) (j:=3) _) (j:=4) _
 have t4:bh_ (w.heap.size+1) W2 W4:=by rw [← hW4];exact ((((sct_ _ _ _ _).trans (sct_ _ _ _ _)).trans (sct_ _ _ _ _)).trans (sct_ _ _ _ _)).trans (sct_ _ _ _ _)
 have z0:=coc_ b4 0;have z1:=coc_ b4 1;have z2:=coc_ b4 2;have z3:=coc_ b4 3;have z4:=coc_ b4 4;simp at z0 z1 z2 z3 z4;exact bodyPost_ret (v:=.agg #[.int .i64 seq,.string ky,.string b,.bool false,.int .i64 d]) (by simp [results,Tryz.results169,go_sem,z0,z1,z2,z3,z4]) rfl ⟨rfl,HB2.out.trans (t4.below hs (by omega))⟩
end Go.Proofs.YtlbnkpicnokgoaaGreat
