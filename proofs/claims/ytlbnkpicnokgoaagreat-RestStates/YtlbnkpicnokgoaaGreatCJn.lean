import Derived.Deep.RegionHeld3
import Derived.Test.YtlbnkpicnokgoaaGreatUux
import Derived.Test.YtlbnkpicnokgoaaGreatUpx
import Derived.Test.YtlbnkpicnokgoaaGreatCUn
import Derived.Test.YtlbnkpicnokgoaaGreatUax
namespace Go.Proofs.YtlbnkpicnokgoaaGreat
open Go.RowKit Go.Maps
set_option linter.unusedVariables false
set_option maxRecDepth 100000
set_option maxHeartbeats 4000000
theorem l6_ (w:World) (base:Nat) (T:TypeId) (size:Nat) (h:base≤w.heap.size):(w.alloc (.cells #[] T)).ownsRow base T size (.slice (some ⟨w.heap.size,0,none⟩) 0 0) 0 []:=
 ⟨by simp,.inr ⟨w.heap.size,0,#[],rfl,h,World.alloc_heap_new w _,Nat.le_refl _,Nat.zero_le _,by simp,by simp⟩⟩
theorem gq_ (s:ab_) (b1 b2 b3:Option Addr) (m1 d1 m2 d2 m3 d3:Nat) (k:Nat) (w:World) (hs:an_ w b1 b2 b3 m1 m2 m3 s) (hn2:b2 = none→d2 = 0) (hn3:b3 = none→d3 = 0) (hc2:m2≤d2) (hm2:d2≤maxLen) (h1:m1≤100) (hl:∀ l ∈ s.ready,l.length≤100) (h2:m2≤1000) (h3:m3≤100) (hk:k < s.outs.length) :
 Calls Tryz.prog 80 #[.agg #[.slice b1 m1 d1,.slice b2 m2 d2,.slice b3 m3 d3,.int .i64 s.nextSeq,.int .i64 s.nextTag,.int .i64 s.came,.int .i64 s.acked,.int .i64 s.dropped],.int .i64 k] w fun e w'=>∃ v,e = .returned v∧OwV w' w.heap.size v { s with outs:=s.outs.eraseIdx k }∧Below w.heap.size w w':=by
 obtain ⟨hz2,hg2,hB2⟩:=aD_ [.cells #[.slice b1 m1 d1,.slice b2 m2 d2,.slice b3 m3 d3,.int .i64 s.nextSeq,.int .i64 s.nextTag,.int .i64 s.came,.int .i64 s.acked,.int .i64 s.dropped] 31,.cells #[.slice none 0 0,.slice none 0 0,.slice none 0 0,.int .i64 0,.int .i64 0,.int .i64 0,.int .i64 0,.int .i64 0] 31] w;obtain ⟨W2,hW2⟩:∃ W2,W2 = List.foldl World.alloc w [.cells #[.slice b1 m1 d1,.slice b2 m2 d2,.slice b3 m3 d3,.int .i64 s.nextSeq,.int .i64 s.nextTag,.int .i64 s.came,.int .i64 s.acked,.int .i64 s.dropped] 31,.cells #[.slice none 0 0,.slice none 0 0,.slice none 0 0,.int .i64 0,.int .i64 0,.int .i64 0,.int .i64 0,.int .i64 0] 31]:=⟨_,rfl⟩
 rw [← hW2] at hz2 hg2 hB2;have HW2:Hid (W2 = ((w.alloc (.cells #[.slice b1 m1 d1,.slice b2 m2 d2,.slice b3 m3 d3,.int .i64 s.nextSeq,.int .i64 s.nextTag,.int .i64 s.came,.int .i64 s.acked,.int .i64 s.dropped] 31)).alloc (.cells #[.slice none 0 0,.slice none 0 0,.slice none 0 0,.int .i64 0,.int .i64 0,.int .i64 0,.int .i64 0,.int .i64 0] 31))):=hW2;have X0:Hid (W2.heap[w.heap.size]? = some (.cells #[.slice b1 m1 d1,.slice b2 m2 d2,.slice b3 m3 d3,.int .i64 s.nextSeq,.int .i64 s.nextTag,.int .i64 s.came,.int .i64 s.acked,.int .i64 s.dropped] 31 (0,0))):=hg2 0 _ rfl;have X1:=hidI (hg2 1 _ rfl);have HZ2:Hid (W2.heap.size = w.heap.size+2):=by show _ = _;rw [hz2];rfl
 have K2:=hidI hB2;have HL2:Hid (s.outs.length = m2):=hs.l2;have hkm:k < m2:=by rw [← hs.l2];exact hk
 have HK:=hidI hk;have HS:=hidI (hs.keep hB2);have HOR:=hidI (c5_.1 (hs.keep hB2).q2);have HOW:=hidI (b4_ s b1 b2 b3 m1 d1 m2 d2 m3 d3 W2 (hs.keep hB2) hn2 hn3 h1 hl h2 h3);obtain ⟨g,o,ha,hgl,-⟩:=(hs.keep hB2).q2.get hk;subst ha;have HGL:=hidI hgl;clear hz2 hg2 hB2 hW2 hs hn2 hn3 h1 hl h3 hgl;go_enter Tryz.func80,Tryz.ntmps80;go_wp2_with fail
 rw [← HW2.out];refine HOW.out.mono ?_;rintro e w6 ⟨v6,rfl,hv6,k6'⟩;obtain ⟨g1,g2,g3,l1,r1,l2,r2,l3,r3,rfl,ho⟩:=hv6;obtain ⟨w7,hw7⟩:∃ w7,w7 = w6.alloc (.cells #[.slice g1 l1 r1,.slice g2 l2 r2,.slice g3 l3 r3,.int .i64 s.nextSeq,.int .i64 s.nextTag,.int .i64 s.came,.int .i64 s.acked,.int .i64 s.dropped] 31):=⟨_,rfl⟩
 have l7:Below w6.heap.size w6 w7:=by rw [hw7];exact (Below.refl _ _).alloc (Nat.le_refl _) _
 have b7:w7.heap[w6.heap.size]? = some (.cells #[.slice g1 l1 r1,.slice g2 l2 r2,.slice g3 l3 r3,.int .i64 s.nextSeq,.int .i64 s.nextTag,.int .i64 s.came,.int .i64 s.acked,.int .i64 s.dropped] 31 (0,0)):=by rw [hw7];exact World.alloc_heap_new w6 _
 have K7:Hid (Below W2.heap.size W2 w7):=k6'.trans (l7.mono k6'.size);have HW7:=hidI hw7;obtain ⟨BX,hBX⟩:∃ BX,BX = w6.heap.size:=⟨_,rfl⟩
 have HBX:=hidI hBX;rw [← hBX] at b7;have B7:=hidI b7;have HBB:Hid (W2.heap.size≤BX):=by show _≤BX;rw [hBX];exact k6'.size
 have HO7:=hidI (ho.keep l7);have hlt:BX < w7.heap.size:=lth_ b7;have SA:Hid (∀ W',Below w7.heap.size w7 W'→W'.cell? ⟨w.heap.size,1,none⟩ = some (.slice (some ⟨g,o,none⟩) m2 d2)):=fun W' h=>(aa_ (pkp_ (pkp_ X0.out K7.out) h)).2.1
 clear k6' hw7 l7 hBX b7 ho;go_upto_region 2 with fail
 rw [← HW7.out,← HBX.out];have HT1:Hid (aO_ W2 (some ⟨g,o,none⟩) (ah_ (s.outs.take k))):=by
  refine .inr ⟨g,o,rfl,HGL.out,fun j u hj=>?_⟩;rcases HOR.out with h | ⟨g',o',e,_,h⟩
  ·exfalso
   have:=congrArg List.length h;rw [aG_] at this;simp at this;omega
  ·cases e;apply h
   have hx:ah_ s.outs = ah_ (s.outs.take k) ++ ah_ (s.outs.drop k):=by rw [← aS_,List.take_append_drop]
   rw [hx,List.getElem?_append_left (List.getElem?_eq_some_iff.1 hj).1];exact hj
 obtain ⟨A,hA,hsrc⟩:∃ A:Option Addr,(if d2 = k+1 then some (⟨g,o,none⟩:Addr) else some ⟨g,o+(k+1) * 8,none⟩) = A∧Hid (aO_ W2 A (ah_ (s.outs.drop (k+1)))∧A≠none):=by
  refine ⟨_,rfl,?_⟩;by_cases h:d2 = k+1
  ·rw [if_pos h];refine ⟨.inl ?_,by simp⟩;rw [List.drop_eq_nil_of_le (by rw [HL2.out];omega)];rfl
  ·rw [if_neg h];refine ⟨.inr ⟨g,o+(k+1) * 8,rfl,HGL.out,fun j u hj=>?_⟩,by simp⟩;rcases HOR.out with h | ⟨g',o',e,_,h⟩
   ·exfalso
    have:=congrArg List.length h;rw [aG_] at this;simp at this;omega
   ·cases e;rw [Nat.add_assoc];apply h
    have htl:(ah_ (s.outs.take (k+1))).length = (k+1) * 8:=by rw [aG_,List.length_take,HL2.out,Nat.min_eq_left (by omega)]
    have hx:ah_ s.outs = ah_ (s.outs.take (k+1)) ++ ah_ (s.outs.drop (k+1)):=by rw [← aS_,List.take_append_drop]
    rw [hx,List.getElem?_append_right (by omega),htl,Nat.add_sub_cancel_left];exact hj
 have j3:IntKind.i64.wrap ((k:Int)+1) = (k:Int)+1:=by rw [IntKind.wrap_i64];omega
 have i1:k≤d2:=by omega
 have i2:k+1≤m2:=by omega
 have i3:k+1≤d2:=by omega
 have i4:(0:Int)≤(k:Int)+1:=by omega
 have i5:(k:Int)+1≤(m2:Int):=by omega
 refine wp_region_held_drew (S:=fun W'=>W'.cell? ⟨w.heap.size,1,none⟩ = some (.slice (some ⟨g,o,none⟩) m2 d2)) (by kernel_rfl) (SA.out _ (Below.refl _ _).drew) (fun hHeld=>?_);obtain ⟨wq,hwq⟩:∃ wq,wq = w7.drew:=⟨_,rfl⟩
 have Lwq:Hid (Below w7.heap.size w7 wq):=by show Below w7.heap.size w7 wq;rw [hwq];exact (Below.refl _ _).drew
 rw [← hwq] at hHeld ⊢;clear hwq;refine tk 1 ?_;refine tk 2 ?_;refine tk 3 ?_;refine tk 4 ?_;refine tk 6 ?_;refine tk 7 ?_;refine tk 8 ?_;refine tk 9 ?_;refine tk 10 ?_;refine rdy 0 (fun K hK=>?_);go_simp;obtain ⟨wa,hwa⟩:∃ wa,wa = wq.alloc (.cells #[] 67):=⟨_,rfl⟩
 have HRA:wa.ownsRow (w.heap.size+2) 67 8 (.slice (some ⟨wq.heap.size,0,none⟩) 0 0) 0 []:=by rw [hwa];exact l6_ wq _ _ _ (by have:=Lwq.out.size;have:=K7.out.size;have:=HZ2.out;omega)
 have Lwa:Hid (Below w7.heap.size w7 wa):=by show Below w7.heap.size w7 wa;rw [hwa];exact Lwq.out.alloc Lwq.out.size _
 rw [← hwa];refine hK.out _ _ (SA.out _ Lwa.out) (fun hHa=>?_);clear hK K hwa;try refine nrm ?_
 refine rdy 5 (fun K hK=>?_);refine gk_ er_ (by kernel_rfl) _ _ rfl (w.heap.size+2) _ 0 [] rfl HRA (some ⟨g,o,none⟩) k d2 (ah_ (s.outs.take k)) rfl (by rw [aG_,List.length_take,HL2.out,Nat.min_eq_left (by omega)]) (fun h=>by cases h) (HT1.out.keep (K7.out.trans (Lwa.out.mono K7.out.size))) (bA_ _) (by unfold maxLen;omega) (by omega) (by have:=Lwa.out.size;have:=K7.out.size;have:=HZ2.out;omega) ?_;intro vb wb hob hgb hblk;rw [Nat.zero_add,List.nil_append] at hob;have Lwb:Hid (Below w7.heap.size w7 wb):=Lwa.out.grown hgb Lwa.out.size (fun j hj=>by
  have hj':(Value.slice (some ⟨wq.heap.size,0,none⟩) 0 0).ownBlock = some j:=hj;have e:wq.heap.size = j:=by simpa [Value.ownBlock] using hj'
  have:=Lwq.out.size;omega)
 have HBK:Hid (∀ j,vb.ownBlock = some j→w7.heap.size≤j):=fun j hj=>by
  rcases hblk with h | h
  ·rw [h] at hj;have hj':(Value.slice (some ⟨wq.heap.size,0,none⟩) 0 0).ownBlock = some j:=hj;have e:wq.heap.size = j:=by simpa [Value.ownBlock] using hj'
   have:=Lwq.out.size;omega
  ·rw [h] at hj;cases hj;exact Lwa.out.size
 refine hK.out _ _ (SA.out _ Lwb.out) (fun hHb=>?_);clear hK K hgb hblk HRA;try refine nrm ?_
 refine rdy 11 (fun K hK=>?_);refine gk_ er_ (by kernel_rfl) _ _ rfl (w.heap.size+2) _ k (ah_ (s.outs.take k)) rfl hob A (m2 - (k+1)) (d2 - (k+1)) (ah_ (s.outs.drop (k+1))) rfl (by rw [aG_,List.length_drop,HL2.out]) (fun h=>absurd h hsrc.out.2) (hsrc.out.1.keep (K7.out.trans (Lwb.out.mono K7.out.size))) (bA_ _) (by unfold maxLen;omega) (by omega) (by have:=Lwb.out.size;have:=K7.out.size;have:=HZ2.out;omega) ?_;intro vc wc hoc hgc hblk;have he:ah_ (s.outs.take k) ++ ah_ (s.outs.drop (k+1)) = ah_ (s.outs.eraseIdx k):=by rw [List.eraseIdx_eq_take_drop_succ,aS_]
 rw [he,show k+(m2 - (k+1)) = m2 - 1 by omega] at hoc;have Lwc:Hid (Below w7.heap.size w7 wc):=Lwb.out.grown hgc Lwb.out.size HBK.out;obtain ⟨ac,cc,hvc,-⟩:=aH_ hoc;subst hvc;have HOC:=hidI hoc;refine hK.out _ _ (SA.out _ Lwc.out) (fun hHc=>?_);clear hK K hgc hblk hob he hoc;try refine nrm ?_
 refine tk 12 ?_;refine rdy 13 (fun K hK=>?_);have b8:=pkp_ B7.out Lwc.out;have y1:=(aa_ b8).2.1;have f1:=foc_ b8 1;go_simp;generalize hw9:wc.setCell ⟨BX,1,none⟩ (.slice ac (m2 - 1) cc) = w9;have b9:w9.heap[BX]? = some (.cells #[.slice g1 l1 r1,.slice ac (m2 - 1) cc,.slice g3 l3 r3,.int .i64 s.nextSeq,.int .i64 s.nextTag,.int .i64 s.came,.int .i64 s.acked,.int .i64 s.dropped] 31 (0,0)):=by rw [← hw9];exact scb_ b8 (j:=1) _
 have t9:aZ_ BX wc w9:=by rw [← hw9];exact sct_ wc BX 1 _
 have r9:=(t9.block (w.heap.size+1) (by have:=Lwc.out.size;have:=K7.out.size;have:=HZ2.out;omega) (by have:=HBB.out;have:=HZ2.out;omega)).trans (pkp_ (pkp_ X1.out K7.out) Lwc.out);have hoc1:aM_ wc (w.heap.size+2) g1 ac g3 l1 r1 (m2 - 1) cc l3 r3 { s with outs:=s.outs.eraseIdx k }:=((HO7.out.lower (n':=w.heap.size+2) (by have:=HZ2.out;omega)).keep Lwc.out).outs (av_.of_below (Below.refl _ _)) (by omega) HOC.out;have ho9:=hoc1.turn b8 (by decide) t9;have hh:w9.cell? ⟨w.heap.size,1,none⟩ = some (.slice (some ⟨g,o,none⟩) m2 d2):=by
  have:=(t9.block w.heap.size (by have:=Lwc.out.size;have:=K7.out.size;have:=HZ2.out;omega) (by have:=HBB.out;have:=HZ2.out;omega)).trans (pkp_ (pkp_ X0.out K7.out) Lwc.out);exact (aa_ this).2.1
 refine hK.out _ _ hh (fun hHz=>?_);clear hK K hh b8 y1 f1 hoc1;try refine nrm ?_
 refine wpAnyH_done (by kernel_rfl) ?_ _;have KC9:Hid (Below w.heap.size w w9):=(K2.out.trans ((K7.out.trans (Lwc.out.mono K7.out.size)).mono K2.out.size)).trans (t9.below (by have:=Lwc.out.size;have:=K7.out.size;have:=HZ2.out;omega) (by have:=HBB.out;have:=HZ2.out;omega));have R9:=hidI r9;have HO9:=hidI ho9;obtain ⟨y0,y1,y2,y3,y4,y5,y6,y7⟩:=aa_ b9;obtain ⟨z0,z1,z2,z3,z4,z5,z6,z7⟩:=aa_ r9;have e0:=foc_ r9 0;have e1:=foc_ r9 1;have e2:=foc_ r9 2;have e3:=foc_ r9 3;have e4:=foc_ r9 4;have e5:=foc_ r9 5;have e6:=foc_ r9 6;have e7:=foc_ r9 7;clear b9 t9 r9 ho9 hHeld hHa hHb hHc hHz hw9;go_wp2_with fail
 generalize hW4:World.setCell (World.setCell (World.setCell (World.setCell (World.setCell (World.setCell (World.setCell (World.setCell w9 _ _) _ _) _ _) _ _) _ _) _ _) _ _) _ _ = W4;obtain ⟨b4,t4⟩:=store8 R9.out hW4;obtain ⟨z0,z1,z2,z3,z4,z5,z6,z7⟩:=aa_ b4;exact bodyPost_ret (v:=.agg #[.slice g1 l1 r1,.slice ac (m2 - 1) cc,.slice g3 l3 r3,.int .i64 s.nextSeq,.int .i64 s.nextTag,.int .i64 s.came,.int .i64 s.acked,.int .i64 s.dropped]) (by simp [results,Tryz.results80,go_sem,z0,z1,z2,z3,z4,z5,z6,z7]) rfl ⟨_,rfl,⟨_,_,_,_,_,_,_,_,_,rfl,(HO9.out.turn R9.out (by decide) t4).lower (by omega)⟩,KC9.out.trans (t4.below KC9.out.size (by omega))⟩
end Go.Proofs.YtlbnkpicnokgoaaGreat
