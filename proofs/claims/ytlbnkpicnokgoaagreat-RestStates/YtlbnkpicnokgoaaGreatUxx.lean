import Derived.Deep.RegionHeld3
import Derived.Laws.StructEq
import Derived.Test.YtlbnkpicnokgoaaGreatUox
import Derived.Test.YtlbnkpicnokgoaaGreatUbx
import Derived.Test.YtlbnkpicnokgoaaGreatUfx
import Derived.Test.YtlbnkpicnokgoaaGreatUax
import Derived.Test.YtlbnkpicnokgoaaGreatCUr
import Derived.Test.YtlbnkpicnokgoaaGreatUsx
import Derived.Test.YtlbnkpicnokgoaaGreatCKa
namespace Go.Proofs.YtlbnkpicnokgoaaGreat
open Go.RowKit Go.Maps
set_option linter.unusedVariables false
set_option maxRecDepth 100000
set_option maxHeartbeats 4000000
theorem ew_ (s:ab_) (b1 b2 b3 e1 e2 e3:Option Addr) (m1 d1 m2 d2 m3 d3 f1 f2 f3:Nat) (w:World) (ha:an_ w b1 b2 b3 m1 m2 m3 s) (hb:an_ w e1 e2 e3 m1 m2 m3 s) :
 Calls Tryz.prog 16 #[.agg #[.slice b1 m1 d1,.slice b2 m2 d2,.slice b3 m3 d3,.int .i64 s.nextSeq,.int .i64 s.nextTag,.int .i64 s.came,.int .i64 s.acked,.int .i64 s.dropped],.agg #[.slice e1 m1 f1,.slice e2 m2 f2,.slice e3 m3 f3,.int .i64 s.nextSeq,.int .i64 s.nextTag,.int .i64 s.came,.int .i64 s.acked,.int .i64 s.dropped]] w fun e w'=>e = .returned (.bool true)∧Below w.heap.size w w':=by
 obtain ⟨W2,hW2,hBw,hs2,hbx⟩:=nG_ w #[.slice b1 m1 d1,.slice b2 m2 d2,.slice b3 m3 d3,.int .i64 s.nextSeq,.int .i64 s.nextTag,.int .i64 s.came,.int .i64 s.acked,.int .i64 s.dropped] #[.slice e1 m1 f1,.slice e2 m2 f2,.slice e3 m3 f3,.int .i64 s.nextSeq,.int .i64 s.nextTag,.int .i64 s.came,.int .i64 s.acked,.int .i64 s.dropped];have HW2:=hidI hW2;have BX:=hidI hbx;have HA:=hidI (ha.keep hBw);have HB:=hidI (hb.keep hBw);have HBW:=hidI hBw;have HM1:Hid (s.ready.length = m1):=ha.l1;have HM2:Hid (s.outs.length = m2):=ha.l2;have HM3:Hid (s.takers.length = m3):=ha.l3;have hx1:=ha.x1;have hx2:=ha.x2;have hx3:=ha.x3;unfold maxLen at hx1 hx3;have s0:=hBw.size;have g1:((m1:Int) != (m1:Int)) = false:=by simp
 have g2:((m2:Int) != (m2:Int)) = false:=by simp
 have g3:((m3:Int) != (m3:Int)) = false:=by simp
 have g4:(s.nextSeq != s.nextSeq) = false:=by simp
 have g5:(s.nextTag != s.nextTag) = false:=by simp
 have g6:(s.came != s.came) = false:=by simp
 have g7:(s.acked != s.acked) = false:=by simp
 have g8:(s.dropped != s.dropped) = false:=by simp
 obtain ⟨y0,y1,y2,y3,y4,y5,y6,y7⟩:=aa_ (hbx W2 (Below.refl _ _)).1;obtain ⟨z0,z1,z2,z3,z4,z5,z6,z7⟩:=aa_ (hbx W2 (Below.refl _ _)).2;clear hW2 hbx hs2 ha hb hBw;go_enter Tryz.func16,Tryz.ntmps16;go_wp2_with fail
 rw [← HW2.out];clear y0 y1 y2 y3 y4 y5 y6 y7 z0 z1 z2 z3 z4 z5 z6 z7 g1 g2 g3 g4 g5 g6 g7 g8;go_loopw [5] (fun i wr=>∃ k:Nat,k≤m1∧i = .int .i64 k∧Below W2.heap.size W2 wr) (fun i _=>m1 - (intOf i).toNat)
 case atStart=>exact ⟨0,Nat.zero_le _,rfl,Below.refl _ _⟩
 case round=>
  obtain ⟨k,hk,rfl,hB⟩:=hrel;have hBs:=hB.size;have HBl:=hidI hB;obtain ⟨y0,y1,y2,y3,y4,y5,y6,y7⟩:=aa_ (BX.out wr hB).1;obtain ⟨z0,z1,z2,z3,z4,z5,z6,z7⟩:=aa_ (BX.out wr hB).2;by_cases hlt:k < m1
  ·have HLT:=hidI hlt;have hkl:k < s.ready.length:=by rw [HM1.out];exact hlt
   obtain ⟨g,o,b,c,ha,hg,hl⟩:=(HA.out.q1.keep hB).get hkl;obtain ⟨g',o',b',c',ha',hg',hl'⟩:=(HB.out.q1.keep hB).get hkl;subst ha ha';have c1:=hl.cell;have c2:=hl'.cell;obtain ⟨n,hn⟩:∃ n,n = (s.ready[k]'hkl).length:=⟨_,rfl⟩
   rw [← hn] at c1 c2;have SI:=hidI (kY_ (s.ready[k]'hkl) b b' n c c' wr.drew hn.symm (by rw [hn];exact Nat.le_trans hl.le hl.cm) (hl.it.keep (Below.refl _ _).drew) (hl'.it.keep (Below.refl _ _).drew));have j1:(0:Int)≤(k:Int):=by omega
   have j2:(k:Int) < m1:=by omega
   have SS:Hid (∀ W',Below wr.heap.size wr W'→(W'.cell? ⟨w.heap.size,0,none⟩ = some (.slice (some ⟨g,o,none⟩) m1 d1)∧W'.cell? ⟨w.heap.size+1,0,none⟩ = some (.slice (some ⟨g',o',none⟩) m1 f1)∧W'.cell? ⟨g,o+k,none⟩ = some (.slice b n c)∧W'.cell? ⟨g',o' + k,none⟩ = some (.slice b' n c'))):=fun W' hW'=>by
    have q:=BX.out W' (HBl.out.trans (hW'.mono hBs));exact ⟨coc_ q.1 0,coc_ q.2 0,(hW'.cell (p:=⟨g,o+k,none⟩) hg).trans c1,(hW'.cell (p:=⟨g',o' + k,none⟩) hg').trans c2⟩
   clear hl hl' hn;go_wp2_with fail
   refine wp_region_held_drew (S:=fun W'=>(W'.cell? ⟨w.heap.size,0,none⟩ = some (.slice (some ⟨g,o,none⟩) m1 d1)∧W'.cell? ⟨w.heap.size+1,0,none⟩ = some (.slice (some ⟨g',o',none⟩) m1 f1)∧W'.cell? ⟨g,o+k,none⟩ = some (.slice b n c)∧W'.cell? ⟨g',o' + k,none⟩ = some (.slice b' n c'))) (by kernel_rfl) (SS.out _ (Below.refl _ _).drew) (fun hHeld=>?_);refine tk 0 ?_;refine tk 1 ?_;refine tk 2 ?_;refine tk 3 ?_;refine tk 4 ?_;refine tk 5 ?_;refine tk 6 ?_;refine tk 7 ?_;refine tk 8 ?_;refine tk 9 ?_;refine rdy 10 (fun K hK=>?_);go_simp;refine SI.out.mono ?_;rintro e w3 ⟨rfl,k3'⟩;have k3:Below wr.heap.size wr w3:=bud_ k3';refine hK.out _ _ (SS.out _ k3) (fun hHeld2=>?_);clear hHeld hK K k3';try simp only [Act.put,List.getElem_toArray,List.getElem_cons_succ,List.getElem_cons_zero,List.setIfInBounds_toArray,List.set_cons_zero,List.set_cons_succ]
   refine tk 11 ?_;refine wpAnyH_done (by kernel_rfl) ?_ _;clear hHeld2;go_wp2_with fail
   go_roundw
   case rel=>exact ⟨k+1,HLT.out,by have:=HLT.out;go_num,HBl.out.trans (k3.mono hBs)⟩
   case measure=>have:=HLT.out;simp [intOf];omega
  ·have hke:m1 = k:=by omega
   subst hke;clear hlt hk;go_wp2_with fail
   clear y0 y1 y2 y3 y4 y5 y6 y7 z0 z1 z2 z3 z4 z5 z6 z7;go_loopw [6] (fun i wr=>∃ k:Nat,k≤m2∧i = .int .i64 k∧Below W2.heap.size W2 wr) (fun i _=>m2 - (intOf i).toNat)
   case atStart=>exact ⟨0,Nat.zero_le _,rfl,hB⟩
   case round=>
    clear hB hBs HBl;obtain ⟨k,hk,rfl,hB⟩:=hrel;have hBs:=hB.size;have HBl:=hidI hB;obtain ⟨y0,y1,y2,y3,y4,y5,y6,y7⟩:=aa_ (BX.out wr hB).1;obtain ⟨z0,z1,z2,z3,z4,z5,z6,z7⟩:=aa_ (BX.out wr hB).2;by_cases hlt:k < m2
    ·have HLT:=hidI hlt;have hkl:k < s.outs.length:=by rw [HM2.out];exact hlt
     obtain ⟨g,o,ha,hg,c0,c1,c2,c3,c4,c5,c6,c7⟩:=(HA.out.q2.keep hB).get hkl;obtain ⟨g',o',ha',hg',c0',c1',c2',c3',c4',c5',c6',c7'⟩:=(HB.out.q2.keep hB).get hkl;subst ha ha';have j1:(0:Int)≤(k:Int):=by omega
     have j2:(k:Int) < m2:=by omega
     go_wp2_with fail
     go_quiet (fail)
     go_wp2_with fail
     go_roundw
     case rel=>exact ⟨k+1,HLT.out,by have:=HLT.out;go_num,cS_ HBl.out⟩
     case measure=>have:=HLT.out;simp [intOf];omega
    ·have hke:m2 = k:=by omega
     subst hke;clear hlt hk;go_wp2_with fail
     clear y0 y1 y2 y3 y4 y5 y6 y7 z0 z1 z2 z3 z4 z5 z6 z7;go_loopw [7] (fun i wr=>∃ k:Nat,k≤m3∧i = .int .i64 k∧Below W2.heap.size W2 wr) (fun i _=>m3 - (intOf i).toNat)
     case atStart=>exact ⟨0,Nat.zero_le _,rfl,hB⟩
     case round=>
      clear hB hBs HBl;obtain ⟨k,hk,rfl,hB⟩:=hrel;have hBs:=hB.size;have HBl:=hidI hB;obtain ⟨y0,y1,y2,y3,y4,y5,y6,y7⟩:=aa_ (BX.out wr hB).1;obtain ⟨z0,z1,z2,z3,z4,z5,z6,z7⟩:=aa_ (BX.out wr hB).2;by_cases hlt:k < m3
      ·have HLT:=hidI hlt;have hkl:k < s.takers.length:=by rw [HM3.out];exact hlt
       obtain ⟨g,o,ha,hg,c0,c1⟩:=(HA.out.q3.keep hB).get hkl;obtain ⟨g',o',ha',hg',c0',c1'⟩:=(HB.out.q3.keep hB).get hkl;subst ha ha';have j1:(0:Int)≤(k:Int):=by omega
       have j2:(k:Int) < m3:=by omega
       go_wp2_with fail
       go_quiet (fail)
       go_wp2_with fail
       go_roundw
       case rel=>exact ⟨k+1,HLT.out,by have:=HLT.out;go_num,cS_ HBl.out⟩
       case measure=>have:=HLT.out;simp [intOf];omega
      ·have hke:m3 = k:=by omega
       subst hke;clear hlt hk;go_wp2_with fail
       go_ret
       exact ⟨rfl,HBW.out.trans (HBl.out.mono s0)⟩
theorem nw_ {s:ab_} {E:Int} {u v:Value} {w:World} {n n':Nat} (hu:bn_ w n u E s) (hv:bn_ w n' v E s):Calls Tryz.prog 16 #[u,v] w fun e w'=>e = .returned (.bool true)∧Below w.heap.size w w':=by
 by_cases hE:E = 0
 ·obtain ⟨b1,b2,b3,m1,d1,m2,d2,m3,d3,rfl,h1⟩:=hu.1 hE;obtain ⟨e1,e2,e3,k1,f1,k2,f2,k3,f3,rfl,h2⟩:=hv.1 hE;have q1:k1 = m1:=h2.l1.symm.trans h1.l1;have q2:k2 = m2:=h2.l2.symm.trans h1.l2;have q3:k3 = m3:=h2.l3.symm.trans h1.l3;subst q1 q2 q3;exact ew_ s _ _ _ _ _ _ _ _ _ _ _ _ _ _ _ w h1.state h2.state
 ·rw [hu.2 hE,hv.2 hE];have h0:an_ w none none none 0 0 0 (fp_ 0):=⟨rfl,rfl,rfl,Nat.zero_le _,Nat.zero_le _,Nat.zero_le _,.inl rfl,.inl rfl,.inl rfl⟩;exact ew_ (fp_ 0) _ _ _ _ _ _ _ _ _ _ _ _ _ _ _ w h0 h0
structure mQ_ (W:World) (B:Nat) (u:Array Value) (n:Nat) (E:Int) (s:ab_):Prop where
 box:W.heap[B]? = some (.cells u 31 (0,0))
 res:bn_ W n (.agg u) E s
theorem mQ_.keep {W W':World} {B:Nat} {u:Array Value} {n:Nat} {E:Int} {s:ab_} (h:mQ_ W B u n E s) (hB:Below W.heap.size W W'):mQ_ W' B u n E s:=⟨pkp_ h.box hB,h.res.keep hB⟩
theorem fR_ {W:World} {u:Array Value} {n:Nat} {E:Int} {s:ab_} (h:bn_ W n (.agg u) E s):∃ W',W' = W.alloc (.cells u 31)∧Below W.heap.size W W'∧mQ_ W' W.heap.size u n E s:=
 ⟨_,rfl,(Below.refl _ _).alloc (Nat.le_refl _) _,World.alloc_heap_new W _,h.keep ((Below.refl _ _).alloc (Nat.le_refl _) _)⟩
structure Done (p:ad_) (s t:ab_):Prop where
 was:ak_ p s 0
 right:ak_ p t 0
 came:s.came≤t.came
 acked:s.acked≤t.acked
 dropped:s.dropped≤t.dropped
 tag:s.nextTag≤t.nextTag
 len:t.ready.length = s.ready.length
theorem oN_ {p:ad_} {s:ab_} {q most:Int} (h:dn_ p s q most = 0):ak_ p s 0∧ar_ q p.queues.length = true∧inR most 1 4 = true∧¬ (goneIdx s.takers = s.takers.length∧4≤s.takers.length):=by
 unfold dn_ at h;by_cases h1:stE p s = 0
 ·rw [if_neg (by simp [h1])] at h;unfold hs_ at h;by_cases h2:ar_ q p.queues.length = false
  ·rw [if_pos h2] at h;cases h
  ·rw [if_neg h2] at h;by_cases h3:inR most 1 4 = false
   ·rw [if_pos h3] at h;cases h
   ·rw [if_neg h3] at h;by_cases h4:goneIdx s.takers = s.takers.length∧4≤s.takers.length
    ·rw [if_pos h4] at h;cases h
    ·exact ⟨aK_ h1,by simpa using h2,by simpa using h3,h4⟩
 ·rw [if_pos h1] at h;exact absurd h h1
theorem jZ_ {p:ad_} {s:ab_} {post:Int} {key body:ByteArray} (h:pubE p s post key body = 0):ak_ p s 0∧rtE p post key = 0∧body.size≤12∧(pubL p post key body).length≤4∧(∀ a ∈ pubL p post key body,c9_ p a)∧s.nextSeq≤524288:=by
 unfold pubE at h;by_cases h1:stE p s = 0
 ·rw [if_neg (by simp [h1])] at h;unfold pubX at h;by_cases h2:rtE p post key = 0
  ·rw [if_neg (by simp [h2])] at h;by_cases h3:12 < body.size
   ·rw [if_pos h3] at h;cases h
   ·rw [if_neg h3] at h;unfold letE at h;rw [if_neg (by simp [h1])] at h;obtain ⟨g1,g2,g3⟩:=hb_ h;exact ⟨aK_ h1,h2,by omega,g1,g2,g3⟩
  ·rw [if_pos h2] at h;exact absurd h h2
 ·rw [if_pos h1] at h;exact absurd h h1
theorem no_ {p:ad_} {s:ab_} {post:Int} {key body:ByteArray} (h:pubE p s post key body = 0):∃ n,Arrived p s (arrS p 600 s (pubL p post key body)) n:=by
 obtain ⟨h1,h2,h3,h4,h5,h6⟩:=jZ_ h;exact ⟨_,(hd_ 600 h1 h5 (Nat.le_trans (l7_ h1 h4) (by omega)) (by omega)).1⟩
theorem Arrived.fin {p:ad_} {s t:ab_} {n:Nat} (hs:ak_ p s 0) (h:Arrived p s t n):Done p s t:=
 ⟨hs,h.right,by have:=h.came;omega,by rw [h.acked];exact Int.le_refl _,h.dropped,by rw [h.tag];exact Int.le_refl _,h.len⟩
theorem n1_ {p:ad_} {s:ab_} {x:ActD} (h:doE p s x = 0):Done p s (doS p s x):=by
 unfold doE at h;unfold doS;by_cases h1:x.kind = 1
 ·rw [if_pos h1] at h ⊢;obtain ⟨n,hn⟩:=no_ h;exact hn.fin (jZ_ h).1
 rw [if_neg h1] at h ⊢;by_cases h2:x.kind = 2
 ·rw [if_pos h2] at h ⊢;obtain ⟨g1,g2,g3,g4⟩:=oN_ h;exact ⟨g1,g1.join g2 g3 g4,Int.le_refl _,Int.le_refl _,Int.le_refl _,Int.le_refl _,rfl⟩
 rw [if_neg h2] at h ⊢;by_cases h3:x.kind = 3
 ·rw [if_pos h3] at h ⊢;have g:=leaves h;exact ⟨g.was,g.right,g.came,by rw [g.acked];exact Int.le_refl _,g.dropped,by rw [g.tag];exact Int.le_refl _,g.len⟩
 rw [if_neg h3] at h ⊢;by_cases h4:x.kind = 4
 ·rw [if_pos h4] at h ⊢;obtain ⟨k,y,r,g⟩:=m0_ h;exact ⟨g.right,g.done,Int.le_refl _,Int.le_refl _,Int.le_refl _,by show s.nextTag≤s.nextTag+1;omega,List.length_set⟩
 rw [if_neg h4] at h ⊢;by_cases h5:x.kind = 5
 ·rw [if_pos h5] at h ⊢;obtain ⟨g,i,o,ho⟩:=ha_ h;exact ⟨g,g.ack ho,Int.le_refl _,by show s.acked≤s.acked+1;omega,Int.le_refl _,Int.le_refl _,rfl⟩
 rw [if_neg h5] at h ⊢;by_cases h6:x.kind = 6
 ·rw [if_pos h6] at h;obtain ⟨i,o,n,ho,hn,g⟩:=rejected h (x.b != 0);exact ⟨(j2_ h).1,g.right,by have:=g.came;omega,by rw [g.acked];exact Int.le_refl _,g.dropped,by rw [g.tag];exact Int.le_refl _,g.len⟩
 ·rw [if_neg h6] at h;cases h
end Go.Proofs.YtlbnkpicnokgoaaGreat
