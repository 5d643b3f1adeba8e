import Derived.Deep.RegionHeld3
import Derived.Deep.DeepCutAuto
import Derived.Test.YtlbnkpicnokgoaaGreatUnx
import Derived.Test.YtlbnkpicnokgoaaGreatUax
namespace Go.Proofs.YtlbnkpicnokgoaaGreat
open Go.RowKit Go.Maps
set_option linter.unusedVariables false
set_option maxRecDepth 100000
set_option maxHeartbeats 30000000
theorem aU_ {L E:TypeId} {size bytes:Nat} (hE:eY_ L E size bytes) {w:World} {ops:Array Oper} {o:Oper} {act:Act} {K:Act→World→Prop} {Q:Exit→Act→World→Prop} {F:Prop} (hw:Region.wanted o (yielded ops act.tmps) = true) (s x:Operand)
 (ho:o.op = .call { callee:=.builtin .append,args:=#[s,x],argTypes:=#[L,L] })
 (base:Nat) (v:Value) (n:Nat) (cs:List Value) (hs:act.eval s = v) (hown:w.ownsRow base E size v n cs)
 (a:Option Addr) (m c:Nat) (ds:List Value) (hx:act.eval x = .slice a m c) (hm:ds.length = m * size) (hz:a = none→c = 0∧m = 0) (hT:aO_ w a ds) (h1:∀ u ∈ ds,u.oneCell' = true)
 (hb:n+m≤maxLen) (hby:(n+m) * bytes≤140737488355328) (hbase:base≤w.heap.size)
 (h:∀ v' w',w'.ownsRow base E size v' (n+m) (cs ++ ds)→w.grownBy w' v.ownBlock→(v'.ownBlock = v.ownBlock∨v'.ownBlock = some w.heap.size)→K (act.put o.dst v') w') :
 if Region.wanted o (yielded ops act.tmps) = true then Oper.wp Tryz.prog o act w K Q else F:=by
 rw [if_pos hw];exact cQ_ hE s x ho base v n cs hs hown a m c ds hx hm hz hT h1 hb hby hbase h
theorem hl_ (p:ad_) (a1 a2 a3:Option Addr) (n1 c1 n2 c2 n3 c3:Nat) (s:ab_) (q:Int) (Bp Bq:Nat) (w:World) (hp:ap_ w a1 a2 a3 n1 n2 n3 p) (x0:w.heap[Bp]? = some (.cells #[.slice a1 n1 c1,.slice a2 n2 c2,.slice a3 n3 c3] 26 (0,0))) (x1:w.heap[Bq]? = some (.cells #[.int .i64 q] 3 (0,0))) (hR:ak_ p s 0) :
 Does 104 #[.pointer (some ⟨Bp,0,none⟩),.pointer (some ⟨Bq,0,none⟩)] w s (delE p s q) s.nextTag (delS s q):=by
 intro W n t hBW hwt htn hnW hbx;obtain ⟨b1,b2,b3,m1,d1,m2,d2,m3,d3,hb,ho⟩:=hbx;obtain ⟨E,hE⟩:∃ E,E = delE p s q:=⟨_,rfl⟩
 rw [← hE];have HE:=hidI hE;have HO:=hidI ho;have HB:=hidI hb;have HP:=hidI (hp.keep hBW);have HR:=hidI hR;have X0:=hidI (pkp_ x0 hBW);have X1:=hidI (pkp_ x1 hBW);have hlp:=lth_ x0;have hlq:=lth_ x1;have hsz:=hBW.size;have hap:(#[Value.pointer (some ⟨t,0,none⟩)] ++ #[Value.pointer (some ⟨Bp,0,none⟩),Value.pointer (some ⟨Bq,0,none⟩)]:Array Value) = #[.pointer (some ⟨t,0,none⟩),.pointer (some ⟨Bp,0,none⟩),.pointer (some ⟨Bq,0,none⟩)]:=rfl;rw [hap];clear hE ho hb hp hR x0 x1 hap hBW;go_enter Tryz.func104,Tryz.ntmps104;go_wp2_with fail
 have SS:Hid (∀ W',Below W.heap.size W W'→((W'.cell? ⟨Bp,0,none⟩ = some (.slice a1 n1 c1)∧W'.cell? ⟨Bp,1,none⟩ = some (.slice a2 n2 c2)∧W'.cell? ⟨Bp,2,none⟩ = some (.slice a3 n3 c3))∧(W'.cell? ⟨t,0,none⟩ = some (.slice b1 m1 d1)∧W'.cell? ⟨t,1,none⟩ = some (.slice b2 m2 d2)∧W'.cell? ⟨t,2,none⟩ = some (.slice b3 m3 d3)∧W'.cell? ⟨t,3,none⟩ = some (.int .i64 s.nextSeq)∧W'.cell? ⟨t,4,none⟩ = some (.int .i64 s.nextTag)∧W'.cell? ⟨t,5,none⟩ = some (.int .i64 s.came)∧W'.cell? ⟨t,6,none⟩ = some (.int .i64 s.acked)∧W'.cell? ⟨t,7,none⟩ = some (.int .i64 s.dropped))∧W'.cell? ⟨Bq,0,none⟩ = some (.int .i64 q))):=fun W' hW'=>⟨ag_ (pkp_ X0.out hW'),aa_ (pkp_ HB.out hW'),coc_ (pkp_ X1.out hW') 0⟩
 refine wp_region_held_drew (S:=fun W'=>((W'.cell? ⟨Bp,0,none⟩ = some (.slice a1 n1 c1)∧W'.cell? ⟨Bp,1,none⟩ = some (.slice a2 n2 c2)∧W'.cell? ⟨Bp,2,none⟩ = some (.slice a3 n3 c3))∧(W'.cell? ⟨t,0,none⟩ = some (.slice b1 m1 d1)∧W'.cell? ⟨t,1,none⟩ = some (.slice b2 m2 d2)∧W'.cell? ⟨t,2,none⟩ = some (.slice b3 m3 d3)∧W'.cell? ⟨t,3,none⟩ = some (.int .i64 s.nextSeq)∧W'.cell? ⟨t,4,none⟩ = some (.int .i64 s.nextTag)∧W'.cell? ⟨t,5,none⟩ = some (.int .i64 s.came)∧W'.cell? ⟨t,6,none⟩ = some (.int .i64 s.acked)∧W'.cell? ⟨t,7,none⟩ = some (.int .i64 s.dropped))∧W'.cell? ⟨Bq,0,none⟩ = some (.int .i64 q))) (by kernel_rfl) (SS.out _ (Below.refl _ _).drew) (fun hHeld=>?_);refine tk 0 ?_;refine tk 1 ?_;refine tk 2 ?_;refine tk 3 ?_;refine tk 4 ?_;refine rdy 5 (fun K hK=>?_);go_simp;refine (nj_ p _ _ _ _ _ _ _ _ _ s _ _ _ _ _ _ _ _ _ q _ (HP.out.keep (Below.refl _ _).drew) ((HO.out.state).keep (Below.refl _ _).drew)).mono ?_
 rintro e w1 ⟨rfl,k1'⟩;have k1:Below W.heap.size W w1:=bud_ k1';refine hK.out _ _ (SS.out _ k1) (fun hHeld2=>?_);clear hHeld hK K k1';try simp only [Act.put,List.getElem_toArray,List.getElem_cons_succ,List.getElem_cons_zero,List.setIfInBounds_toArray,List.set_cons_zero,List.set_cons_succ]
 refine tk 6 ?_;refine tk 7 ?_;refine tk 8 ?_;refine tk 9 ?_;refine tk 10 ?_;refine wpAnyH_done (by kernel_rfl) ?_ _;clear hHeld2;obtain ⟨E1,hE1⟩:∃ E1,E1 = dc_ p s q:=⟨_,rfl⟩
 obtain ⟨N1,hN1⟩:∃ N1,N1 = a9_ E1 (ce_ s q):=⟨_,rfl⟩
 rw [← hE1,← hN1];have HE1:=hidI hE1;have HN1:=hidI hN1;have s1:=k1.size;have k1':=k1.alloc s1 (.cells #[.int .i64 E1] 33);have s1':=k1'.size;clear hE1 hN1;by_cases hz:E1 = 0
 ·subst hz;obtain ⟨_,q0,q1,⟨x,r,hln⟩,kk,hkk,hLL⟩:=f5_ HE1.out.symm;obtain ⟨j,rfl⟩:=Int.eq_ofNat_of_zero_le q0;have hN:N1 = (kk:Int):=by rw [HN1.out];unfold a9_;rw [if_pos rfl,hkk]
  subst hN;have HE2:Hid (E = if s.nextTag = 1048576 then 2 else 0):=by show E = _;rw [HE.out];unfold delE;rw [if_neg (by simp [← HE1.out])]
  go_wp2_with (go_at_call 47;refine (dY_ _ _ (aP_ _ _ _) (by simp)).mono ?_;rintro e w2 ⟨rfl,hB2⟩;have k2:=k1'.trans (hB2.mono s1');have K2:=hidI k2;obtain ⟨y0,y1,y2,y3,y4,y5,y6,y7⟩:=aa_ (pkp_ HB.out k2);clear hB2)
  have s2:=K2.out.size;have HLL:=hidI hLL;have HLN:=hidI hln;have HKK:=hidI hkk;have HQ1:=hidI q1;clear hLL hln hkk q1;by_cases hm:s.nextTag = 1048576
  ·refine (ax_ 2 [(s.nextTag == 1048576)] _ _ (by simp) (bng_ w2 _ rfl) (by simp [hm])).mono ?_;rintro e w3 ⟨rfl,rfl⟩;have e2:E = 2:=by rw [HE2.out,if_pos hm]
   exact ⟨rfl,ac_.of_below (K2.out.alloc s2 _) hnW,.inl ⟨by rw [e2];decide,by rw [e2];rfl⟩⟩
  ·refine (aF_ 2 [(s.nextTag == 1048576)] _ _ (by simp) (bng_ w2 _ rfl) (by simp [hm])).mono ?_;rintro e w3 ⟨rfl,hw3⟩;have HE0:Hid (E = 0):=by show E = 0;rw [HE2.out,if_neg hm]
   have k3:Below W.heap.size W w3:=by rw [hw3];exact K2.out.alloc s2 _
   have hnt:=HR.out.nt;have K3:=hidI k3;have s3:=k3.size;have hql:j < s.ready.length:=by rw [HR.out.len];have:=HQ1.out;omega
   have ho3:=HO.out.keep k3;obtain ⟨vs,hr1,hlv⟩:=ho3.r1;obtain ⟨g,rfl⟩:∃ g,b1 = some ⟨g,0,none⟩:=by
    rcases hr1.2 with ⟨e,e0⟩ | ⟨g,cap,cur,e,_⟩
    ·exfalso;have:=HO.out.l1;omega
    ·cases e;exact ⟨g,rfl⟩
   obtain ⟨v,bl,cl,hv1,hlj⟩:=hlv.get j hql;have hcell:=hr1.cellAt j (by have:=HO.out.l1;omega);have hfroz:=hr1.frozenAt j;rw [hv1,hlj.v] at hcell;have hsj:s.ready[j]'hql = x :: r:=by rw [← a3_ hql];exact HLN.out
   rw [hsj] at hcell hlj;obtain ⟨gi,oi,cur,hbl,hgi,hgh⟩:∃ gi oi cur,bl = some ⟨gi,oi,none⟩∧n≤gi∧w3.heap[gi]? = some (.cells cur 48 (0,0)):=by
    rcases hlj.own with e | h
    ·exfalso;have:=hlj.nil e;have:=hlj.le;simp at this;omega
    ·exact h
   subst hbl;have hit:aR_ w3 gi oi x:=by
    rcases hlj.it with e | ⟨g',o',e,_,h⟩
    ·cases e
    ·cases e;have:=h 0 (by simp);simpa only [List.getElem_cons_zero,Nat.zero_mul,Nat.add_zero] using this
   obtain ⟨i0,i1,i2,i3,i4⟩:=hit;have hlm:j < m1:=by have:=HO.out.l1;omega
   have hcl:=hlj.le;simp only [List.length_cons] at hcl hcell;obtain ⟨L,hL⟩:∃ L,L = r.length:=⟨_,rfl⟩
   rw [← hL] at hcl hcell;have HL:=hidI hL;have HLJ:=hidI hlj;have HO3:=hidI ho3;have HG:=hidI hgh;have HSJ:=hidI hsj;have HQL:=hidI hql;have hgs:gi < w3.heap.size:=lth_ hgh;have hggs:g < w3.heap.size:=(hr1.lt g rfl).2;have hcm:=hlj.cm;unfold maxLen at hcm;clear hw3 y0 y1 y2 y3 y4 y5 y6 y7 hr1 hlv hv1 hlj hsj hL ho3 hgh;obtain ⟨y0,y1,y2,y3,y4,y5,y6,y7⟩:=aa_ (pkp_ HB.out k3);have cq:=coc_ (pkp_ X1.out k3) 0;simp at cq;have j1:(0:Int)≤(j:Int):=by omega
   have j2:(j:Int) < m1:=by omega
   have j3:(0:Int) < ((L+1:Nat):Int):=by omega
   have BA:Hid (∀ o,Below w3.heap.size w3 (w3.alloc o)):=fun o=>(Below.refl _ _).alloc (Nat.le_refl _) o
   have E1:∀ o,(w3.alloc o).cell? ⟨Bq,0,none⟩ = some (.int .i64 j):=fun o=>((BA.out o).cell (p:=⟨Bq,0,none⟩) (show Bq < w3.heap.size by omega)).trans cq
   have E2:∀ o,(w3.alloc o).cell? ⟨t,0,none⟩ = some (.slice (some ⟨g,0,none⟩) m1 d1):=fun o=>((BA.out o).cell (p:=⟨t,0,none⟩) (show t < w3.heap.size by omega)).trans y0
   have E3:∀ o,(w3.alloc o).cell? ⟨g,j,none⟩ = some (.slice (some ⟨gi,oi,none⟩) (L+1) cl):=fun o=>((BA.out o).cell (p:=⟨g,j,none⟩) hggs).trans hcell
   have G0:∀ o,(w3.alloc o).cell? ⟨gi,oi,none⟩ = some _:=fun o=>((BA.out o).cell (p:=⟨gi,oi,none⟩) hgs).trans i0
   have G1:∀ o,(w3.alloc o).cell? ⟨gi,oi+1,none⟩ = some _:=fun o=>((BA.out o).cell (p:=⟨gi,oi+1,none⟩) hgs).trans i1
   have G2:∀ o,(w3.alloc o).cell? ⟨gi,oi+2,none⟩ = some _:=fun o=>((BA.out o).cell (p:=⟨gi,oi+2,none⟩) hgs).trans i2
   have G3:∀ o,(w3.alloc o).cell? ⟨gi,oi+3,none⟩ = some _:=fun o=>((BA.out o).cell (p:=⟨gi,oi+3,none⟩) hgs).trans i3
   have G4:∀ o,(w3.alloc o).cell? ⟨gi,oi+4,none⟩ = some _:=fun o=>((BA.out o).cell (p:=⟨gi,oi+4,none⟩) hgs).trans i4
   clear k2 k3;go_wp2_with fail
   go_region
   obtain ⟨w4,hw4⟩:∃ w4,w4 = (w3.alloc (.cells #[.int .i64 x.seq,.string x.key,.string x.body,.bool x.again,.int .i64 x.deaths] 48)).drew:=⟨_,rfl⟩
   rw [← hw4];have k4':Below w3.heap.size w3 w4:=by rw [hw4];exact (BA.out _).drew
   have xb:w4.heap[w3.heap.size]? = some (.cells #[.int .i64 x.seq,.string x.key,.string x.body,.bool x.again,.int .i64 x.deaths] 48 (0,0)):=by rw [hw4];exact World.alloc_heap_new w3 _
   have k4:=K3.out.trans (k4'.mono s3);have K4:=hidI k4;have K4':=hidI k4';have XB:=hidI xb;have s4:=k4'.size;have hcell4:=(k4'.cell (p:=⟨g,j,none⟩) hggs).trans hcell;have hfroz4:=(k4'.frozen (p:=⟨g,j,none⟩) hggs).trans hfroz;clear E1 E2 E3 G0 G1 G2 G3 G4 y0 y1 y2 y3 y4 y5 y6 y7 cq i0 i1 i2 i3 i4 hcell hfroz BA hw4;obtain ⟨y0,y1,y2,y3,y4,y5,y6,y7⟩:=aa_ (pkp_ HB.out k4);have cq:=coc_ (pkp_ X1.out k4) 0;simp at cq;have u1:(1:Int)≤((L+1:Nat):Int):=by omega
   have u2:((L+1:Nat):Int)≤(cl:Int):=by omega
   have u3:(1:Int)≤(cl:Int):=by omega
   have u4:(1:Int)≤(L:Int)+1:=by omega
   have u5:(L:Int)+1≤(cl:Int):=by omega
   clear k4 k4' xb;go_wp2_with fail
   go_region
   obtain ⟨A,hA⟩:∃ A,A = if cl = 1 then some (⟨gi,oi,none⟩:Addr) else some ⟨gi,oi+5,none⟩:=⟨_,rfl⟩
   rw [← hA];have hA2:A = if cl = 1 then some (⟨gi,oi,none⟩:Addr) else Option.map (fun y:Addr=>y.add (1 * 5)) (some (⟨gi,oi,none⟩:Addr)):=by rw [hA,Option.map_some,cN_]
   obtain ⟨oA,hoA⟩:∃ oA,A = some ⟨gi,oA,none⟩:=by rw [hA];split <;> exact ⟨_,rfl⟩
   have hlv4:cG_ w4 n r (.slice A L (cl - 1)) A (cl - 1):=by
    refine ⟨by rw [HL.out],by have:=HL.out;omega,by unfold maxLen;omega,(fun e=>by rw [hoA] at e;cases e),?_,.inr ⟨gi,oA,cur,hoA,hgi,pkp_ HG.out K4'.out⟩⟩;have:=(HLJ.out.it.keep K4'.out).drop 1 cl HLJ.out.le;rw [List.drop_one,List.tail_cons,← hA2] at this;exact this
   have ho4:=(HO3.out.keep K4'.out).line HQL.out hlv4 rfl;have hf5:ac_ n t W (w4.setCell ⟨g,j,none⟩ (.slice A L (cl - 1))):=(ac_.of_below K4.out hnW).typeSet (aT_ (HO3.out.r1.choose_spec.1)).1 _;have hky:av_ 46 w4 (w4.setCell ⟨g,j,none⟩ (.slice A L (cl - 1))):=by
    obtain ⟨_,cu,hcu⟩:=aT_ (HO3.out.r1.choose_spec.1);exact av_.setCell (pkp_ hcu K4'.out) _
   obtain ⟨w5,hw5⟩:∃ w5,w5 = (w4.setCell ⟨g,j,none⟩ (.slice A L (cl - 1))).drew:=⟨_,rfl⟩
   rw [← hw5];have ho5:aM_ w5 n (some ⟨g,0,none⟩) b2 b3 m1 d1 m2 d2 m3 d3 { s with ready:=s.ready.set j r }:=by rw [hw5];exact ho4.keep (Below.refl _ _).drew
   have hF5:ac_ n t W w5:=by rw [hw5];exact hf5.drew
   have hb5:w5.heap[t]? = some (.cells #[.slice (some ⟨g,0,none⟩) m1 d1,.slice b2 m2 d2,.slice b3 m3 d3,.int .i64 s.nextSeq,.int .i64 s.nextTag,.int .i64 s.came,.int .i64 s.acked,.int .i64 s.dropped] 31 (0,0)):=by rw [hw5];exact (hky.block t _ _ (pkp_ HB.out K4.out) (by decide)).trans (pkp_ HB.out K4.out)
   have hx5:w5.heap[w3.heap.size]? = some (.cells #[.int .i64 x.seq,.string x.key,.string x.body,.bool x.again,.int .i64 x.deaths] 48 (0,0)):=by rw [hw5];exact (hky.block _ _ _ XB.out (by decide)).trans XB.out
   have hq5:w5.heap[Bq]? = some (.cells #[.int .i64 (j:Int)] 3 (0,0)):=(hF5.block Bq (by omega) (by omega)).trans X1.out;have HO5:=hidI ho5;have HF5:=hidI hF5;have HB5:=hidI hb5;have HX5:=hidI hx5;have HQ5:=hidI hq5;have hnw5:n≤w5.heap.size:=by have:=hF5.size;omega
   clear hA hA2 hoA hlv4 ho4 hf5 hky hw5 ho5 hF5 hb5 hx5 hq5 hcell4 hfroz4 y0 y1 y2 y3 y4 y5 y6 y7 cq u1 u2 u3 u4 u5;go_wp2_with fail
   go_cut [] (fun wx=>∃ b2' d2',wx.heap[t]? = some (.cells #[.slice (some ⟨g,0,none⟩) m1 d1,.slice b2' (m2+1) d2',.slice b3 m3 d3,.int .i64 s.nextSeq,.int .i64 s.nextTag,.int .i64 s.came,.int .i64 s.acked,.int .i64 s.dropped] 31 (0,0))∧aM_ wx n (some ⟨g,0,none⟩) b2' b3 m1 d1 (m2+1) d2' m3 d3 { s with ready:=s.ready.set j r,outs:=s.outs ++ [⟨s.nextTag,kk,j,x⟩] }∧ac_ n t W wx)
   case first=>
    refine wp_region_held_drew (S:=fun W'=>W'.cell? ⟨Bq,0,none⟩ = some (.int .i64 j)∧W'.cell? ⟨w3.heap.size,0,none⟩ = some (.int .i64 x.seq)∧W'.cell? ⟨w3.heap.size,1,none⟩ = some (.string x.key)∧W'.cell? ⟨w3.heap.size,2,none⟩ = some (.string x.body)∧W'.cell? ⟨w3.heap.size,3,none⟩ = some (.bool x.again)∧W'.cell? ⟨w3.heap.size,4,none⟩ = some (.int .i64 x.deaths)) (by kernel_rfl) ⟨coc_ HQ5.out 0,coc_ HX5.out 0,coc_ HX5.out 1,coc_ HX5.out 2,coc_ HX5.out 3,coc_ HX5.out 4⟩ (fun hHeld=>?_);refine tk 0 ?_;refine tk 1 ?_;refine tk 2 ?_;refine tk 3 ?_;refine tk 5 ?_;refine tk 6 ?_;refine tk 7 ?_;refine tk 8 ?_;refine tk 9 ?_;have l6:Below w5.heap.size w5 (w5.drew.alloc (.cells #[.int .i64 s.nextTag,.int .i64 (kk:Int),.int .i64 (j:Int),.int .i64 x.seq,.string x.key,.string x.body,.bool x.again,.int .i64 x.deaths] 67)):=(Below.refl _ _).drew.alloc (Nat.le_refl _) _
    have L6:=hidI l6;have HO6:=hidI (HO5.out.keep l6);have HRW:Hid (aO_ (w5.drew.alloc (.cells #[.int .i64 s.nextTag,.int .i64 (kk:Int),.int .i64 (j:Int),.int .i64 x.seq,.string x.key,.string x.body,.bool x.again,.int .i64 x.deaths] 67)) (some ⟨w5.heap.size,0,none⟩) (ah_ [⟨s.nextTag,kk,j,x⟩])):=.inr ⟨_,0,rfl,by simp,fun i u hi=>by
     rw [Nat.zero_add];refine Eq.trans (coc_ (World.alloc_heap_new w5.drew _) i) ?_;have:(ah_ [⟨s.nextTag,kk,j,x⟩])[i]? = (#[Value.int .i64 s.nextTag,.int .i64 (kk:Int),.int .i64 (j:Int),.int .i64 x.seq,.string x.key,.string x.body,.bool x.again,.int .i64 x.deaths]:Array Value)[i]?:=by simp [ah_,OutD.cells]
     rw [← this];exact hi⟩
    have SX:Hid (∀ W':World,W'.heap[Bq]? = some (.cells #[.int .i64 (j:Int)] 3 (0,0))→W'.heap[w3.heap.size]? = some (.cells #[.int .i64 x.seq,.string x.key,.string x.body,.bool x.again,.int .i64 x.deaths] 48 (0,0))→W'.cell? ⟨Bq,0,none⟩ = some (.int .i64 j)∧W'.cell? ⟨w3.heap.size,0,none⟩ = some (.int .i64 x.seq)∧W'.cell? ⟨w3.heap.size,1,none⟩ = some (.string x.key)∧W'.cell? ⟨w3.heap.size,2,none⟩ = some (.string x.body)∧W'.cell? ⟨w3.heap.size,3,none⟩ = some (.bool x.again)∧W'.cell? ⟨w3.heap.size,4,none⟩ = some (.int .i64 x.deaths)):=fun W' h1 h2=>⟨coc_ h1 0,coc_ h2 0,coc_ h2 1,coc_ h2 2,coc_ h2 3,coc_ h2 4⟩
    have HM2:Hid (m2≤1000):=by show m2≤1000;rw [← HO3.out.l2];exact (bM_ HR.out).2.2.1
    have e5:=coc_ HB5.out 1;simp at e5;have e6:(w5.alloc (.cells #[.int .i64 s.nextTag,.int .i64 (kk:Int),.int .i64 (j:Int),.int .i64 x.seq,.string x.key,.string x.body,.bool x.again,.int .i64 x.deaths] 67)).cell? ⟨t,1,none⟩ = some (.slice b2 m2 d2):=coc_ (pkp_ HB5.out ((Below.refl _ _).alloc (Nat.le_refl _) _)) 1;clear l6;refine wpAnyH_ready (rs:=[4,10]) (by kernel_rfl) (by simp) ?_;refine AllReadyH.cons rfl (fun K hK=>?_) (AllReadyH.cons rfl (fun K hK=>?_) AllReadyH.nil)
    ·go_simp;refine hK.out _ _ (SX.out _ HQ5.out HX5.out) (fun hH6=>?_);clear hK K;try refine nrm ?_
     refine rdy 10 (fun K hK=>?_);go_simp;refine hK.out _ _ (SX.out _ (pkp_ HQ5.out L6.out) (pkp_ HX5.out L6.out)) (fun hH6=>?_);clear hK K;try refine nrm ?_
     as_aux_lemma=>
      refine rdy 11 (fun K hK=>?_);refine aU_ er_ (by kernel_rfl) _ _ rfl n _ m2 (ah_ s.outs) rfl HO6.out.r2 (some ⟨w5.heap.size,0,none⟩) 1 1 (ah_ [⟨s.nextTag,kk,j,x⟩]) rfl rfl (fun h=>by cases h) HRW.out (bA_ _) (by unfold maxLen;have:=HO6.out.x2;omega) (by have:=HO6.out.x2;omega) (Nat.le_trans hnw5 L6.out.size) ?_;intro v7 w7 hown7 hgrow7 hblk7;obtain ⟨a7,c7,rfl,-⟩:=aH_ hown7;have kt7:=av_.grown HO6.out.r2 hgrow7;have hf7:ac_ n t W w7:=(HF5.out.trans (ac_.of_below L6.out hnw5)).grown hgrow7 (Nat.le_trans hnw5 L6.out.size) (fun k hk=>(HO6.out.r2.lt k hk).1);have hb7:=(kt7.block t _ _ (pkp_ HB5.out L6.out) (by decide)).trans (pkp_ HB5.out L6.out);have hx7:=(kt7.block _ _ _ (pkp_ HX5.out L6.out) (by decide)).trans (pkp_ HX5.out L6.out);have hq7:=(kt7.block _ _ _ (pkp_ HQ5.out L6.out) (by decide)).trans (pkp_ HQ5.out L6.out);refine hK.out _ _ (SX.out _ hq7 hx7) (fun hH7=>?_);clear hK K
      try refine nrm ?_
      have e7:=coc_ hb7 1;have g7:=foc_ hb7 1;simp at e7;refine tk 12 ?_;refine tk 13 ?_;refine rdy 14 (fun K hK=>?_);go_simp;have kt8:av_ 31 w7 (w7.setCell ⟨t,1,none⟩ (.slice a7 (m2+1) c7)):=av_.setCell hb7 _;have hx8:=(kt8.block _ _ _ hx7 (by decide)).trans hx7;have hq8:=(kt8.block _ _ _ hq7 (by decide)).trans hq7;have hb8:=scb_ hb7 (j:=1) (.slice a7 (m2+1) c7);have ho7:aM_ w7 n (some ⟨g,0,none⟩) a7 b3 m1 d1 (m2+1) c7 m3 d3 { s with ready:=s.ready.set j r,outs:=s.outs ++ [⟨s.nextTag,kk,j,x⟩] }:=HO6.out.outs kt7 (by have:=HM2.out;omega) (by rw [aS_];exact hown7);have ho8:=ho7.typeT kt8 (by decide);have hf8:=hf7.setCell (p:=⟨t,1,none⟩) (.inr rfl) (.slice a7 (m2+1) c7);have RL:=hidI (And.intro hb8 (And.intro ho8 hf8));refine hK.out _ _ (SX.out _ hq8 hx8) (fun hH8=>?_);clear hK K;refine wpAnyH_done (by kernel_rfl) ?_ _;clear hH7 hH8 e7 g7 hx8 hq8 hb8 ho7 ho8 hf8 hf7 hb7 hx7 hq7 kt7 kt8 hown7 hgrow7 hblk7
      go_wp2_with fail
      go_meet
      case rel=>exact ⟨a7,c7,RL.out⟩
    ·go_simp;refine hK.out _ _ (SX.out _ (pkp_ HQ5.out L6.out) (pkp_ HX5.out L6.out)) (fun hH6=>?_);clear hK K;try refine nrm ?_
     refine rdy 4 (fun K hK=>?_);go_simp;refine hK.out _ _ (SX.out _ (pkp_ HQ5.out L6.out) (pkp_ HX5.out L6.out)) (fun hH6=>?_);clear hK K;try refine nrm ?_
     as_aux_lemma=>
      refine rdy 11 (fun K hK=>?_);refine aU_ er_ (by kernel_rfl) _ _ rfl n _ m2 (ah_ s.outs) rfl HO6.out.r2 (some ⟨w5.heap.size,0,none⟩) 1 1 (ah_ [⟨s.nextTag,kk,j,x⟩]) rfl rfl (fun h=>by cases h) HRW.out (bA_ _) (by unfold maxLen;have:=HO6.out.x2;omega) (by have:=HO6.out.x2;omega) (Nat.le_trans hnw5 L6.out.size) ?_;intro v7 w7 hown7 hgrow7 hblk7;obtain ⟨a7,c7,rfl,-⟩:=aH_ hown7;have kt7:=av_.grown HO6.out.r2 hgrow7;have hf7:ac_ n t W w7:=(HF5.out.trans (ac_.of_below L6.out hnw5)).grown hgrow7 (Nat.le_trans hnw5 L6.out.size) (fun k hk=>(HO6.out.r2.lt k hk).1);have hb7:=(kt7.block t _ _ (pkp_ HB5.out L6.out) (by decide)).trans (pkp_ HB5.out L6.out);have hx7:=(kt7.block _ _ _ (pkp_ HX5.out L6.out) (by decide)).trans (pkp_ HX5.out L6.out);have hq7:=(kt7.block _ _ _ (pkp_ HQ5.out L6.out) (by decide)).trans (pkp_ HQ5.out L6.out);refine hK.out _ _ (SX.out _ hq7 hx7) (fun hH7=>?_);clear hK K
      try refine nrm ?_
      have e7:=coc_ hb7 1;have g7:=foc_ hb7 1;simp at e7;refine tk 12 ?_;refine tk 13 ?_;refine rdy 14 (fun K hK=>?_);go_simp;have kt8:av_ 31 w7 (w7.setCell ⟨t,1,none⟩ (.slice a7 (m2+1) c7)):=av_.setCell hb7 _;have hx8:=(kt8.block _ _ _ hx7 (by decide)).trans hx7;have hq8:=(kt8.block _ _ _ hq7 (by decide)).trans hq7;have hb8:=scb_ hb7 (j:=1) (.slice a7 (m2+1) c7);have ho7:aM_ w7 n (some ⟨g,0,none⟩) a7 b3 m1 d1 (m2+1) c7 m3 d3 { s with ready:=s.ready.set j r,outs:=s.outs ++ [⟨s.nextTag,kk,j,x⟩] }:=HO6.out.outs kt7 (by have:=HM2.out;omega) (by rw [aS_];exact hown7);have ho8:=ho7.typeT kt8 (by decide);have hf8:=hf7.setCell (p:=⟨t,1,none⟩) (.inr rfl) (.slice a7 (m2+1) c7);have RL:=hidI (And.intro hb8 (And.intro ho8 hf8));refine hK.out _ _ (SX.out _ hq8 hx8) (fun hH8=>?_);clear hK K;refine wpAnyH_done (by kernel_rfl) ?_ _;clear hH7 hH8 e7 g7 hx8 hq8 hb8 ho7 ho8 hf8 hf7 hb7 hx7 hq7 kt7 kt8 hown7 hgrow7 hblk7
      go_wp2_with fail
      go_meet
      case rel=>exact ⟨a7,c7,RL.out⟩
   case rest=>
    as_aux_lemma=>
     obtain ⟨b2',d2',hb9,ho9,hf9⟩:=hcut;obtain ⟨y0,y1,y2,y3,y4,y5,y6,y7⟩:=aa_ hb9;have f4:=foc_ hb9 4;have HB9:=hidI hb9;have HO9:=hidI ho9;have HF9:=hidI hf9;have hw9:IntKind.i64.wrap (s.nextTag+1) = s.nextTag+1:=by rw [IntKind.wrap_i64];omega
     clear hb9 ho9 hf9;go_wp2_with fail
     go_ret
     have kt:=av_.setCell (i:=4) HB9.out (.int .i64 (s.nextTag+1));refine ⟨HF9.out.setCell (p:=⟨t,4,none⟩) (.inr rfl) _,.inr ⟨HE0.out,rfl,⟨_,_,_,_,_,_,_,_,_,scb_ HB9.out (j:=4) _,?_⟩⟩⟩;have e:delS s (j:Int) = { s with ready:=s.ready.set j r,outs:=s.outs ++ [⟨s.nextTag,kk,j,x⟩],nextTag:=s.nextTag+1 }:=by
      have hln:=HLN.out;rw [Int.toNat_natCast] at hln;unfold delS delO;rw [HKK.out,Int.toNat_natCast,hln];rfl
     rw [e];exact (HO9.out.typeT kt (by decide)).same rfl rfl rfl
 ·have HZ:=hidI hz;have e0:E = E1:=by rw [HE.out];unfold delE;rw [← HE1.out,if_pos hz]
  go_wp2_with (go_at_call 47;refine (dw_ E1 _ _ (aP_ _ _ _) (by simp) HZ.out).mono ?_;rintro e w2 ⟨rfl,hB2⟩)
  subst e0;exact ⟨rfl,ac_.of_below (k1'.trans (hB2.mono s1')) hnW,.inl ⟨HZ.out,rfl⟩⟩
theorem iX_ (p:ad_) (a1 a2 a3:Option Addr) (n1 c1 n2 c2 n3 c3:Nat) (s:ab_) (b1 b2 b3:Option Addr) (m1 d1 m2 d2 m3 d3:Nat) (q:Int) (w:World) (hp:ap_ w a1 a2 a3 n1 n2 n3 p) (hs:an_ w b1 b2 b3 m1 m2 m3 s) (hn2:b2 = none→d2 = 0) (hn3:b3 = none→d3 = 0) :
 Calls Tryz.prog 58 #[.agg #[.slice a1 n1 c1,.slice a2 n2 c2,.slice a3 n3 c3],.agg #[.slice b1 m1 d1,.slice b2 m2 d2,.slice b3 m3 d3,.int .i64 s.nextSeq,.int .i64 s.nextTag,.int .i64 s.came,.int .i64 s.acked,.int .i64 s.dropped],.int .i64 q] w fun e w'=>∃ v,e = .returned (.tuple #[v,.int .i64 (a9_ (delE p s q) s.nextTag),.int .i64 (delE p s q)])∧bn_ w' w.heap.size v (delE p s q) (delS s q)∧Below w.heap.size w w':=by
 obtain ⟨hz5,hg5,hB5⟩:=aD_ [.cells #[.slice a1 n1 c1,.slice a2 n2 c2,.slice a3 n3 c3] 26,.cells #[.slice b1 m1 d1,.slice b2 m2 d2,.slice b3 m3 d3,.int .i64 s.nextSeq,.int .i64 s.nextTag,.int .i64 s.came,.int .i64 s.acked,.int .i64 s.dropped] 31,.cells #[.int .i64 q] 3,.cells #[.slice none 0 0,.slice none 0 0,.slice none 0 0,.int .i64 0,.int .i64 0,.int .i64 0,.int .i64 0,.int .i64 0] 31] w;obtain ⟨W5,hW5⟩:∃ W5,W5 = List.foldl World.alloc w [.cells #[.slice a1 n1 c1,.slice a2 n2 c2,.slice a3 n3 c3] 26,.cells #[.slice b1 m1 d1,.slice b2 m2 d2,.slice b3 m3 d3,.int .i64 s.nextSeq,.int .i64 s.nextTag,.int .i64 s.came,.int .i64 s.acked,.int .i64 s.dropped] 31,.cells #[.int .i64 q] 3,.cells #[.slice none 0 0,.slice none 0 0,.slice none 0 0,.int .i64 0,.int .i64 0,.int .i64 0,.int .i64 0,.int .i64 0] 31]:=⟨_,rfl⟩
 rw [← hW5] at hz5 hg5 hB5;have HW5:Hid (W5 = ((((w.alloc (.cells #[.slice a1 n1 c1,.slice a2 n2 c2,.slice a3 n3 c3] 26)).alloc (.cells #[.slice b1 m1 d1,.slice b2 m2 d2,.slice b3 m3 d3,.int .i64 s.nextSeq,.int .i64 s.nextTag,.int .i64 s.came,.int .i64 s.acked,.int .i64 s.dropped] 31)).alloc (.cells #[.int .i64 q] 3)).alloc (.cells #[.slice none 0 0,.slice none 0 0,.slice none 0 0,.int .i64 0,.int .i64 0,.int .i64 0,.int .i64 0,.int .i64 0] 31))):=hW5;have hz5':W5.heap.size = w.heap.size+4:=by rw [hz5];rfl
 have x0:=hg5 0 _ rfl;have x1:=hg5 1 _ rfl;have x2:=hg5 2 _ rfl;have x4:=hg5 3 _ rfl;obtain ⟨E,hE⟩:∃ E,E = delE p s q:=⟨_,rfl⟩
 rw [← hE];obtain ⟨N,hN⟩:∃ N,N = a9_ E s.nextTag:=⟨_,rfl⟩
 rw [← hN];have T:=eU_ p a1 a2 a3 n1 c1 n2 c2 n3 c3 s b1 b2 b3 m1 d1 m2 d2 m3 d3 104 (fun _ _=>rfl) #[.pointer (some ⟨w.heap.size,0,none⟩),.pointer (some ⟨w.heap.size+2,0,none⟩)] E s.nextTag (delS s q) W5 (hp.keep hB5) (hs.keep hB5) hn2 hn3
  (fun h=>by rw [hE];unfold delE dc_;rw [if_pos (by rw [if_pos h];exact h),if_pos h])
  (fun h=>by rw [hE];exact hl_ p a1 a2 a3 n1 c1 n2 c2 n3 c3 s q _ _ W5 (hp.keep hB5) x0 x2 (aK_ h))
 rw [show (if E = 0 then s.nextTag else 0) = N from hN.symm] at T;have HT:=hidI T;have X4:=hidI x4;have HZ5:=hidI hz5';have HB5:=hidI hB5;have hmf:∀ (fn:Fn) (first cap:Array Value) (w:World),(Instr.makeFunc fn first cap).run Tryz.prog w = .ok (.func fn first cap) w:=fun _ _ _ _=>rfl
 clear T hW5 hz5 hz5' hg5 hB5 x0 x1 x2 x4 hE hN hp hs hn2 hn3;go_enter Tryz.func58,Tryz.ntmps58;go_wp2_with fail
 rw [← HW5.out];refine HT.out.mono ?_;rintro e w6 ⟨v,rfl,hres,hB6⟩;have x6:=pkp_ X4.out hB6;obtain ⟨y0,y1,y2,y3,y4,y5,y6,y7⟩:=aa_ x6;have f0:=foc_ x6 0;have f1:=foc_ x6 1;have f2:=foc_ x6 2;have f3:=foc_ x6 3;have f4:=foc_ x6 4;have f5:=foc_ x6 5;have f6:=foc_ x6 6;have f7:=foc_ x6 7;obtain ⟨x1,x2,x3,k1,e1,k2,e2,k3,e3,i1,i2,i3,i4,i5,rfl⟩:=hres.shape;have X6:=hidI x6;have HRES:=hidI hres;have HB6:=hidI hB6;clear x6 hres hB6;go_wp2_with fail
 generalize hW4:World.setCell (World.setCell (World.setCell (World.setCell (World.setCell (World.setCell (World.setCell (World.setCell w6 _ _) _ _) _ _) _ _) _ _) _ _) _ _) _ _ = W4;obtain ⟨b4,t4⟩:=store8 X6.out hW4;obtain ⟨z0,z1,z2,z3,z4,z5,z6,z7⟩:=aa_ b4;exact bodyPost_ret (v:=.tuple #[.agg #[.slice x1 k1 e1,.slice x2 k2 e2,.slice x3 k3 e3,.int .i64 i1,.int .i64 i2,.int .i64 i3,.int .i64 i4,.int .i64 i5],.int .i64 N,.int .i64 E]) (by simp [results,Tryz.results58,go_sem,z0,z1,z2,z3,z4,z5,z6,z7]) rfl ⟨_,rfl,(HRES.out.turn X6.out t4).lower (by have:=HZ5.out;omega),HB5.out.trans ((HB6.out.mono HB5.out.size).trans (t4.below (by have:=HB6.out.size;have:=HZ5.out;omega) (by omega)))⟩
end Go.Proofs.YtlbnkpicnokgoaaGreat
