import Derived.Test.YtlbnkpicnokgoaaGreatUsx
import Derived.Test.YtlbnkpicnokgoaaGreatUax
namespace Go.Proofs.YtlbnkpicnokgoaaGreat
open Go.RowKit Go.Maps
set_option linter.unusedVariables false
set_option maxRecDepth 100000
set_option maxHeartbeats 16000000
theorem bh_.tail {W:World} {g o c:Nat} {y:ArrD} {r:List ArrD} (h:bh_ W (some ⟨g,o,none⟩) (y :: r)) (hc:r.length+1≤c):bh_ W (if c = 1 then some (⟨g,o,none⟩:Addr) else some ⟨g,o+4,none⟩) r:=by
 by_cases h1:c = 1
 ·have:r = []:=List.length_eq_zero_iff.1 (by omega);subst this;exact .inl rfl
 ·rw [if_neg h1];rcases h with h | ⟨g',o',e,hg,h⟩
  ·simp [aw_,ArrD.cells] at h
  ·cases e;refine .inr ⟨g,o+4,rfl,hg,fun j u hj=>?_⟩;have:=h (j+4) u (by show (y.cells ++ aw_ r)[j+4]? = some u;rw [List.getElem?_append_right (by simp [ArrD.cells])];simpa [ArrD.cells] using hj);rw [show o+4+j = o+(j+4) by omega];exact this
theorem mL_ {p:ad_} {s:ab_} {q:Nat} {x:ae_} (hq:q < s.ready.length):gj_ p { s with ready:=s.ready.set q (ay_ (af_ s q) x),nextSeq:=s.nextSeq+1,came:=s.came+1 } q = putS p (upS s) q x∧af_ { s with ready:=s.ready.set q (ay_ (af_ s q) x),nextSeq:=s.nextSeq+1,came:=s.came+1 } q = ay_ (af_ s q) x:=by
 have e:af_ { s with ready:=s.ready.set q (ay_ (af_ s q) x),nextSeq:=s.nextSeq+1,came:=s.came+1 } q = ay_ (af_ s q) x:=by
  rw [a3_ (by show q < (s.ready.set q _).length;simpa using hq)];simp
 refine ⟨?_,e⟩;unfold gj_ putS;rw [e];show ab_.mk _ _ _ _ _ _ _ _ = ab_.mk _ _ _ _ _ _ _ _;rw [List.set_set];rfl
theorem ev_ (p:ad_) (a1 a2 a3:Option Addr) (n1 c1 n2 c2 n3 c3:Nat) (s:ab_) (l:List ArrD) (b:Option Addr) (mb cb:Nat) (n t:Nat) (w0 w:World) (hp:ap_ w0 a1 a2 a3 n1 n2 n3 p) (h0:Below w0.heap.size w0 w) (ht:w0.heap.size≤t) (hn0:w0.heap.size≤n) (hnw:n≤w.heap.size) (hR:ak_ p s 0) (hl:bh_ w b l) (hll:l.length = mb) (hl4:l.length≤4) (hmc:mb≤cb) (hcm:cb≤maxLen) (hok:∀ a ∈ l,c9_ p a) (hsq:s.nextSeq≤524288) (hbx:StBox w n t s) :
 Calls Tryz.prog 124 #[.agg #[.slice a1 n1 c1,.slice a2 n2 c2,.slice a3 n3 c3],.pointer (some ⟨t,0,none⟩),.slice b mb cb] w fun e w'=>e = .returned (.int .i64 (arrN p 600 s l:Nat))∧StBox w' n t (arrS p 600 s l)∧ac_ n t w w':=by
 obtain ⟨W1,hW1⟩:∃ W1,W1 = w.alloc (.cells #[.slice a1 n1 c1,.slice a2 n2 c2,.slice a3 n3 c3] 26):=⟨_,rfl⟩
 have k1:Below w.heap.size w W1:=by rw [hW1];exact (Below.refl _ _).alloc (Nat.le_refl _) _
 have b1':W1.heap[w.heap.size]? = some (.cells #[.slice a1 n1 c1,.slice a2 n2 c2,.slice a3 n3 c3] 26 (0,0)):=by rw [hW1];exact World.alloc_heap_new w _
 have hz1:W1.heap.size = w.heap.size+1:=by rw [hW1];simp
 obtain ⟨NN,hNN⟩:∃ NN:Nat,NN = arrN p 600 s l:=⟨_,rfl⟩
 rw [← hNN];have HNN:=hidI hNN;have HINV:=hidI (dF_.start hR hl4 hok);have HL1:=hidI (hl.keep k1);have HLL:=hidI hll;have HBX1:=hidI (hbx.keep k1);have HW1:=hidI hW1;have K1:=hidI k1;have B1:=hidI b1';have HZ1:=hidI hz1;have HP:=hidI hp;have H0:=hidI h0;have HSQ:=hidI hsq;have hs0:=h0.size;have HMC:Hid (mb≤cb∧cb≤maxLen):=⟨hmc,hcm⟩;clear hNN hl hll hbx hW1 k1 b1' hz1 hp h0 hR hl4 hok hsq hmc hcm;go_enter Tryz.func124,Tryz.ntmps124;go_upto_region 2 with fail
 rw [← HW1.out];go_loopw [2,7] (fun lv iv wr=>∃ (k:Nat) (xs ys:List ArrD) (si:ab_) (ab:Option Addr) (am ac:Nat),lv = .slice ab am ac∧iv = .int .i64 k∧dF_ p s l k xs si∧ys = xs.drop k∧ys.length = am∧am≤ac∧ac≤maxLen∧bh_ wr ab ys∧StBox wr n t si∧ac_ n t w wr∧wr.heap[w.heap.size]? = some (.cells #[.slice a1 n1 c1,.slice a2 n2 c2,.slice a3 n3 c3] 26 (0,0))∧w.heap.size < wr.heap.size) (fun _ i _=>600 - (intOf i).toNat)
 case atStart=>exact ⟨0,l,l,s,b,mb,cb,rfl,rfl,HINV.out,rfl,HLL.out,HMC.out.1,HMC.out.2,HL1.out,HBX1.out,ac_.of_below K1.out hnw,B1.out,by have:=HZ1.out;omega⟩
 case round=>
  obtain ⟨k,xs,ys,si,ab,am,ac,rfl,rfl,hinv,hys,hyl,hamc,hacm,hya,hbxr,hF,hpl,hsz⟩:=hrel;have HI:=hidI hinv;have HYS:=hidI hys;have HYL:=hidI hyl;have HYA:=hidI hya;have HBXR:=hidI hbxr;have HF:=hidI hF;have HPL:=hidI hpl;have HACM:=hidI hacm;clear hinv hys hya hbxr hF hpl hacm;cases hyy:ys with
  | nil =>
    have hk:k = xs.length:=by
     have h1:=HYS.out;rw [hyy] at h1;have h2:=List.drop_eq_nil_iff.1 h1.symm;have h3:=HI.out.le;omega
    obtain ⟨d1,d2⟩:=HI.out.done (by omega);have HD1:=hidI d1;have HD2:Hid (k = NN):=by show k = NN;rw [HNN.out,hk];exact Int.ofNat_inj.1 d2
    have ham:am = 0:=by rw [← hyl,hyy];rfl
    subst ham;clear hyy hyl hk d1 d2;go_wp2_with fail
    go_ret
    exact ⟨by rw [← HD2.out];rfl,by rw [← HD1.out];exact HBXR.out,HF.out⟩
  | cons y r =>
    have hkl:k < xs.length:=by
     have h1:=HYS.out;rw [hyy] at h1;refine Decidable.byContradiction fun h=>?_
     rw [List.drop_eq_nil_of_le (by omega)] at h1;cases h1
    have hdr:=List.drop_eq_getElem_cons hkl;rw [← HYS.out,hyy] at hdr;obtain ⟨hy1,hr1⟩:y = xs[k]∧r = xs.drop (k+1):=by injection hdr with h1 h2;exact ⟨h1,h2⟩
    obtain ⟨ra,rs,rk,rn⟩:=HI.out.step HSQ.out hkl;rw [← hy1] at ra rn;have HNX:=hidI rn;have HRA:=hidI ra;have HRS:=hidI rs;have HDR:Hid ((xs ++ df_ p si y).drop (k+1) = r ++ df_ p si y):=by show List.drop _ _ = _;rw [List.drop_append_of_le_length (by omega),← hr1]
    have hrl:r.length≤4+4 * k:=by rw [hr1,List.length_drop];have:=HI.out.few;omega
    obtain ⟨q,hqq⟩:∃ q:Nat,y.queue = (q:Int):=⟨y.queue.toNat,by have:=ra.q;omega⟩
    have HQQ:=hidI hqq;have hqp:q < p.queues.length:=by have:=ra.q;omega
    have HR:=hidI HI.out.right;have hql:q < si.ready.length:=by rw [HR.out.len];exact hqp
    have HQL:=hidI hql;obtain ⟨M,hM⟩:∃ M,M = r.length:=⟨_,rfl⟩
    have HM:=hidI hM;rw [← hM] at hrl;have ham:am = M+1:=by rw [← hyl,hyy,hM];rfl
    subst ham;have hya:=HYA.out;rw [hyy] at hya;obtain ⟨ga,oa,hga,hgal,e0,e1,e2,e3⟩:=bh_.get hya (k:=0) (by simp);subst hga;simp only [List.getElem_cons_zero,Nat.zero_mul,Nat.add_zero] at e0 e1 e2 e3;rw [hqq] at e0;have HTL:=hidI (hya.tail (c:=ac) (by omega));have hcm:=HACM.out;unfold maxLen at hcm;have hk600:k < 564:=rk;obtain ⟨H,hH⟩:∃ H,H = wr.heap.size:=⟨_,rfl⟩
    obtain ⟨V1,hV1⟩:∃ V1,V1 = wr.alloc (.cells #[.int .i64 (q:Int),.string y.key,.string y.body,.int .i64 y.deaths] 150):=⟨_,rfl⟩
    have l1:Below wr.heap.size wr V1:=by rw [hV1];exact (Below.refl _ _).alloc (Nat.le_refl _) _
    have x1:V1.heap[H]? = some (.cells #[.int .i64 (q:Int),.string y.key,.string y.body,.int .i64 y.deaths] 150 (0,0)):=by rw [hV1,hH];exact World.alloc_heap_new wr _
    have HV1:=hidI hV1;have HH:=hidI hH;have u0:(0:Int) < ((M+1:Nat):Int):=by omega
    have u0':(0:Int) < (M:Int)+1:=by omega
    have HKL:=hidI hkl;have HL1':=hidI l1;have X1:=hidI x1;clear hyy hyl hdr hy1 hr1 ra rs rk rn hM hya hqq hV1 hH hkl l1 x1 hqp hql;go_upto_region 4 with fail
    rw [← HV1.out,← HH.out];clear e0 e1 e2 e3;obtain ⟨V2,hV2⟩:∃ V2,V2 = V1.alloc (.cells #[] 150):=⟨_,rfl⟩
    have l2:Below V1.heap.size V1 V2:=by rw [hV2];exact (Below.refl _ _).alloc (Nat.le_refl _) _
    have o2:V2.ownsRow V1.heap.size 150 4 (.slice (some ⟨V1.heap.size,0,none⟩) 0 0) 0 []:=by rw [hV2];exact World.ownsRow_made _ #[] 0 (Nat.le_refl _) (Nat.zero_le _) rfl
    have HV2:=hidI hV2;have HL2:=hidI (HL1'.out.trans (l2.mono HL1'.out.size));have HO2:=hidI o2;have HLL2:=hidI l2;have HT2:=hidI ((HTL.out.keep HL1'.out).keep l2);have u1:(1:Int)≤((M+1:Nat):Int):=by omega
    have u2:((M+1:Nat):Int)≤(ac:Int):=by omega
    have u3:(1:Int)≤(ac:Int):=by omega
    have u4:(1:Int)≤(M:Int)+1:=by omega
    have u5:(M:Int)+1≤(ac:Int):=by omega
    have HACZ:Hid ((if ac = 1 then some (⟨ga,oa,none⟩:Addr) else some ⟨ga,oa+4,none⟩) = none→ac - 1 = 0∧M = 0):=fun h=>by split at h <;> cases h
    have HLM:Hid ((aw_ r).length = M * 4):=by show _ = _;rw [aV_,HM.out]
    have s12:V1.heap.size≤V2.heap.size:=l2.size;clear hV2 l2 o2;go_upto_region 5 with (at_builtin;rw [← HV2.out];refine a1_ eq_ (by kernel_rfl) _ _ rfl V1.heap.size _ 0 [] rfl HO2.out (if ac = 1 then some (⟨ga,oa,none⟩:Addr) else some ⟨ga,oa+4,none⟩) M (ac - 1) (aw_ r) rfl HLM.out HACZ.out HT2.out (bI_ _) (by unfold maxLen;omega) (by omega) s12 ?_;intro v3 w3 o3 g3 _)
    rw [Nat.zero_add,List.nil_append] at o3;have l3:Below V1.heap.size V1 w3:=HLL2.out.grown g3 s12 (fun j hj=>(HO2.out.lt j hj).1);have L3:=hidI (HL1'.out.trans (l3.mono HL1'.out.size));have x3:=pkp_ X1.out l3;have HO3:=hidI o3;obtain ⟨av,cv,hv3,-⟩:=aH_ o3;subst hv3;generalize (if ac = 1 then some (⟨ga,oa,none⟩:Addr) else some ⟨ga,oa+4,none⟩) = A5;obtain ⟨b1,b2,b3,m1,d1,m2,d2,m3,d3,hb,ho⟩:=HBXR.out.keep L3.out;obtain ⟨vs,hr1,hlv⟩:=ho.r1;have hm1:m1 = si.ready.length:=ho.l1.symm;have hqm:q < m1:=by rw [hm1];exact HQL.out
    obtain ⟨g,hgv⟩:∃ g,b1 = some ⟨g,0,none⟩:=by
     rcases hr1.2 with ⟨e,e0⟩ | ⟨g,cap,cur,e,_⟩
     ·exfalso;omega
     ·cases e;exact ⟨g,rfl⟩
    subst hgv;obtain ⟨v,bl,cl,hv1,hlj⟩:=hlv.get q HQL.out;have hcell:=hr1.cellAt q (by have:=HQL.out;omega);have hfrz:=hr1.frozenAt q;rw [hv1,hlj.v] at hcell;have hsj:si.ready[q]'HQL.out = af_ si q:=(a3_ HQL.out).symm;rw [hsj] at hcell hlj;obtain ⟨L,hL⟩:∃ L,L = (af_ si q).length:=⟨_,rfl⟩
    rw [← hL] at hcell;have hL6:L≤6:=by rw [hL];exact HR.out.line6 (a7_ HQL.out)
    have hg3:g < w3.heap.size:=(hr1.lt g rfl).2;have hgn:n≤g:=(hr1.lt g rfl).1;obtain ⟨_,curg,hgb⟩:=aT_ hr1;have hgH:g≠H:=fun e=>by rw [e,x3] at hgb;cases hgb
    have hgt:g≠t:=fun e=>by rw [e,hb] at hgb;cases hgb
    have htl3:=lth_ hb;have htH:t≠H:=fun e=>by rw [e,x3] at hb;cases hb
    have HGB:=hidI hgb;have SS:Hid (∀ W':World,W'.heap[t]? = w3.heap[t]?→W'.heap[H]? = w3.heap[H]?→(W'.cell? ⟨t,0,none⟩ = some (.slice (some ⟨g,0,none⟩) m1 d1)∧W'.cell? ⟨t,3,none⟩ = some (.int .i64 si.nextSeq)∧W'.cell? ⟨H,0,none⟩ = some (.int .i64 (q:Int))∧W'.cell? ⟨H,1,none⟩ = some (.string y.key)∧W'.cell? ⟨H,2,none⟩ = some (.string y.body)∧W'.cell? ⟨H,3,none⟩ = some (.int .i64 y.deaths))):=fun W' h1 h2=>by
     have hb':=h1.trans hb;have hx':=h2.trans x3;exact ⟨coc_ hb' 0,coc_ hb' 3,coc_ hx' 0,coc_ hx' 1,coc_ hx' 2,coc_ hx' 3⟩
    have HB:=hidI hb;have X3:=hidI x3;have HOS:=hidI ho;have HLJ:=hidI hlj;have HL:=hidI hL;have HCE:=hidI hcell;have HFZ:=hidI hfrz;have hXL:=lth_ x3;have j1:(0:Int)≤(q:Int):=by omega
    have j2:(q:Int) < m1:=by omega
    clear l3 o3 g3 x3 hb ho hr1 hlv hm1 hqm hv1 hlj hcell hfrz hsj hL hgb u0 u0' u1 u2 u3 u4 u5;refine wp_region_held_drew (S:=fun W'=>(W'.cell? ⟨t,0,none⟩ = some (.slice (some ⟨g,0,none⟩) m1 d1)∧W'.cell? ⟨t,3,none⟩ = some (.int .i64 si.nextSeq)∧W'.cell? ⟨H,0,none⟩ = some (.int .i64 (q:Int))∧W'.cell? ⟨H,1,none⟩ = some (.string y.key)∧W'.cell? ⟨H,2,none⟩ = some (.string y.body)∧W'.cell? ⟨H,3,none⟩ = some (.int .i64 y.deaths))) (by kernel_rfl) (SS.out _ rfl rfl) (fun hHeld=>?_);obtain ⟨wd,hwd⟩:∃ wd,wd = w3.drew:=⟨_,rfl⟩
    rw [← hwd] at hHeld ⊢;have ld:Below w3.heap.size w3 wd:=by rw [hwd];exact (Below.refl _ _).drew
    clear hwd;refine tk 0 ?_;refine tk 1 ?_;refine tk 2 ?_;refine tk 3 ?_;refine tk 4 ?_;refine tk 5 ?_;refine tk 6 ?_;refine tk 7 ?_;refine tk 8 ?_;refine tk 9 ?_;refine tk 10 ?_;refine tk 11 ?_;refine tk 12 ?_;refine tk 14 ?_;refine tk 15 ?_;refine tk 16 ?_;refine tk 17 ?_;refine tk 18 ?_;refine tk 19 ?_;refine tk 20 ?_;refine tk 21 ?_;refine tk 22 ?_;refine tk 23 ?_;refine tk 24 ?_;refine rdy 13 (fun K hK=>?_);have cq:=(ld.cell (p:=⟨g,q,none⟩) hg3).trans HCE.out;go_simp;refine hK.out _ _ (SS.out _ (ld.block t htl3) (ld.block H hXL)) (fun _=>?_);clear hK K cq;try refine nrm ?_
    refine rdy 25 (fun K hK=>?_);go_simp;have hqu:q < (upS si).ready.length:=HQL.out;have hlo:at_ (af_ si q) = true:=HR.out.line _ (a7_ HQL.out);have hno:bL_ (az_ si y).seq (af_ si q) = false:=cD_ (s:=upS si) hqu hlo (eN_ HR.out);refine (iC_ (af_ si q) bl L cl si.nextSeq y.deaths y.key y.body false _ HL.out.symm (by omega) (HLJ.out.it.keep ld) hno).mono ?_;rintro e w5 ⟨v5,m5,rfl,o5,k5⟩;have l5:Below w3.heap.size w3 w5:=ld.trans (k5.mono ld.size);refine hK.out _ _ (SS.out _ (l5.block t htl3) (l5.block H hXL)) (fun hH5=>?_);clear hK K;try refine nrm ?_
    refine tk 26 ?_;have o5':w5.ownsRow wd.heap.size 48 5 v5 m5 (al_ (ay_ (af_ si q) (az_ si y))):=o5;have hnd:n≤wd.heap.size:=by have:=ld.size;have:=L3.out.size;omega
    obtain ⟨b5,c5,hv5,hm5⟩:=bD_ o5' hnd;have hv5v:=hv5.v;subst hv5v;obtain ⟨PL,hPL⟩:∃ PL,PL = (ay_ (af_ si q) (az_ si y)).length:=⟨_,rfl⟩
    rw [← hPL] at hv5 ⊢;have HPLL:=hidI hPL;clear hPL;have c8:=(l5.cell (p:=⟨g,q,none⟩) hg3).trans HCE.out;have f8:=(l5.frozen (p:=⟨g,q,none⟩) hg3).trans HFZ.out;refine rdy 27 (fun K hK=>?_);go_simp;obtain ⟨w6,hw6⟩:∃ w6,w6 = w5.setCell ⟨g,q,none⟩ (.slice b5 PL c5):=⟨_,rfl⟩
    rw [← hw6];have hg5:=(l5.block g hg3).trans HGB.out;have kt6:av_ 46 w5 w6:=by rw [hw6];exact av_.setCell hg5 _
    have bt5:=pkp_ HB.out l5;have xh5:=pkp_ X3.out l5;have bt6:=(kt6.block t _ _ bt5 (by decide)).trans bt5;have xh6:=(kt6.block H _ _ xh5 (by decide)).trans xh5;refine hK.out _ _ (SS.out _ (bt6.trans HB.out.symm) (xh6.trans X3.out.symm)) (fun _=>?_);clear hK K;try refine nrm ?_
    refine wpAnyH_done (by kernel_rfl) ?_ _;have ho6:aM_ w6 n (some ⟨g,0,none⟩) b2 b3 m1 d1 m2 d2 m3 d3 { si with ready:=si.ready.set q (ay_ (af_ si q) (az_ si y)) }:=(HOS.out.keep l5).line HQL.out hv5 hw6;have hbx6:StBox w6 n t { si with ready:=si.ready.set q (ay_ (af_ si q) (az_ si y)) }:=⟨_,_,_,_,_,_,_,_,_,bt6,ho6⟩;have F5:ac_ n t w w5:=HF.out.trans (ac_.of_below (L3.out.trans (l5.mono L3.out.size)) (by omega));have F6:ac_ n t w w6:=by rw [hw6];exact F5.typeSet hgn _
    have KP6:Keep2 wr w6:=(Keep2.of_below (L3.out.trans (l5.mono L3.out.size))).trans (Keep2.of_typeI kt6);have KQ6:Keep2 w3 w6:=(Keep2.of_below l5).trans (Keep2.of_typeI kt6);have HO6:=hidI (KQ6.row HO3.out);have f60:=foc_ bt6 3;obtain ⟨e0,e1,e2,e3,e4,e5,e6,e7⟩:=aa_ bt6;obtain ⟨w7,hw7⟩:∃ w7,w7 = w6.setCell ⟨t,3,none⟩ (.int .i64 (si.nextSeq+1)):=⟨_,rfl⟩
    have bt7:w7.heap[t]? = some (.cells #[.slice (some ⟨g,0,none⟩) m1 d1,.slice b2 m2 d2,.slice b3 m3 d3,.int .i64 (si.nextSeq+1),.int .i64 si.nextTag,.int .i64 si.came,.int .i64 si.acked,.int .i64 si.dropped] 31 (0,0)):=by rw [hw7];exact scb_ bt6 (j:=3) _
    have kt7:av_ 31 w6 w7:=by rw [hw7];exact av_.setCell bt6 _
    have hbx7:=hbx6.field3 (si.nextSeq+1);rw [← hw7] at hbx7;obtain ⟨w8,hw8⟩:∃ w8,w8 = w7.setCell ⟨t,5,none⟩ (.int .i64 (si.came+1)):=⟨_,rfl⟩
    have bt8:w8.heap[t]? = some (.cells #[.slice (some ⟨g,0,none⟩) m1 d1,.slice b2 m2 d2,.slice b3 m3 d3,.int .i64 (si.nextSeq+1),.int .i64 si.nextTag,.int .i64 (si.came+1),.int .i64 si.acked,.int .i64 si.dropped] 31 (0,0)):=by rw [hw8];exact scb_ bt7 (j:=5) _
    have kt8:av_ 31 w7 w8:=by rw [hw8];exact av_.setCell bt7 _
    have hbx8:StBox w8 n t { si with ready:=si.ready.set q (ay_ (af_ si q) (az_ si y)),nextSeq:=si.nextSeq+1,came:=si.came+1 }:=by rw [hw8];exact hbx7.field5 (si.came+1)
    have t8:aZ_ t w6 w8:=by
     have t7:aZ_ t w6 w7:=by rw [hw7];exact sct_ _ _ _ _
     have t8':aZ_ t w7 w8:=by rw [hw8];exact sct_ _ _ _ _
     exact t7.trans t8'
    have F8:ac_ n t w w8:=F6.turnB t8 (by have:=F6.size;omega);have K68:Keep2 w6 w8:=(Keep2.of_typeS kt7).trans (Keep2.of_typeS kt8);have HO8:=hidI (K68.row HO6.out);have xh8:=(K68 H _ _ xh6 (by decide) (by decide)).trans xh6;have pl8:=((KP6.trans K68) _ _ _ HPL.out (by decide) (by decide)).trans HPL.out;have hup:=mL_ (p:=p) (x:=az_ si y) HQL.out;have hl8:at_ (af_ { si with ready:=si.ready.set q (ay_ (af_ si q) (az_ si y)),nextSeq:=si.nextSeq+1,came:=si.came+1 } q) = true:=by rw [hup.2];exact ds_ hlo (d0_ HR.out HRA.out HRS.out) hno
    have hdrp:0≤si.dropped∧si.dropped≤10000000:=by have h0:=HR.out.dr;have h1:=HR.out.sum;have h2:=HR.out.cs;have h3:=HR.out.ns;have h4:=HR.out.ak;have h5:(0:Int)≤((as_ si).length:Int):=Int.natCast_nonneg _;omega
    have hqn:q < n2:=by rw [← HP.out.l2,← HR.out.len];exact HQL.out
    have hsr:({ si with ready:=si.ready.set q (ay_ (af_ si q) (az_ si y)),nextSeq:=si.nextSeq+1,came:=si.came+1 }:ab_).ready.length = n2:=by show (si.ready.set q _).length = n2;rw [List.length_set,HR.out.len,HP.out.l2]
    have n8:n≤w8.heap.size:=by have:=F8.size;omega
    have HSH:=hidI (g5_ p a1 a2 a3 n1 c1 n2 c2 n3 c3 { si with ready:=si.ready.set q (ay_ (af_ si q) (az_ si y)),nextSeq:=si.nextSeq+1,came:=si.came+1 } q n t w0 w8 HP.out (H0.out.trans (F8.below (by omega) ht)) ht hn0 n8 HR.out.pl hqn hsr hl8 hdrp hbx8);rw [hup.1,hup.2] at HSH;have jw3:IntKind.i64.wrap (si.nextSeq+1) = si.nextSeq+1:=by have h3:=HR.out.ns;rw [IntKind.wrap_i64];omega
    have jw5:IntKind.i64.wrap (si.came+1) = si.came+1:=by have h2:=HR.out.cs;have h3:=HR.out.ns;rw [IntKind.wrap_i64];omega
    have HW7:=hidI hw7;have HW8:=hidI hw8;have BT7:=hidI bt7;have XH8:=hidI xh8;have PL8:=hidI pl8;have HF8:=hidI F8;have hs8:V1.heap.size≤w8.heap.size:=by
     have h1:=L3.out.size;have:=(K68.row HO6.out).lt;have h2:=lth_ xh8;have h3:V1.heap.size = H+1:=by rw [HV1.out,HH.out];simp
     omega
    have hwn8:w.heap.size < w8.heap.size:=lth_ pl8;clear hbx6 hbx7 hbx8 bt5 bt6 bt7 bt8 xh5 xh6 xh8 pl8 kt6 kt7 kt8 t8 F5 F6 F8 KP6 KQ6 K68 ho6 hw6 hw7 hw8 hup hl8 hdrp hsr c8 f8 hg5 o5 o5' hv5 hm5 k5 l5 ld hnd hqu hlo hno hH5;go_upto_region 7 with fail
    rw [← HW7.out];clear e0 e1 e2 e3 e4 e5 e6 e7 f60;obtain ⟨e0,e1,e2,e3,e4,e5,e6,e7⟩:=aa_ BT7.out;have f65:=foc_ BT7.out 5;go_upto_region 8 with fail
    rw [← HW8.out];clear e0 e1 e2 e3 e4 e5 e6 e7 f65;obtain ⟨z0,z1,z2⟩:=ag_ PL8.out;have i0:=coc_ XH8.out 0;simp at i0;have jk:IntKind.i64.wrap ((k:Int)+1) = (k:Int)+1:=by rw [IntKind.wrap_i64];omega
    go_wp2_with fail
    refine HSH.out.mono ?_;rintro e w9 ⟨v9,rfl,⟨m9,o9⟩,hbx9,hF9,hk9⟩;obtain ⟨a9,c9,hv9,-,-,hn9,hr9⟩:=aH_ o9;subst hv9;have hm9:m9≤4:=by
     have h1:=o9.1;rw [aV_] at h1;have h2:=(eM_ HR.out HRA.out HRS.out).2;have h3:=HR.out.rp.few.2.1;unfold df_ putB at h2;rw [show y.queue.toNat = q by rw [HQQ.out];rfl] at h2;have h4:(putA p q (ay_ (af_ si q) (az_ si y))).length≤p.queues.length:=h2;omega
    have HO9:=hidI (hk9.row HO8.out);have HR9:=hidI hr9;have HN9:=hidI hn9;have HL9:Hid ((aw_ (putA p q (ay_ (af_ si q) (az_ si y)))).length = m9 * 4):=o9.1;have HBX9:=hidI hbx9;have HPL9:=hidI ((hk9 _ _ _ PL8.out (by decide) (by decide)).trans PL8.out);have HF9:=hidI (HF8.out.trans hF9);have s9:=hF9.size;clear o9 hr9 hn9 hbx9 hF9 hk9 z0 z1 z2 i0;go_wp2_with (at_builtin;refine a1_ eq_ (by kernel_rfl) _ _ rfl V1.heap.size _ M (aw_ r) rfl HO9.out a9 m9 c9 (aw_ (putA p q (ay_ (af_ si q) (az_ si y)))) rfl HL9.out HN9.out HR9.out (bI_ _) (by unfold maxLen;omega) (by omega) (by omega) ?_;intro v10 w10 o10 g10 _;obtain ⟨a10,c10,hv10,h10a,h10b,-,h10r⟩:=aH_ o10;subst hv10;have O10:=hidI o10;have G10:=hidI g10;have R10:=hidI h10r;have M10:=hidI h10a;have N10:=hidI h10b;clear o10 g10 h10r h10a h10b)
    have hrb:df_ p si y = putA p q (ay_ (af_ si q) (az_ si y)):=by unfold df_ putB;rw [show y.queue.toNat = q by rw [HQQ.out];rfl];rfl
    have hrs:dC_ p si y = putS p (upS si) q (az_ si y):=by unfold dC_;rw [show y.queue.toNat = q by rw [HQQ.out];rfl]
    have kt10:av_ 150 w9 w10:=av_.grown HO9.out G10.out;have HREL:Hid (bh_ w10 a10 (r ++ df_ p si y)∧StBox w10 n t (dC_ p si y)∧ac_ n t w w10∧w10.heap[w.heap.size]? = some (.cells #[.slice a1 n1 c1,.slice a2 n2 c2,.slice a3 n3 c3] 26 (0,0))∧w.heap.size < w10.heap.size∧(r ++ df_ p si y).length = M+m9):=by
     refine ⟨?_,?_,?_,(kt10.block _ _ _ HPL9.out (by decide)).trans HPL9.out,by have:=G10.out.size;omega,?_⟩
     ·unfold bh_;rw [br_,hrb];exact R10.out
     ·rw [hrs];exact HBX9.out.typeT kt10 (by decide) (by decide)
     ·exact HF9.out.grown G10.out (by omega) (fun j hj=>by have:=(HO9.out.lt j hj).1;have:=HL1'.out.size;have:=HF.out.size;omega)
     ·have h1:=HL9.out;rw [aV_] at h1;rw [List.length_append,hrb,HM.out];omega
    clear hrb hrs kt10;go_roundw
    case rel=>exact ⟨k+1,_,_,_,a10,M+m9,c10,rfl,by go_num,HNX.out,HDR.out.symm,HREL.out.2.2.2.2.2,M10.out,N10.out,HREL.out.1,HREL.out.2.1,HREL.out.2.2.1,HREL.out.2.2.2.1,HREL.out.2.2.2.2.1⟩
    case measure=>simp [intOf];omega
end Go.Proofs.YtlbnkpicnokgoaaGreat
