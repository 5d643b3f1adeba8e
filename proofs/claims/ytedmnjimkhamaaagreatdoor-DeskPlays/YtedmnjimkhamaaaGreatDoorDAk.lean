import Derived.Test.YtedmnjimkhamaaaGreatDoorMsx
namespace Go.Proofs.YtedmnjimkhamaaaGreatDoor
set_option linter.unusedVariables false
set_option maxRecDepth 100000
set_option maxHeartbeats 16000000
open Go.RowKit Go.Maps
theorem oN.tail{W:World}{g o c:Nat}{y:fF}{r:List fF}(h:oN W (some ⟨g,o,none⟩) (y::r))(hc:r.length+1<=c):oN W (if c=1 then some (⟨g,o,none⟩:Addr)else some ⟨g,o+4,none⟩) r:=by
 by_cases h1:c=1;·have:r=[]:=kC.1 (by omega);subst this;exact .inl rfl
 ·rw[kA h1];rcases h with h|⟨g',o',e,hg,h⟩;·simp[iM,fF.cells]at h
  ·cases e;refine .inr ⟨g,o+4,rfl,hg,λj u hj=>?_⟩;have:=h (j+4) u (by show(y.cells++iM r)[j+4]?=some u;rw[uE (by simp[fF.cells])];simpa[fF.cells]using hj);rw[show o+4+j=o+(j+4)by omega];exact this
theorem R2{p:lD}{s:yC}{q:Nat}{x:zD}(hq:q<s.yA.length):sW p {s with yA:=s.yA.set q (sH (oF s q) x),gA:=s.gA+1,nB:=s.nB+1} q=qK p (rL s) q x/\oF {s with yA:=s.yA.set q (sH (oF s q) x),gA:=s.gA+1,nB:=s.nB+1} q=sH (oF s q) x:=by
 have e:oF {s with yA:=s.yA.set q (sH (oF s q) x),gA:=s.gA+1,nB:=s.nB+1} q=sH (oF s q) x:=by
  rw[rU (by show q<(s.yA.set q _).length;simpa using hq)];simp
 refine⟨?_,e⟩;unfold sW qK;rw[e];show yC.mk _ _ _ _ _ _ _ _=yC.mk _ _ _ _ _ _ _ _;rw[List.set_set];rfl
theorem II(p:lD)(a1 a2 a3:Option Addr)(n1 c1 n2 c2 n3 c3:Nat)(s:yC)(l:List fF)(b:Option Addr)(mb cb:Nat)(n t:Nat)(w0 w:World)(hp:sG w0 a1 a2 a3 n1 n2 n3 p)(h0:Below w0.heap.size w0 w)(ht:w0.heap.size<=t)(hn0:w0.heap.size<=n)(hnw:n<=w.heap.size)(hR:mH p s 0)(hl:oN w b l)(hll:l.length=mb)(hl4:l.length<=4)(hmc:mb<=cb)(hcm:cb<=maxLen)(hok:∀a∈l,mR p a)(hsq:s.gA<=524288)(hbx:mE w n t s):
 Calls Tryz.prog 88 #[.agg #[.slice a1 n1 c1,.slice a2 n2 c2,.slice a3 n3 c3],.pointer (some ⟨t,0,none⟩),.slice b mb cb] w λe w'=>e=.returned (.int .i64 (jJ p 600 s l:Nat))/\mE w' n t (oI p 600 s l)/\qE n t w w':=by
 obtain⟨W1,hW1⟩:∃W1,W1=w.alloc (.cells #[.slice a1 n1 c1,.slice a2 n2 c2,.slice a3 n3 c3] 26):=⟨_,rfl⟩;have k1:Below w.heap.size w W1:=by rw[hW1];exact(dA _ _).alloc (eA _) _
 have b1':W1.heap[w.heap.size]?=some (.cells #[.slice a1 n1 c1,.slice a2 n2 c2,.slice a3 n3 c3] 26 (0,0)):=by rw[hW1];exact jA w _
 have hz1:W1.heap.size=w.heap.size+1:=by rw[hW1];simp
 obtain⟨NN,hNN⟩:∃NN:Nat,NN=jJ p 600 s l:=⟨_,rfl⟩;rw[<-hNN];have HNN:=aA hNN;have HINV:=aA (lW.start hR hl4 hok);have HL1:=aA (hl.sA k1);have HLL:=aA hll;have HBX1:=aA (hbx.sA k1);have HW1:=aA hW1;have K1:=aA k1;have B1:=aA b1';have HZ1:=aA hz1;have HP:=aA hp;have H0:=aA h0;have HSQ:=aA hsq;have hs0:=h0.size;have HMC:Hid (mb<=cb/\cb<=maxLen):=⟨hmc,hcm⟩;clear hNN hl hll hbx hW1 k1 b1' hz1 hp h0 hR hl4 hok hsq hmc hcm;go_enter Tryz.func88,Tryz.ntmps88;go_upto_region 2 with fail;rw[<-HW1.out];go_loopw[2,7](λlv iv wr=>∃(k:Nat)(xs ys:List fF)(si:yC)(ab:Option Addr)(am ac:Nat),lv=.slice ab am ac/\iv=.int .i64 k/\lW p s l k xs si/\ys=xs.drop k/\ys.length=am/\am<=ac/\ac<=maxLen/\oN wr ab ys/\mE wr n t si/\qE n t w wr/\wr.heap[w.heap.size]?=some (.cells #[.slice a1 n1 c1,.slice a2 n2 c2,.slice a3 n3 c3] 26 (0,0))/\w.heap.size<wr.heap.size)(λ_ i _=>600-(intOf i).toNat);case atStart=>exact⟨0,l,l,s,b,mb,cb,rfl,rfl,HINV.out,rfl,HLL.out,HMC.out.1,HMC.out.2,HL1.out,HBX1.out,qE.kB K1.out hnw,B1.out,by have:=HZ1.out;omega⟩
 case round=>
  obtain⟨k,xs,ys,si,ab,am,ac,rfl,rfl,hinv,hys,hyl,hamc,hacm,hya,hbxr,hF,hpl,hsz⟩:=hrel;have HI:=aA hinv;have HYS:=aA hys;have HYL:=aA hyl;have HYA:=aA hya;have HBXR:=aA hbxr;have HF:=aA hF;have HPL:=aA hpl;have HACM:=aA hacm;clear hinv hys hya hbxr hF hpl hacm;cases hyy:ys with
  |nil=>
    have hk:k=xs.length:=by
     have h1:=HYS.out;rw[hyy]at h1;have h2:=List.drop_eq_nil_iff.1 h1.symm;have h3:=HI.out.le;omega
    obtain⟨d1,d2⟩:=HI.out.done (by omega);have HD1:=aA d1;have HD2:Hid (k=NN):=by show k=NN;rw[HNN.out,hk];exact Int.ofNat_inj.1 d2
    have ham:am=0:=by rw[<-hyl,hyy];rfl
    subst ham;clear hyy hyl hk d1 d2;go_wp2_with fail;go_ret;exact⟨by rw[<-HD2.out];rfl,by rw[<-HD1.out];exact HBXR.out,HF.out⟩
  |cons y r=>
    have hkl:k<xs.length:=by
     have h1:=HYS.out;rw[hyy]at h1;refine Decidable.byContradiction λh=>?_;rw[mD (by omega)]at h1;cases h1
    have hdr:=vC hkl;rw[<-HYS.out,hyy]at hdr;obtain⟨hy1,hr1⟩:y=xs[k]/\r=xs.drop (k+1):=by injection hdr with h1 h2;exact⟨h1,h2⟩
    obtain⟨ra,rs,rk,rn⟩:=HI.out.step HSQ.out hkl;rw[<-hy1]at ra rn;have HNX:=aA rn;have HRA:=aA ra;have HRS:=aA rs;have HDR:Hid ((xs++qR p si y).drop (k+1)=r++qR p si y):=by show List.drop _ _=_;rw[aJ (by omega),<-hr1]
    have hrl:r.length<=4+4*k:=by rw[hr1,rF];have:=HI.out.few;omega
    obtain⟨q,hqq⟩:∃q:Nat,y.queue=(q:Int):=⟨y.queue.toNat,by have:=ra.q;omega⟩;have HQQ:=aA hqq;have hqp:q<p.jB.length:=by have:=ra.q;omega
    have HR:=aA HI.out.right;have hql:q<si.yA.length:=by rw[HR.out.len];exact hqp
    have HQL:=aA hql;obtain⟨M,hM⟩:∃M,M=r.length:=⟨_,rfl⟩;have HM:=aA hM;rw[<-hM]at hrl;have ham:am=M+1:=by rw[<-hyl,hyy,hM];rfl
    subst ham;have hya:=HYA.out;rw[hyy]at hya;obtain⟨ga,oa,hga,hgal,e0,e1,e2,e3⟩:=oN.get hya (k:=0) (by simp);subst hga;simp only[List.getElem_cons_zero,kQ,Nat.add_zero]at e0 e1 e2 e3;rw[hqq]at e0;have HTL:=aA (hya.tail (c:=ac) (by omega));have hcm:=HACM.out;unfold maxLen at hcm;have hk600:k<564:=rk;obtain⟨H,hH⟩:∃H,H=wr.heap.size:=⟨_,rfl⟩;obtain⟨V1,hV1⟩:∃V1,V1=wr.alloc (.cells #[.int .i64 (q:Int),.string y.key,.string y.body,.int .i64 y.fC] 116):=⟨_,rfl⟩;have l1:Below wr.heap.size wr V1:=by rw[hV1];exact(dA _ _).alloc (eA _) _
    have x1:V1.heap[H]?=some (.cells #[.int .i64 (q:Int),.string y.key,.string y.body,.int .i64 y.fC] 116 (0,0)):=by rw[hV1,hH];exact jA wr _
    have HV1:=aA hV1;have HH:=aA hH;have u0:(0:Int)<((M+1:Nat):Int):=by omega
    have u0':(0:Int)<(M:Int)+1:=by omega
    have HKL:=aA hkl;have HL1':=aA l1;have X1:=aA x1;clear hyy hyl hdr hy1 hr1 ra rs rk rn hM hya hqq hV1 hH hkl l1 x1 hqp hql;go_upto_region 4 with fail;rw[<-HV1.out,<-HH.out];clear e0 e1 e2 e3;obtain⟨V2,hV2⟩:∃V2,V2=V1.alloc (.cells #[] 116):=⟨_,rfl⟩;have l2:Below V1.heap.size V1 V2:=by rw[hV2];exact(dA _ _).alloc (eA _) _
    have o2:V2.ownsRow V1.heap.size 116 4 (.slice (some ⟨V1.heap.size,0,none⟩) 0 0) 0 []:=by rw[hV2];exact aI _ #[] 0 (eA _) (zA _) rfl
    have HV2:=aA hV2;have HL2:=aA (HL1'.out.trans (l2.mono HL1'.out.size));have HO2:=aA o2;have HLL2:=aA l2;have HT2:=aA ((HTL.out.sA HL1'.out).sA l2);have u1:(1:Int)<=((M+1:Nat):Int):=by omega
    have u2:((M+1:Nat):Int)<=(ac:Int):=by omega
    have u3:(1:Int)<=(ac:Int):=by omega
    have u4:(1:Int)<=(M:Int)+1:=by omega
    have u5:(M:Int)+1<=(ac:Int):=by omega
    have HACZ:Hid ((if ac=1 then some (⟨ga,oa,none⟩:Addr)else some ⟨ga,oa+4,none⟩)=none->ac-1=0/\M=0):=λh=>by split at h<;>cases h
    have HLM:Hid ((iM r).length=M*4):=by show _=_;rw[xV,HM.out]
    have s12:V1.heap.size<=V2.heap.size:=l2.size;clear hV2 l2 o2;go_upto_region 5 with(at_builtin;rw[<-HV2.out];refine jT AP (by kernel_rfl) _ _ rfl V1.heap.size _ 0 [] rfl HO2.out (if ac=1 then some (⟨ga,oa,none⟩:Addr)else some ⟨ga,oa+4,none⟩) M (ac-1) (iM r) rfl HLM.out HACZ.out HT2.out (uZ _) (by unfold maxLen;omega) (by omega) s12 ?_;intro v3 w3 o3 g3 _);rw[uD,List.nil_append]at o3;have l3:Below V1.heap.size V1 w3:=HLL2.out.grown g3 s12 (λj hj=>(HO2.out.lt j hj).1);have L3:=aA (HL1'.out.trans (l3.mono HL1'.out.size));have x3:=pB X1.out l3;have HO3:=aA o3;obtain⟨av,cv,hv3,-⟩:=jM o3;subst hv3;generalize(if ac=1 then some (⟨ga,oa,none⟩:Addr)else some ⟨ga,oa+4,none⟩)=A5;obtain⟨b1,b2,b3,m1,d1,m2,d2,m3,d3,hb,ho⟩:=HBXR.out.sA L3.out;obtain⟨vs,hr1,hlv⟩:=ho.r1;have hm1:m1=si.yA.length:=ho.l1.symm;have hqm:q<m1:=by rw[hm1];exact HQL.out
    obtain⟨g,hgv⟩:∃g,b1=some ⟨g,0,none⟩:=by
     rcases hr1.2 with⟨e,e0⟩|⟨g,cap,cur,e,_⟩;·exfalso;omega
     ·cases e;exact⟨g,rfl⟩
    subst hgv;obtain⟨v,bl,cl,hv1,hlj⟩:=hlv.get q HQL.out;have hcell:=hr1.cellAt q (by have:=HQL.out;omega);have hfrz:=hr1.frozenAt q;rw[hv1,hlj.v]at hcell;have hsj:si.yA[q]'HQL.out=oF si q:=(rU HQL.out).symm;rw[hsj]at hcell hlj;obtain⟨L,hL⟩:∃L,L=(oF si q).length:=⟨_,rfl⟩;rw[<-hL]at hcell;have hL6:L<=6:=by rw[hL];exact HR.out.line6 (cV HQL.out)
    have hg3:g<w3.heap.size:=(hr1.lt g rfl).2;have hgn:n<=g:=(hr1.lt g rfl).1;obtain⟨_,curg,hgb⟩:=mT hr1;have hgH:g≠H:=λe=>by rw[e,x3]at hgb;cases hgb
    have hgt:g≠t:=λe=>by rw[e,hb]at hgb;cases hgb
    have htl3:=bE hb;have htH:t≠H:=λe=>by rw[e,x3]at hb;cases hb
    have HGB:=aA hgb;have SS:Hid (∀W':World,W'.heap[t]?=w3.heap[t]?->W'.heap[H]?=w3.heap[H]?->(W'.cell? ⟨t,0,none⟩=some (.slice (some ⟨g,0,none⟩) m1 d1)/\W'.cell? ⟨t,3,none⟩=some (.int .i64 si.gA)/\W'.cell? ⟨H,0,none⟩=some (.int .i64 (q:Int))/\W'.cell? ⟨H,1,none⟩=some (.string y.key)/\W'.cell? ⟨H,2,none⟩=some (.string y.body)/\W'.cell? ⟨H,3,none⟩=some (.int .i64 y.fC))):=λW' h1 h2=>by
     have hb':=h1.trans hb;have hx':=h2.trans x3;exact⟨yB hb' 0,yB hb' 3,yB hx' 0,yB hx' 1,yB hx' 2,yB hx' 3⟩
    have HB:=aA hb;have X3:=aA x3;have HOS:=aA ho;have HLJ:=aA hlj;have HL:=aA hL;have HCE:=aA hcell;have HFZ:=aA hfrz;have hXL:=bE x3;have j1:(0:Int)<=(q:Int):=by omega
    have j2:(q:Int)<m1:=by omega
    clear l3 o3 g3 x3 hb ho hr1 hlv hm1 hqm hv1 hlj hcell hfrz hsj hL hgb u0 u0' u1 u2 u3 u4 u5;refine zB (S:=λW'=>(W'.cell? ⟨t,0,none⟩=some (.slice (some ⟨g,0,none⟩) m1 d1)/\W'.cell? ⟨t,3,none⟩=some (.int .i64 si.gA)/\W'.cell? ⟨H,0,none⟩=some (.int .i64 (q:Int))/\W'.cell? ⟨H,1,none⟩=some (.string y.key)/\W'.cell? ⟨H,2,none⟩=some (.string y.body)/\W'.cell? ⟨H,3,none⟩=some (.int .i64 y.fC))) (by kernel_rfl) (SS.out _ rfl rfl) (λhHeld=>?_);obtain⟨wd,hwd⟩:∃wd,wd=w3.drew:=⟨_,rfl⟩;rw[<-hwd]at hHeld⊢;have ld:Below w3.heap.size w3 wd:=by rw[hwd];exact(dA _ _).drew
    clear hwd;refine tk 0 ?_;refine tk 1 ?_;refine tk 2 ?_;refine tk 3 ?_;refine tk 4 ?_;refine tk 5 ?_;refine tk 6 ?_;refine tk 7 ?_;refine tk 8 ?_;refine tk 9 ?_;refine tk 10 ?_;refine tk 11 ?_;refine tk 12 ?_;refine tk 14 ?_;refine tk 15 ?_;refine tk 16 ?_;refine tk 17 ?_;refine tk 18 ?_;refine tk 19 ?_;refine tk 20 ?_;refine tk 21 ?_;refine tk 22 ?_;refine tk 23 ?_;refine tk 24 ?_;refine pG 13 (λK hK=>?_);have cq:=(ld.cell (p:=⟨g,q,none⟩) hg3).trans HCE.out;go_simp;refine hK.out _ _ (SS.out _ (ld.block t htl3) (ld.block H hXL)) (λ_=>?_);clear hK K cq;try refine hG ?_
    refine pG 25 (λK hK=>?_);go_simp;have hqu:q<(rL si).yA.length:=HQL.out;have hlo:tI (oF si q)=true:=HR.out.line _ (cV HQL.out);have hno:lT (dL si y).seq (oF si q)=false:=wY (s:=rL si) hqu hlo (DA HR.out);refine(RB (oF si q) bl L cl si.gA y.fC y.key y.body false _ HL.out.symm (by omega) (HLJ.out.it.sA ld) hno).mono ?_;rintro e w5⟨v5,m5,rfl,o5,k5⟩;have l5:Below w3.heap.size w3 w5:=ld.trans (k5.mono ld.size);refine hK.out _ _ (SS.out _ (l5.block t htl3) (l5.block H hXL)) (λhH5=>?_);clear hK K;try refine hG ?_
    refine tk 26 ?_;have o5':w5.ownsRow wd.heap.size 86 5 v5 m5 (tK (sH (oF si q) (dL si y))):=o5;have hnd:n<=wd.heap.size:=by have:=ld.size;have:=L3.out.size;omega
    obtain⟨b5,c5,hv5,hm5⟩:=vX o5' hnd;have hv5v:=hv5.v;subst hv5v;obtain⟨PL,hPL⟩:∃PL,PL=(sH (oF si q) (dL si y)).length:=⟨_,rfl⟩;rw[<-hPL]at hv5⊢;have HPLL:=aA hPL;clear hPL;have c8:=(l5.cell (p:=⟨g,q,none⟩) hg3).trans HCE.out;have f8:=(l5.frozen (p:=⟨g,q,none⟩) hg3).trans HFZ.out;refine pG 27 (λK hK=>?_);go_simp;obtain⟨w6,hw6⟩:∃w6,w6=w5.setCell ⟨g,q,none⟩ (.slice b5 PL c5):=⟨_,rfl⟩;rw[<-hw6];have hg5:=(l5.block g hg3).trans HGB.out;have kt6:jH 110 w5 w6:=by rw[hw6];exact jH.setCell hg5 _
    have bt5:=pB HB.out l5;have xh5:=pB X3.out l5;have bt6:=(kt6.block t _ _ bt5 (by decide)).trans bt5;have xh6:=(kt6.block H _ _ xh5 (by decide)).trans xh5;refine hK.out _ _ (SS.out _ (bt6.trans HB.out.symm) (xh6.trans X3.out.symm)) (λ_=>?_);clear hK K;try refine hG ?_
    refine gC (by kernel_rfl) ?_ _;have ho6:fI w6 n (some ⟨g,0,none⟩) b2 b3 m1 d1 m2 d2 m3 d3 {si with yA:=si.yA.set q (sH (oF si q) (dL si y))}:=(HOS.out.sA l5).line HQL.out hv5 hw6;have hbx6:mE w6 n t {si with yA:=si.yA.set q (sH (oF si q) (dL si y))}:=⟨_,_,_,_,_,_,_,_,_,bt6,ho6⟩;have F5:qE n t w w5:=HF.out.trans (qE.kB (L3.out.trans (l5.mono L3.out.size)) (by omega));have F6:qE n t w w6:=by rw[hw6];exact F5.typeSet hgn _
    have KP6:qG wr w6:=(qG.kB (L3.out.trans (l5.mono L3.out.size))).trans (qG.of_typeI kt6);have KQ6:qG w3 w6:=(qG.kB l5).trans (qG.of_typeI kt6);have HO6:=aA (KQ6.row HO3.out);have f60:=pA bt6 3;obtain⟨e0,e1,e2,e3,e4,e5,e6,e7⟩:=gD bt6;obtain⟨w7,hw7⟩:∃w7,w7=w6.setCell ⟨t,3,none⟩ (.int .i64 (si.gA+1)):=⟨_,rfl⟩;have bt7:w7.heap[t]?=some (.cells #[.slice (some ⟨g,0,none⟩) m1 d1,.slice b2 m2 d2,.slice b3 m3 d3,.int .i64 (si.gA+1),.int .i64 si.fA,.int .i64 si.nB,.int .i64 si.uA,.int .i64 si.iA] 39 (0,0)):=by rw[hw7];exact bG bt6 (j:=3) _
    have kt7:jH 39 w6 w7:=by rw[hw7];exact jH.setCell bt6 _
    have hbx7:=hbx6.field3 (si.gA+1);rw[<-hw7]at hbx7;obtain⟨w8,hw8⟩:∃w8,w8=w7.setCell ⟨t,5,none⟩ (.int .i64 (si.nB+1)):=⟨_,rfl⟩;have bt8:w8.heap[t]?=some (.cells #[.slice (some ⟨g,0,none⟩) m1 d1,.slice b2 m2 d2,.slice b3 m3 d3,.int .i64 (si.gA+1),.int .i64 si.fA,.int .i64 (si.nB+1),.int .i64 si.uA,.int .i64 si.iA] 39 (0,0)):=by rw[hw8];exact bG bt7 (j:=5) _
    have kt8:jH 39 w7 w8:=by rw[hw8];exact jH.setCell bt7 _
    have hbx8:mE w8 n t {si with yA:=si.yA.set q (sH (oF si q) (dL si y)),gA:=si.gA+1,nB:=si.nB+1}:=by rw[hw8];exact hbx7.field5 (si.nB+1)
    have t8:vJ t w6 w8:=by
     have t7:vJ t w6 w7:=by rw[hw7];exact uF _ _ _ _
     have t8':vJ t w7 w8:=by rw[hw8];exact uF _ _ _ _
     exact t7.trans t8'
    have F8:qE n t w w8:=F6.turnB t8 (by have:=F6.size;omega);have K68:qG w6 w8:=(qG.of_typeS kt7).trans (qG.of_typeS kt8);have HO8:=aA (K68.row HO6.out);have xh8:=(K68 H _ _ xh6 (by decide) (by decide)).trans xh6;have pl8:=((KP6.trans K68) _ _ _ HPL.out (by decide) (by decide)).trans HPL.out;have hup:=R2 (p:=p) (x:=dL si y) HQL.out;have hl8:tI (oF {si with yA:=si.yA.set q (sH (oF si q) (dL si y)),gA:=si.gA+1,nB:=si.nB+1} q)=true:=by rw[hup.2];exact AJ hlo (CW HR.out HRA.out HRS.out) hno
    have hdrp:0<=si.iA/\si.iA<=10000000:=by have h0:=HR.out.dr;have h1:=HR.out.sum;have h2:=HR.out.cs;have h3:=HR.out.ns;have h4:=HR.out.ak;have h5:(0:Int)<=((kI si).length:Int):=Int.natCast_nonneg _;omega
    have hqn:q<n2:=by rw[<-HP.out.l2,<-HR.out.len];exact HQL.out
    have hsr:({si with yA:=si.yA.set q (sH (oF si q) (dL si y)),gA:=si.gA+1,nB:=si.nB+1}:yC).yA.length=n2:=by show(si.yA.set q _).length=n2;rw[kF,HR.out.len,HP.out.l2]
    have n8:n<=w8.heap.size:=by have:=F8.size;omega
    have HSH:=aA (OW p a1 a2 a3 n1 c1 n2 c2 n3 c3 {si with yA:=si.yA.set q (sH (oF si q) (dL si y)),gA:=si.gA+1,nB:=si.nB+1} q n t w0 w8 HP.out (H0.out.trans (F8.below (by omega) ht)) ht hn0 n8 HR.out.pl hqn hsr hl8 hdrp hbx8);rw[hup.1,hup.2]at HSH;have jw3:IntKind.i64.wrap (si.gA+1)=si.gA+1:=by have h3:=HR.out.ns;rw[uB];omega
    have jw5:IntKind.i64.wrap (si.nB+1)=si.nB+1:=by have h2:=HR.out.cs;have h3:=HR.out.ns;rw[uB];omega
    have HW7:=aA hw7;have HW8:=aA hw8;have BT7:=aA bt7;have XH8:=aA xh8;have PL8:=aA pl8;have HF8:=aA F8;have hs8:V1.heap.size<=w8.heap.size:=by
     have h1:=L3.out.size;have:=(K68.row HO6.out).lt;have h2:=bE xh8;have h3:V1.heap.size=H+1:=by rw[HV1.out,HH.out];simp
     omega
    have hwn8:w.heap.size<w8.heap.size:=bE pl8;clear hbx6 hbx7 hbx8 bt5 bt6 bt7 bt8 xh5 xh6 xh8 pl8 kt6 kt7 kt8 t8 F5 F6 F8 KP6 KQ6 K68 ho6 hw6 hw7 hw8 hup hl8 hdrp hsr c8 f8 hg5 o5 o5' hv5 hm5 k5 l5 ld hnd hqu hlo hno hH5;go_upto_region 7 with fail;rw[<-HW7.out];clear e0 e1 e2 e3 e4 e5 e6 e7 f60;obtain⟨e0,e1,e2,e3,e4,e5,e6,e7⟩:=gD BT7.out;have f65:=pA BT7.out 5;go_upto_region 8 with fail;rw[<-HW8.out];clear e0 e1 e2 e3 e4 e5 e6 e7 f65;obtain⟨z0,z1,z2⟩:=xH PL8.out;have i0:=yB XH8.out 0;simp at i0;have jk:IntKind.i64.wrap ((k:Int)+1)=(k:Int)+1:=by rw[uB];omega
    go_wp2_with fail;refine HSH.out.mono ?_;rintro e w9⟨v9,rfl,⟨m9,o9⟩,hbx9,hF9,hk9⟩;obtain⟨a9,c9,hv9,-,-,hn9,hr9⟩:=jM o9;subst hv9;have hm9:m9<=4:=by
     have h1:=o9.1;rw[xV]at h1;have h2:=(FH HR.out HRA.out HRS.out).2;have h3:=HR.out.rp.few.2.1;unfold qR aO at h2;rw[show y.queue.toNat=q by rw[HQQ.out];rfl]at h2;have h4:(vL p q (sH (oF si q) (dL si y))).length<=p.jB.length:=h2;omega
    have HO9:=aA (hk9.row HO8.out);have HR9:=aA hr9;have HN9:=aA hn9;have HL9:Hid ((iM (vL p q (sH (oF si q) (dL si y)))).length=m9*4):=o9.1;have HBX9:=aA hbx9;have HPL9:=aA ((hk9 _ _ _ PL8.out (by decide) (by decide)).trans PL8.out);have HF9:=aA (HF8.out.trans hF9);have s9:=hF9.size;clear o9 hr9 hn9 hbx9 hF9 hk9 z0 z1 z2 i0;go_wp2_with(at_builtin;refine jT AP (by kernel_rfl) _ _ rfl V1.heap.size _ M (iM r) rfl HO9.out a9 m9 c9 (iM (vL p q (sH (oF si q) (dL si y)))) rfl HL9.out HN9.out HR9.out (uZ _) (by unfold maxLen;omega) (by omega) (by omega) ?_;intro v10 w10 o10 g10 _;obtain⟨a10,c10,hv10,h10a,h10b,-,h10r⟩:=jM o10;subst hv10;have O10:=aA o10;have G10:=aA g10;have R10:=aA h10r;have M10:=aA h10a;have N10:=aA h10b;clear o10 g10 h10r h10a h10b);have hrb:qR p si y=vL p q (sH (oF si q) (dL si y)):=by unfold qR aO;rw[show y.queue.toNat=q by rw[HQQ.out];rfl];rfl
    have hrs:cT p si y=qK p (rL si) q (dL si y):=by unfold cT;rw[show y.queue.toNat=q by rw[HQQ.out];rfl]
    have kt10:jH 116 w9 w10:=jH.grown HO9.out G10.out;have HREL:Hid (oN w10 a10 (r++qR p si y)/\mE w10 n t (cT p si y)/\qE n t w w10/\w10.heap[w.heap.size]?=some (.cells #[.slice a1 n1 c1,.slice a2 n2 c2,.slice a3 n3 c3] 26 (0,0))/\w.heap.size<w10.heap.size/\(r++qR p si y).length=M+m9):=by
     refine⟨?_,?_,?_,(kt10.block _ _ _ HPL9.out (by decide)).trans HPL9.out,by have:=G10.out.size;omega,?_⟩;·unfold oN;rw[AZ,hrb];exact R10.out
     ·rw[hrs];exact HBX9.out.typeT kt10 (by decide) (by decide)
     ·exact HF9.out.grown G10.out (by omega) (λj hj=>by have:=(HO9.out.lt j hj).1;have:=HL1'.out.size;have:=HF.out.size;omega)
     ·have h1:=HL9.out;rw[xV]at h1;rw[dC,hrb,HM.out];omega
    clear hrb hrs kt10;go_roundw;case rel=>exact⟨k+1,_,_,_,a10,M+m9,c10,rfl,by go_num,HNX.out,HDR.out.symm,HREL.out.2.2.2.2.2,M10.out,N10.out,HREL.out.1,HREL.out.2.1,HREL.out.2.2.1,HREL.out.2.2.2.1,HREL.out.2.2.2.2.1⟩
    case measure=>simp[intOf];omega
end Go.Proofs.YtedmnjimkhamaaaGreatDoor
