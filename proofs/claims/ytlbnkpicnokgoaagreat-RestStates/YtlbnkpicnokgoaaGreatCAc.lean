import Derived.Deep.RegionHeld3
import Derived.Test.YtlbnkpicnokgoaaGreatUkx
import Derived.Test.YtlbnkpicnokgoaaGreatUax
namespace Go.Proofs.YtlbnkpicnokgoaaGreat
open Go.RowKit Go.Maps
set_option linter.unusedVariables false
set_option maxRecDepth 100000
set_option maxHeartbeats 8000000
theorem g1_ {W W':World} {base R:Nat} {T:TypeId} {size:Nat} {v:Value} {n:Nat} {cs:List Value} (h:W.ownsRow base T size v n cs) (hF:ac_ W.heap.size R W W') (hR:R < base):W'.ownsRow base T size v n cs:=
 ch_ h (fun g hg=>hF.block g (h.lt g hg).2 (by have:=(h.lt g hg).1;omega))
theorem gg_ {W W':World} {base R:Nat} {T:TypeId} {size:Nat} {v:Value} {n:Nat} {cs:List Value} (h:W.ownsRow base T size v n cs) (hF:aZ_ R W W') (hR:R < base):W'.ownsRow base T size v n cs:=
 ch_ h (fun g hg=>hF.block g (h.lt g hg).2 (by have:=(h.lt g hg).1;omega))
theorem i7_ {W W':World} {n t:Nat} {s:ab_} (h:StBox W n t s) (hF:ac_ W.heap.size t W W'):dI_ n W W':=by
 obtain ⟨_,_,_,_,_,_,_,_,_,hb,_⟩:=h;exact ⟨hF.size,fun g cur _ hg=>hF.block g (lth_ hg) (fun e=>by rw [e,hb] at hg;cases hg)⟩
theorem StBox.typeT {T:TypeId} {W W':World} {n t:Nat} {s:ab_} (h:StBox W n t s) (k:av_ T W W') (hT:48≠T∧67≠T∧69≠T∧46≠T) (hS:31≠T):StBox W' n t s:=by
 obtain ⟨b1,b2,b3,m1,d1,m2,d2,m3,d3,hb,ho⟩:=h;exact ⟨b1,b2,b3,m1,d1,m2,d2,m3,d3,(k.block t _ _ hb hS).trans hb,ho.typeT k hT⟩
def Keep2 (W W':World):Prop:=∀ (k:Nat) (cur:Array Value) (T:TypeId),W.heap[k]? = some (Obj.cells cur T (0,0))→T≠31→T≠46→W'.heap[k]? = W.heap[k]?
theorem oo_ {p:ad_} {q:Nat} {l:List ae_} (hl:at_ l = true) (h1:0≤(qAt p q).limit) (h2:(l.length:Int)≤(qAt p q).limit+1) :
 ef_ l (qAt p q).limit = 0∧mA_ l (qAt p q).limit = putL p q l∧(hH_ l (qAt p q).limit).flatMap (dieL p q) = putA p q l∧((hH_ l (qAt p q).limit).length:Int) = putD p q l∧(∀ y ∈ hH_ l (qAt p q).limit,am_ y = true)∧(hH_ l (qAt p q).limit).length≤1:=by
 have e0:ef_ l (qAt p q).limit = 0:=by unfold ef_;rw [if_pos hl,if_neg (by omega)]
 unfold mA_ hH_ putL putA putD;rw [if_pos e0,if_pos e0];by_cases hc:(l.length:Int)≤(qAt p q).limit
 ·have hn:gB_ l.length (qAt p q).limit = 0:=by unfold gB_;omega
  rw [if_pos hc,if_pos hc,if_pos hc,hn];exact ⟨e0,by simp,by simp,by simp,by simp,by simp⟩
 ·have hn:gB_ l.length (qAt p q).limit = 1:=by unfold gB_;omega
  rw [if_neg hc,if_neg hc,if_neg hc,hn];cases l with
  | nil=>simp at hc;omega
  | cons y r=>exact ⟨e0,by simp,by simp,by simp,by simpa using (bv_.1 hl).1 y List.mem_cons_self,by simp⟩
theorem hk_ (p:ad_) (a1 a2 a3:Option Addr) (n1 c1 n2 c2 n3 c3:Nat) (s:ab_) (q:Nat) (x:ae_) (n t:Nat) (w0 w:World) (hp:ap_ w0 a1 a2 a3 n1 n2 n3 p) (h0:Below w0.heap.size w0 w) (ht:w0.heap.size≤t) (htn:t < n) (hnw:n≤w.heap.size) (hc:chkP p = 0) (hq:q < n2) (hsr:s.ready.length = n2) (hl:at_ (af_ s q) = true) (hx:am_ x = true) (hh:bL_ x.seq (af_ s q) = false) (hrm:((af_ s q).length:Int)≤(qAt p q).limit) (hd:0≤s.dropped∧s.dropped≤10000000) (hbx:StBox w n t s) :
 Calls Tryz.prog 109 #[.agg #[.slice a1 n1 c1,.slice a2 n2 c2,.slice a3 n3 c3],.pointer (some ⟨t,0,none⟩),.int .i64 q,x.val] w fun e w'=>∃ v,e = .returned v∧jw_ w' w.heap.size v (putB p s q x)∧StBox w' n t (putS p s q x)∧ac_ n t w w'∧Keep2 w w':=by
 obtain ⟨W2,hW2⟩:∃ W2,W2 = (w.alloc (.cells #[.slice a1 n1 c1,.slice a2 n2 c2,.slice a3 n3 c3] 26)).alloc (.cells #[.int .i64 x.seq,.string x.key,.string x.body,.bool x.again,.int .i64 x.deaths] 48):=⟨_,rfl⟩
 obtain ⟨hz2,hb1,hb2,hB2⟩:=cz_ w _ _ _ hW2;have hs0:=h0.size;have hbt:∃ cur,w.heap[t]? = some (.cells cur 31 (0,0)):=by obtain ⟨_,_,_,_,_,_,_,_,_,h,_⟩:=hbx;exact ⟨_,h⟩
 have HBT:=hidI hbt;obtain ⟨b1,b2,b3,m1,d1,m2,d2,m3,d3,hb,ho⟩:=hbx.keep hB2;have hql:q < s.ready.length:=by rw [hsr];exact hq
 have hm1:m1 = n2:=by rw [← ho.l1,hsr]
 obtain ⟨vs,hr1,hlv⟩:=ho.r1;obtain ⟨g,hgv⟩:∃ g,b1 = some ⟨g,0,none⟩:=by
  rcases hr1.2 with ⟨e,e0⟩ | ⟨g,cap,cur,e,_⟩
  ·exfalso;omega
  ·cases e;exact ⟨g,rfl⟩
 subst hgv;obtain ⟨v,bl,cl,hv1,hlj⟩:=hlv.get q hql;have hcell:=hr1.cellAt q (by omega);rw [hv1,hlj.v] at hcell;have hsj:s.ready[q]'hql = af_ s q:=(a3_ hql).symm;rw [hsj] at hcell hlj;obtain ⟨line,hline⟩:∃ line,line = af_ s q:=⟨_,rfl⟩
 rw [← hline] at hcell hlj hl hh hrm;obtain ⟨L,hL⟩:∃ L,L = line.length:=⟨_,rfl⟩
 rw [← hL] at hcell hrm;have HL:=hidI hL;have HLJ:=hidI hlj;have HHL:=hidI hl;have HHX:=hidI hx;have HHH:=hidI hh;have HLINE:=hidI hline;have HHB:=hidI hb;have HHO:=hidI ho;have HQL:=hidI hql;have HW2:=hidI hW2;have HB2:=hidI hB2;have HC:=hidI hc;have HP:=hidI hp;have H0:=hidI h0;have HR:=hidI (bc_ hc);have hgl:g < W2.heap.size:=(hr1.lt g rfl).2;have hgn:n≤g:=(hr1.lt g rfl).1;have HB1':=hidI hb1;have HB2':=hidI hb2;have hlim:=HR.out.queues _ (List.getElem_mem (show q < p.queues.length by rw [hp.l2];exact hq));rw [← eu_] at hlim;obtain ⟨y0,y1,y2,y3,y4,y5,y6,y7⟩:=aa_ hb;have hltt:=lth_ hb;have HSS:Hid (∀ W',Below W2.heap.size W2 W'→(W'.cell? ⟨t,0,none⟩ = some (.slice (some ⟨g,0,none⟩) m1 d1)∧W'.cell? ⟨g,q,none⟩ = some (.slice bl L cl))∧(W'.cell? ⟨w.heap.size+1,0,none⟩ = some (.int .i64 x.seq)∧W'.cell? ⟨w.heap.size+1,1,none⟩ = some (.string x.key)∧W'.cell? ⟨w.heap.size+1,2,none⟩ = some (.string x.body)∧W'.cell? ⟨w.heap.size+1,3,none⟩ = some (.bool x.again)∧W'.cell? ⟨w.heap.size+1,4,none⟩ = some (.int .i64 x.deaths))):=fun W' h=>⟨⟨coc_ (pkp_ HHB.out h) 0,(h.cell (p:=⟨g,q,none⟩) hgl).trans hcell⟩,coc_ (pkp_ HB2'.out h) 0,coc_ (pkp_ HB2'.out h) 1,coc_ (pkp_ HB2'.out h) 2,coc_ (pkp_ HB2'.out h) 3,coc_ (pkp_ HB2'.out h) 4⟩
 have j1:(0:Int)≤(q:Int):=by omega
 have j2:(q:Int) < m1:=by omega
 have HZ2:=hidI hz2;have HPE:Hid (et_ line x = 0):=by show et_ line x = 0;unfold et_;rw [if_pos hl,if_pos hx,if_neg (by rw [hh];decide)]
 have HPV:Hid (hD_ line x = ay_ line x):=by show hD_ line x = _;unfold hD_;rw [if_pos HPE.out]
 clear hbt hW2 hz2 hb1 hb2 hB2 hc hx hp hb ho hbx h0 hr1 hlv hv1 hlj hsj hline hL hl hh hcell y0 y1 y2 y3 y4 y5 y6 y7;unfold ae_.val;go_enter Tryz.func109,Tryz.ntmps109;go_upto_region 1 with fail
 rw [← HW2.out];refine wp_region_held_drew (S:=fun W'=>(W'.cell? ⟨t,0,none⟩ = some (.slice (some ⟨g,0,none⟩) m1 d1)∧W'.cell? ⟨g,q,none⟩ = some (.slice bl L cl))∧(W'.cell? ⟨w.heap.size+1,0,none⟩ = some (.int .i64 x.seq)∧W'.cell? ⟨w.heap.size+1,1,none⟩ = some (.string x.key)∧W'.cell? ⟨w.heap.size+1,2,none⟩ = some (.string x.body)∧W'.cell? ⟨w.heap.size+1,3,none⟩ = some (.bool x.again)∧W'.cell? ⟨w.heap.size+1,4,none⟩ = some (.int .i64 x.deaths))) (by kernel_rfl) (HSS.out _ (Below.refl _ _).drew) (fun hHeld=>?_);refine tk 0 ?_;refine tk 1 ?_;refine tk 2 ?_;refine tk 3 ?_;refine tk 4 ?_;refine tk 5 ?_;refine tk 6 ?_;refine tk 7 ?_;refine rdy 8 (fun K hK=>?_);go_simp;refine (np_ line bl L cl x.seq x.deaths x.key x.body x.again _ HL.out.symm (by rw [HL.out];exact HLJ.out.le) HLJ.out.cm HLJ.out.nil (HLJ.out.it.keep (Below.refl _ _).drew)).mono ?_;rintro e w3 ⟨v3,mm3,rfl,hown3,k3'⟩
 have k3:Below W2.heap.size W2 w3:=bud_ k3';have hown3':w3.ownsRow W2.heap.size 48 5 v3 mm3 (al_ (ay_ line x)):=by have:=hown3;rw [show (⟨x.seq,x.key,x.body,x.again,x.deaths⟩:ae_) = x from rfl,HPV.out] at this;exact this
 rw [show (⟨x.seq,x.key,x.body,x.again,x.deaths⟩:ae_) = x from rfl,HPE.out];refine hK.out _ _ (HSS.out _ k3) (fun hH2=>?_);clear hK K hHeld k3' hown3;try refine nrm ?_
 refine tk 9 ?_;refine tk 10 ?_;refine tk 11 ?_;refine tk 12 ?_;refine tk 13 ?_;refine wpAnyH_done (by kernel_rfl) ?_ _;clear hH2;obtain ⟨bb3,cc3,hvv,hmm3⟩:=bD_ hown3' (n:=W2.heap.size) (Nat.le_refl _);have hv3:=hvv.v;subst hv3;obtain ⟨PL,hPL⟩:∃ PL,PL = ay_ line x:=⟨_,rfl⟩
 rw [← hPL] at hvv hmm3 ⊢;obtain ⟨LL,hLL⟩:∃ LL,LL = PL.length:=⟨_,rfl⟩
 have HLL:=hidI hLL;rw [← hLL];have HPL:=hidI hPL;have HVV:=hidI hvv;have K3:=hidI k3;have s3:=k3.size;have k3a:=k3.alloc s3 (.cells #[.int .i64 0] 33);have hokPL:at_ PL = true:=by rw [hPL];exact ds_ HHL.out HHX.out HHH.out
 have hlenPL:LL = L+1:=by rw [hLL,hPL,c6_,HL.out]
 have HOKPL:=hidI hokPL;have hlim1:1≤(qAt p q).limit∧(qAt p q).limit≤6:=⟨hlim.1,hlim.2.1⟩;have HSH:=hidI (oo_ (p:=p) (q:=q) hokPL (by omega) (by omega));have HDST:Hid (dieL p q = dieL p q):=rfl;obtain ⟨lim,hlm⟩:∃ lim,lim = (qAt p q).limit:=⟨_,rfl⟩
 have HLIM:=hidI hlm;rw [← hlm] at HSH hlim1;have HLENPL:=hidI hlenPL;clear hPL hLL hvv k3 hown3' hokPL hlim hlm hlenPL hmm3;go_wp2_with (go_at_call 47;refine (dY_ _ _ (aP_ _ _ _) (by simp)).mono ?_;rintro e w4 ⟨rfl,hB4⟩;have k4:=k3a.trans (hB4.mono k3a.size);have K4:=hidI k4;have k34:Below w3.heap.size w3 w4:=((Below.refl _ _).alloc (Nat.le_refl _) _).trans (hB4.mono (by simp));have HV4:=hidI (HVV.out.keep k34);obtain ⟨z0,z1,z2⟩:=ag_ (pkp_ HB1'.out k4);have HP4:=hidI (HP.out.keep (H0.out.trans ((HB2.out.trans (k4.mono (by have:=HZ2.out;omega))).mono hs0)));obtain ⟨gq,oq,hgq,hgql,u0,u1,u2⟩:=HP4.out.p2.get (k:=q) (by rw [HP4.out.l2];exact hq);rw [← eu_,← HLIM.out] at u1;subst hgq;have jq:(q:Int) < n2:=(by omega);clear hB4 k34 k4)
 have hs4:=K4.out.size;refine (nC_ PL bb3 LL cc3 lim w4 HLL.out.symm (by rw [HLL.out];exact HV4.out.le) HV4.out.cm HV4.out.nil HV4.out.it (by omega)).mono ?_;rintro e w5 ⟨v5,u5,mA,mB,rfl,hoA,hoB,k5⟩;obtain ⟨E0,EA,EB,ED,EI,E1⟩:=HSH.out;rw [E0];rw [EA] at hoA;obtain ⟨SB,hSB⟩:∃ SB,SB = hH_ PL lim:=⟨_,rfl⟩
 rw [← hSB] at hoB EB ED EI E1;obtain ⟨bA,cA,hvA,hmA⟩:=bD_ hoA (n:=n) (by omega);obtain ⟨bB,cB,hvB,hmB⟩:=bD_ hoB (n:=n) (by omega);have hA1:=hvA.v;have hB1:=hvB.v;subst hA1 hB1;obtain ⟨mS,hmS⟩:∃ mS,mS = SB.length:=⟨_,rfl⟩
 obtain ⟨mP,hmP⟩:∃ mP,mP = (putL p q PL).length:=⟨_,rfl⟩
 rw [← hmS,← hmP];have HMS:=hidI hmS;have HMP:=hidI hmP;have HVA:=hidI hvA;have HVB:=hidI hvB;have HEB:=hidI EB;have HED:=hidI ED;have HEI:=hidI EI;have hmS1:mS≤1:=by rw [hmS];exact E1
 have K5:=hidI (K4.out.trans (k5.mono hs4));have s5:=K5.out.size;have k5a:=K5.out.alloc s5 (.cells #[.int .i64 0] 33);clear hvA hvB EB ED EI E1 E0 EA hoA hoB k5 hSB hmS hmP hmA hmB z0 z1 z2 u0 u1 u2 HSH HV4;have HTC:Hid (∀ W',Below W2.heap.size W2 W'→W'.cell? ⟨t,0,none⟩ = some (.slice (some ⟨g,0,none⟩) m1 d1)):=fun W' h=>(HSS.out W' h).1.1
 go_wp2_with (go_at_call 47;refine (dY_ _ _ (aP_ _ _ _) (by simp)).mono ?_;rintro e w6 ⟨rfl,hB6⟩;have k6:=k5a.trans (hB6.mono k5a.size);have K6:=hidI k6;have k56:Below w5.heap.size w5 w6:=((Below.refl _ _).alloc (Nat.le_refl _) _).trans (hB6.mono (by simp));have HVA6:=hidI (HVA.out.keep k56);have HVB6:=hidI (HVB.out.keep k56);have y0:=HTC.out _ k6;have HO6:=hidI (HHO.out.keep k6);have hc6:=(HSS.out _ k6).1.2;have hf6:=(HO6.out.r1.choose_spec.1).frozenAt q;clear hB6 k56 k6)
 have s6:=K6.out.size;obtain ⟨W7,hW7⟩:∃ W7,W7 = w6.setCell ⟨g,q,none⟩ (.slice bA mP cA):=⟨_,rfl⟩
 rw [← hW7];have hva:cG_ w6 n (putL p q PL) (.slice bA mP cA) bA cA:=by have:=HVA6.out;rw [← HMP.out] at this;exact this
 have ho7:aM_ W7 n (some ⟨g,0,none⟩) b2 b3 m1 d1 m2 d2 m3 d3 { s with ready:=s.ready.set q (putL p q PL) }:=HO6.out.line HQL.out hva hW7;have hky:av_ 46 w6 W7:=by
  obtain ⟨_,cu,hcu⟩:=aT_ (HO6.out.r1.choose_spec.1);rw [hW7];exact av_.setCell hcu _
 have t7:aZ_ g w6 W7:=by rw [hW7];exact sct_ _ _ _ _
 have hb7:W7.heap[t]? = _:=(t7.block t (by have:=K6.out.size;omega) (by omega)).trans (pkp_ HHB.out K6.out);have hbx7:StBox W7 n t { s with ready:=s.ready.set q (putL p q PL) }:=⟨_,_,_,_,_,_,_,_,_,hb7,ho7⟩;have hsb7:cG_ W7 n SB (.slice bB mS cB) bB cB:=by have:=HVB6.out.keepT (hky.keepI (by decide));rw [← HMS.out] at this;exact this
 have x7:W7.heap[w.heap.size]? = _:=(t7.block _ (by have:=HZ2.out;omega) (by have:=HO6.out;intro e;have h1:=pkp_ HB1'.out K6.out;obtain ⟨_,cu,hcu⟩:=aT_ (HO6.out.r1.choose_spec.1);rw [← e,h1] at hcu;cases hcu)).trans (pkp_ HB1'.out K6.out);have F7:Hid (ac_ n t w W7):=((ac_.of_below HB2.out hnw).trans (ac_.of_below K6.out (by have:=HZ2.out;omega))).trans (by rw [hW7];exact (ac_.refl _ _ _).typeSet hgn _);have HK7:Hid (Keep2 w W7):=fun k cur T hk h1 h2=>by
  have hkl:=lth_ hk;have e2:w6.heap[k]? = w.heap[k]?:=(K6.out.block k (by have:=HZ2.out;omega)).trans (HB2.out.block k hkl);refine (t7.block k (by have:=K6.out.size;have:=HZ2.out;omega) (fun e=>?_)).trans e2;obtain ⟨_,cu,hcu⟩:=aT_ (HO6.out.r1.choose_spec.1);rw [← e,e2,hk] at hcu;cases hcu;exact h2 rfl
 have HBX7:=hidI hbx7;have HSB7:=hidI hsb7;have X7:=hidI x7;have s7:W2.heap.size≤W7.heap.size:=by have:=t7.size;omega
 clear hW7 hva ho7 hky t7 hb7 hbx7 hsb7 x7 y0 hc6 hf6;go_wp2_with fail
 go_loopw [13,55] (fun l i wr=>∃ (k m:Nat),k≤mS∧i = .int .i64 k∧wr.ownsRow w.heap.size 150 4 l m (aw_ ((SB.take k).flatMap (dieL p q)))∧m≤k * 4∧StBox wr n t { s with ready:=s.ready.set q (putL p q PL),dropped:=s.dropped+k }∧cG_ wr n SB (.slice bB mS cB) bB cB∧wr.heap[w.heap.size]? = some (.cells #[.slice a1 n1 c1,.slice (some ⟨gq,oq,none⟩) n2 c2,.slice a3 n3 c3] 26 (0,0))∧ac_ n t w wr∧w.heap.size < wr.heap.size∧Keep2 w wr) (fun _ i _=>mS - (intOf i).toNat)
 case atStart=>exact ⟨0,0,Nat.zero_le _,rfl,World.ownsRow_nil _ _ _ _,Nat.zero_le _,by have:=HBX7.out;simpa using this,HSB7.out,X7.out,F7.out,by have:=HZ2.out;omega,HK7.out⟩
 case round=>
  obtain ⟨k,m,hk,rfl,hown,hm,hbx,hsb,hpx,hF,hsz,hkp⟩:=hrel;have HKP:=hidI hkp;clear hkp;have HO:=hidI hown;have HBX:=hidI hbx;have HSB:=hidI hsb;have HPX:=hidI hpx;have HF:=hidI hF;clear hown hbx hsb hpx hF;by_cases hlt:k < mS
  ·have HLT:=hidI hlt;have hkl:k < SB.length:=by rw [← HMS.out];exact hlt
   have HKL:=hidI hkl;obtain ⟨gi,oi,hgi,hgil,hic⟩:∃ gi oi,bB = some ⟨gi,oi,none⟩∧gi < wr.heap.size∧aR_ wr gi (oi+k * 5) (SB[k]'hkl):=by
    rcases HSB.out.it with e | ⟨g',o',e,hl',h⟩
    ·exfalso;rw [e] at hkl;simp at hkl
    ·exact ⟨g',o',e,hl',h k hkl⟩
   subst hgi;have HNX:Hid ((SB.take (k+1)).flatMap (dieL p q) = (SB.take k).flatMap (dieL p q) ++ dieL p q (SB[k]'hkl)):=by show List.flatMap _ _ = _;rw [List.take_succ_eq_append_getElem hkl,List.flatMap_append,List.flatMap_singleton]
   have HYO:=hidI (HEI.out _ (List.getElem_mem hkl));obtain ⟨y,hy⟩:∃ y,y = SB[k]'hkl:=⟨_,rfl⟩
   rw [← hy] at hic HNX HYO;obtain ⟨i0,i1,i2,i3,i4⟩:=hic;obtain ⟨W8,hW8⟩:∃ W8,W8 = wr.alloc (.cells #[.int .i64 y.seq,.string y.key,.string y.body,.bool y.again,.int .i64 y.deaths] 48):=⟨_,rfl⟩
   have k8:Below wr.heap.size wr W8:=by rw [hW8];exact (Below.refl _ _).alloc (Nat.le_refl _) _
   have b8:W8.heap[wr.heap.size]? = some (.cells #[.int .i64 y.seq,.string y.key,.string y.body,.bool y.again,.int .i64 y.deaths] 48 (0,0)):=by rw [hW8];exact World.alloc_heap_new wr _
   have hF8:ac_ n t w W8:=HF.out.trans (ac_.of_below k8 (by omega));have D:=jH_ p a1 (some ⟨gq,oq,none⟩) a3 n1 c1 n2 c2 n3 c3 { s with ready:=s.ready.set q (putL p q PL),dropped:=s.dropped+k } q y n t w0 W8 HP.out (H0.out.trans ((hF8.below (by omega) ht))) ht HC.out hq HYO.out (by show 0≤s.dropped+k∧s.dropped+k≤100000000;omega) (HBX.out.keep k8);have HD:=hidI D;have HW8:=hidI hW8;have HF8:=hidI hF8;have K8:=hidI k8;have s8:=k8.size;obtain ⟨z0,z1,z2⟩:=ag_ (pkp_ HPX.out k8);have c0:=coc_ b8 0;have c1':=coc_ b8 1;have c2':=coc_ b8 2;have c3':=coc_ b8 3;have c4':=coc_ b8 4;simp at c0 c1' c2' c3' c4';have j5:(0:Int)≤(k:Int):=by omega
   have j6:(k:Int) < mS:=by omega
   clear hy hW8 k8 b8 hF8 D;go_upto_region 10 with fail
   rw [← HW8.out];unfold ae_.val at HD;go_wp2_with fail
   refine HD.out.mono ?_;rintro e w9 ⟨v9,rfl,⟨m9,ho9⟩,hbx9,hF9⟩;obtain ⟨a9,c9,hv9,-,-,hn9,hr9⟩:=aH_ ho9;subst hv9;have hm9:m9≤4:=by
    have h1:=ho9.1;rw [aV_] at h1;have h2:=(iY_ (p:=p) (q:=q) HYO.out).2;have h3:=HR.out.few.2.1;omega
   have hO9:=g1_ (cp2_ HO.out K8.out) hF9 (by omega);have HHO9:=hidI hO9;have HR9:=hidI hr9;have HN9:=hidI hn9;have HL9:Hid ((aw_ (dieL p q y)).length = m9 * 4):=ho9.1;have HBX9:=hidI hbx9;have HSB9:=hidI ((HSB.out.keep K8.out).keepT (i7_ (HBX.out.keep K8.out) hF9));have HPX9:=hidI ((hF9.block _ (by omega) (by omega)).trans (pkp_ HPX.out K8.out));have HF9:Hid (ac_ n t w w9):=HF8.out.trans ⟨hF9.os,hF9.tape,hF9.output,hF9.size,fun i h1 h2=>hF9.block i (by omega) h2⟩;have s9:=hF9.size;have HK9:Hid (Keep2 w w9):=fun k' cur T hk h1 h2=>by
    have hkl:=lth_ hk;refine (hF9.block k' (by omega) (fun e=>?_)).trans ((K8.out.block k' (by omega)).trans (HKP.out k' cur T hk h1 h2));obtain ⟨cu,hcu⟩:=HBT.out;rw [← e,hk] at hcu;cases hcu;exact h1 rfl
   clear ho9 hr9 hn9 hbx9 hF9 hO9 c0 c1' c2' c3' c4' z0 z1 z2 i0 i1 i2 i3 i4;go_wp2_with (at_builtin;refine a1_ eq_ (by kernel_rfl) _ _ rfl w.heap.size _ m _ rfl HHO9.out a9 m9 c9 (aw_ (dieL p q y)) rfl HL9.out HN9.out HR9.out (bI_ _) (by unfold maxLen;omega) (by omega) (by omega) ?_;intro v10 w10 ho10 hg10 _)
   go_roundw
   case rel=>
    have kt:av_ 150 w9 w10:=av_.grown HHO9.out hg10;refine ⟨k+1,m+m9,HLT.out,by have:=HLT.out;go_num,by rw [HNX.out,br_];exact ho10,by have:=HLT.out;omega,?_,HSB9.out.keepT (kt.keepI (by decide)),(kt.block _ _ _ HPX9.out (by decide)).trans HPX9.out,HF9.out.grown hg10 (by omega) (fun j hj=>by have:=(HHO9.out.lt j hj).1;omega),by have:=hg10.size;omega,fun k' cur T hk h1 h2=>(hg10.block k' (by have:=lth_ hk;omega) (fun e=>by have:=HHO9.out.lt k' e.symm;have:=lth_ hk;omega)).trans (HK9.out k' cur T hk h1 h2)⟩;have hb:=HBX9.out.typeT kt (by decide) (by decide);have e:s.dropped+((k+1:Nat):Int) = s.dropped+(k:Int)+1:=by omega
    rw [e];exact hb
   case measure=>have:=HLT.out;simp [intOf];omega
  ·have hke:k = mS:=by omega
   obtain rfl:=hke.symm;clear hlt hk;go_wp2_with fail
   go_ret
   have e1:(SB.take mS).flatMap (dieL p q) = putB p s q x:=by
    rw [List.take_of_length_le (by rw [HMS.out];exact Nat.le_refl _),HEB.out];unfold putB;rw [HPL.out,HLINE.out]
   have e2:({ s with ready:=s.ready.set q (putL p q PL),dropped:=s.dropped+(mS:Nat) }:ab_) = putS p s q x:=by
    unfold putS;have h:=HED.out;rw [← HMS.out] at h;rw [h,HPL.out,HLINE.out]
   have hO:=HO.out;have hB:=HBX.out;rw [e1] at hO;rw [e2] at hB;exact ⟨_,rfl,⟨m,hO⟩,hB,HF.out,HKP.out⟩
end Go.Proofs.YtlbnkpicnokgoaaGreat
