import Derived.Deep.RegionHeld3
import Derived.Deep.DeepCutAuto
import Derived.Test.YtlbnkpicnokgoaaGreatSfx
import Derived.Test.YtlbnkpicnokgoaaGreatBDc
import Derived.Test.YtlbnkpicnokgoaaGreatBWk
namespace Go.Proofs.YtlbnkpicnokgoaaGreat
open Go.RowKit Go.Maps
set_option linter.unusedVariables false
set_option maxRecDepth 100000
set_option maxHeartbeats 8000000
theorem Tryz.infoStrB:(Tryz.prog.info? 9).map (fun i=>(i.zero,i.size,i.bytes)) = some (some (.string ⟨#[]⟩),1,16):=by kernel_rfl
theorem gY_:eA_ 36 9 1 16:=c6_ Tryz.underlying36 Tryz.infoStrB rfl (by omega)
theorem mo_ {α:Type} (P:α→Bool) (xs:List α):decide (0≤idxF P xs) = xs.any P:=by
 unfold idxF;by_cases h:xs.findIdx P < xs.length
 ·rw [if_pos h];have:xs.any P = true:=List.any_eq_true.2 ⟨_,List.getElem_mem h,List.findIdx_getElem (w:=h)⟩;rw [this];simp
 ·rw [if_neg h];have h2:xs.findIdx P = xs.length:=by have:=List.findIdx_le_length (p:=P) (xs:=xs);omega
  have:xs.any P = false:=by
   rw [List.any_eq_false];intro x hx e;have:=(List.findIdx_eq_length.1 h2) x hx;rw [e] at this;cases this
  rw [this];simp
theorem gS_ (f:FuncId) (hf:Goes f) (cap:Array Value) (P:aj_→Bool) (xs:List aj_) (a:Option Addr) (n c:Nat) (w:World) (hn:xs.length = n) (hm:n≤100000000) (hp:bV_ w a xs)
 (hcl:∀ (x:aj_) (W:World),Below w.heap.size w W→Calls Tryz.prog f (#[x.val] ++ cap) W fun e w'=>e = .returned (.bool (P x))∧Below W.heap.size W w') :
 Calls Tryz.prog 31 #[.slice a n c,.func (.func f) #[] cap] w fun e w'=>e = .returned (.bool (xs.any P))∧Below w.heap.size w w':=by
 have HI:=hidI (dQ_ f hf cap P xs a n c w hn hm hp hcl);obtain ⟨y,hy⟩:∃ y,y = idxF P xs:=⟨_,rfl⟩
 rw [← mo_];rw [← hy] at HI ⊢;clear hcl hp hn hy;go_enter Tryz.func31,Tryz.ntmps31;go_wp2_with fail
 refine HI.out.mono ?_;rintro e w2 ⟨rfl,k2⟩;go_wp2_with fail
 go_ret
 exact ⟨rfl,k2⟩
theorem iq_ (x:aj_) (q:Int) (B:Nat) (w:World) (c0:w.cell? ⟨B,0,none⟩ = some (.int .i64 q)) (hB:B < w.heap.size):Calls Tryz.prog 32 (#[x.val] ++ #[.pointer (some ⟨B,0,none⟩)]) w fun e w'=>e = .returned (.bool (decide (x.queue = q)))∧Below w.heap.size w w':=by
 have h:(#[x.val] ++ #[.pointer (some ⟨B,0,none⟩)]:Array Value) = #[.agg #[.int .i64 x.queue,.int .i64 x.most],.pointer (some ⟨B,0,none⟩)]:=rfl;rw [h];clear h;obtain ⟨y,m⟩:=x;dsimp only;go_enter Tryz.func32,Tryz.ntmps32;go_wp2_with fail
 go_ret
 exact ⟨at_ (by by_cases h:y = q <;> simp [h]),(Below.refl _ _).alloc (Nat.le_refl _) _⟩
theorem aM_.lineCellB {W:World} {n:Nat} {b1 b2 b3:Option Addr} {m1 d1 m2 d2 m3 d3:Nat} {s:ab_} (h:aM_ W n b1 b2 b3 m1 d1 m2 d2 m3 d3 s) {q:Nat} (hq:q < s.ready.length):∃ g bl cl,b1 = some ⟨g,0,none⟩∧W.cell? ⟨g,q,none⟩ = some (.slice bl (af_ s q).length cl)∧ak_ W bl (af_ s q)∧dp_ W n bl∧∃ cur,W.heap[g]? = some (.cells cur 46 (0,0)):=by
 obtain ⟨vs,hr1,hlv⟩:=h.r1;have hm1:=h.l1;obtain ⟨g,rfl⟩:∃ g,b1 = some ⟨g,0,none⟩:=by
  rcases hr1.2 with ⟨e,e0⟩ | ⟨g,cap,cur,e,_⟩
  ·omega
  ·cases e;exact ⟨g,rfl⟩
 obtain ⟨v,bl,cl,hv1,hlj⟩:=hlv.get q hq;have hcell:=hr1.cellAt q (by omega);rw [hv1,hlj.v] at hcell;have hsj:s.ready[q]'hq = af_ s q:=(aU_ hq).symm;rw [hsj] at hcell hlj;exact ⟨g,bl,cl,rfl,hcell,hlj.it,hlj.own,(bc_ hr1).2⟩
theorem gO_ {W:World} {a:Addr} {v:Value} (h:W.cell? a = some v):a.block < W.heap.size:=by
 rcases Nat.lt_or_ge a.block W.heap.size with h' | h'
 ·exact h'
 ·simp [World.cell?,Array.getElem?_eq_none h'] at h
theorem ac_.low {n m t:Nat} {A B:World} (h:ac_ m t A B) (hn:n≤m):ac_ n t A B:=⟨h.os,h.tape,h.output,h.size,fun k h1 h2=>h.block k (by omega) h2⟩
theorem ac_.row {t base size m:Nat} {T T':TypeId} {A B:World} {v:Value} {cs:List Value} {cur:Array Value} (h:ac_ A.heap.size t A B) (hr:A.ownsRow base T size v m cs) (ht:A.heap[t]? = some (.cells cur T' (0,0))) (hT:T≠T'):B.ownsRow base T size v m cs:=
 bq_ hr (fun j hj=>h.block j (hr.lt j hj).2 (fun e=>bl_ hr ht hT (by rw [hj,e])))
theorem cf_.below {n t x m:Nat} {A B:World} (h:cf_ n t x A B) (hn:m≤n) (ht:m≤t) (hx:m≤x):Below m A B:=⟨h.os,h.tape,h.output,h.size,fun k h1=>h.block k (by omega) (by omega) (by omega)⟩
def lenB (w:World) (x:Nat):Nat:=match w.cell? ⟨x,0,none⟩ with | some (.slice _ m _)=>m | _=>0
structure nb_ (p:ad_) (s:ab_) (q:Int) (n t x:Nat) (W wr:World) (k:Nat) (cur:ab_) (b:Option Addr) (c:Nat):Prop where
 le:k≤(af_ s q.toNat).length
 box:StBox wr n t cur
 bx:wr.heap[x]? = some (.cells #[.slice b k c] 36 (0,0))
 row:wr.ownsRow n 9 1 (.slice b k c) k (((drB s q).take k).map .string)
 fr:cf_ n t x W wr
 line:af_ cur q.toNat = (af_ s q.toNat).drop k
 right:ag_ p cur 0
 ql:q.toNat < cur.ready.length
 te:b7_ p q (af_ s q.toNat) (bE_ s q 1) = b7_ p q ((af_ s q.toNat).drop k) cur
 ts:drM s q = dD_ q ((af_ s q.toNat).drop k) cur
structure Added (S:World→Prop) (n t x k:Nat) (cur:ab_) (W:World) (cs:List Value) (b:Option Addr) (c:Nat) (b4:Option Addr) (c4:Nat) (w4 wx:World):Prop where
 bx:w4.heap[x]? = some (.cells #[.slice b k c] 36 (0,0))
 s:S w4
 sz:S wx
 box:StBox wx n t cur
 bz:wx.heap[x]? = some (.cells #[.slice b4 (k+1) c4] 36 (0,0))
 row:wx.ownsRow n 9 1 (.slice b4 (k+1) c4) (k+1) cs
 fr:cf_ n t x W wx
theorem iZ_ {S:World→Prop} {n t x k:Nat} {cur:ab_} {W wz W3 w4:World} {cs:List Value} {b:Option Addr} {c:Nat} {bd:ByteArray} {v4:Value} (hb:StBox wz n t cur) (hbx:wz.heap[x]? = some (.cells #[.slice b k c] 36 (0,0))) (hr:wz.ownsRow n 9 1 (.slice b k c) k cs) (hfr:cf_ n t x W wz) (hnz:n≤wz.heap.size)
 (hS:∀ W':World,(∀ (i:Nat) (cu:Array Value) (T:TypeId),wz.heap[i]? = some (.cells cu T (0,0))→T≠9→T≠36→W'.heap[i]? = wz.heap[i]?)→S W')
 (k3:Below wz.heap.size wz W3) (ho4:w4.ownsRow n 9 1 v4 (k+1) (cs ++ [.string bd])) (hg4:W3.grownBy w4 (Value.slice b k c).ownBlock) :
 ∃ b4 c4,v4 = .slice b4 (k+1) c4∧Added S n t x k cur W (cs ++ [.string bd]) b c b4 c4 w4 (w4.setCell ⟨x,0,none⟩ (.slice b4 (k+1) c4)):=by
 have hr3:=cp2_ hr k3;have T4:ax_ 9 wz w4:=(ax_.of_below k3).trans (ax_.grown hr3 hg4);have hbx4:=(T4.block x _ _ hbx (by decide)).trans hbx;obtain ⟨b4,c4,rfl,-⟩:=aA_ ho4;have T5:ax_ 36 w4 (w4.setCell ⟨x,0,none⟩ (.slice b4 (k+1) c4)):=ax_.setCell hbx4 _;refine ⟨b4,c4,rfl,hbx4,hS _ (fun i cu T h h9 _=>T4.block i cu T h h9),hS _ (fun i cu T h h9 h36=>(T5.block i cu T ((T4.block i cu T h h9).trans h) h36).trans (T4.block i cu T h h9)),?_,scb_ hbx4 (j:=0) _,?_,?_⟩
 ·obtain ⟨e1,e2,e3,i1,j1,i2,j2,i3,j3,hh,ho⟩:=hb;have h4:=(T4.block t _ _ hh (by decide)).trans hh;exact ⟨e1,e2,e3,i1,j1,i2,j2,i3,j3,(T5.block t _ _ h4 (by decide)).trans h4,(ho.typeT T4 (by decide)).typeT T5 (by decide)⟩
 ·exact bq_ ho4 (fun j hj=>heap_setCell_other _ _ _ _ (fun e=>bl_ ho4 hbx4 (by decide) (by rw [hj];exact congrArg some e)))
 ·have h1:ac_ n x wz w4:=(ac_.of_below k3 hnz).grown hg4 (by have:=k3.size;omega) (fun g hg=>(hr3.lt g hg).1);exact hfr.trans ((h1.setCell (p:=⟨x,0,none⟩) (.inr rfl) _).u2 t)
theorem ir_ (p:ad_) (a1 a2 a3:Option Addr) (n1 c1 n2 c2 n3 c3:Nat) (s:ab_) (q:Int) (Bq Bp x:Nat) (w0 w:World) (hp:ap_ w0 a1 a2 a3 n1 n2 n3 p) (h0:Below w0.heap.size w0 w) (hx0:w0.heap.size≤x) (x0:w.heap[Bq]? = some (.cells #[.int .i64 q] 3 (0,0))) (x1:w.heap[Bp]? = some (.cells #[.slice a1 n1 c1,.slice a2 n2 c2,.slice a3 n3 c3] 26 (0,0))) (x2:w.heap[x]? = some (.cells #[.slice none 0 0] 36 (0,0))) (hR:ag_ p s 0) :
 ge_ 29 #[.pointer (some ⟨Bq,0,none⟩),.pointer (some ⟨Bp,0,none⟩),.pointer (some ⟨x,0,none⟩)] w x s (drX p s q) (drS s q) (drB s q):=by
 intro W n t hBW hwt htn hnW hbx;have hap:(#[Value.pointer (some ⟨t,0,none⟩)] ++ #[Value.pointer (some ⟨Bq,0,none⟩),Value.pointer (some ⟨Bp,0,none⟩),Value.pointer (some ⟨x,0,none⟩)]:Array Value) = #[.pointer (some ⟨t,0,none⟩),.pointer (some ⟨Bq,0,none⟩),.pointer (some ⟨Bp,0,none⟩),.pointer (some ⟨x,0,none⟩)]:=rfl;rw [hap];have hlq:=lth_ x0;have hlp:=lth_ x1;have hlx:=lth_ x2;have hsw:=hBW.size;have hs0:=h0.size;have hqx:Bq≠x:=fun e=>by rw [e,x2] at x0;cases x0
 have hpx:Bp≠x:=fun e=>by rw [e,x2] at x1;cases x1
 have B0:Hid (Below w0.heap.size w0 W):=h0.trans (hBW.mono hs0);have HP0:=hidI hp;have HBX:=hidI hbx;have HR:=hidI hR;have X0:=hidI (pkp_ x0 hBW);have X1:=hidI (pkp_ x1 hBW);have X2:=hidI (pkp_ x2 hBW);have hnn:p.queues.length = n2:=hp.l2;have HNN:=hidI hnn;obtain ⟨W1,hW1⟩:∃ W1,W1 = W.alloc (.cells #[.bool (decide (q < 0)),.bool (decide ((n2:Int)≤q))] 4):=⟨_,rfl⟩
 have l1:Below W.heap.size W W1:=by rw [hW1];exact (Below.refl _ _).alloc (Nat.le_refl _) _
 have HBN:Hid (aQ_ W1 W.heap.size 0 [decide (q < 0),decide ((n2:Int)≤q)]):=by show aQ_ W1 _ 0 _;rw [hW1];exact bf_ W [decide (q < 0),decide ((n2:Int)≤q)]
 have HW1:=hidI hW1;have L1:=hidI l1;have hmf:∀ (fn:Fn) (first cap:Array Value) (w:World),(Instr.makeFunc fn first cap).run Tryz.prog w = .ok (.func fn first cap) w:=fun _ _ _ _=>rfl
 obtain ⟨p0,p1,p2⟩:=ai_ X1.out;have cq:=coc_ X0.out 0;simp at cq;obtain ⟨E,hE⟩:∃ E,E = drX p s q:=⟨_,rfl⟩
 rw [← hE];have HE:=hidI hE;have hs1:=l1.size;clear hap hbx hR hp x0 x1 x2 hW1 l1 hE h0 hBW hnn;go_enter Tryz.func29,Tryz.ntmps29;go_wp2_with fail
 rw [← HW1.out];by_cases hq:0≤q∧q < n2
 rotate_left
 ·have HE5:E = 5:=by rw [HE.out];unfold drX;rw [if_pos (by rw [HNN.out];exact ed_.2 hq)]
  refine (au_ 5 [decide (q < 0),decide ((n2:Int)≤q)] _ _ (by simp) HBN.out (by simp;omega)).mono ?_;rintro e w2 ⟨rfl,rfl⟩;exact ⟨rfl,(ac_.of_below L1.out hnW).u x,.inl ⟨by rw [HE5];decide,by rw [HE5];rfl⟩⟩
 have HQ:=hidI hq;refine (aC_ 5 [decide (q < 0),decide ((n2:Int)≤q)] _ _ (by simp) HBN.out (by simp;omega)).mono ?_;rintro e w2 ⟨rfl,hw2⟩;subst hw2;obtain ⟨b1,b2,b3,m1,d1,m2,d2,m3,d3,hbv,hov⟩:=HBX.out.keep L1.out;have HOV:=hidI hov;have HBV:=hidI hbv;have HTK:=hidI (bF_.2 (dB_ hov.r3));have hm3:m3≤4:=by rw [← hov.l3];exact HR.out.tk
 have HM3:Hid (s.takers.length = m3):=hov.l3;obtain ⟨y0,y1,y2,y3,y4,y5,y6,y7⟩:=aa_ hbv;have Q1:=hidI (pkp_ X0.out L1.out);have htw:t < w2.heap.size:=by omega
 clear hbv hov p0 p1 p2 cq hq;go_wp2_with fail
 refine (gS_ 32 (fun _ _=>rfl) #[.pointer (some ⟨Bq,0,none⟩)] (fun t=>decide (t.queue = q)) s.takers b3 m3 d3 _ HM3.out (by omega) HTK.out (fun x W' h=>iq_ x q Bq W' (by have:=coc_ (pkp_ Q1.out h) 0;simpa using this) (by have:=h.size;omega))).mono ?_;rintro e w3 ⟨rfl,k3⟩;obtain ⟨bq,hbq⟩:∃ bq,bq = il_ s q:=⟨_,rfl⟩
 have hbq2:s.takers.any (fun t=>decide (t.queue = q)) = bq:=hbq.symm;have HBQ:=hidI hbq;rw [hbq2];have L3:Hid (Below W.heap.size W w3):=L1.out.trans (k3.mono L1.out.size);have hs3:=k3.size;clear hbq hbq2 k3 y0 y1 y2 y3 y4 y5 y6 y7;go_wp2_with fail
 obtain ⟨w4,hw4⟩:∃ w4,w4 = w3.alloc (.cells #[.bool bq] 4):=⟨_,rfl⟩
 have l4:Below w3.heap.size w3 w4:=by rw [hw4];exact (Below.refl _ _).alloc (Nat.le_refl _) _
 have HBM:Hid (aQ_ w4 w3.heap.size 0 [bq]):=by show aQ_ w4 _ 0 _;rw [hw4];exact bf_ w3 [bq]
 have L4:Hid (Below W.heap.size W w4):=L3.out.trans (l4.mono L3.out.size);rw [← hw4];have hs4:=l4.size;clear hw4 l4;cases bq with
 | true =>
   have HE9:E = 9:=by
    rw [HE.out];unfold drX;rw [if_neg (by rw [HNN.out,az_.2 HQ.out];decide),if_pos HBQ.out.symm]
   refine (au_ 9 [true] _ _ (by simp) HBM.out (by simp)).mono ?_;rintro e w5 ⟨rfl,rfl⟩;exact ⟨rfl,(ac_.of_below L4.out hnW).u x,.inl ⟨by rw [HE9];decide,by rw [HE9];rfl⟩⟩
 | false=>
 refine (aC_ 9 [false] _ _ (by simp) HBM.out (by simp)).mono ?_;rintro e w5 ⟨rfl,hw5⟩;subst hw5;have HEJ:Hid (E = if bB_ p s q 1≠0 then bB_ p s q 1 else b7_ p q (af_ s q.toNat) (bE_ s q 1)):=by
  show E = _;rw [HE.out];unfold drX;rw [if_neg (by rw [HNN.out,az_.2 HQ.out];decide),if_neg (by rw [← HBQ.out];decide)]
 have HPW:=hidI (HP0.out.keep (B0.out.trans (L4.out.mono B0.out.size)));obtain ⟨p0,p1,p2⟩:=ai_ (pkp_ X1.out L4.out);have cq:=coc_ (pkp_ X0.out L4.out) 0;simp at cq;have HBX4:=hidI (HBX.out.keep L4.out);go_wp2_with fail
 refine (kC_ p a1 a2 a3 n1 c1 n2 c2 n3 c3 s q n t _ HPW.out htn (by omega) HBX4.out).mono ?_;rintro e w6 ⟨hF,hc⟩;have F6:Hid (ac_ n t W w6):=(ac_.of_below L4.out hnW).trans (hF.low (by omega));clear p0 p1 p2 cq hF;rcases hc with ⟨hne,rfl⟩ | ⟨hj,rfl,hb6⟩
 ·unfold panE;have HX:E = bB_ p s q 1:=by rw [HEJ.out,if_pos hne]
  exact ⟨rfl,F6.out.u x,.inl ⟨by rw [HX];exact hne,by rw [HX];rfl⟩⟩
 have HJ:=hidI hj;have HB6:=hidI hb6;have HET:Hid (E = b7_ p q (af_ s q.toNat) (bE_ s q 1)):=by show E = _;rw [HEJ.out,if_neg (by simp [hj])]
 obtain ⟨qn,hqn⟩:∃ qn:Nat,q = qn:=⟨q.toNat,by have:=HQ.out;omega⟩
 subst hqn;obtain ⟨hR0,q0,hql,hJR⟩:=cy_ hj;have X6:Hid (w6.heap[x]? = some (.cells #[.slice none 0 0] 36 (0,0))):=(F6.out.block x (by omega) (by omega)).trans X2.out;have HINV:Hid (nb_ p s (qn:Int) n t x W w6 0 (bE_ s (qn:Int) 1) none 0):=⟨Nat.zero_le _,HB6.out,X6.out,by simpa using World.ownsRow_nil w6 n 9 1,F6.out.u x,by simp;rfl,hJR,hql,by simp,by simp;rfl⟩;have HL6:Hid ((af_ s qn).length≤6):=HR.out.line6 (a1_ (by simpa using hql));obtain ⟨gi,hgi⟩:∃ gi:Nat,gi = goneIdx s.takers:=⟨_,rfl⟩
 have HGI:=hidI hgi;rw [← hgi];clear hj hb6 hR0 q0 hql hJR hgi;go_wp2_with fail
 go_loopw [] (fun wr=>∃ k cur b c,nb_ p s (qn:Int) n t x W wr k cur b c) (fun wr=>(af_ s qn).length - lenB wr x)
 case atStart=>exact ⟨0,_,_,_,HINV.out⟩
 case round=>
  obtain ⟨k,cur,b,c,hinv⟩:=hrel;have HI:=hidI hinv;have hFr:=hinv.fr;have hszr:=hFr.size;have BR:Hid (Below w0.heap.size w0 wr):=B0.out.trans (hFr.below (by omega) (by omega) hx0);have HPR:=hidI (HP0.out.keep BR.out);obtain ⟨b1,b2,b3,m1,d1,m2,d2,m3,d3,hbr,hor⟩:=hinv.box;obtain ⟨g,bl,cl,hg1,hgc,hit,hlo,curg,hgh⟩:=hor.lineCellB (q:=qn) (by simpa using hinv.ql);subst hg1;have hm1:qn < m1:=by have:=hor.l1;have:=hinv.ql;simp at this;omega
  have hml:m1≤d1:=(fF_ hor.r1.choose_spec.1).1;obtain ⟨y0,y1,y2,y3,y4,y5,y6,y7⟩:=aa_ hbr;have Q0:=hidI ((hFr.block Bq (by omega) (by omega) hqx).trans X0.out);have QP:=hidI ((hFr.block Bp (by omega) (by omega) hpx).trans X1.out);have cq:=coc_ Q0.out 0;simp at cq;have HOR:=hidI hor;have HBR:=hidI hbr;have HIT:=hidI hit;have HLO:=hidI hlo;have HGH:=hidI hgh;have htr:t < wr.heap.size:=by omega
  have hgr:g < wr.heap.size:=gO_ hgc;have j1:(0:Int)≤(qn:Int):=by omega
  have j2:(qn:Int) < m1:=by omega
  obtain ⟨l0,hl0⟩:∃ l0,l0 = af_ cur qn:=⟨_,rfl⟩
  rw [← hl0] at hgc HIT;have HL0:=hidI hl0;have HLD:Hid (l0 = (af_ s qn).drop k):=by show l0 = _;rw [hl0];have:=hinv.line;simpa using this
  clear hinv hFr hbr hor hit hl0 hlo hgh y1 y2 y3 y4 y5 y6 y7;cases l0 with
  | nil =>
    have j3:decide ((0:Int) < ((([]:List ae_).length:Nat):Int)) = false:=by simp
    simp only [List.length_nil] at hgc;clear hm1 hml;go_wp2_with fail
    go_quiet (fail)
    obtain ⟨wz,hwz⟩:∃ wz,wz = wr.drewN nq:=⟨_,rfl⟩
    have HBE:Hid (Below wr.heap.size wr wz):=by show Below _ _ wz;rw [hwz];exact bA_ (Below.refl _ _)
    rw [← hwz];clear hwz;have hdr:=HLD.out;have hk:k = (af_ s qn).length:=by
     have h1:=congrArg List.length hdr;simp at h1;have h2:=HI.out.le;simp at h2;omega
    have HK:=hidI hk;have HEZ:Hid (E = 0):=by
     show E = 0;have h1:=HI.out.te;simp only [Int.toNat_natCast] at h1;rw [HET.out,Int.toNat_natCast,h1,← HLD.out];rfl
    have hM:drM s (qn:Int) = cur:=by
     have h1:=HI.out.ts;simp only [Int.toNat_natCast] at h1;rw [h1,← HLD.out];rfl
    have HM:=hidI hM;have hEM:Emptied p (qn:Int) (af_ s (qn:Int).toNat) (bE_ s (qn:Int) 1) cur:=by
     rw [← HM.out];obtain ⟨_,_,h3,h4⟩:=cy_ HJ.out;exact emptied _ _ h4 h3 rfl (by rw [← HET.out];exact HEZ.out)
    have HLV:=hidI (gu_ HJ.out hEM);obtain ⟨p0,p1,p2⟩:=ai_ (pkp_ QP.out HBE.out);clear hdr hk hM hEM;go_wp2_with fail
    refine (jA_ p a1 a2 a3 n1 c1 n2 c2 n3 c3 cur (gi:Nat) n t _ (HPR.out.keep HBE.out) htn (by have:=HBE.out.size;omega) (HI.out.box.keep HBE.out)).mono ?_;rintro e w7 ⟨hF7,hc7⟩;rw [HGI.out] at hc7;rcases hc7 with ⟨hne,-⟩ | ⟨-,rfl,hb7⟩
    ·exact absurd HLV.out.1 hne
    unfold okE;have hFR:cf_ n t x W w7:=HI.out.fr.trans (((ac_.of_below HBE.out (by omega)).trans (hF7.low (by have:=HBE.out.size;omega))).u x);have hx7:w7.heap[x]? = _:=(hF7.block x (by have:=HBE.out.size;omega) (by omega)).trans (pkp_ HI.out.bx HBE.out);have hr7:=hF7.row (cp2_ HI.out.row HBE.out) (pkp_ HBR.out HBE.out) (by decide);have hS:drS s (qn:Int) = eh_ p cur ((goneIdx s.takers:Nat):Int):=by
     rw [HLV.out.2.1];unfold drS;rw [HM.out]
    have hLn:(drB s (qn:Int)).length = k:=by rw [HK.out];unfold drB;simp
    have hTX:dV_ w7 n x (drB s (qn:Int)):=by
     refine ⟨.slice b k c,hx7,?_⟩;rw [List.take_of_length_le (by omega)] at hr7;rw [hLn];exact hr7
    have HTX:=hidI hTX;have HFR:=hidI hFR;have HB7:=hidI hb7;have HS:=hidI hS;clear hx7 hr7 hS hLn hTX hFR hb7 hF7;go_wp2_with fail
    go_end0
    exact ⟨HFR.out,.inr ⟨HEZ.out,rfl,by rw [HS.out];exact HB7.out,HTX.out⟩⟩
  | cons y r =>
    rcases HIT.out with hnil | ⟨gl,ol,hbl,hgll,hc⟩
    ·cases hnil
    have hc0:=hc 0 (by simp);subst hbl;obtain ⟨e0,e1,e2,e3,e4⟩:=hc0;clear e0 e1 e3 e4;obtain ⟨bd,hbd⟩:∃ bd,bd = y.body:=⟨_,rfl⟩
    have HBD:=hidI hbd;simp only [Nat.zero_mul,Nat.add_zero,List.getElem_cons_zero] at e2;rw [← hbd] at e2;obtain ⟨L,hL⟩:∃ L,L = (y :: r).length:=⟨_,rfl⟩
    rw [← hL] at hgc;have hL0:0 < L:=by rw [hL];simp
    have hL1:(0:Int) < (L:Int):=by omega
    obtain ⟨curl,hgh2⟩:∃ curl,wr.heap[gl]? = some (.cells curl 48 (0,0)):=by
     rcases HLO.out with h | ⟨g',o',cur',h1,h2,h3⟩
     ·cases h
     ·cases h1;exact ⟨cur',h3⟩
    have HGL:=hidI hgh2;have HC:=hidI (And.intro y0 (And.intro cq (And.intro hgc e2)));clear hbd hL hgh2 hm1 hml hc;go_wp2_with fail
    go_quiet (fail)
    obtain ⟨wz,hwz⟩:∃ wz,wz = wr.drewN nq:=⟨_,rfl⟩
    have HBE:Hid (Below wr.heap.size wr wz):=by show Below _ _ wz;rw [hwz];exact bA_ (Below.refl _ _)
    rw [← hwz];clear hwz;have HBXZ:=hidI (HI.out.box.keep HBE.out);have HBZ:=hidI (pkp_ HI.out.bx HBE.out);have HRZ:=hidI (cp2_ HI.out.row HBE.out);have HFZ:Hid (cf_ n t x W wz):=HI.out.fr.trans ((ac_.of_below HBE.out (by omega)).u x);have HNZ:Hid (n≤wz.heap.size):=by have:=HBE.out.size;show n≤wz.heap.size;omega
    have HLE:Hid (k≤6):=by have h1:=HI.out.le;have h2:=HL6.out;simp only [Int.toNat_natCast] at h1;show k≤6;omega
    have HCELL:Hid (∀ W':World,Below wz.heap.size wz W'→W'.cell? ⟨x,0,none⟩ = some (.slice b k c)):=fun W' h=>by have:=coc_ (pkp_ HBZ.out h) 0;simpa using this
    have SX:Hid (∀ W':World,(∀ (i:Nat) (cu:Array Value) (T:TypeId),wz.heap[i]? = some (.cells cu T (0,0))→T≠9→T≠36→W'.heap[i]? = wz.heap[i]?)→(W'.cell? ⟨t,0,none⟩ = some (.slice (some ⟨g,0,none⟩) m1 d1)∧W'.cell? ⟨Bq,0,none⟩ = some (.int .i64 (qn:Nat))∧W'.cell? ⟨g,qn,none⟩ = some (.slice (some ⟨gl,ol,none⟩) L cl)∧W'.cell? ⟨gl,ol+2,none⟩ = some (.string bd))):=fun W' h=>by
     have q1:=h t _ _ (pkp_ HBR.out HBE.out) (by decide) (by decide);have q2:=h Bq _ _ (pkp_ Q0.out HBE.out) (by decide) (by decide);have q3:=h g _ _ (pkp_ HGH.out HBE.out) (by decide) (by decide);have q4:=h gl _ _ (pkp_ HGL.out HBE.out) (by decide) (by decide);exact ⟨(World.cell?_of_block (w:=wz) (a:=⟨t,0,none⟩) q1).trans ((HBE.out.cell (p:=⟨t,0,none⟩) htr).trans HC.out.1),(World.cell?_of_block (w:=wz) (a:=⟨Bq,0,none⟩) q2).trans ((HBE.out.cell (p:=⟨Bq,0,none⟩) (lth_ Q0.out)).trans HC.out.2.1),(World.cell?_of_block (w:=wz) (a:=⟨g,qn,none⟩) q3).trans ((HBE.out.cell (p:=⟨g,qn,none⟩) hgr).trans HC.out.2.2.1),(World.cell?_of_block (w:=wz) (a:=⟨gl,ol+2,none⟩) q4).trans ((HBE.out.cell (p:=⟨gl,ol+2,none⟩) hgll).trans HC.out.2.2.2)⟩
    have SA:Hid (∀ W':World,Below wz.heap.size wz W'→(W'.cell? ⟨t,0,none⟩ = some (.slice (some ⟨g,0,none⟩) m1 d1)∧W'.cell? ⟨Bq,0,none⟩ = some (.int .i64 (qn:Nat))∧W'.cell? ⟨g,qn,none⟩ = some (.slice (some ⟨gl,ol,none⟩) L cl)∧W'.cell? ⟨gl,ol+2,none⟩ = some (.string bd))):=fun W' h=>SX.out W' (fun i cu T hi _ _=>h.block i (lth_ hi))
    clear hgc cq y0 e2;go_upto_region 4 with fail
    go_cut [] from 27 to 52 (fun wx=>∃ b4 c4 w4,Added (fun W':World=>W'.cell? ⟨t,0,none⟩ = some (.slice (some ⟨g,0,none⟩) m1 d1)∧W'.cell? ⟨Bq,0,none⟩ = some (.int .i64 (qn:Nat))∧W'.cell? ⟨g,qn,none⟩ = some (.slice (some ⟨gl,ol,none⟩) L cl)∧W'.cell? ⟨gl,ol+2,none⟩ = some (.string bd)) n t x k cur W (((drB s (qn:Int)).take k).map Value.string ++ [.string bd]) b c b4 c4 w4 wx)
    case first=>
     refine wp_region_held_drew (S:=fun W':World=>W'.cell? ⟨t,0,none⟩ = some (.slice (some ⟨g,0,none⟩) m1 d1)∧W'.cell? ⟨Bq,0,none⟩ = some (.int .i64 (qn:Nat))∧W'.cell? ⟨g,qn,none⟩ = some (.slice (some ⟨gl,ol,none⟩) L cl)∧W'.cell? ⟨gl,ol+2,none⟩ = some (.string bd)) (by kernel_rfl) (SA.out _ (Below.refl _ _).drew) (fun hHeld=>?_);obtain ⟨wd,hwd⟩:∃ wd,wd = wz.drew:=⟨_,rfl⟩
     have LD:Hid (Below wz.heap.size wz wd):=by show Below _ _ wd;rw [hwd];exact (Below.refl _ _).drew
     rw [← hwd] at hHeld ⊢;clear hwd;refine tk 1 ?_;refine tk 2 ?_;refine tk 3 ?_;refine tk 4 ?_;refine tk 5 ?_;refine tk 6 ?_;refine tk 7 ?_;refine tk 8 ?_;refine tk 9 ?_;refine tk 10 ?_;refine wpAnyH_ready (rs:=[0,11]) (by kernel_rfl) (by simp) ?_;refine AllReadyH.cons rfl (fun K hK=>?_) (AllReadyH.cons rfl (fun K hK=>?_) AllReadyH.nil)
     ·have cc:=HCELL.out (wd) (LD.out);go_simp;refine hK.out _ _ (SA.out _ (LD.out)) (fun _=>?_);clear hK K cc;try refine nrm ?_
      refine rdy 11 (fun K hK=>?_);go_simp;refine hK.out _ _ (SA.out _ (LD.out.alloc LD.out.size _)) (fun _=>?_);clear hK K;try refine nrm ?_
      obtain ⟨W3,hW3⟩:∃ W3,W3 = wd.alloc (.cells #[.string bd] 9):=⟨_,rfl⟩
      rw [← hW3];have k3:Below wz.heap.size wz W3:=by rw [hW3];exact LD.out.alloc LD.out.size _
      have hRW:a7_ W3 (some ⟨wd.heap.size,0,none⟩) [.string bd]:=by rw [hW3];exact fP_ (w:=wd) (cs:=[.string bd])
      clear hW3;refine rdy 12 (fun K hK=>?_);refine h9_ gY_ (by kernel_rfl) _ _ rfl n (.slice b k c) k (((drB s (qn:Int)).take k).map .string) rfl (cp2_ HRZ.out k3) (some ⟨wd.heap.size,0,none⟩) 1 1 [.string bd] rfl rfl (fun h=>by cases h) hRW (by simp [Value.oneCell']) (by unfold maxLen;have:=HLE.out;omega) (by have:=HLE.out;omega) (by have:=k3.size;have:=HNZ.out;omega) ?_;intro v4 w4 ho4 hg4 _;obtain ⟨b4,c4,hv4,h4⟩:=iZ_ HBXZ.out HBZ.out HRZ.out HFZ.out HNZ.out SX.out k3 ho4 hg4;subst hv4;have H4:=hidI h4;clear hRW ho4 hg4 k3 h4;refine hK.out _ _ H4.out.s (fun _=>?_);clear hK K;try refine nrm ?_
      have c4':=coc_ H4.out.bx 0;have f4':=foc_ H4.out.bx 0;simp at c4';refine rdy 13 (fun K hK=>?_);go_simp;refine hK.out _ _ H4.out.sz (fun _=>?_);clear hK K c4' f4';try refine nrm ?_
      refine wpAnyH_done (by kernel_rfl) ?_ _;go_wp2_with fail
      go_meet
      case rel=>exact ⟨b4,c4,w4,H4.out⟩
     ·go_simp;refine hK.out _ _ (SA.out _ (LD.out.alloc LD.out.size _)) (fun _=>?_);clear hK K;try refine nrm ?_
      refine rdy 0 (fun K hK=>?_);have cc:=HCELL.out (wd.alloc (.cells #[.string bd] 9)) (LD.out.alloc LD.out.size _);go_simp;refine hK.out _ _ (SA.out _ (LD.out.alloc LD.out.size _)) (fun _=>?_);clear hK K cc;try refine nrm ?_
      obtain ⟨W3,hW3⟩:∃ W3,W3 = wd.alloc (.cells #[.string bd] 9):=⟨_,rfl⟩
      rw [← hW3];have k3:Below wz.heap.size wz W3:=by rw [hW3];exact LD.out.alloc LD.out.size _
      have hRW:a7_ W3 (some ⟨wd.heap.size,0,none⟩) [.string bd]:=by rw [hW3];exact fP_ (w:=wd) (cs:=[.string bd])
      clear hW3;refine rdy 12 (fun K hK=>?_);refine h9_ gY_ (by kernel_rfl) _ _ rfl n (.slice b k c) k (((drB s (qn:Int)).take k).map .string) rfl (cp2_ HRZ.out k3) (some ⟨wd.heap.size,0,none⟩) 1 1 [.string bd] rfl rfl (fun h=>by cases h) hRW (by simp [Value.oneCell']) (by unfold maxLen;have:=HLE.out;omega) (by have:=HLE.out;omega) (by have:=k3.size;have:=HNZ.out;omega) ?_;intro v4 w4 ho4 hg4 _;obtain ⟨b4,c4,hv4,h4⟩:=iZ_ HBXZ.out HBZ.out HRZ.out HFZ.out HNZ.out SX.out k3 ho4 hg4;subst hv4;have H4:=hidI h4;clear hRW ho4 hg4 k3 h4;refine hK.out _ _ H4.out.s (fun _=>?_);clear hK K;try refine nrm ?_
      have c4':=coc_ H4.out.bx 0;have f4':=foc_ H4.out.bx 0;simp at c4';refine rdy 13 (fun K hK=>?_);go_simp;refine hK.out _ _ H4.out.sz (fun _=>?_);clear hK K c4' f4';try refine nrm ?_
      refine wpAnyH_done (by kernel_rfl) ?_ _;go_wp2_with fail
      go_meet
      case rel=>exact ⟨b4,c4,w4,H4.out⟩
    case rest=>
     obtain ⟨b4,c4,w4,hadd⟩:=hcut;have HA:=hidI hadd;have BX:Hid (Below w0.heap.size w0 wc):=B0.out.trans (hadd.fr.below (by omega) (by omega) hx0);have hszc:=hadd.fr.size;have QPX:=hidI ((hadd.fr.block Bp (by omega) (by omega) hpx).trans X1.out);have Q0X:=hidI ((hadd.fr.block Bq (by omega) (by omega) hqx).trans X0.out);obtain ⟨p0,p1,p2⟩:=ai_ QPX.out;have cq:=coc_ Q0X.out 0;simp at cq;obtain ⟨_,_,_,_,_,_,_,_,_,htc,-⟩:=hadd.box;have HTC:=hidI htc;have HTE:Hid (E = b7_ p (qn:Int) (y :: r) cur):=by
      show E = _;have h1:=HI.out.te;simp only [Int.toNat_natCast] at h1;rw [HET.out,Int.toNat_natCast,h1,← HLD.out]
     clear hadd htc;go_wp2_with fail
     refine (kD_ p a1 a2 a3 n1 c1 n2 c2 n3 c3 cur (qn:Int) n t _ (HP0.out.keep BX.out) htn (by omega) HA.out.box).mono ?_;rintro e w7 ⟨hF7,hc7⟩;have hFR:cf_ n t x W w7:=HA.out.fr.trans ((hF7.low (by omega)).u x);rcases hc7 with ⟨hne,rfl⟩ | ⟨hdz,rfl,hb7⟩
     ·unfold panE;have HX:E = delE p cur (qn:Int):=by rw [HTE.out];unfold b7_;rw [if_pos hne]
      exact ⟨rfl,hFR,.inl ⟨by rw [HX];exact hne,by rw [HX];rfl⟩⟩
     have hx7:w7.heap[x]? = _:=(hF7.block x (by omega) (by omega)).trans HA.out.bz;have hr7:=hF7.row HA.out.row HTC.out (by decide);have hdrop:(af_ s qn).drop (k+1) = r:=by rw [← List.tail_drop,← HLD.out];rfl
     have hget:(af_ s qn)[k]? = some y:=by
      have h1:((af_ s qn).drop k)[0]? = some y:=by rw [← HLD.out];rfl
      rw [List.getElem?_drop] at h1;simpa using h1
     have hkl:k+1≤(af_ s qn).length:=(List.getElem?_eq_some_iff.1 hget).1;have htake:((drB s (qn:Int)).take (k+1)).map Value.string = ((drB s (qn:Int)).take k).map Value.string ++ [.string bd]:=by
      have e:(drB s (qn:Int))[k]? = some bd:=by unfold drB;rw [List.getElem?_map,Int.toNat_natCast,hget,HBD.out];rfl
      rw [List.take_add_one,e,List.map_append];rfl
     have hql:=HI.out.ql;have hnew:nb_ p s (qn:Int) n t x W w7 (k+1) (dM_ cur (qn:Int)) b4 c4:=by
      refine ⟨by rw [Int.toNat_natCast];exact hkl,hb7,hx7,by rw [htake];exact hr7,hFR,?_,eT_ hdz,?_,?_,?_⟩
      ·rw [ex_ hql,if_pos rfl,Int.toNat_natCast,hdrop,← HL0.out];rfl
      ·show _ < (cur.ready.set _ _).length;rw [List.length_set];exact hql
      ·rw [← HET.out,HTE.out,Int.toNat_natCast,hdrop];conv=>lhs;unfold b7_
       rw [if_neg (by simp [hdz])]
      ·have h1:=HI.out.ts;rw [h1,Int.toNat_natCast,hdrop,← HLD.out];rfl
     have HNEW:=hidI hnew;have HKL:=hidI hkl;unfold okE;clear hx7 hr7 hdrop hget hkl htake hql hnew hF7 hFR hb7 p0 p1 p2 cq;go_wp2_with fail
     go_roundw
     case rel=>exact ⟨k+1,_,_,_,HNEW.out⟩
     case measure=>
      have h1:lenB wr x = k:=by unfold lenB;have:=coc_ HI.out.bx 0;simp at this;rw [this]
      have h2:lenB w7 x = k+1:=by unfold lenB;have:=coc_ HNEW.out.bx 0;simp at this;rw [this]
      have:=HKL.out;rw [h1,h2];omega
end Go.Proofs.YtlbnkpicnokgoaaGreat
