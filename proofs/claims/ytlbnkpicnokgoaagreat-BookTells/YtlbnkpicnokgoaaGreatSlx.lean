import Derived.Test.YtlbnkpicnokgoaaGreatSkx
namespace Go.Proofs.YtlbnkpicnokgoaaGreat
open Go.RowKit Go.Maps
set_option linter.unusedVariables false
set_option maxRecDepth 100000
set_option maxHeartbeats 4000000
theorem k3_ (s:ab_) (q:Int) (n:Nat):0≤(lbTo s q n).2∧(lbTo s q n).2≤4∧-1≤(lbTo s q n).1∧(lbTo s q n).1≤n:=by
 rcases nu_ s q n with ⟨h,_⟩ | ⟨k,h,hk⟩
 ·rw [h];simp only;omega
 ·rw [h];have:=hk.few;have:=hk.lt;simp only;omega
theorem g5_ (p:ad_) (a1 a2 a3:Option Addr) (n1 c1 n2 c2 n3 c3:Nat) (s:ab_) (b1 b2 b3:Option Addr) (m1 d1 m2 d2 m3 d3:Nat) (q:Int) (w:World) (hp:ap_ w a1 a2 a3 n1 n2 n3 p) (hs:al_ w b1 b2 b3 m1 m2 m3 s) (h0:stE p s = 0) :
 Calls Tryz.prog 144 #[.agg #[.slice a1 n1 c1,.slice a2 n2 c2,.slice a3 n3 c3],.agg #[.slice b1 m1 d1,.slice b2 m2 d2,.slice b3 m3 d3,.int .i64 s.nextSeq,.int .i64 s.nextTag,.int .i64 s.came,.int .i64 s.acked,.int .i64 s.dropped],.int .i64 q] w fun e w'=>e = .returned (.int .i64 (b2_ s q))∧Below w.heap.size w w':=by
 obtain ⟨W2,hW2,hBw,hs2,hbx⟩:=bN_ w #[.slice a1 n1 c1,.slice a2 n2 c2,.slice a3 n3 c3] #[.slice b1 m1 d1,.slice b2 m2 d2,.slice b3 m3 d3,.int .i64 s.nextSeq,.int .i64 s.nextTag,.int .i64 s.came,.int .i64 s.acked,.int .i64 s.dropped];have HW2:=hidI hW2;have BX:=hidI hbx;have HS:=hidI (hs.keep hBw);have HP:=hidI (hp.keep hBw);have HBW:=hidI hBw;have HM3:Hid (s.takers.length = m3):=hs.l3;have H0:=hidI h0;have hm3:m3≤4:=by rw [← hs.l3];exact (aE_ h0).tk
 have s0:=hBw.size;obtain ⟨y0,y1,y2,y3,y4,y5,y6,y7⟩:=aa_ (hbx W2 (Below.refl _ _)).2;clear hW2 hbx hs2 hp hs h0 hBw;go_enter Tryz.func144,Tryz.ntmps144;go_wp2_with fail
 rw [← HW2.out];clear y0 y1 y2 y3 y4 y5 y6 y7;go_loopw [7,8,9,10,11,12,16] (fun a b _ _ _ _ i wr=>∃ (k:Nat),k≤m3∧i = .int .i64 k∧a = .int .i64 (lbTo s q k).1∧b = .int .i64 (lbTo s q k).2∧Below W2.heap.size W2 wr) (fun _ _ _ _ _ _ i _=>m3 - (intOf i).toNat)
 case atStart=>exact ⟨0,Nat.zero_le _,rfl,rfl,rfl,Below.refl _ _⟩
 case round=>
  obtain ⟨k,hk,rfl,rfl,rfl,hB⟩:=hrel;have hBs:=hB.size;have HB:=hidI hB;obtain ⟨l1,l2,l3,l4⟩:=k3_ s q k;have HLB:Hid (lbTo s q (k+1) = if cn_ s q k = true∧(heldN s k:Int) < (lbTo s q k).2 then ((k:Int),(heldN s k:Int)) else lbTo s q k):=rfl;obtain ⟨A,hA⟩:∃ A,A = (lbTo s q k).1:=⟨_,rfl⟩
  obtain ⟨F,hF⟩:∃ F,F = (lbTo s q k).2:=⟨_,rfl⟩
  rw [← hA] at l3 l4 ⊢;rw [← hF] at l1 l2 HLB ⊢;have HAF:Hid (lbTo s q k = (A,F)):=by show lbTo s q k = (A,F);rw [hA,hF]
  clear hA hF;by_cases hlt:k < m3
  ·have HLT:=hidI hlt;have hkl:k < s.takers.length:=by rw [HM3.out];exact hlt
   obtain ⟨g,o,ha,hg,e1,e2⟩:=(HS.out.q3.keep hB).get hkl;subst ha;have HFR:Hid (cn_ s q k = (decide (s.takers[k].queue = q) && decide ((heldN s k:Int) < s.takers[k].most))):=by
    show cn_ s q k = _;unfold cn_ tAt;rw [List.getD_eq_getElem?_getD,List.getElem?_eq_getElem hkl];rfl
   have hmo:=(cc_.1 ((aE_ H0.out).tok _ (List.getElem_mem hkl))).2;have HHE:Hid (hdE p s (k:Int) = 0):=by show hdE p s (k:Int) = 0;unfold hdE;rw [if_pos H0.out,if_pos (az_.2 ⟨by omega,by omega⟩)]
   have HHN:Hid (hdN p s (k:Int) = (heldN s (k:Int):Int)):=by show hdN p s (k:Int) = _;unfold hdN;rw [if_pos HHE.out]
   obtain ⟨x,hx⟩:∃ x,x = s.takers[k].queue:=⟨_,rfl⟩
   obtain ⟨mo,hmo'⟩:∃ mo,mo = s.takers[k].most:=⟨_,rfl⟩
   rw [← hx] at e1 HFR;rw [← hmo'] at e2 HFR hmo;have j1:(0:Int)≤(k:Int):=by omega
   have j2:(k:Int) < m3:=by omega
   clear hx hmo' hkl;have l5:Below W2.heap.size W2 (wr.alloc (.cells #[.int .i64 x,.int .i64 mo] 69)):=hB.alloc hBs _;have L5:=hidI l5;obtain ⟨x0,x1,x2⟩:=ai_ (BX.out _ l5).1;obtain ⟨y0,y1,y2,y3,y4,y5,y6,y7⟩:=aa_ (BX.out _ l5).2;by_cases hq:x = q
   ·subst hq;go_wp2_with fail
    refine (lV_ p _ _ _ _ _ _ _ _ _ s _ _ _ _ _ _ _ _ _ (k:Int) _ (HP.out.keep L5.out) (HS.out.keep L5.out)).mono ?_;rintro e w5 ⟨rfl,hB5⟩;rw [HHE.out,HHN.out];have k5:=L5.out.trans (hB5.mono L5.out.size);have xb:=pkp_ (World.alloc_heap_new wr (.cells #[.int .i64 x,.int .i64 mo] 69)) hB5;have s5:=k5.size;have k5':=k5.alloc s5 (.cells #[.int .i64 0] 33);have XB:=hidI xb;have K5:=hidI k5;have hwr:wr.heap.size < w5.heap.size:=lth_ xb;obtain ⟨H,hH⟩:∃ H:Nat,H = heldN s (k:Int):=⟨_,rfl⟩
    rw [← hH] at HFR HLB ⊢;clear x0 x1 x2 y0 y1 y2 y3 y4 y5 y6 y7 hB5 xb hH e1 e2;have hor:((H:Int) < mo∧(H:Int) < F)∨((¬ (H:Int) < mo)∨((H:Int) < mo∧¬ (H:Int) < F)):=by omega
    rcases hor with ⟨i1,i2⟩ | hno
    ·have HF1:Hid (lbTo s x (k+1) = ((k:Int),(H:Int))):=by
      show lbTo s x (k+1) = _;rw [HLB.out,HFR.out,if_pos ⟨by simp [i1],i2⟩]
     go_wp2_with (go_at_call 47;refine (cL_ _ _ (aB_ _ _ _) (by simp)).mono ?_;rintro e w6 ⟨rfl,hB6⟩;have k6:=k5'.trans (hB6.mono k5'.size);have K6:=hidI k6;have xb6:=(hB6.block wr.heap.size (by simp;omega)).trans ((Below.heap_alloc w5 (.cells #[.int .i64 0] 33) wr.heap.size hwr).trans XB.out);have c0:=coc_ xb6 0;have c1:=coc_ xb6 1;simp at c0 c1;clear hB6 k6 xb6)
     go_roundw
     case rel=>exact ⟨k+1,HLT.out,by have:=HLT.out;go_num,by rw [HF1.out],by rw [HF1.out],K6.out⟩
     case measure=>have:=HLT.out;simp [intOf];omega
    ·have HF0:Hid (lbTo s x (k+1) = (A,F)):=by
      show lbTo s x (k+1) = (A,F);rw [HLB.out,HFR.out,if_neg (by simp;omega),HAF.out]
     rcases hno with i1 | ⟨i1,i2⟩
     all_goals
      go_wp2_with (go_at_call 47;refine (cL_ _ _ (aB_ _ _ _) (by simp)).mono ?_;rintro e w6 ⟨rfl,hB6⟩;have k6:=k5'.trans (hB6.mono k5'.size);have K6:=hidI k6;have xb6:=(hB6.block wr.heap.size (by simp;omega)).trans ((Below.heap_alloc w5 (.cells #[.int .i64 0] 33) wr.heap.size hwr).trans XB.out);have c0:=coc_ xb6 0;have c1:=coc_ xb6 1;simp at c0 c1;clear hB6 k6 xb6)
      go_roundw
      case rel=>exact ⟨k+1,HLT.out,by have:=HLT.out;go_num,by rw [HF0.out],by rw [HF0.out],K6.out⟩
      case measure=>have:=HLT.out;simp [intOf];omega
   ·have hq':(x != q) = true:=bne_iff_ne.2 hq;have HF0:Hid (lbTo s q (k+1) = (A,F)):=by
     show lbTo s q (k+1) = (A,F);rw [HLB.out,HFR.out,if_neg (by simp [hq]),HAF.out]
    clear hq;go_wp2_with fail
    go_roundw
    case rel=>exact ⟨k+1,HLT.out,by have:=HLT.out;go_num,by rw [HF0.out],by rw [HF0.out],L5.out⟩
    case measure=>have:=HLT.out;simp [intOf];omega
  ·have hke:m3 = k:=by omega
   subst hke;have HNK:Hid (b2_ s q = A):=by show b2_ s q = A;unfold b2_;rw [HM3.out,HAF.out]
   clear hlt hk;go_wp2_with fail
   go_ret
   exact ⟨aw_ HNK.out.symm,HBW.out.trans (hB.mono s0)⟩
structure Turn1 (t:Nat) (W W':World):Prop where
 os:W'.os = W.os
 tape:W'.tape = W.tape
 output:W'.output = W.output
 size:W.heap.size≤W'.heap.size
 block:∀ k,k < W.heap.size→k≠t→W'.heap[k]? = W.heap[k]?
theorem Turn1.of_below {t:Nat} {W W':World} (h:Below W.heap.size W W'):Turn1 t W W':=⟨h.os,h.tape,h.output,h.size,fun k h1 _=>h.block k h1⟩
theorem Turn1.setCell {t:Nat} {W W':World} (h:Turn1 t W W') (i:Nat) (u:Value):Turn1 t W (W'.setCell ⟨t,i,none⟩ u):=⟨h.os,h.tape,h.output,by simpa [World.setCell] using h.size,fun k h1 h2=>(Below.heap_setCell W' ⟨t,i,none⟩ u k h2).trans (h.block k h1 h2)⟩
theorem Turn1.trans_below {t:Nat} {A B C:World} (h:Turn1 t A B) (k:Below B.heap.size B C):Turn1 t A C:=⟨k.os.trans h.os,k.tape.trans h.tape,k.output.trans h.output,Nat.le_trans h.size k.size,fun i h1 h2=>(k.block i (by have:=h.size;omega)).trans (h.block i h1 h2)⟩
theorem nd_ {d:Int} (h:d≠0):(Ending.panicked [{ v:=.iface 33 (.int .i64 d),recovered:=false }]) = askE d:=by rw [bX_ h];rfl
theorem lh_ (p:ad_) (a1 a2 a3:Option Addr) (n1 c1 n2 c2 n3 c3:Nat) (s:ab_) (b1 b2 b3:Option Addr) (m1 d1 m2 d2 m3 d3:Nat) (q:Int) (B:Nat) (w:World) (hp:ap_ w a1 a2 a3 n1 n2 n3 p) (hs:al_ w b1 b2 b3 m1 m2 m3 s) (x0:w.heap[B]? = some (.cells #[.slice a1 n1 c1,.slice a2 n2 c2,.slice a3 n3 c3] 26 (0,0))) (x1:w.heap[B+1]? = some (.cells #[.slice b1 m1 d1,.slice b2 m2 d2,.slice b3 m3 d3,.int .i64 s.nextSeq,.int .i64 s.nextTag,.int .i64 s.came,.int .i64 s.acked,.int .i64 s.dropped] 31 (0,0))) (x2:w.heap[B+2]? = some (.cells #[.int .i64 q] 3 (0,0))) (x3:w.heap[B+3]? = some (.cells #[.int .i64 (-1)] 3 (0,0))) :
 Calls Tryz.prog 143 #[.pointer (some ⟨B,0,none⟩),.pointer (some ⟨B+1,0,none⟩),.pointer (some ⟨B+2,0,none⟩),.pointer (some ⟨B+3,0,none⟩)] w fun e w'=>e = askE (cY_ p s q)∧Turn1 (B+3) w w'∧(cY_ p s q = 0→w'.heap[B+3]? = some (.cells #[.int .i64 (b2_ s q)] 3 (0,0))):=by
 obtain ⟨E,hE⟩:∃ E,E = cY_ p s q:=⟨_,rfl⟩
 rw [← hE];obtain ⟨E0,hE0⟩:∃ E0,E0 = stE p s:=⟨_,rfl⟩
 have HE:=hidI hE;have HE0:=hidI hE0;have HP:=hidI hp;have HS:=hidI hs;have X0:=hidI x0;have X1:=hidI x1;have X2:=hidI x2;have X3:=hidI x3;have HN2:Hid (p.queues.length = n2):=hp.l2;have HM1:Hid (s.ready.length = m1):=hs.l1;have hl3:=lth_ x3;obtain ⟨p0,p1,p2⟩:=ai_ x0;obtain ⟨y0,y1,y2,y3,y4,y5,y6,y7⟩:=aa_ x1;clear hE hE0 hp hs x0 x1 x2 x3;go_enter Tryz.func143,Tryz.ntmps143;go_wp2_with fail
 refine (cB_ p _ _ _ _ _ _ _ _ _ s _ _ _ _ _ _ _ _ _ _ HP.out HS.out).mono ?_;rintro e w1 ⟨rfl,k1⟩;rw [← HE0.out];have s1:=k1.size;have k1':=k1.alloc s1 (.cells #[.int .i64 E0] 33);have s1':=k1'.size;clear p0 p1 p2 y0 y1 y2 y3 y4 y5 y6 y7;by_cases hz:E0 = 0
 ·subst hz;have HE1:Hid (E = if aq_ q n2 = false then 5 else if af_ s q.toNat = [] then 8 else if b2_ s q = -1 then 9 else 0):=by show E = _;rw [HE.out];unfold cY_;rw [if_neg (by simp [← HE0.out]),HN2.out]
  have HR:=hidI (aE_ HE0.out.symm);go_wp2_with (go_at_call 47;refine (cL_ _ _ (aB_ _ _ _) (by simp)).mono ?_;rintro e w2 ⟨rfl,hB2⟩;have k2:=k1'.trans (hB2.mono s1');have K2:=hidI k2;obtain ⟨p0,p1,p2⟩:=ai_ (pkp_ X0.out k2);have cq:=coc_ (pkp_ X2.out k2) 0;simp at cq;clear hB2)
  refine (eY_ p _ _ _ _ _ _ _ _ _ q _ (HP.out.keep K2.out)).mono ?_;rintro e w3 ⟨rfl,k3'⟩;have k3:=K2.out.trans (k3'.mono K2.out.size);have s3:=k3.size;have K3:=hidI k3;clear k3' p0 p1 p2 cq k2;by_cases hq:aq_ q n2 = false
  ·rw [if_pos hq,bX_ (by decide)];unfold panE;have e5:E = 5:=by rw [HE1.out,if_pos hq]
   exact ⟨rfl,by rw [e5];rfl,Turn1.of_below k3,fun h=>by rw [e5] at h;cases h⟩
  ·rw [if_neg hq,bW_];unfold okE;have hq':0≤q∧q < n2:=az_.1 (by simpa using hq);obtain ⟨j,rfl⟩:=Int.eq_ofNat_of_zero_le hq'.1;have HE2:Hid (E = if af_ s j = [] then 8 else if b2_ s j = -1 then 9 else 0):=by show E = _;rw [HE1.out,if_neg hq];rfl
   have hjr:j < s.ready.length:=by rw [HR.out.len,HN2.out];omega
   obtain ⟨g,o,b,c,ha,hg,hl⟩:=(HS.out.q1.keep k3).get hjr;subst ha;have c1:=hl.cell;have HLA:Hid (af_ s j = s.ready[j]):=aU_ hjr;obtain ⟨n,hn⟩:∃ n,n = (s.ready[j]'hjr).length:=⟨_,rfl⟩
   have HN:Hid (n = 0↔af_ s j = []):=by show n = 0↔_;rw [HLA.out,hn];exact List.length_eq_zero_iff
   rw [← hn] at c1;have j1:(0:Int)≤(j:Int):=by omega
   have j2:(j:Int) < m1:=by rw [← HM1.out];omega
   obtain ⟨y0,y1,y2,y3,y4,y5,y6,y7⟩:=aa_ (pkp_ X1.out k3);have cq:=coc_ (pkp_ X2.out k3) 0;simp at cq;clear hl hn hq hq' HE1;go_wp2_with fail
   by_cases hn0:n = 0
   ·refine (au_ 8 [((n:Int) == 0)] _ _ (by simp) (bng_ w3 _ rfl) (by simp;omega)).mono ?_;rintro e w4 ⟨rfl,rfl⟩;have e8:E = 8:=by rw [HE2.out,if_pos (HN.out.1 hn0)]
    exact ⟨rfl,by rw [e8];rfl,Turn1.of_below (K3.out.alloc s3 _),fun h=>by rw [e8] at h;cases h⟩
   ·refine (aC_ 8 [((n:Int) == 0)] _ _ (by simp) (bng_ w3 _ rfl) (by simp;omega)).mono ?_;rintro e w4 ⟨rfl,hw4⟩;have k4:Below w.heap.size w w4:=by rw [hw4];exact K3.out.alloc s3 _
    have HE3:Hid (E = if b2_ s j = -1 then 9 else 0):=by show E = _;rw [HE2.out,if_neg (fun h=>hn0 (HN.out.2 h))]
    have K4:=hidI k4;have s4:=k4.size;clear hw4 hn0 y0 y1 y2 y3 y4 y5 y6 y7 cq c1 k3;obtain ⟨p0,p1,p2⟩:=ai_ (pkp_ X0.out k4);obtain ⟨y0,y1,y2,y3,y4,y5,y6,y7⟩:=aa_ (pkp_ X1.out k4);have cq:=coc_ (pkp_ X2.out k4) 0;simp at cq;go_wp2_with fail
    refine (g5_ p _ _ _ _ _ _ _ _ _ s _ _ _ _ _ _ _ _ _ (j:Int) _ (HP.out.keep K4.out) (HS.out.keep K4.out) HE0.out.symm).mono ?_;rintro e w5 ⟨rfl,k5'⟩;have k5:=K4.out.trans (k5'.mono s4);have K5:=hidI k5;have x35:=pkp_ X3.out k5;have X35:=hidI x35;have c3:=coc_ x35 0;have f3:=foc_ x35 0;simp at c3;obtain ⟨N,hN⟩:∃ N,N = b2_ s (j:Int):=⟨_,rfl⟩
    have HNN:=hidI hN;rw [← hN] at HE3 ⊢;clear k5' k4 x35 p0 p1 p2 y0 y1 y2 y3 y4 y5 y6 y7 cq hN;have tb:=scb_ X35.out (j:=0) (.int .i64 N);have t5:Turn1 (B+3) w (w5.setCell ⟨B+3,0,none⟩ (.int .i64 N)):=(Turn1.of_below K5.out).setCell 0 _;have ly:Below (w5.setCell ⟨B+3,0,none⟩ (.int .i64 N)).heap.size (w5.setCell ⟨B+3,0,none⟩ (.int .i64 N)) ((w5.setCell ⟨B+3,0,none⟩ (.int .i64 N)).alloc (.cells #[.bool (N == -1)] 4)):=(Below.refl _ _).alloc (Nat.le_refl _) _;have T6:=hidI (t5.trans_below ly);have TB6:=hidI (pkp_ tb ly);clear tb t5 ly;go_wp2_with fail
    have hsz:w5.heap.size = (w5.setCell ⟨B+3,0,none⟩ (.int .i64 N)).heap.size:=by simp [World.setCell]
    by_cases hn1:N = -1
    ·refine (au_ 9 [(N == -1)] _ _ (by simp) (bng_ (w5.setCell ⟨B+3,0,none⟩ (.int .i64 N)) _ hsz) (by simp [hn1])).mono ?_;rintro e w6 ⟨rfl,rfl⟩;have e9:E = 9:=by rw [HE3.out,if_pos hn1]
     exact ⟨rfl,by rw [e9];rfl,T6.out,fun h=>by rw [e9] at h;cases h⟩
    ·refine (aC_ 9 [(N == -1)] _ _ (by simp) (bng_ (w5.setCell ⟨B+3,0,none⟩ (.int .i64 N)) _ hsz) (by simp [hn1])).mono ?_;rintro e w6 ⟨rfl,hw6⟩;have e0:E = 0:=by rw [HE3.out,if_neg hn1]
     have T6':Hid (Turn1 (B+3) w w6):=by show Turn1 (B+3) w w6;rw [hw6];exact T6.out
     have TB6':Hid (w6.heap[B+3]? = some (.cells #[.int .i64 N] 3 (0,0))):=by show w6.heap[B+3]? = _;rw [hw6];exact TB6.out
     clear hw6 hsz;go_wp2_with fail
     go_end0
     exact ⟨by rw [e0];rfl,T6'.out,fun _=>by rw [← HNN.out];exact TB6'.out⟩
 ·have HZ:=hidI hz;have e0:E = E0:=by rw [HE.out];unfold cY_;rw [if_pos (by rw [← HE0.out];exact hz),HE0.out]
  go_wp2_with (go_at_call 47;refine (cs_ E0 _ _ (aB_ _ _ _) (by simp) HZ.out).mono ?_;rintro e w2 ⟨rfl,hB2⟩)
  subst e0;exact ⟨rfl,nd_ HZ.out,Turn1.of_below (k1'.trans (hB2.mono s1')),fun h=>absurd h HZ.out⟩
theorem mv_ (p:ad_) (a1 a2 a3:Option Addr) (n1 c1 n2 c2 n3 c3:Nat) (s:ab_) (b1 b2 b3:Option Addr) (m1 d1 m2 d2 m3 d3:Nat) (q:Int) (w:World) (hp:ap_ w a1 a2 a3 n1 n2 n3 p) (hs:al_ w b1 b2 b3 m1 m2 m3 s) :
 Calls Tryz.prog 105 #[.agg #[.slice a1 n1 c1,.slice a2 n2 c2,.slice a3 n3 c3],.agg #[.slice b1 m1 d1,.slice b2 m2 d2,.slice b3 m3 d3,.int .i64 s.nextSeq,.int .i64 s.nextTag,.int .i64 s.came,.int .i64 s.acked,.int .i64 s.dropped],.int .i64 q] w fun e w'=>e = .returned (.tuple #[.int .i64 (bg_ (cY_ p s q) (b2_ s q)),.int .i64 (cY_ p s q)])∧Below w.heap.size w w':=by
 obtain ⟨hz4,hg4,hB4⟩:=av_ [.cells #[.slice a1 n1 c1,.slice a2 n2 c2,.slice a3 n3 c3] 26,.cells #[.slice b1 m1 d1,.slice b2 m2 d2,.slice b3 m3 d3,.int .i64 s.nextSeq,.int .i64 s.nextTag,.int .i64 s.came,.int .i64 s.acked,.int .i64 s.dropped] 31,.cells #[.int .i64 q] 3,.cells #[.int .i64 (-1)] 3] w;obtain ⟨W4,hW4⟩:∃ W4,W4 = List.foldl World.alloc w [.cells #[.slice a1 n1 c1,.slice a2 n2 c2,.slice a3 n3 c3] 26,.cells #[.slice b1 m1 d1,.slice b2 m2 d2,.slice b3 m3 d3,.int .i64 s.nextSeq,.int .i64 s.nextTag,.int .i64 s.came,.int .i64 s.acked,.int .i64 s.dropped] 31,.cells #[.int .i64 q] 3,.cells #[.int .i64 (-1)] 3]:=⟨_,rfl⟩
 rw [← hW4] at hz4 hg4 hB4;have HW4:Hid (W4 = ((((w.alloc (.cells #[.slice a1 n1 c1,.slice a2 n2 c2,.slice a3 n3 c3] 26)).alloc (.cells #[.slice b1 m1 d1,.slice b2 m2 d2,.slice b3 m3 d3,.int .i64 s.nextSeq,.int .i64 s.nextTag,.int .i64 s.came,.int .i64 s.acked,.int .i64 s.dropped] 31)).alloc (.cells #[.int .i64 q] 3)).alloc (.cells #[.int .i64 (-1)] 3))):=hW4;have hz4':W4.heap.size = w.heap.size+4:=by rw [hz4];rfl
 have x0:=hg4 0 _ rfl;have x1:=hg4 1 _ rfl;have x2:=hg4 2 _ rfl;have x3:=hg4 3 _ rfl;have l5:Below W4.heap.size W4 (W4.alloc (.cells #[.int .i64 0] 33)):=(Below.refl _ _).alloc (Nat.le_refl _) _;have x6:=World.alloc_heap_new W4 (.cells #[.int .i64 0] 33);obtain ⟨E,hE⟩:∃ E,E = cY_ p s q:=⟨_,rfl⟩
 obtain ⟨K,hK⟩:∃ K,K = b2_ s q:=⟨_,rfl⟩
 have N1:=lh_ p a1 a2 a3 n1 c1 n2 c2 n3 c3 s b1 b2 b3 m1 d1 m2 d2 m3 d3 q w.heap.size (W4.alloc (.cells #[.int .i64 0] 33)) ((hp.keep hB4).keep l5) ((hs.keep hB4).keep l5) (pkp_ x0 l5) (pkp_ x1 l5) (pkp_ x2 l5) (pkp_ x3 l5);rw [← hE,← hK] at N1;rw [← hE,← hK];have TR:=f0_ 143 (fun _ _=>rfl) #[.pointer (some ⟨w.heap.size,0,none⟩),.pointer (some ⟨w.heap.size+1,0,none⟩),.pointer (some ⟨w.heap.size+2,0,none⟩),.pointer (some ⟨w.heap.size+3,0,none⟩)]
  (fun D w1=>D = E∧Turn1 (w.heap.size+3) (W4.alloc (.cells #[.int .i64 0] 33)) w1∧(E = 0→w1.heap[w.heap.size+3]? = some (.cells #[.int .i64 K] 3 (0,0)))) W4
  (N1.mono (by
   rintro e w' ⟨rfl,g1,g2⟩;exact ⟨E,rfl,⟨rfl,g1,g2⟩,(g1.block _ (by simp) (by omega)).trans x6⟩))
 have HTR:=hidI TR;have HB4:=hidI hB4;have HZ4:=hidI hz4';have hmf:∀ (fn:Fn) (first cap:Array Value) (w:World),(Instr.makeFunc fn first cap).run Tryz.prog w = .ok (.func fn first cap) w:=fun _ _ _ _=>rfl
 clear N1 TR hW4 hz4 hz4' hg4 hB4 x0 x1 x2 x3 x6 l5 hp hs hE hK;go_enter Tryz.func105,Tryz.ntmps105;go_wp2_with fail
 rw [← HW4.out];refine HTR.out.mono ?_;rintro e w7 ⟨D,w1,rfl,⟨rfl,g1,g2⟩,hb,rfl⟩;have hB7:Below w.heap.size w (w1.setCell ⟨W4.heap.size,0,none⟩ (.int .i64 D)):=by
  refine (HB4.out.trans ?_).setCell (p:=⟨W4.heap.size,0,none⟩) (by have:=HZ4.out;show w.heap.size≤W4.heap.size;omega) _;refine ⟨g1.os,g1.tape,g1.output,by have:=g1.size;simp at this;omega,fun k hk=>?_⟩;rw [g1.block k (by simp;have:=HZ4.out;omega) (by omega),Below.heap_alloc _ _ _ (by have:=HZ4.out;omega)]
 have HB7:=hidI hB7;by_cases hD:D = 0
 ·subst hD;have r3:=g2 rfl;have r7:(w1.setCell ⟨W4.heap.size,0,none⟩ (.int .i64 0)).heap[w.heap.size+3]? = some (.cells #[.int .i64 K] 3 (0,0)):=by rw [Below.heap_setCell _ _ _ _ (by have:=HZ4.out;show w.heap.size+3≠W4.heap.size;omega)];exact r3
  have c7:=coc_ r7 0;simp at c7;generalize hw7:w1.setCell ⟨W4.heap.size,0,none⟩ (.int .i64 0) = w7 at c7 HB7;clear r3 r7 g1 g2 hb hB7 hw7;go_wp2_with fail
  go_ret2
  exact ⟨by first | rfl | (unfold bg_;rw [if_pos rfl]),HB7.out⟩
 ·have hD':(D != 0) = true:=bne_iff_ne.2 hD;have HDN:=hidI hD;generalize hw7:w1.setCell ⟨W4.heap.size,0,none⟩ (.int .i64 D) = w7 at HB7;clear g1 g2 hb hB7 hw7 hD;go_wp2_with fail
  go_ret2
  exact ⟨e1_ (by unfold bg_;rw [if_neg HDN.out]) rfl,HB7.out⟩
end Go.Proofs.YtlbnkpicnokgoaaGreat
