import Derived.Deep.RegionHeld3
import Derived.Test.YtlbnkpicnokgoaaGreatUex
import Derived.Test.YtlbnkpicnokgoaaGreatUax
namespace Go.Proofs.YtlbnkpicnokgoaaGreat
open Go.RowKit Go.Maps
set_option linter.unusedVariables false
set_option maxRecDepth 100000
set_option maxHeartbeats 1000000
theorem eO_ (s:ab_) (b1 b2 b3:Option Addr) (m1 d1 m2 d2 m3 d3:Nat) (t:Int) (w:World) (hs:an_ w b1 b2 b3 m1 m2 m3 s) :
 Calls Tryz.prog 37 #[.agg #[.slice b1 m1 d1,.slice b2 m2 d2,.slice b3 m3 d3,.int .i64 s.nextSeq,.int .i64 s.nextTag,.int .i64 s.came,.int .i64 s.acked,.int .i64 s.dropped],.int .i64 t] w fun e w'=>e = .returned (.int .i64 (heldN s t))∧Below w.heap.size w w':=by
 obtain ⟨W1,hW1,hBw,hs1,hbx⟩:=du_ w #[.slice b1 m1 d1,.slice b2 m2 d2,.slice b3 m3 d3,.int .i64 s.nextSeq,.int .i64 s.nextTag,.int .i64 s.came,.int .i64 s.acked,.int .i64 s.dropped];have HW1:=hidI hW1;have HS:=hidI (hs.keep hBw);have HM2:Hid (s.outs.length = m2):=hs.l2;have hx2:=hs.x2;have s0:=hBw.size;obtain ⟨y0,y1,y2,y3,y4,y5,y6,y7⟩:=aa_ (hbx W1 (Below.refl _ _));clear hW1 hbx hs1 hs;go_enter Tryz.func37,Tryz.ntmps37;go_wp2_with fail
 rw [← HW1.out];go_loopw [5,6] (fun u i wr=>∃ (k n:Nat),k≤m2∧i = .int .i64 k∧u = .int .i64 n∧n≤k∧n = ((s.outs.take k).filter (fun o=>decide (o.taker = t))).length∧wr = W1) (fun _ i _=>m2 - (intOf i).toNat)
 case atStart=>exact ⟨0,0,Nat.zero_le _,rfl,rfl,Nat.le_refl _,rfl,rfl⟩
 case round=>
  obtain ⟨k,n,hk,rfl,rfl,hnk,hn,rfl⟩:=hrel;have HN:=hidI hn;clear hn;by_cases hlt:k < m2
  ·have HLT:=hidI hlt;have hkl:k < s.outs.length:=by rw [HM2.out];exact hlt
   obtain ⟨g,o,ha,hg,e1,e2,e3,e4⟩:=HS.out.q2.get hkl;subst ha;have HST:=hidI (h9_ s.outs t hkl);obtain ⟨x,hx⟩:∃ x,x = s.outs[k]:=⟨_,rfl⟩
   rw [← hx] at e2 HST;obtain ⟨tk,htk⟩:∃ tk,tk = x.taker:=⟨_,rfl⟩
   rw [← htk] at e2 HST;rw [← HN.out] at HST;have j1:(0:Int)≤(k:Int):=by omega
   have j2:(k:Int) < m2:=by omega
   clear hx htk e1 e3 e4;by_cases htk:tk = t
   ·have hb:(tk == t) = true:=by simpa using htk
    rw [if_pos htk] at HST;clear htk;go_wp2_with fail
    go_roundw
    case rel=>exact ⟨k+1,n+1,HLT.out,by have:=HLT.out;go_num,by have:=HLT.out;go_num,by omega,HST.out.symm,by first | trivial | rfl⟩
    case measure=>have:=HLT.out;simp [intOf];omega
   ·have hb:(tk == t) = false:=by simpa using htk
    rw [if_neg htk] at HST;clear htk;go_wp2_with fail
    go_roundw
    case rel=>exact ⟨k+1,n,HLT.out,by have:=HLT.out;go_num,rfl,by omega,HST.out.symm,by first | trivial | rfl⟩
    case measure=>have:=HLT.out;simp [intOf];omega
  ·have hke:k = m2:=by omega
   subst hke;clear hlt hk;go_wp2_with fail
   go_ret
   refine ⟨?_,hBw⟩;have:n = heldN s t:=by
    have:=HN.out;rw [List.take_of_length_le (by rw [HM2.out];exact Nat.le_refl _)] at this;exact this
   show Ending.returned (Value.int .i64 (n:Nat)) = _;rw [this]
theorem dN_ {b n:Nat} {W w':World} (h:Below b W w'):Below b W (w'.drewN n):=⟨h.os,h.tape,h.output,h.size,h.block⟩
theorem gz_ (p:ad_) (a1 a2 a3:Option Addr) (n1 c1 n2 c2 n3 c3:Nat) (s:ab_) (b1 b2 b3:Option Addr) (m1 d1 m2 d2 m3 d3:Nat) (w:World) (hp:ap_ w a1 a2 a3 n1 n2 n3 p) (hs:an_ w b1 b2 b3 m1 m2 m3 s)
 (hform:∀ W,Below w.heap.size w W→chkP p = 0→m3≤4→Calls Tryz.prog 36 #[.agg #[.slice a1 n1 c1,.slice a2 n2 c2,.slice a3 n3 c3],.agg #[.slice b1 m1 d1,.slice b2 m2 d2,.slice b3 m3 d3,.int .i64 s.nextSeq,.int .i64 s.nextTag,.int .i64 s.came,.int .i64 s.acked,.int .i64 s.dropped]] W fun e w'=>e = .returned (.bool (bs_ p s))∧Below W.heap.size W w') :
 Calls Tryz.prog 10 #[.agg #[.slice a1 n1 c1,.slice a2 n2 c2,.slice a3 n3 c3],.agg #[.slice b1 m1 d1,.slice b2 m2 d2,.slice b3 m3 d3,.int .i64 s.nextSeq,.int .i64 s.nextTag,.int .i64 s.came,.int .i64 s.acked,.int .i64 s.dropped]] w fun e w'=>e = .returned (.int .i64 (stE p s))∧Below w.heap.size w w':=by
 obtain ⟨D,hD⟩:∃ D:Int,D = stE p s:=⟨_,rfl⟩
 rw [← hD];have HD:=hidI hD;obtain ⟨W2,hW2,hBw,hs2,hbx⟩:=bZ_ w #[.slice a1 n1 c1,.slice a2 n2 c2,.slice a3 n3 c3] #[.slice b1 m1 d1,.slice b2 m2 d2,.slice b3 m3 d3,.int .i64 s.nextSeq,.int .i64 s.nextTag,.int .i64 s.came,.int .i64 s.acked,.int .i64 s.dropped];have HW2:=hidI hW2;have BX:=hidI hbx;have HS:=hidI (hs.keep hBw);have HP:=hidI (hp.keep hBw);have HM1:Hid (s.ready.length = m1):=hs.l1;have HM2:Hid (s.outs.length = m2):=hs.l2;have HM3:Hid (s.takers.length = m3):=hs.l3;have HN2:Hid (p.queues.length = n2):=hp.l2;have s0:=hBw.size;have hs2':w.heap.size+1 < W2.heap.size:=by omega
 have HF:Hid (∀ W,Below W2.heap.size W2 W→chkP p = 0→m3≤4→Calls Tryz.prog 36 #[.agg #[.slice a1 n1 c1,.slice a2 n2 c2,.slice a3 n3 c3],.agg #[.slice b1 m1 d1,.slice b2 m2 d2,.slice b3 m3 d3,.int .i64 s.nextSeq,.int .i64 s.nextTag,.int .i64 s.came,.int .i64 s.acked,.int .i64 s.dropped]] W fun e w'=>e = .returned (.bool (bs_ p s))∧Below W.heap.size W w'):=fun W hW=>hform W (hBw.trans (hW.mono s0))
 obtain ⟨x0,x1,x2⟩:=ag_ (hbx W2 (Below.refl _ _)).1;obtain ⟨y0,y1,y2,y3,y4,y5,y6,y7⟩:=aa_ (hbx W2 (Below.refl _ _)).2;clear hW2 hbx hs2 hp hs hD hform;go_enter Tryz.func10,Tryz.ntmps10;go_wp2_with fail
 rw [← HW2.out];refine (d9_ p _ _ _ _ _ _ _ _ _ _ HP.out.l1 HP.out.l2 HP.out.l3 HP.out.sz HP.out.p1 HP.out.p2 HP.out.p3).mono ?_;rintro e w3 ⟨rfl,k3⟩;obtain ⟨E,hE⟩:∃ E:Int,E = chkP p:=⟨_,rfl⟩
 rw [← hE];have HE:=hidI hE;have s3:=k3.size;clear hE x0 x1 x2 y0 y1 y2 y3 y4 y5 y6 y7;obtain ⟨x0,x1,x2⟩:=ag_ (BX.out w3 k3).1;obtain ⟨y0,y1,y2,y3,y4,y5,y6,y7⟩:=aa_ (BX.out w3 k3).2;by_cases h0:E = 0
 ·subst h0;by_cases h4:4 < m3
  ·have HD2:Hid (D = 2):=by show D = 2;rw [HD.out];unfold stE;rw [if_neg (by rw [← HE.out];simp),if_pos (by rw [HM3.out];exact h4)]
   have i1:(4:Int) < m3:=by omega
   go_wp2_with fail
   go_ret
   exact ⟨by rw [HD2.out];rfl,hBw.trans (k3.mono s0)⟩
  ·have i1:¬ ((4:Int) < m3):=by omega
   have HST:Hid (D = if bs_ p s = false then 1 else if (dD_ p s && dE_ s) = false then 3 else if cj_ s = false then 10 else 0):=by
    show D = _;rw [HD.out];unfold stE;rw [if_neg (by rw [← HE.out];simp),if_neg (by rw [HM3.out];exact h4)]
   have hm34:m3≤4:=by omega
   clear h4;go_wp2_with fail
   refine (HF.out _ k3 HE.out.symm hm34).mono ?_;rintro e w4 ⟨rfl,k4'⟩;have k4:=k3.trans (k4'.mono s3);have s4:=k4.size;obtain ⟨fb,hfb⟩:∃ fb,fb = bs_ p s:=⟨_,rfl⟩
   rw [← hfb] at HST ⊢;have HFB:=hidI hfb;clear x0 x1 x2 y0 y1 y2 y3 y4 y5 y6 y7 hfb k4';obtain ⟨x0,x1,x2⟩:=ag_ (BX.out w4 k4).1;obtain ⟨y0,y1,y2,y3,y4,y5,y6,y7⟩:=aa_ (BX.out w4 k4).2;cases fb with
   | false =>
     have HD1:Hid (D = 1):=by show D = 1;rw [HST.out];rfl
     go_wp2_with fail
     go_ret
     exact ⟨by rw [HD1.out];rfl,hBw.trans (k4.mono s0)⟩
   | true =>
     have hf:=HFB.out.symm;unfold bs_ at hf;simp only [Bool.and_eq_true] at hf;obtain ⟨⟨⟨⟨g1,g2⟩,g3⟩,g4⟩,g5⟩:=hf;have HR:Hid (bx_ p):=bc_ HE.out.symm;have HBD:=hidI (g4_ HR.out g1 g3 g4);have HMN:Hid (m1 = n2):=by
      have:=g1;unfold aY_ at this;simp only [Bool.and_eq_true,decide_eq_true_eq] at this;show m1 = n2;rw [← HM1.out,← HN2.out];exact this.1
     have hx1:m1≤4:=by have:=HR.out.few.2.1;rw [HN2.out] at this;have:=HMN.out;omega
     have HS2:Hid (D = if (dD_ p s && dE_ s) = false then 3 else if cj_ s = false then 10 else 0):=HST.out;obtain ⟨T,hT⟩:∃ T,T = (s.ready.flatMap (fun l=>l.map ae_.seq)).length:=⟨_,rfl⟩
     have HTT:=hidI hT;have HQ:Hid ((as_ s).length = T+m2):=by show (as_ s).length = _;unfold as_;rw [List.length_append,List.length_map,HM2.out,hT]
     have hTb:T+m2≤100000000:=by have:=HBD.out.1;rw [HQ.out] at this;exact this
     unfold bf_ a2_ at g4;simp only [Bool.and_eq_true,decide_eq_true_eq] at g4;have HC:=hidI g4;clear g1 g2 g3 g4 g5 hT HST HFB;go_wp2_with fail
     go_loopw [6,7] (fun u i wr=>∃ (k a:Nat),k≤m1∧i = .int .i64 k∧u = .int .i64 a∧a+((s.ready.drop k).flatMap (fun l=>l.map ae_.seq)).length = m2+T∧(∀ q,q < k→cJ_ p s q = true)∧∃ n,wr = w4.drewN n) (fun _ i _=>m1 - (intOf i).toNat)
     case atStart=>exact ⟨0,m2,Nat.zero_le _,rfl,rfl,by rw [HTT.out];rfl,fun q hq=>absurd hq (Nat.not_lt_zero _),0,rfl⟩
     case round=>
      obtain ⟨k,a,hk,rfl,rfl,ha,hrl,nd,rfl⟩:=hrel;have HA:=hidI ha;have HRL:=hidI hrl;have haT:a≤100000000:=by omega
      have kd:Below W2.heap.size W2 (w4.drewN nd):=⟨k4.os,k4.tape,k4.output,k4.size,k4.block⟩;clear ha hrl x0 x1 x2 y0 y1 y2 y3 y4 y5 y6 y7;obtain ⟨wd,hwd⟩:∃ wd,wd = w4.drewN nd:=⟨_,rfl⟩
      have HWD:=hidI hwd;rw [← hwd] at kd ⊢;clear hwd;obtain ⟨x0,x1,x2⟩:=ag_ (BX.out wd kd).1;obtain ⟨y0,y1,y2,y3,y4,y5,y6,y7⟩:=aa_ (BX.out wd kd).2;by_cases hlt:k < m1
      ·have HLT:=hidI hlt;have hkl:k < s.ready.length:=by rw [HM1.out];exact hlt
       have hkq:k < p.queues.length:=by rw [HN2.out,← HMN.out];exact hlt
       obtain ⟨g,o,b,c,ha,hg,hl⟩:=(HS.out.q1.keep kd).get hkl;obtain ⟨g',o',ha',hg',e1,e2,e3⟩:=(HP.out.p2.keep kd).get hkq;have hdr:s.ready.drop k = s.ready[k] :: s.ready.drop (k+1):=List.drop_eq_getElem_cons hkl;subst ha ha';have c1:=hl.cell;have HRK:Hid (cJ_ p s k = decide ((s.ready[k].length:Int)≤p.queues[k].limit)):=by
        show cJ_ p s k = _;unfold cJ_;rw [List.getD_eq_getElem?_getD,List.getD_eq_getElem?_getD,List.getElem?_eq_getElem hkl,List.getElem?_eq_getElem hkq];rfl
       have HSTEP:Hid (a+s.ready[k].length+((s.ready.drop (k+1)).flatMap (fun l=>l.map ae_.seq)).length = m2+T):=by
        show a+s.ready[k].length + _ = m2+T;have:=HA.out;rw [hdr,List.flatMap_cons,List.length_append,List.length_map] at this;omega
       obtain ⟨n,hn⟩:∃ n,n = s.ready[k].length:=⟨_,rfl⟩
       obtain ⟨lim,hlim⟩:∃ lim,lim = p.queues[k].limit:=⟨_,rfl⟩
       rw [← hn] at c1 HRK HSTEP;rw [← hlim] at e2 HRK;have hnb:n≤100000000:=by have:=HSTEP.out;omega
       have hw:IntKind.i64.wrap ((a:Int)+n) = ((a+n:Nat):Int):=by rw [IntKind.wrap_i64];omega
       have j1:(0:Int)≤(k:Int):=by omega
       have j2:(k:Int) < m1:=by omega
       have j3:(k:Int) < n2:=by have:=HMN.out;omega
       clear hl hdr hn hlim e1 e3 hkl hkq;by_cases hbad:lim < (n:Int)
       ·have HD3:Hid (D = 3):=by
         show D = 3;rw [HS2.out,show dD_ p s = false from c8_ (f:=cJ_ p s) (by rw [HM1.out];exact HLT.out) (by rw [HRK.out];exact decide_eq_false (by omega))];rfl
        go_wp2_with fail
        go_quiet (fail)
        go_wp2_with fail
        go_ret
        exact ⟨by rw [HD3.out];rfl,hBw.trans ((dN_ kd).mono s0)⟩
       ·have HYK:Hid (cJ_ p s k = true):=by show cJ_ p s k = true;rw [HRK.out];exact decide_eq_true (by omega)
        go_wp2_with fail
        go_quiet (fail)
        go_wp2_with fail
        go_roundw
        case rel=>exact ⟨k+1,a+n,HLT.out,by have:=HLT.out;go_num,by go_num,HSTEP.out,fun q hq=>by
         by_cases e:q = k
         ·rw [e];exact HYK.out
         ·exact HRL.out q (by omega),_,by rw [HWD.out,World.drewN_drewN]⟩
        case measure=>have:=HLT.out;simp [intOf];omega
      ·have hke:k = m1:=by omega
       subst hke;have haT2:a = m2+T:=by
        have:=HA.out;rw [List.drop_eq_nil_of_le (by rw [HM1.out];exact Nat.le_refl _)] at this;simpa using this
       have HRY:Hid (dD_ p s = true):=by
        show (List.range s.ready.length).all (cJ_ p s) = true;exact cP_ (fun i hi=>HRL.out i (by rw [HM1.out] at hi;exact hi))
       have HAT:=hidI haT2;clear hlt hk HA haT2;go_wp2_with fail
       go_loopw [8] (fun i wr=>∃ (j:Nat),j≤m3∧i = .int .i64 j∧(∀ q,q < j→cK_ s q = true)∧Below W2.heap.size W2 wr) (fun i _=>m3 - (intOf i).toNat)
       case atStart=>exact ⟨0,Nat.zero_le _,rfl,fun q hq=>absurd hq (Nat.not_lt_zero _),kd⟩
       case round=>
        clear x0 x1 x2 y0 y1 y2 y3 y4 y5 y6 y7;obtain ⟨j,hj,rfl,hrt,hB⟩:=hrel;have HRT:=hidI hrt;have hBs:=hB.size;clear hrt;obtain ⟨y0,y1,y2,y3,y4,y5,y6,y7⟩:=aa_ (BX.out wr hB).2;by_cases hjl:j < m3
        ·have HJL:=hidI hjl;have hkl:j < s.takers.length:=by rw [HM3.out];exact hjl
         obtain ⟨g,o,ha,hg,e1,e2⟩:=HS.out.q3.get hkl;subst ha;have HRK:Hid (cK_ s j = decide ((heldN s j:Int)≤s.takers[j].most)):=by
          show cK_ s j = _;unfold cK_;rw [List.getD_eq_getElem?_getD,List.getElem?_eq_getElem hkl];rfl
         obtain ⟨tm,htm⟩:∃ tm,tm = s.takers[j].most:=⟨_,rfl⟩
         rw [← htm] at e2 HRK;have j1:(0:Int)≤(j:Int):=by omega
         have j2:(j:Int) < m3:=by omega
         have HE2:=hidI e2;have SS:Hid (∀ W,Below W2.heap.size W2 W→W.cell? ⟨w.heap.size+1,0,none⟩ = some (.slice b1 k d1)∧W.cell? ⟨w.heap.size+1,1,none⟩ = some (.slice b2 m2 d2)∧W.cell? ⟨w.heap.size+1,2,none⟩ = some (.slice (some ⟨g,o,none⟩) m3 d3)∧W.cell? ⟨w.heap.size+1,3,none⟩ = some (.int .i64 s.nextSeq)∧W.cell? ⟨w.heap.size+1,4,none⟩ = some (.int .i64 s.nextTag)∧W.cell? ⟨w.heap.size+1,5,none⟩ = some (.int .i64 s.came)∧W.cell? ⟨w.heap.size+1,6,none⟩ = some (.int .i64 s.acked)∧W.cell? ⟨w.heap.size+1,7,none⟩ = some (.int .i64 s.dropped)∧W.cell? ⟨g,o+j * 2+1,none⟩ = some (.int .i64 tm)):=fun W hW=>by
          have x:=aa_ (BX.out W hW).2;exact ⟨x.1,x.2.1,x.2.2.1,x.2.2.2.1,x.2.2.2.2.1,x.2.2.2.2.2.1,x.2.2.2.2.2.2.1,x.2.2.2.2.2.2.2,(hW.cell (p:=⟨g,_,none⟩) hg).trans HE2.out⟩
         clear htm e1 e2;go_wp2_with fail
         refine wp_region_held_drew (S:=fun W=>W.cell? ⟨w.heap.size+1,0,none⟩ = some (.slice b1 k d1)∧W.cell? ⟨w.heap.size+1,1,none⟩ = some (.slice b2 m2 d2)∧W.cell? ⟨w.heap.size+1,2,none⟩ = some (.slice (some ⟨g,o,none⟩) m3 d3)∧W.cell? ⟨w.heap.size+1,3,none⟩ = some (.int .i64 s.nextSeq)∧W.cell? ⟨w.heap.size+1,4,none⟩ = some (.int .i64 s.nextTag)∧W.cell? ⟨w.heap.size+1,5,none⟩ = some (.int .i64 s.came)∧W.cell? ⟨w.heap.size+1,6,none⟩ = some (.int .i64 s.acked)∧W.cell? ⟨w.heap.size+1,7,none⟩ = some (.int .i64 s.dropped)∧W.cell? ⟨g,o+j * 2+1,none⟩ = some (.int .i64 tm)) (by kernel_rfl) (SS.out _ hB.drew) (fun hHeld=>?_);obtain ⟨v0,hv0⟩:∃ v0,v0 = wr.drew:=⟨_,rfl⟩
         have k0:Below W2.heap.size W2 v0:=by rw [hv0];exact hB.drew
         rw [← hv0] at hHeld ⊢;clear hv0 y0 y1 y2 y3 y4 y5 y6 y7;refine tk 0 ?_;refine tk 1 ?_;refine tk 3 ?_;refine tk 4 ?_;refine tk 5 ?_;refine tk 6 ?_;refine tk 7 ?_;refine tk 8 ?_;refine rdy 2 (fun K hK=>?_);go_simp;refine (eO_ s _ _ _ _ _ _ _ _ _ (j:Int) _ (HS.out.keep k0)).mono ?_;rintro e v1 ⟨rfl,r1⟩;have k1:=k0.trans (r1.mono k0.size);obtain ⟨hn,hhn⟩:∃ hn,hn = heldN s j:=⟨_,rfl⟩
         rw [← hhn] at HRK ⊢;refine hK.out _ _ (SS.out _ k1) (fun hH1=>?_);clear hK K hhn;try refine nrm ?_
         refine tk 9 ?_;refine wpAnyH_done (by kernel_rfl) ?_ _;by_cases hbad:tm < (hn:Int)
         ·have HD3:Hid (D = 3):=by
           show D = 3;rw [HS2.out,show dE_ s = false from c8_ (f:=cK_ s) (by rw [HM3.out];exact HJL.out) (by rw [HRK.out];exact decide_eq_false (by omega))];simp
          go_wp2_with fail
          go_ret
          exact ⟨by rw [HD3.out];rfl,hBw.trans (k1.mono s0)⟩
         ·have HYK:Hid (cK_ s j = true):=by show cK_ s j = true;rw [HRK.out];exact decide_eq_true (by omega)
          go_wp2_with fail
          go_roundw
          case rel=>exact ⟨j+1,HJL.out,by have:=HJL.out;go_num,fun q hq=>by
           by_cases e:q = j
           ·rw [e];exact HYK.out
           ·exact HRT.out q (by omega),k1⟩
          case measure=>have:=HJL.out;simp [intOf];omega
        ·have hje:j = m3:=by omega
         subst hje;have HRTY:Hid (dE_ s = true):=by
          show (List.range s.takers.length).all (cK_ s) = true;exact cP_ (fun i hi=>HRT.out i (by rw [HM3.out] at hi;exact hi))
         have HD4:Hid (D = if cj_ s = false then 10 else 0):=by show D = _;rw [HS2.out,HRY.out,HRTY.out];rfl
         have haE:=HAT.out;have hw1:IntKind.i64.wrap ((a:Int)+s.acked) = (a:Int)+s.acked:=by have:=HC.out;rw [IntKind.wrap_i64];omega
         have hw2:IntKind.i64.wrap ((a:Int)+s.acked+s.dropped) = (a:Int)+s.acked+s.dropped:=by have:=HC.out;rw [IntKind.wrap_i64];omega
         have HSM:Hid (cj_ s = (decide (s.came = (a:Int)+s.acked+s.dropped) && decide (s.came = s.nextSeq))):=by
          show cj_ s = _;unfold cj_;rw [HQ.out,show ((T+m2:Nat):Int) = (a:Int) by omega]
         clear hjl hj haE;by_cases hc1:s.came = (a:Int)+s.acked+s.dropped
         ·have hb1:(s.came != (a:Int)+s.acked+s.dropped) = false:=by simpa using hc1
          by_cases hc2:s.came = s.nextSeq
          ·have hb2:(s.came != s.nextSeq) = false:=by simpa using hc2
           have HDZ:Hid (D = 0):=by show D = 0;rw [HD4.out,HSM.out,decide_eq_true hc1,decide_eq_true hc2];rfl
           clear hc1 hc2;go_wp2_with fail
           go_ret
           exact ⟨by rw [HDZ.out];rfl,hBw.trans (hB.mono s0)⟩
          ·have hb2:(s.came != s.nextSeq) = true:=by simpa using hc2
           have HDZ:Hid (D = 10):=by show D = 10;rw [HD4.out,HSM.out,decide_eq_true hc1,decide_eq_false hc2];rfl
           clear hc1 hc2;go_wp2_with fail
           go_ret
           exact ⟨by rw [HDZ.out];rfl,hBw.trans (hB.mono s0)⟩
         ·have hb1:(s.came != (a:Int)+s.acked+s.dropped) = true:=by simpa using hc1
          have HDZ:Hid (D = 10):=by show D = 10;rw [HD4.out,HSM.out,decide_eq_false hc1];rfl
          clear hc1;go_wp2_with fail
          go_ret
          exact ⟨by rw [HDZ.out];rfl,hBw.trans (hB.mono s0)⟩
 ·have h0':(E != 0) = true:=bne_iff_ne.2 h0;have HD1:Hid (D = E):=by show D = E;rw [HD.out,j5_ (by rw [← HE.out];exact h0),← HE.out]
  clear h0;go_wp2_with fail
  go_ret
  exact ⟨by rw [HD1.out];rfl,hBw.trans (k3.mono s0)⟩
end Go.Proofs.YtlbnkpicnokgoaaGreat
