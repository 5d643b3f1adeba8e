import Derived.Test.YtlbnkpicnokgoaaGreatUdx
import Derived.Test.YtlbnkpicnokgoaaGreatUbx
import Derived.Deep.RegionWith
namespace Go.Proofs.YtlbnkpicnokgoaaGreat
open Go.RowKit Go.Maps
set_option linter.unusedVariables false
set_option maxRecDepth 100000
set_option maxHeartbeats 1000000
theorem e4_ {x:ae_} (h:am_ x = true):0≤x.seq∧x.seq < 1048576:=by
 unfold am_ bN_ at h;simp at h;omega
theorem dW_:∀ {xs:List ae_} {l:Int},aJ_ l xs = true→l < 1048576→(xs.length:Int)+l+1≤1048576∧∀ x ∈ xs,am_ x = true
 | [],l,_,hl=>⟨by simp;omega,by simp⟩
 | x :: r, l, h, hl => by
   unfold aJ_ at h;simp only [Bool.and_eq_true,decide_eq_true_eq] at h;have hq:=e4_ h.1.1;obtain ⟨i1,i2⟩:=dW_ h.2 hq.2;refine ⟨by simp;omega,fun y hy=>?_⟩;rcases List.mem_cons.1 hy with rfl | hy
   ·exact h.1.1
   ·exact i2 y hy
theorem fs_ {ts:List aj_} {nt:Int}:∀ {xs:List OutD} {l:Int},ao_ ts nt l xs = true→l < nt→(xs.length:Int)+l+1≤nt∧∀ x ∈ xs,am_ x.item = true
 | [],l,_,hl=>⟨by simp;omega,by simp⟩
 | x :: r, l, h, hl => by
   unfold ao_ cI_ at h;simp only [Bool.and_eq_true,decide_eq_true_eq] at h;obtain ⟨i1,i2⟩:=fs_ h.2 h.1.1.1.1.2;refine ⟨by simp;have:=h.1.1.1.1.1;omega,fun y hy=>?_⟩;rcases List.mem_cons.1 hy with rfl | hy
   ·exact h.1.2
   ·exact i2 y hy
theorem ho_:∀ {xss:List (List ae_)},(∀ l ∈ xss,at_ l = true)→(xss.flatMap (fun l=>l.map ae_.seq)).length≤xss.length * 1048576∧∀ z ∈ xss.flatMap (fun l=>l.map ae_.seq),0≤z∧z < 1048576
 | [],_=>by simp
 | l :: r, h => by
   obtain ⟨i1,i2⟩:=ho_ (xss:=r) (fun x hx=>h x (List.mem_cons_of_mem _ hx));obtain ⟨j1,j2⟩:=dW_ (l:=-1) (h l List.mem_cons_self) (by omega);rw [List.flatMap_cons];refine ⟨by rw [List.length_append,List.length_map,List.length_cons];omega,fun z hz=>?_⟩;rcases List.mem_append.1 hz with hz | hz
   ·obtain ⟨x,hx,rfl⟩:=List.mem_map.1 hz;exact e4_ (j2 x hx)
   ·exact i2 z hz
theorem g4_ {p:ad_} {s:ab_} (hr:bx_ p) (h1:aY_ p.queues.length s.ready = true) (h2:ao_ s.takers s.nextTag (-1) s.outs = true) (h3:bf_ s = true):(as_ s).length≤100000000∧(∀ z ∈ as_ s,0≤z∧z < 1048576)∧(s.outs.length:Int)≤1048576:=by
 unfold aY_ at h1;simp only [Bool.and_eq_true,decide_eq_true_eq,List.all_eq_true] at h1;obtain ⟨i1,i2⟩:=ho_ h1.2;unfold bf_ a2_ at h3;simp only [Bool.and_eq_true,decide_eq_true_eq] at h3;obtain ⟨j1,j2⟩:=fs_ h2 (by omega);have h4:=hr.few.2.1;refine ⟨?_,fun z hz=>?_,by omega⟩
 ·unfold as_;rw [List.length_append,List.length_map];rw [h1.1] at i1;omega
 ·unfold as_ at hz;rcases List.mem_append.1 hz with hz | hz
  ·exact i2 z hz
  ·obtain ⟨x,hx,rfl⟩:=List.mem_map.1 hz;exact e4_ (j2 x hx)
theorem j5_ {p:ad_} {s:ab_} (h:chkP p≠0):stE p s = chkP p:=if_pos h
theorem ke_ (p:ad_) (a1 a2 a3:Option Addr) (n1 c1 n2 c2 n3 c3:Nat) (s:ab_) (b1 b2 b3:Option Addr) (m1 d1 m2 d2 m3 d3:Nat) (B1 B2:Nat) (w:World) (hp:ap_ w a1 a2 a3 n1 n2 n3 p) (hs:an_ w b1 b2 b3 m1 m2 m3 s) (h1:w.heap[B1]? = some (.cells #[.slice a1 n1 c1,.slice a2 n2 c2,.slice a3 n3 c3] 26 (0,0))) (h2:w.heap[B2]? = some (.cells #[.slice b1 m1 d1,.slice b2 m2 d2,.slice b3 m3 d3,.int .i64 s.nextSeq,.int .i64 s.nextTag,.int .i64 s.came,.int .i64 s.acked,.int .i64 s.dropped] 31 (0,0))) :
 Calls Tryz.prog 46 #[.pointer (some ⟨B1,0,none⟩),.pointer (some ⟨B2,0,none⟩)] w fun e w'=>e = askE (stE p s)∧Below w.heap.size w w':=by
 obtain ⟨D,hD⟩:∃ D:Int,D = stE p s:=⟨_,rfl⟩
 rw [← hD];have HD:=hidI hD;have HP:=hidI hp;have HS:=hidI hs;have BX:Hid (∀ W,Below w.heap.size w W→W.heap[B1]? = some (.cells #[.slice a1 n1 c1,.slice a2 n2 c2,.slice a3 n3 c3] 26 (0,0))∧W.heap[B2]? = some (.cells #[.slice b1 m1 d1,.slice b2 m2 d2,.slice b3 m3 d3,.int .i64 s.nextSeq,.int .i64 s.nextTag,.int .i64 s.came,.int .i64 s.acked,.int .i64 s.dropped] 31 (0,0))):=fun W hW=>⟨pkp_ h1 hW,pkp_ h2 hW⟩
 have HM3:Hid (s.takers.length = m3):=hs.l3;have HN2:Hid (p.queues.length = n2):=hp.l2;have HM1:Hid (s.ready.length = m1):=hs.l1;clear hD hp hs h1 h2;obtain ⟨x0,x1,x2⟩:=ag_ (BX.out w (Below.refl _ _)).1;go_enter Tryz.func46,Tryz.ntmps46;go_wp2_with fail
 refine (bW_ p _ _ _ _ _ _ _ _ _ _ HP.out.l1 HP.out.l2 HP.out.l3 HP.out.sz HP.out.p1 HP.out.p2 HP.out.p3).mono ?_;rintro e w1 ⟨rfl,k1⟩;have s1:=k1.size;obtain ⟨d0,hd0⟩:∃ d0,d0 = chkP p:=⟨_,rfl⟩
 rw [← hd0];have HD0:=hidI hd0;have k1':=k1.alloc s1 (.cells #[.int .i64 d0] 33);have s1':=k1'.size;clear hd0 x0 x1 x2;by_cases hz0:d0 = 0
 ·subst hz0;have HR:Hid (bx_ p):=bc_ HD0.out.symm;go_wp2_with (go_at_call 47;refine (dY_ _ _ (aP_ _ _ _) (by simp)).mono ?_;rintro e w2 ⟨rfl,hB2⟩;have k2:=k1'.trans (hB2.mono s1');obtain ⟨y0,y1,y2,y3,y4,y5,y6,y7⟩:=aa_ (BX.out w2 k2).2)
  have s2:=k2.size;clear hB2;by_cases hm:4 < m3
  ·refine (ax_ 2 [decide ((4:Int) < (m3:Int))] _ _ (by simp) (bng_ w2 _ rfl) (by simp;omega)).mono ?_;rintro e w3 ⟨rfl,hw3⟩;refine ⟨rfl,?_,by rw [hw3];exact k2.alloc s2 _⟩;rw [HD.out];unfold stE;rw [if_neg (by rw [← HD0.out];simp),if_pos (by rw [HM3.out];exact hm)];rfl
  ·refine (aF_ 2 [decide ((4:Int) < (m3:Int))] _ _ (by simp) (bng_ w2 _ rfl) (by simp;omega)).mono ?_;rintro e w3 ⟨rfl,hw3⟩;have HST:Hid (stE p s = if bs_ p s = false then 1 else if (dD_ p s && dE_ s) = false then 3 else if cj_ s = false then 10 else 0):=by
    show stE p s = _;unfold stE;rw [if_neg (by rw [← HD0.out];simp),if_neg (by rw [HM3.out];exact hm)]
   have HFO:Hid (bs_ p s = (aY_ n2 s.ready && s.takers.all (aI_ n2) && ao_ s.takers s.nextTag (-1) s.outs && bf_ s && ci_ s)):=by show bs_ p s = _;unfold bs_;rw [HN2.out]
   have HF1:Hid (bs_ p s = false→askE D = .panicked [{ v:=.iface 33 (.int .i64 1),recovered:=false }]):=fun h=>by
    show askE D = _;rw [HD.out,HST.out,if_pos h];rfl
   have k3:Below w.heap.size w w3:=by rw [hw3];exact k2.alloc s2 _
   have s3:=k3.size;clear hw3 hm y0 y1 y2 y3 y4 y5 y6 y7;obtain ⟨x0,x1,x2⟩:=ag_ (BX.out w3 k3).1;obtain ⟨y0,y1,y2,y3,y4,y5,y6,y7⟩:=aa_ (BX.out w3 k3).2;go_wp2_with fail
   refine (hT_ p _ _ _ _ _ _ _ _ _ s _ _ _ _ _ _ _ _ _ _ (HP.out.keep k3) (HS.out.keep k3)).mono ?_;rintro e w4 ⟨he4,hB4⟩;have k4:=k3.trans (hB4.mono s3);have s4:=k4.size;clear hB4 x0 x1 x2 y0 y1 y2 y3 y4 y5 y6 y7;by_cases g1:aY_ n2 s.ready = true
   ·rw [if_pos g1,b8_] at he4;subst he4;unfold okE;have G1:=hidI g1;clear g1;obtain ⟨x0,x1,x2⟩:=ag_ (BX.out w4 k4).1;obtain ⟨y0,y1,y2,y3,y4,y5,y6,y7⟩:=aa_ (BX.out w4 k4).2;go_wp2_with fail
    refine (hf_ p _ _ _ _ _ _ _ _ _ s _ _ _ _ _ _ _ _ _ _ (HS.out.keep k4)).mono ?_;rintro e w5 ⟨he5,hB5⟩;have k5:=k4.trans (hB5.mono s4);have s5:=k5.size;clear hB5 x0 x1 x2 y0 y1 y2 y3 y4 y5 y6 y7;by_cases g2:s.takers.all (aI_ n2) = true
    ·rw [if_pos g2,b8_] at he5;subst he5;unfold okE;have G2:=hidI g2;clear g2;obtain ⟨y0,y1,y2,y3,y4,y5,y6,y7⟩:=aa_ (BX.out w5 k5).2;go_wp2_with fail
     refine (iL_ s _ _ _ _ _ _ _ _ _ _ (HS.out.keep k5)).mono ?_;rintro e w6 ⟨he6,hB6⟩;have k6:=k5.trans (hB6.mono s5);have s6:=k6.size;clear hB6 y0 y1 y2 y3 y4 y5 y6 y7;by_cases g3:ao_ s.takers s.nextTag (-1) s.outs = true
     ·rw [if_pos g3,b8_] at he6;subst he6;unfold okE;have G3:=hidI g3;clear g3;obtain ⟨y0,y1,y2,y3,y4,y5,y6,y7⟩:=aa_ (BX.out w6 k6).2;go_wp2_with fail
      refine (he_ s _ _ _ _ _ _ _ _ _ _).mono ?_;rintro e w7 ⟨he7,hB7⟩;have k7:=k6.trans (hB7.mono s6);have s7:=k7.size;clear hB7 y0 y1 y2 y3 y4 y5 y6 y7;by_cases g4:bf_ s = true
      ·rw [if_pos g4,b8_] at he7;subst he7;unfold okE;have G4:=hidI g4;have HBD:=hidI (g4_ HR.out (by rw [HN2.out];exact G1.out) G3.out g4);clear g4;obtain ⟨y0,y1,y2,y3,y4,y5,y6,y7⟩:=aa_ (BX.out w7 k7).2;go_wp2_with fail
       refine (iN_ s _ _ _ _ _ _ _ _ _ _ (HS.out.keep k7) HBD.out.1 HBD.out.2.1).mono ?_;rintro e w8 ⟨he8,hB8⟩;have k8:=k7.trans (hB8.mono s7);have s8:=k8.size;clear hB8 y0 y1 y2 y3 y4 y5 y6 y7;by_cases g5:ci_ s = true
       ·rw [if_pos g5,b8_] at he8;subst he8;unfold okE;have HF2:Hid (bs_ p s = true):=by show bs_ p s = true;rw [HFO.out,G1.out,G2.out,G3.out,G4.out,g5];rfl
        clear g5;obtain ⟨x0,x1,x2⟩:=ag_ (BX.out w8 k8).1;obtain ⟨y0,y1,y2,y3,y4,y5,y6,y7⟩:=aa_ (BX.out w8 k8).2;have HMN:Hid (m1 = n2):=by
         have:=G1.out;unfold aY_ at this;simp only [Bool.and_eq_true,decide_eq_true_eq] at this;exact HM1.out.symm.trans this.1
        go_wp2_with fail
        refine (iM_ p _ _ _ _ _ _ _ _ _ s _ _ _ _ _ _ _ _ _ _ (HP.out.keep k8) (HS.out.keep k8) HMN.out).mono ?_;rintro e w9 ⟨he9,hB9⟩;have k9:=k8.trans (hB9.mono s8);have s9:=k9.size;clear hB9 x0 x1 x2 y0 y1 y2 y3 y4 y5 y6 y7;by_cases g6:(dD_ p s && dE_ s) = true
        ·rw [if_pos g6,b8_] at he9;subst he9;unfold okE;have G6:=hidI g6;clear g6;obtain ⟨y0,y1,y2,y3,y4,y5,y6,y7⟩:=aa_ (BX.out w9 k9).2;go_wp2_with fail
         refine (iO_ s _ _ _ _ _ _ _ _ _ _ (HS.out.keep k9) HBD.out.1 G4.out).mono ?_;rintro e w10 ⟨he10,hB10⟩;have k10:=k9.trans (hB10.mono s9);clear hB10 y0 y1 y2 y3 y4 y5 y6 y7;by_cases g7:cj_ s = true
         ·rw [if_pos g7,b8_] at he10;subst he10;unfold okE;have HDZ:Hid (D = 0):=by show D = 0;rw [HD.out,HST.out,HF2.out,G6.out,g7];rfl
          clear g7;go_wp2_with fail
          go_end0
          exact ⟨by rw [HDZ.out];rfl,k10⟩
         ·rw [if_neg g7] at he10;subst he10;refine ⟨rfl,?_,k10⟩;rw [HD.out,HST.out,HF2.out,G6.out,if_neg (by decide),if_neg (by decide),if_pos (by simpa using g7)];rfl
        ·rw [if_neg g6] at he9;subst he9;refine ⟨rfl,?_,k9⟩;rw [HD.out,HST.out,HF2.out,if_neg (by decide),if_pos (by simpa using g6)];rfl
       ·rw [if_neg g5] at he8;subst he8;exact ⟨rfl,(HF1.out (by rw [HFO.out,show ci_ s = false by simpa using g5];simp)).symm,k8⟩
      ·rw [if_neg g4] at he7;subst he7;exact ⟨rfl,(HF1.out (by rw [HFO.out,show bf_ s = false by simpa using g4];simp)).symm,k7⟩
     ·rw [if_neg g3] at he6;subst he6;exact ⟨rfl,(HF1.out (by rw [HFO.out,show ao_ s.takers s.nextTag (-1) s.outs = false by simpa using g3];simp)).symm,k6⟩
    ·rw [if_neg g2] at he5;subst he5;exact ⟨rfl,(HF1.out (by rw [HFO.out,show s.takers.all (aI_ n2) = false by simpa using g2];simp)).symm,k5⟩
   ·rw [if_neg g1] at he4;subst he4;exact ⟨rfl,(HF1.out (by rw [HFO.out,show aY_ n2 s.ready = false by simpa using g1];simp)).symm,k4⟩
 ·have HZ0:=hidI hz0;go_wp2_with (go_at_call 47;refine (dw_ d0 _ _ (aP_ _ _ _) (by simp) HZ0.out).mono ?_;rintro e w2 ⟨rfl,hB2⟩)
  refine ⟨rfl,?_,k1'.trans (hB2.mono s1')⟩;rw [HD.out,j5_ (by rw [← HD0.out];exact HZ0.out),← HD0.out,cO_ HZ0.out];rfl
theorem fh_ (p:ad_) (a1 a2 a3:Option Addr) (n1 c1 n2 c2 n3 c3:Nat) (s:ab_) (b1 b2 b3:Option Addr) (m1 d1 m2 d2 m3 d3:Nat) (w:World) (hp:ap_ w a1 a2 a3 n1 n2 n3 p) (hs:an_ w b1 b2 b3 m1 m2 m3 s) :
 Calls Tryz.prog 18 #[.agg #[.slice a1 n1 c1,.slice a2 n2 c2,.slice a3 n3 c3],.agg #[.slice b1 m1 d1,.slice b2 m2 d2,.slice b3 m3 d3,.int .i64 s.nextSeq,.int .i64 s.nextTag,.int .i64 s.came,.int .i64 s.acked,.int .i64 s.dropped]] w fun e w'=>e = .returned (.int .i64 (stE p s))∧Below w.heap.size w w':=by
 obtain ⟨D,hD⟩:∃ D:Int,D = stE p s:=⟨_,rfl⟩
 rw [← hD];have HD:=hidI hD;obtain ⟨W2,hW2,hBw,hs2,hbx⟩:=bZ_ w #[.slice a1 n1 c1,.slice a2 n2 c2,.slice a3 n3 c3] #[.slice b1 m1 d1,.slice b2 m2 d2,.slice b3 m3 d3,.int .i64 s.nextSeq,.int .i64 s.nextTag,.int .i64 s.came,.int .i64 s.acked,.int .i64 s.dropped];have HW2:=hidI hW2;have s0:=hBw.size;have hmf:∀ (fn:Fn) (first cap:Array Value) (w:World),(Instr.makeFunc fn first cap).run Tryz.prog w = .ok (.func fn first cap) w:=fun _ _ _ _=>rfl
 have l3:Below W2.heap.size W2 (W2.alloc (.cells #[.int .i64 0] 33)):=(Below.refl _ _).alloc (Nat.le_refl _) _;have HDO:=hidI (ke_ p a1 a2 a3 n1 c1 n2 c2 n3 c3 s b1 b2 b3 m1 d1 m2 d2 m3 d3 w.heap.size (w.heap.size+1) (W2.alloc (.cells #[.int .i64 0] 33)) ((hp.keep hBw).keep l3) ((hs.keep hBw).keep l3) (hbx _ l3).1 (hbx _ l3).2);rw [← hD,World.size_alloc] at HDO;clear hW2 hbx hs2 hp hs hD;go_enter Tryz.func18,Tryz.ntmps18;go_wp2_with fail
 rw [← HW2.out];refine (ju_ w.heap.size (w.heap.size+1) D W2 HDO.out).mono ?_;rintro e w3 ⟨rfl,hB3⟩;go_wp2_with fail
 go_ret
 exact ⟨rfl,hBw.trans (hB3.mono s0)⟩
theorem fv_ {a b c d:Int} (h1:a = b) (h2:c = d):Ending.returned (.tuple #[.int .i64 a,.int .i64 c]) = .returned (.tuple #[.int .i64 b,.int .i64 d]):=by rw [h1,h2]
def hdE (p:ad_) (s:ab_) (t:Int):Int:=if stE p s = 0 then (if ar_ t s.takers.length = true then 0 else 5) else stE p s
def hdN (p:ad_) (s:ab_) (t:Int):Int:=if hdE p s t = 0 then (heldN s t:Int) else 0
theorem mC_ (p:ad_) (a1 a2 a3:Option Addr) (n1 c1 n2 c2 n3 c3:Nat) (s:ab_) (b1 b2 b3:Option Addr) (m1 d1 m2 d2 m3 d3:Nat) (t:Int) (w:World) (hp:ap_ w a1 a2 a3 n1 n2 n3 p) (hs:an_ w b1 b2 b3 m1 m2 m3 s) :
 Calls Tryz.prog 170 #[.agg #[.slice a1 n1 c1,.slice a2 n2 c2,.slice a3 n3 c3],.agg #[.slice b1 m1 d1,.slice b2 m2 d2,.slice b3 m3 d3,.int .i64 s.nextSeq,.int .i64 s.nextTag,.int .i64 s.came,.int .i64 s.acked,.int .i64 s.dropped],.int .i64 t] w fun e w'=>e = .returned (.tuple #[.int .i64 (hdN p s t),.int .i64 (hdE p s t)])∧Below w.heap.size w w':=by
 obtain ⟨D,hD⟩:∃ D:Int,D = hdE p s t:=⟨_,rfl⟩
 obtain ⟨N,hN⟩:∃ N:Int,N = hdN p s t:=⟨_,rfl⟩
 rw [← hD,← hN];have HD:=hidI hD;have HN:=hidI hN;have HM3:Hid (s.takers.length = m3):=hs.l3;obtain ⟨W2,hW2,hBw,hs2,hbx⟩:=bZ_ w #[.slice a1 n1 c1,.slice a2 n2 c2,.slice a3 n3 c3] #[.slice b1 m1 d1,.slice b2 m2 d2,.slice b3 m3 d3,.int .i64 s.nextSeq,.int .i64 s.nextTag,.int .i64 s.came,.int .i64 s.acked,.int .i64 s.dropped];have HW2:=hidI hW2;have BX:=hidI hbx;have HS:=hidI (hs.keep hBw);have HP:=hidI (hp.keep hBw);have s0:=hBw.size;obtain ⟨x0,x1,x2⟩:=ag_ (hbx W2 (Below.refl _ _)).1;obtain ⟨y0,y1,y2,y3,y4,y5,y6,y7⟩:=aa_ (hbx W2 (Below.refl _ _)).2;clear hW2 hbx hs2 hp hs hD hN;go_enter Tryz.func170,Tryz.ntmps170;go_wp2_with fail
 rw [← HW2.out];refine (fh_ p _ _ _ _ _ _ _ _ _ s _ _ _ _ _ _ _ _ _ _ HP.out HS.out).mono ?_;rintro e w3 ⟨rfl,hB3⟩;obtain ⟨E,hE⟩:∃ E:Int,E = stE p s:=⟨_,rfl⟩
 rw [← hE];have HE:=hidI hE;have s3:=hB3.size;clear hE x0 x1 x2 y0 y1 y2 y3 y4 y5 y6 y7;obtain ⟨y0,y1,y2,y3,y4,y5,y6,y7⟩:=aa_ (BX.out w3 hB3).2;by_cases h0:E = 0
 ·subst h0;have HDE:Hid (D = if ar_ t m3 = true then 0 else 5):=by show D = _;rw [HD.out];unfold hdE;rw [if_pos HE.out.symm,HM3.out]
  by_cases ht:0≤t∧t < m3
  ·have HD0:Hid (D = 0):=by show D = 0;rw [HDE.out,if_pos (aB_.2 ht)]
   have HN0:Hid (N = heldN s t):=by show N = _;rw [HN.out];unfold hdN;rw [if_pos (by rw [← HD.out];exact HD0.out)]
   have t1:¬ t < 0:=by omega
   have t2:¬ (m3:Int)≤t:=by omega
   clear ht;go_wp2_with fail
   refine (jQ_ s _ _ _ _ _ _ _ _ _ t _ (HS.out.keep hB3)).mono ?_;rintro e w4 ⟨rfl,hB4⟩;rw [← HN0.out];go_wp2_with fail
   go_ret2
   exact ⟨fv_ rfl HD0.out.symm,hBw.trans ((hB3.trans (hB4.mono s3)).mono s0)⟩
  ·have HD0:Hid (D = 5):=by show D = 5;rw [HDE.out,if_neg (fun h=>ht (aB_.1 h))]
   have HN0:Hid (N = 0):=by show N = _;rw [HN.out];unfold hdN;rw [if_neg (by rw [← HD.out,HD0.out];decide)]
   have hor:t < 0∨(¬ t < 0∧(m3:Int)≤t):=by omega
   clear ht;rcases hor with g1 | ⟨g1,g2⟩
   all_goals
    go_wp2_with fail
    go_ret2
    exact ⟨fv_ HN0.out.symm HD0.out.symm,hBw.trans (hB3.mono s0)⟩
 ·have h0':(E != 0) = true:=bne_iff_ne.2 h0;have HD0:Hid (D = E):=by show D = E;rw [HD.out];unfold hdE;rw [if_neg (by rw [← HE.out];exact h0),← HE.out]
  have HN0:Hid (N = 0):=by show N = _;rw [HN.out];unfold hdN;rw [if_neg (by rw [← HD.out,HD0.out];exact h0)]
  clear h0;go_wp2_with fail
  go_ret2
  exact ⟨fv_ HN0.out.symm HD0.out.symm,hBw.trans (hB3.mono s0)⟩
structure aZ_ (B:Nat) (W W':World):Prop where
 os:W'.os = W.os
 tape:W'.tape = W.tape
 output:W'.output = W.output
 size:W.heap.size≤W'.heap.size
 block:∀ k,k < W.heap.size→k≠B→W'.heap[k]? = W.heap[k]?
theorem aZ_.below {B n:Nat} {W W':World} (h:aZ_ B W W') (hn:n≤W.heap.size) (hB:n≤B):Below n W W':=⟨h.os,h.tape,h.output,h.size,fun k hk=>h.block k (by omega) (by omega)⟩
theorem sct_ (W:World) (B i:Nat) (v:Value):aZ_ B W (W.setCell ⟨B,i,none⟩ v):=by
 have h:Below 0 W (W.setCell ⟨B,i,none⟩ v):=(Below.refl 0 W).setCell (p:=⟨B,i,none⟩) (Nat.zero_le _) v;exact ⟨h.os,h.tape,h.output,h.size,fun k hk hne=>heap_setCell_other W ⟨B,i,none⟩ k v hne⟩
theorem aZ_.trans {B:Nat} {A C E:World} (h:aZ_ B A C) (k:aZ_ B C E):aZ_ B A E:=
 ⟨k.os.trans h.os,k.tape.trans h.tape,k.output.trans h.output,Nat.le_trans h.size k.size,fun i hi hne=>(k.block i (Nat.lt_of_lt_of_le hi h.size) hne).trans (h.block i hi hne)⟩
theorem store8 {W W':World} {B:Nat} {v0 v1 v2 v3 v4 v5 v6 v7 u0 u1 u2 u3 u4 u5 u6 u7:Value} {t:TypeId} (h:W.heap[B]? = some (.cells #[v0,v1,v2,v3,v4,v5,v6,v7] t (0,0)))
 (hW:((((((((W.setCell ⟨B,0,none⟩ u0).setCell ⟨B,1,none⟩ u1).setCell ⟨B,2,none⟩ u2).setCell ⟨B,3,none⟩ u3).setCell ⟨B,4,none⟩ u4).setCell ⟨B,5,none⟩ u5).setCell ⟨B,6,none⟩ u6).setCell ⟨B,7,none⟩ u7) = W') :
 W'.heap[B]? = some (.cells #[u0,u1,u2,u3,u4,u5,u6,u7] t (0,0))∧aZ_ B W W':=by
 subst hW;have h0:(W.setCell ⟨B,0,none⟩ u0).heap[B]? = some (.cells #[u0,v1,v2,v3,v4,v5,v6,v7] t (0,0)):=scb_ h u0;have h1:((W.setCell ⟨B,0,none⟩ u0).setCell ⟨B,1,none⟩ u1).heap[B]? = some (.cells #[u0,u1,v2,v3,v4,v5,v6,v7] t (0,0)):=scb_ h0 u1;have h2:(((W.setCell ⟨B,0,none⟩ u0).setCell ⟨B,1,none⟩ u1).setCell ⟨B,2,none⟩ u2).heap[B]? = some (.cells #[u0,u1,u2,v3,v4,v5,v6,v7] t (0,0)):=scb_ h1 u2;have h3:((((W.setCell ⟨B,0,none⟩ u0).setCell ⟨B,1,none⟩ u1).setCell ⟨B,2,none⟩ u2).setCell ⟨B,3,none⟩ u3).heap[B]? = some (.cells #[u0,u1,u2,u3,v4,v5,v6,v7] t (0,0)):=scb_ h2 u3;have h4:(((((W.setCell ⟨B,0,none⟩ u0).setCell ⟨B,1,none⟩ u1).setCell ⟨B,2,none⟩ u2).setCell ⟨B,3,none⟩ u3).setCell ⟨B,4,none⟩ u4).heap[B]? = some (.cells #[u0,u1,u2,u3,u4,v5,v6,v7] t (0,0)):=scb_ h3 u4;have h5:((((((W.setCell ⟨B,0,none⟩ u0).setCell ⟨B,1,none⟩ u1).setCell ⟨B,2,none⟩ u2).setCell ⟨B,3,none⟩ u3).setCell ⟨B,4,none⟩ u4).setCell ⟨B,5,none⟩ u5).heap[B]? = some (.cells #[u0,u1,u2,u3,u4,u5,v6,v7] t (0,0)):=scb_ h4 u5
 have h6:(((((((W.setCell ⟨B,0,none⟩ u0).setCell ⟨B,1,none⟩ u1).setCell ⟨B,2,none⟩ u2).setCell ⟨B,3,none⟩ u3).setCell ⟨B,4,none⟩ u4).setCell ⟨B,5,none⟩ u5).setCell ⟨B,6,none⟩ u6).heap[B]? = some (.cells #[u0,u1,u2,u3,u4,u5,u6,v7] t (0,0)):=scb_ h5 u6;have h7:((((((((W.setCell ⟨B,0,none⟩ u0).setCell ⟨B,1,none⟩ u1).setCell ⟨B,2,none⟩ u2).setCell ⟨B,3,none⟩ u3).setCell ⟨B,4,none⟩ u4).setCell ⟨B,5,none⟩ u5).setCell ⟨B,6,none⟩ u6).setCell ⟨B,7,none⟩ u7).heap[B]? = some (.cells #[u0,u1,u2,u3,u4,u5,u6,u7] t (0,0)):=scb_ h6 u7;refine ⟨h7,?_⟩;exact (((((((sct_ _ _ _ _).trans (sct_ _ _ _ _)).trans (sct_ _ _ _ _)).trans (sct_ _ _ _ _)).trans (sct_ _ _ _ _)).trans (sct_ _ _ _ _)).trans (sct_ _ _ _ _)).trans (sct_ _ _ _ _)
def fp_ (n:Nat):ab_:=⟨List.replicate n [],[],[],0,0,0,0,0⟩
theorem Tryz.infoLine:(Tryz.prog.info? 46).map (fun i=>(i.zero,i.size,i.bytes)) = some (some (.slice none 0 0),1,24):=by kernel_rfl
theorem fa_ (n:Nat):(madeCells (Value.slice none 0 0).cells (n * 1)).toList = List.replicate n (.slice none 0 0):=by
 apply List.ext_getElem
 ·simp [madeCells]
 ·intro i h1 h2;simp [madeCells,Value.cells,Nat.mod_one]
theorem iP_ {W:World} {base g n:Nat} (h:W.ownsRow base 46 1 (.slice (some ⟨g,0,none⟩) n n) n (List.replicate n (.slice none 0 0))) (hg:g < W.heap.size):b6_ W (some ⟨g,0,none⟩) (List.replicate n []):=by
 refine .inr ⟨g,0,rfl,hg,fun i hi=>⟨none,0,?_,?_,Nat.zero_le _,fun _=>rfl,.inl ?_⟩⟩
 ·have hi':i < n:=by simpa using hi
  rw [Nat.zero_add,h.cellAt i (by omega),List.getElem?_replicate,if_pos hi'];simp
 ·simp
 ·simp
end Go.Proofs.YtlbnkpicnokgoaaGreat
namespace Go.Proofs.YtlbnkpicnokgoaaGreat
open Go.RowKit
set_option linter.unusedVariables false
set_option maxRecDepth 100000
set_option maxHeartbeats 1000000
def Goes (f:FuncId):Prop:=∀ (args:Array Value) (w:World),Sem.run Tryz.prog (callFunc f args) w = .ok (.enter f args) w
theorem eV_ (f:FuncId) (hf:Goes f) (cap:Array Value) (R:Int→World→Prop) (w:World)
 (hdo:Calls Tryz.prog f cap (w.alloc (.cells #[.int .i64 0] 33)) fun e w'=>∃ D,e = askE D∧R D w'∧w'.heap[w.heap.size]? = some (.cells #[.int .i64 0] 33 (0,0))) :
 Calls Tryz.prog 45 #[.func (.func f) #[] cap] w fun e w'=>∃ D w1,e = .returned (.int .i64 D)∧R D w1∧w1.heap[w.heap.size]? = some (.cells #[.int .i64 0] 33 (0,0))∧w' = w1.setCell ⟨w.heap.size,0,none⟩ (.int .i64 D):=by
 have hmf:∀ (fn:Fn) (first cap:Array Value) (w:World),(Instr.makeFunc fn first cap).run Tryz.prog w = .ok (.func fn first cap) w:=fun _ _ _ _=>rfl
 have HDO:=hidI hdo;have hf':∀ (args:Array Value) (w:World),Sem.run Tryz.prog (callFunc f args) w = .ok (.enter f args) w:=hf
 clear hdo hf;go_enter_defers Tryz.func45,Tryz.ntmps45
 go_wp2_with fail
 refine HDO.out.mono ?_;rintro e w2 ⟨D,rfl,hR,hb⟩;have HR:=hidI hR;have HB:=hidI hb;have c0:=coc_ hb 0;have f0:=foc_ hb 0;simp at c0;clear hR hb;by_cases hD:D = 0
 ·subst hD;rw [b8_];unfold okE;go_wp2_with fail
  refine leaves_cons (f:=83) (args:=#[.pointer (some ⟨w.heap.size,0,none⟩)]) (by simp) (by simp [go_sem]) ?_;refine (go_ w.heap.size _).mono ?_;rintro e u' w'' ⟨rfl,rfl,rfl⟩;have c1:=coc_ (scb_ HB.out (j:=0) (.int .i64 0)) 0;simp at c1;simp [Leaves,settle,results,Tryz.results45,go_sem,c1];exact ⟨w2,HR.out,HB.out,rfl⟩
 ·rw [cO_ hD];unfold panE;go_wp2_with fail
  refine leaves_cons (f:=83) (args:=#[.pointer (some ⟨w.heap.size,0,none⟩)]) (by simp) (by simp [go_sem]) ?_;refine (g7_ w.heap.size D 0 [] _ c0 f0).mono ?_;rintro e u' w'' ⟨rfl,rfl,rfl⟩;have c1:=coc_ (scb_ HB.out (j:=0) (.int .i64 D)) 0;simp at c1;simp [Leaves,settle,results,Tryz.results45,go_sem,c1];exact ⟨w2,HR.out,HB.out,rfl⟩
end Go.Proofs.YtlbnkpicnokgoaaGreat
namespace Go.Proofs.YtlbnkpicnokgoaaGreat
open Go.RowKit Go.Maps
set_option linter.unusedVariables false
set_option maxRecDepth 100000
theorem nH_ {p:ad_} {s:ab_} (h:stE p s = 0):chkP p = 0∧s.takers.length≤4∧aY_ p.queues.length s.ready = true∧s.takers.all (aI_ p.queues.length) = true∧ao_ s.takers s.nextTag (-1) s.outs = true∧bf_ s = true∧ci_ s = true∧dD_ p s = true∧dE_ s = true∧cj_ s = true:=by
 unfold stE at h;by_cases h1:chkP p = 0
 ·rw [if_neg (by simp [h1])] at h;by_cases h2:4 < s.takers.length
  ·rw [if_pos h2] at h;cases h
  ·rw [if_neg h2] at h;by_cases h3:bs_ p s = false
   ·rw [if_pos h3] at h;cases h
   ·rw [if_neg h3] at h;by_cases h4:(dD_ p s && dE_ s) = false
    ·rw [if_pos h4] at h;cases h
    ·rw [if_neg h4] at h;by_cases h5:cj_ s = false
     ·rw [if_pos h5] at h;cases h
     ·simp only [Bool.not_eq_false,Bool.and_eq_true] at h3 h4 h5;unfold bs_ at h3;simp only [Bool.and_eq_true] at h3;exact ⟨h1,by omega,h3.1.1.1.1,h3.1.1.1.2,h3.1.1.2,h3.1.2,h3.2,h4.1,h4.2,h5⟩
 ·rw [if_pos h1] at h;exact absurd h h1
theorem jX_ {ts:List aj_} {nt:Int}:∀ {xs:List OutD} {l:Int},ao_ ts nt l xs = true→∀ o ∈ xs,(0≤o.taker∧o.taker < ts.length)∧∃ t,ts[o.taker.toNat]? = some t∧t.queue≠-1
 | [],_,_,o,ho=>by simp at ho
 | x :: r, l, h, o, ho => by
   unfold ao_ at h;rw [Bool.and_eq_true] at h;rcases List.mem_cons.1 ho with rfl | ho
   ·have h1:=h.1;unfold cI_ ar_ at h1;simp only [Bool.and_eq_true,decide_eq_true_eq] at h1;refine ⟨h1.1.1.2,?_⟩;have h2:=h1.1.2;cases ht:ts[o.taker.toNat]? with
    | none=>rw [ht] at h2;cases h2
    | some t=>rw [ht] at h2;simp at h2;exact ⟨t,rfl,h2.1⟩
   ·exact jX_ h.2 o ho
def sumH (s:ab_):Nat→Nat
 | 0=>0
 | k+1=>sumH s k+heldN s (k:Int)
theorem h8_ (k:Nat):∀ xs:List OutD,(xs.filter (fun o=>decide (0≤o.taker∧o.taker < ((k+1:Nat):Int)))).length = (xs.filter (fun o=>decide (0≤o.taker∧o.taker < (k:Int)))).length+(xs.filter (fun o=>decide (o.taker = (k:Int)))).length
 | []=>rfl
 | x :: r => by
   have ih:=h8_ k r;simp only [List.filter_cons];by_cases h1:0≤x.taker∧x.taker < (k:Int)
   ·have h2:0≤x.taker∧x.taker < ((k+1:Nat):Int):=by omega
    have h3:¬ x.taker = (k:Int):=by omega
    simp only [h1,h2,h3,decide_true,decide_false,if_true,Bool.false_eq_true,if_false,List.length_cons,and_self];omega
   ·by_cases h3:x.taker = (k:Int)
    ·have h2:0≤x.taker∧x.taker < ((k+1:Nat):Int):=by omega
     rw [if_pos (decide_eq_true h2),if_neg (by simpa using h1),if_pos (decide_eq_true h3)];simp only [List.length_cons];omega
    ·have h2:¬ (0≤x.taker∧x.taker < ((k+1:Nat):Int)):=by omega
     rw [if_neg (by simpa using h2),if_neg (by simpa using h1),if_neg (by simpa using h3)];exact ih
theorem mH_ (s:ab_):∀ k,sumH s k = (s.outs.filter (fun o=>decide (0≤o.taker∧o.taker < (k:Int)))).length
 | 0 => by
   have:s.outs.filter (fun o=>decide (0≤o.taker∧o.taker < ((0:Nat):Int))) = []:=by
    rw [List.filter_eq_nil_iff];intro o _;simp
   rw [this];rfl
 | k + 1 => by
   rw [h8_];show sumH s k+heldN s k = _;rw [mH_ s k];rfl
theorem nI_ {s:ab_} (h:ao_ s.takers s.nextTag (-1) s.outs = true):sumH s s.takers.length = s.outs.length:=by
 rw [mH_,List.filter_eq_self.2];intro o ho;exact decide_eq_true (jX_ h o ho).1
theorem n6_ (s:ab_) (t:Int):heldN s t≤s.outs.length:=List.length_filter_le _ _
end Go.Proofs.YtlbnkpicnokgoaaGreat
namespace Go.Proofs.YtlbnkpicnokgoaaGreat
set_option linter.unusedVariables false
set_option maxRecDepth 100000
theorem f3_:∀ {xs:List ae_} {last:Int},(∀ x ∈ xs,am_ x = true∧last < x.seq)→xs.Pairwise (fun x y=>x.seq < y.seq)→aJ_ last xs = true
 | [],last,_,_=>rfl
 | x :: r, last, h, hp => by
   obtain ⟨h1,h2⟩:=h x (by simp);obtain ⟨h3,h4⟩:=List.pairwise_cons.1 hp;rw [c4_ h1 (by omega)];exact f3_ (fun y hy=>⟨(h y (by simp [hy])).1,h3 y hy⟩) h4
theorem ej_:∀ {xs:List ae_} {last:Int},aJ_ last xs = true→∀ x ∈ xs,am_ x = true
 | [],last,_,x,hx=>by simp at hx
 | y :: r, last, h, x, hx => by
   unfold aJ_ at h;simp only [Bool.and_eq_true,decide_eq_true_eq] at h;rcases List.mem_cons.1 hx with rfl | hx
   ·exact h.1.1
   ·exact ej_ h.2 x hx
theorem bv_ {xs:List ae_}:at_ xs = true↔(∀ x ∈ xs,am_ x = true)∧xs.Pairwise (fun x y=>x.seq < y.seq):=
 ⟨fun h=>⟨ej_ h,(dq_ h).1⟩,fun h=>f3_ (fun x hx=>⟨h.1 x hx,by have:=gQ_ (h.1 x hx);omega⟩) h.2⟩
theorem me_ {xs:List ae_} {x z:ae_}:z ∈ ay_ xs x↔z = x∨z ∈ xs:=by
 unfold ay_;simp only [List.mem_append,List.mem_singleton];have:z ∈ xs↔z ∈ xs.take (idxSeq x.seq xs)∨z ∈ xs.drop (idxSeq x.seq xs):=by
  conv=>lhs;rw [← List.take_append_drop (idxSeq x.seq xs) xs]
  exact List.mem_append
 rw [this];constructor
 ·rintro ((h | h) | h)
  ·exact .inr (.inl h)
  ·exact .inl h
  ·exact .inr (.inr h)
 ·rintro (h | h | h)
  ·exact .inl (.inr h)
  ·exact .inl (.inl h)
  ·exact .inr h
theorem k6_ {xs:List ae_} {s:Int}:∀ z ∈ xs.take (idxSeq s xs),z.seq < s:=by
 intro z hz;obtain ⟨j,hj,rfl⟩:=List.mem_iff_getElem.1 hz;have hj':j < idxSeq s xs:=by rw [List.length_take] at hj;omega
 obtain ⟨h1,h2⟩:=eE_ hj';rw [List.getElem_take];exact h2
theorem gH_ {xs:List ae_} {s:Int} (hl:at_ xs = true) (hh:bL_ s xs = false):∀ z ∈ xs.drop (idxSeq s xs),s < z.seq:=by
 intro z hz;obtain ⟨j,hj,rfl⟩:=List.mem_iff_getElem.1 hz;rw [List.length_drop] at hj;rw [List.getElem_drop];have h1:idxSeq s xs < xs.length:=by omega
 have h2:=jR_ (s:=s) h1;have h3:xs[idxSeq s xs].seq≠s:=by
  intro e;have:=lu_ hl h1 e;rw [hh] at this;cases this
 rcases Nat.eq_zero_or_pos j with rfl | hj0
 ·simp only [Nat.add_zero];omega
 ·have:=f4_ hl (i:=idxSeq s xs) (j:=idxSeq s xs+j) (by omega) (by omega);omega
theorem ds_ {xs:List ae_} {x:ae_} (hl:at_ xs = true) (hx:am_ x = true) (hh:bL_ x.seq xs = false):at_ (ay_ xs x) = true:=by
 obtain ⟨h1,h2⟩:=bv_.1 hl;refine bv_.2 ⟨fun z hz=>?_,?_⟩
 ·rcases me_.1 hz with rfl | hz
  ·exact hx
  ·exact h1 z hz
 ·unfold ay_;rw [List.append_assoc,List.pairwise_append];refine ⟨h2.sublist (List.take_sublist _ _),?_,?_⟩
  ·rw [List.singleton_append,List.pairwise_cons];exact ⟨gH_ hl hh,h2.sublist (List.drop_sublist _ _)⟩
  ·intro a ha b hb;have h3:=k6_ a ha;rcases List.mem_append.1 hb with hb | hb
   ·simp at hb;subst hb;exact h3
   ·have:=gH_ hl hh b hb;omega
theorem n5_ {xs:List ae_} {s:Int} (hl:at_ xs = true):bL_ s xs = true↔∃ z ∈ xs,z.seq = s:=by
 constructor
 ·intro h;unfold bL_ at h;cases he:xs[idxSeq s xs]? with
  | none=>rw [he] at h;simp at h
  | some z=>rw [he] at h;exact ⟨z,List.mem_of_getElem? he,by simpa using h⟩
 ·rintro ⟨z,hz,hs⟩;obtain ⟨j,hj,rfl⟩:=List.mem_iff_getElem.1 hz;exact lu_ hl hj hs
end Go.Proofs.YtlbnkpicnokgoaaGreat
namespace Go.Proofs.YtlbnkpicnokgoaaGreat
open Go.RowKit Go.Maps
set_option linter.unusedVariables false
set_option maxRecDepth 100000
def af_ (s:ab_) (q:Nat):List ae_:=s.ready.getD q []
def qAt (p:ad_) (q:Nat):ba_:=p.queues.getD q ⟨⟨#[]⟩,0,0⟩
structure ak_ (p:ad_) (s:ab_) (n:Int):Prop where
 pl:chkP p = 0
 tk:s.takers.length≤4
 len:s.ready.length = p.queues.length
 line:∀ l ∈ s.ready,at_ l = true
 tok:∀ t ∈ s.takers,aI_ p.queues.length t = true
 outs:ao_ s.takers s.nextTag (-1) s.outs = true
 ns:0≤s.nextSeq∧s.nextSeq≤1048576
 nt:0≤s.nextTag∧s.nextTag≤1048576
 ak:0≤s.acked
 dr:0≤s.dropped
 nodup:(as_ s).Nodup
 lt:∀ z ∈ as_ s,z < s.nextSeq
 room:∀ q,q < s.ready.length→((af_ s q).length:Int)≤(qAt p q).limit
 hold:∀ k,k < s.takers.length→(heldN s k:Int)≤(s.takers.getD k ⟨0,0⟩).most
 sum:s.came = (as_ s).length+n+s.acked+s.dropped
 cs:s.came = s.nextSeq
theorem aK_ {p:ad_} {s:ab_} (h:stE p s = 0):ak_ p s 0:=by
 obtain ⟨g1,g2,g3,g4,g5,g6,g7,g8,g9,g10⟩:=nH_ h;unfold aY_ at g3;simp only [Bool.and_eq_true,decide_eq_true_eq,List.all_eq_true] at g3;unfold bf_ a2_ at g6;simp only [Bool.and_eq_true,decide_eq_true_eq] at g6;unfold ci_ at g7;simp only [Bool.and_eq_true,decide_eq_true_eq,List.all_eq_true] at g7;unfold cj_ at g10;simp only [Bool.and_eq_true,decide_eq_true_eq] at g10;refine ⟨g1,g2,g3.1,g3.2,List.all_eq_true.1 g4,g5,g6.1.1.1.1,g6.1.1.1.2,g6.1.2.1,g6.2.1,g7.1,g7.2,fun q hq=>?_,fun k hk=>?_,by omega,g10.2⟩
 ·have:=List.all_eq_true.1 g8 q (List.mem_range.2 hq);rw [decide_eq_true_eq] at this;exact this
 ·have:=List.all_eq_true.1 g9 k (List.mem_range.2 hk);rw [decide_eq_true_eq] at this;exact this
theorem ak_.ok {p:ad_} {s:ab_} (h:ak_ p s 0):stE p s = 0:=by
 have hcnt:bf_ s = true:=by
  unfold bf_ a2_;simp only [Bool.and_eq_true,decide_eq_true_eq];have h1:=h.ns;have h2:=h.nt;have h3:=h.ak;have h4:=h.dr;have h5:=h.sum;have h6:=h.cs;refine ⟨⟨⟨⟨h1,h2⟩,?_⟩,?_⟩,?_⟩ <;> omega
 have hf:bs_ p s = true:=by
  unfold bs_;simp only [Bool.and_eq_true];refine ⟨⟨⟨⟨?_,?_⟩,h.outs⟩,hcnt⟩,?_⟩
  ·unfold aY_;simp only [Bool.and_eq_true,decide_eq_true_eq,List.all_eq_true];exact ⟨h.len,h.line⟩
  ·exact List.all_eq_true.2 h.tok
  ·unfold ci_;simp only [Bool.and_eq_true,decide_eq_true_eq,List.all_eq_true];exact ⟨h.nodup,h.lt⟩
 have h1:dD_ p s = true:=List.all_eq_true.2 (fun q hq=>decide_eq_true (h.room q (List.mem_range.1 hq)));have h2:dE_ s = true:=List.all_eq_true.2 (fun k hk=>decide_eq_true (h.hold k (List.mem_range.1 hk)));have h3:cj_ s = true:=by
  unfold cj_;simp only [Bool.and_eq_true,decide_eq_true_eq];exact ⟨by have:=h.sum;omega,h.cs⟩
 unfold stE;rw [if_neg (by simp [h.pl]),if_neg (by have:=h.tk;omega),hf,h1,h2,h3];rfl
theorem ak_.rp {p:ad_} {s:ab_} {n:Int} (h:ak_ p s n):bx_ p:=bc_ h.pl
theorem iE_ {α:Type} {xs:List α} {q:Nat} (h:q < xs.length) (y:α):xs = xs.take q ++ xs[q] :: xs.drop (q+1)∧xs.set q y = xs.take q ++ y :: xs.drop (q+1):=by
 refine ⟨?_,List.set_eq_take_append_cons_drop.trans (if_pos h)⟩;conv=>lhs;rw [← List.take_append_drop q xs]
 rw [List.drop_eq_getElem_cons h]
theorem hp_ {β:Type} (f:List ae_→List β) {xs:List (List ae_)} {q:Nat} (h:q < xs.length) (y:List ae_):∃ A B,xs.flatMap f = A ++ f xs[q] ++ B∧(xs.set q y).flatMap f = A ++ f y ++ B:=by
 obtain ⟨h1,h2⟩:=iE_ h y;refine ⟨(xs.take q).flatMap f,(xs.drop (q+1)).flatMap f,?_,?_⟩
 ·have e:=congrArg (List.flatMap f) h1;rw [List.flatMap_append,List.flatMap_cons,← List.append_assoc] at e;exact e
 ·rw [h2,List.flatMap_append,List.flatMap_cons,← List.append_assoc]
theorem a3_ {s:ab_} {q:Nat} (h:q < s.ready.length):af_ s q = s.ready[q]:=by unfold af_;rw [List.getD_eq_getElem?_getD,List.getElem?_eq_getElem h];rfl
theorem a7_ {s:ab_} {q:Nat} (h:q < s.ready.length):af_ s q ∈ s.ready:=by rw [a3_ h];exact List.getElem_mem h
theorem kZ_ (s:ab_) {q:Nat} (h:q < s.ready.length) (y:List ae_):∃ A B,as_ s = A ++ (af_ s q).map ae_.seq ++ B∧as_ { s with ready:=s.ready.set q y } = A ++ y.map ae_.seq ++ B:=by
 obtain ⟨A,B,h1,h2⟩:=hp_ (fun l=>l.map ae_.seq) h y;refine ⟨A,B ++ s.outs.map (fun o=>o.item.seq),?_,?_⟩
 ·unfold as_;rw [h1,a3_ h];simp
 ·unfold as_;simp only;rw [h2];simp
theorem gT_ {s:ab_} {q r:Nat} (h:q < s.ready.length) (y:List ae_) (d:Int):af_ { s with ready:=s.ready.set q y,dropped:=d } r = if r = q then y else af_ s r:=by
 unfold af_;simp only;rw [List.getD_eq_getElem?_getD,List.getElem?_set,List.getD_eq_getElem?_getD];by_cases e:q = r
 ·subst e;rw [if_pos rfl,if_pos h,if_pos rfl];rfl
 ·rw [if_neg e,if_neg (fun h=>e h.symm)]
theorem by_ {x:ae_} (h:am_ x = true):0≤x.seq∧x.seq < 1048576∧kerr x.key.data.toList = 0∧x.body.size≤12∧0≤x.deaths∧x.deaths≤2:=by
 unfold am_ bN_ at h;simp at h;omega
theorem f1_ {x:ae_} (h1:0≤x.seq) (h2:x.seq < 1048576) (h3:kerr x.key.data.toList = 0) (h4:x.body.size≤12) (h5:0≤x.deaths) (h6:x.deaths≤2):am_ x = true:=by
 unfold am_ bN_;simp;omega
theorem eu_ {p:ad_} {q:Nat} (h:q < p.queues.length):qAt p q = p.queues[q]:=by unfold qAt;rw [List.getD_eq_getElem?_getD,List.getElem?_eq_getElem h];rfl
theorem ak_.line6 {p:ad_} {s:ab_} {n:Int} (h:ak_ p s n) {l:List ae_} (hl:l ∈ s.ready):l.length≤6:=by
 obtain ⟨q,hq,rfl⟩:=List.mem_iff_getElem.1 hl;have h1:=h.room q hq;rw [a3_ hq] at h1;have hq':q < p.queues.length:=by rw [← h.len];exact hq
 have h2:=h.rp.queues _ (List.getElem_mem hq');rw [eu_ hq'] at h1;omega
end Go.Proofs.YtlbnkpicnokgoaaGreat
namespace Go.Proofs.YtlbnkpicnokgoaaGreat
open Go.RowKit
set_option linter.unusedVariables false
set_option maxRecDepth 100000
def em_ (W:World) (n:Nat) (b:Option Addr):Prop:=b = none∨∃ g o cur,b = some ⟨g,o,none⟩∧n≤g∧W.heap[g]? = some (.cells cur 48 (0,0))
structure cG_ (W:World) (n:Nat) (xs:List ae_) (v:Value) (b:Option Addr) (c:Nat):Prop where
 v:v = .slice b xs.length c
 le:xs.length≤c
 cm:c≤maxLen
 nil:b = none→c = 0
 it:ai_ W b xs
 own:em_ W n b
structure cA_ (W:World) (n:Nat) (xss:List (List ae_)) (vs:List Value):Prop where
 len:vs.length = xss.length
 get:∀ i (h:i < xss.length),∃ v b c,vs[i]? = some v∧cG_ W n xss[i] v b c
structure aM_ (W:World) (n:Nat) (b1 b2 b3:Option Addr) (m1 d1 m2 d2 m3 d3:Nat) (s:ab_):Prop where
 l1:s.ready.length = m1
 l2:s.outs.length = m2
 l3:s.takers.length = m3
 x2:m2≤100000000
 r1:∃ vs,W.ownsRow n 46 1 (.slice b1 m1 d1) m1 vs∧cA_ W n s.ready vs
 r2:W.ownsRow n 67 8 (.slice b2 m2 d2) m2 (ah_ s.outs)
 r3:W.ownsRow n 69 2 (.slice b3 m3 d3) m3 (tkC_ s.takers)
structure ac_ (n t:Nat) (W W':World):Prop where
 os:W'.os = W.os
 tape:W'.tape = W.tape
 output:W'.output = W.output
 size:W.heap.size≤W'.heap.size
 block:∀ k,k < n→k≠t→W'.heap[k]? = W.heap[k]?
theorem ac_.refl (n t:Nat) (W:World):ac_ n t W W:=⟨rfl,rfl,rfl,Nat.le_refl _,fun _ _ _=>rfl⟩
theorem ac_.trans {n t:Nat} {A B C:World} (h:ac_ n t A B) (k:ac_ n t B C):ac_ n t A C:=
 ⟨k.os.trans h.os,k.tape.trans h.tape,k.output.trans h.output,Nat.le_trans h.size k.size,fun i h1 h2=>(k.block i h1 h2).trans (h.block i h1 h2)⟩
theorem ac_.of_below {n m t:Nat} {A B:World} (h:Below m A B) (hn:n≤m):ac_ n t A B:=⟨h.os,h.tape,h.output,h.size,fun k h1 _=>h.block k (by omega)⟩
theorem ac_.below {n m t:Nat} {A B:World} (h:ac_ n t A B) (hn:m≤n) (ht:m≤t):Below m A B:=⟨h.os,h.tape,h.output,h.size,fun k h1=>h.block k (by omega) (by omega)⟩
theorem ac_.setCell {n t:Nat} {A B:World} (h:ac_ n t A B) {p:Addr} (hp:n≤p.block∨p.block = t) (u:Value):ac_ n t A (B.setCell p u):=
 h.trans ⟨rfl,rfl,rfl,by simp [World.setCell],fun k h1 h2=>Below.heap_setCell _ _ _ _ (by omega)⟩
theorem ac_.grown {n t:Nat} {A B C:World} {row:Option Nat} (h:ac_ n t A B) (hg:B.grownBy C row) (hn:n≤B.heap.size) (hr:∀ k,row = some k→n≤k):ac_ n t A C:=
 h.trans ⟨hg.os,hg.tape,hg.output,hg.size,fun k h1 h2=>hg.block k (by omega) (fun e=>by have:=hr k e.symm;omega)⟩
theorem em_.keep {W W':World} {n:Nat} {b:Option Addr} (h:em_ W n b) (hB:Below W.heap.size W W'):em_ W' n b:=by
 rcases h with h | ⟨g,o,cur,h1,h2,h3⟩
 ·exact .inl h
 ·exact .inr ⟨g,o,cur,h1,h2,pkp_ h3 hB⟩
theorem cG_.keep {W W':World} {n:Nat} {xs:List ae_} {v:Value} {b:Option Addr} {c:Nat} (h:cG_ W n xs v b c) (hB:Below W.heap.size W W'):cG_ W' n xs v b c:=⟨h.v,h.le,h.cm,h.nil,h.it.keep hB,h.own.keep hB⟩
theorem cA_.keep {W W':World} {n:Nat} {xss:List (List ae_)} {vs:List Value} (h:cA_ W n xss vs) (hB:Below W.heap.size W W'):cA_ W' n xss vs:=
 ⟨h.len,fun i hi=>by obtain ⟨v,b,c,h1,h2⟩:=h.get i hi;exact ⟨v,b,c,h1,h2.keep hB⟩⟩
theorem aM_.keep {W W':World} {n:Nat} {b1 b2 b3:Option Addr} {m1 d1 m2 d2 m3 d3:Nat} {s:ab_} (h:aM_ W n b1 b2 b3 m1 d1 m2 d2 m3 d3 s) (hB:Below W.heap.size W W'):aM_ W' n b1 b2 b3 m1 d1 m2 d2 m3 d3 s:=by
 obtain ⟨vs,h1,h2⟩:=h.r1;exact ⟨h.l1,h.l2,h.l3,h.x2,⟨vs,cp2_ h1 hB,h2.keep hB⟩,cp2_ h.r2 hB,cp2_ h.r3 hB⟩
theorem em_.lower {W:World} {n n':Nat} {b:Option Addr} (h:em_ W n b) (hn:n'≤n):em_ W n' b:=by
 rcases h with h | ⟨g,o,cur,h1,h2,h3⟩
 ·exact .inl h
 ·exact .inr ⟨g,o,cur,h1,by omega,h3⟩
theorem cA_.lower {W:World} {n n':Nat} {xss:List (List ae_)} {vs:List Value} (h:cA_ W n xss vs) (hn:n'≤n):cA_ W n' xss vs:=
 ⟨h.len,fun i hi=>by obtain ⟨v,b,c,h1,h2⟩:=h.get i hi;exact ⟨v,b,c,h1,h2.v,h2.le,h2.cm,h2.nil,h2.it,h2.own.lower hn⟩⟩
theorem aM_.lower {W:World} {n n':Nat} {b1 b2 b3:Option Addr} {m1 d1 m2 d2 m3 d3:Nat} {s:ab_} (h:aM_ W n b1 b2 b3 m1 d1 m2 d2 m3 d3 s) (hn:n'≤n):aM_ W n' b1 b2 b3 m1 d1 m2 d2 m3 d3 s:=by
 obtain ⟨vs,h1,h2⟩:=h.r1;exact ⟨h.l1,h.l2,h.l3,h.x2,⟨vs,bm_ h1 hn,h2.lower hn⟩,bm_ h.r2 hn,bm_ h.r3 hn⟩
theorem dx_ {W:World} {base:Nat} {T:TypeId} {size:Nat} {a:Option Addr} {n c:Nat} {cs:List Value} (h:W.ownsRow base T size (.slice a n c) n cs):aO_ W a cs:=by
 obtain ⟨a',c',e,_,_,_,hr⟩:=aH_ h;cases e;exact hr
theorem eL_ {W:World} {base:Nat} {T:TypeId} {size:Nat} {a:Option Addr} {n c:Nat} {cs:List Value} (h:W.ownsRow base T size (.slice a n c) n cs):n≤c∧c≤maxLen∧(a = none→c = 0∧n = 0):=by
 obtain ⟨a',c',e,h1,h2,h3,hr⟩:=aH_ h;cases e;exact ⟨h1,h2,h3⟩
theorem cA_.at {W:World} {n:Nat} {xss:List (List ae_)} {vs:List Value} (h:cA_ W n xss vs) {a:Option Addr} (hr:aO_ W a vs):b6_ W a xss:=by
 rcases hr with hr | ⟨g,o,ha,hg,hr⟩
 ·refine .inl (List.length_eq_zero_iff.1 ?_);have:=h.len;rw [hr] at this;simpa using this.symm
 ·refine .inr ⟨g,o,ha,hg,fun i hi=>?_⟩;obtain ⟨v,b,c,h1,h2⟩:=h.get i hi;exact ⟨b,c,by rw [hr _ _ h1,h2.v],h2.le,h2.cm,h2.nil,h2.it⟩
theorem aM_.state {W:World} {n:Nat} {b1 b2 b3:Option Addr} {m1 d1 m2 d2 m3 d3:Nat} {s:ab_} (h:aM_ W n b1 b2 b3 m1 d1 m2 d2 m3 d3 s):an_ W b1 b2 b3 m1 m2 m3 s:=by
 obtain ⟨vs,h1,h2⟩:=h.r1;have g1:=eL_ h1;have g3:=eL_ h.r3;have:=h.x2;exact ⟨h.l1,h.l2,h.l3,by omega,by omega,by omega,h2.at (dx_ h1),c5_.2 (dx_ h.r2),b5_.2 (dx_ h.r3)⟩
theorem eP_ {W:World} {base:Nat} {T T':TypeId} {size:Nat} {v:Value} {n:Nat} {cs:List Value} (h:W.ownsRow base T size v n cs) {B:Nat} {cur:Array Value} (hB:W.heap[B]? = some (.cells cur T' (0,0))) (hT:T≠T'):v.ownBlock≠some B:=by
 intro e;rcases h.2 with ⟨rfl,_⟩ | ⟨g,cap,cur',rfl,_,hg,_⟩
 ·cases e
 ·have:g = B:=by simpa [Value.ownBlock] using e
  subst this;rw [hg] at hB;cases hB;exact hT rfl
theorem ch_ {W W':World} {base:Nat} {T:TypeId} {size:Nat} {v:Value} {n:Nat} {cs:List Value} (h:W.ownsRow base T size v n cs) (hk:∀ k,v.ownBlock = some k→W'.heap[k]? = W.heap[k]?):W'.ownsRow base T size v n cs:=by
 refine ⟨h.1,?_⟩;rcases h.2 with h | ⟨g,cap,cur,h1,h2,h3,h4⟩
 ·exact .inl h
 ·exact .inr ⟨g,cap,cur,h1,h2,(hk g (by rw [h1];rfl)).trans h3,h4⟩
theorem aO_.keepBut {W W':World} {a:Option Addr} {cs:List Value} (h:aO_ W a cs) (hs:W.heap.size≤W'.heap.size) (hk:∀ g o,a = some ⟨g,o,none⟩→W'.heap[g]? = W.heap[g]?):aO_ W' a cs:=by
 rcases h with h | ⟨g,o,ha,hg,h⟩
 ·exact .inl h
 ·exact .inr ⟨g,o,ha,Nat.lt_of_lt_of_le hg hs,fun j u hj=>(World.cell?_of_block (w:=W) (a:=⟨g,o+j,none⟩) (hk g o ha)).trans (h j u hj)⟩
structure dI_ (n:Nat) (W W':World):Prop where
 size:W.heap.size≤W'.heap.size
 block:∀ g cur,n≤g→W.heap[g]? = some (.cells cur 48 (0,0))→W'.heap[g]? = W.heap[g]?
theorem dI_.of_below {n:Nat} {W W':World} (h:Below W.heap.size W W'):dI_ n W W':=⟨h.size,fun g cur _ hg=>h.block g (lth_ hg)⟩
theorem dI_.setCell {n:Nat} {W:World} {B i:Nat} {cur:Array Value} {T:TypeId} (hB:W.heap[B]? = some (.cells cur T (0,0))) (hT:T≠48) (u:Value):dI_ n W (W.setCell ⟨B,i,none⟩ u):=
 ⟨by simp [World.setCell],fun g cur' _ hg=>heap_setCell_other _ _ _ _ (fun e=>by
  have e':g = B:=e;rw [e',hB] at hg;cases hg;exact hT rfl)⟩
theorem cG_.keepT {W W':World} {n:Nat} {xs:List ae_} {v:Value} {b:Option Addr} {c:Nat} (h2:cG_ W n xs v b c) (hk:dI_ n W W'):cG_ W' n xs v b c:=by
 refine ⟨h2.v,h2.le,h2.cm,h2.nil,?_,?_⟩
 ·refine cc_.2 ((cc_.1 h2.it).keepBut hk.size fun g o ha=>?_);rcases h2.own with e | ⟨g',o',cur,e,e2,e3⟩
  ·rw [e] at ha;cases ha
  ·rw [e] at ha;cases ha;exact hk.block g cur e2 e3
 ·rcases h2.own with e | ⟨g',o',cur,e,e2,e3⟩
  ·exact .inl e
  ·exact .inr ⟨g',o',cur,e,e2,(hk.block g' cur e2 e3).trans e3⟩
theorem cA_.keepT {W W':World} {n:Nat} {xss:List (List ae_)} {vs:List Value} (h:cA_ W n xss vs) (hk:dI_ n W W'):cA_ W' n xss vs:=by
 refine ⟨h.len,fun i hi=>?_⟩;obtain ⟨v,b,c,h1,h2⟩:=h.get i hi;exact ⟨v,b,c,h1,h2.keepT hk⟩
theorem aT_ {W:World} {base:Nat} {T:TypeId} {size g n c:Nat} {cs:List Value} (h:W.ownsRow base T size (.slice (some ⟨g,0,none⟩) n c) n cs):base≤g∧∃ cur,W.heap[g]? = some (.cells cur T (0,0)):=by
 rcases h.2 with ⟨e,_⟩ | ⟨g2,cap,cur,e,hb,hg,_⟩
 ·cases e
 ·cases e;exact ⟨hb,cur,hg⟩
theorem dI_.row {W:World} {base n:Nat} {T:TypeId} {size g m c:Nat} {cs:List Value} (h:W.ownsRow base T size (.slice (some ⟨g,0,none⟩) m c) m cs) (hT:T≠48) (i:Nat) (u:Value):dI_ n W (W.setCell ⟨g,i,none⟩ u):=by
 obtain ⟨_,cur,hg⟩:=aT_ h;exact dI_.setCell hg hT u
end Go.Proofs.YtlbnkpicnokgoaaGreat
namespace Go.Proofs.YtlbnkpicnokgoaaGreat
open Go.RowKit Go.Maps
set_option linter.unusedVariables false
set_option maxRecDepth 100000
set_option maxHeartbeats 4000000
def OwV (W:World) (n:Nat) (v:Value) (s:ab_):Prop:=∃ b1 b2 b3 m1 d1 m2 d2 m3 d3,v = .agg #[.slice b1 m1 d1,.slice b2 m2 d2,.slice b3 m3 d3,.int .i64 s.nextSeq,.int .i64 s.nextTag,.int .i64 s.came,.int .i64 s.acked,.int .i64 s.dropped]∧aM_ W n b1 b2 b3 m1 d1 m2 d2 m3 d3 s
theorem OwV.keep {W W':World} {n:Nat} {v:Value} {s:ab_} (h:OwV W n v s) (hB:Below W.heap.size W W'):OwV W' n v s:=by
 obtain ⟨b1,b2,b3,m1,d1,m2,d2,m3,d3,h1,h2⟩:=h;exact ⟨b1,b2,b3,m1,d1,m2,d2,m3,d3,h1,h2.keep hB⟩
theorem OwV.lower {W:World} {n n':Nat} {v:Value} {s:ab_} (h:OwV W n v s) (hn:n'≤n):OwV W n' v s:=by
 obtain ⟨b1,b2,b3,m1,d1,m2,d2,m3,d3,h1,h2⟩:=h;exact ⟨b1,b2,b3,m1,d1,m2,d2,m3,d3,h1,h2.lower hn⟩
theorem aM_.nils {W:World} {n:Nat} {b1 b2 b3:Option Addr} {m1 d1 m2 d2 m3 d3:Nat} {s:ab_} (h:aM_ W n b1 b2 b3 m1 d1 m2 d2 m3 d3 s):(b2 = none→d2 = 0)∧(b3 = none→d3 = 0):=
 ⟨fun e=>((eL_ h.r2).2.2 e).1,fun e=>((eL_ h.r3).2.2 e).1⟩
theorem h0_ (xs:List ae_) (a:Option Addr) (n c:Nat) (w:World) (hn:(al_ xs).length = n * 5) (hb:n≤100000000) (hz:a = none→c = 0∧n = 0) (hp:aO_ w a (al_ xs)) :
 Calls Tryz.prog 158 #[.slice a n c] w fun e w'=>∃ v,e = .returned v∧w'.ownsRow w.heap.size 48 5 v n (al_ xs)∧Below w.heap.size w w':=by
 have HN:=hidI hn;have HP:=hidI hp;have HZ:=hidI hz;clear hn hp hz;go_enter Tryz.func158,Tryz.ntmps158;go_wp2_with (at_builtin;refine a1_ fC_ (by kernel_rfl) _ _ rfl w.heap.size (.slice none 0 0) 0 [] rfl (World.ownsRow_nil _ _ _ _) a n c (al_ xs) rfl HN.out HZ.out HP.out (cb_ xs) (by unfold maxLen;omega) (by omega) (Nat.le_refl _) ?_;intro v' w3 hown3 hgrow3 hblk)
 go_ret
 exact ⟨v',rfl,by simpa using hown3,(Below.refl _ _).grown hgrow3 (Nat.le_refl _) (by simp [Value.ownBlock])⟩
theorem iT_ (xs:List OutD) (a:Option Addr) (n c:Nat) (w:World) (hn:(ah_ xs).length = n * 8) (hb:n≤100000000) (hz:a = none→c = 0∧n = 0) (hp:aO_ w a (ah_ xs)) :
 Calls Tryz.prog 159 #[.slice a n c] w fun e w'=>∃ v,e = .returned v∧w'.ownsRow w.heap.size 67 8 v n (ah_ xs)∧Below w.heap.size w w':=by
 have HN:=hidI hn;have HP:=hidI hp;have HZ:=hidI hz;clear hn hp hz;go_enter Tryz.func159,Tryz.ntmps159;go_wp2_with (at_builtin;refine a1_ er_ (by kernel_rfl) _ _ rfl w.heap.size (.slice none 0 0) 0 [] rfl (World.ownsRow_nil _ _ _ _) a n c (ah_ xs) rfl HN.out HZ.out HP.out (bA_ xs) (by unfold maxLen;omega) (by omega) (Nat.le_refl _) ?_;intro v' w3 hown3 hgrow3 hblk)
 go_ret
 exact ⟨v',rfl,by simpa using hown3,(Below.refl _ _).grown hgrow3 (Nat.le_refl _) (by simp [Value.ownBlock])⟩
theorem hj_ (xs:List aj_) (a:Option Addr) (n c:Nat) (w:World) (hn:(tkC_ xs).length = n * 2) (hb:n≤100000000) (hz:a = none→c = 0∧n = 0) (hp:aO_ w a (tkC_ xs)) :
 Calls Tryz.prog 160 #[.slice a n c] w fun e w'=>∃ v,e = .returned v∧w'.ownsRow w.heap.size 69 2 v n (tkC_ xs)∧Below w.heap.size w w':=by
 have HN:=hidI hn;have HP:=hidI hp;have HZ:=hidI hz;clear hn hp hz;go_enter Tryz.func160,Tryz.ntmps160;go_wp2_with (at_builtin;refine a1_ eB_ (by kernel_rfl) _ _ rfl w.heap.size (.slice none 0 0) 0 [] rfl (World.ownsRow_nil _ _ _ _) a n c (tkC_ xs) rfl HN.out HZ.out HP.out (cy_ xs) (by unfold maxLen;omega) (by omega) (Nat.le_refl _) ?_;intro v' w3 hown3 hgrow3 hblk)
 go_ret
 exact ⟨v',rfl,by simpa using hown3,(Below.refl _ _).grown hgrow3 (Nat.le_refl _) (by simp [Value.ownBlock])⟩
theorem es_ (q:Int) (b:ByteArray) (w:World) :
 Calls Tryz.prog 81 #[.int .i64 q,.string b] w fun e w'=>e = .returned (.agg #[.int .i64 q,.string ⟨#[120,46,121]⟩,.string b,.bool false,.int .i64 0])∧Below w.heap.size w w':=by
 go_enter Tryz.func81,Tryz.ntmps81;go_wp2
 exact bodyPost_ret (v:=.agg #[.int .i64 q,.string ⟨#[120,46,121]⟩,.string b,.bool false,.int .i64 0]) (by simp [results,Tryz.results81,go_sem]) rfl ⟨rfl,(by repeat (first | exact Below.refl _ _ | assumption | refine Below.drew ?_ | refine Below.alloc ?_ (by first | (simp;done) | (simp;omega) | omega) _ | refine Below.setCell ?_ (by first | (simp;done) | (simp;omega) | omega) _))⟩
theorem cz_ (w W:World) (A B:Obj) (h:W = (w.alloc A).alloc B):W.heap.size = w.heap.size+2∧W.heap[w.heap.size]? = some A∧W.heap[w.heap.size+1]? = some B∧Below w.heap.size w W:=by
 subst h;have hB:=World.alloc_heap_new (w.alloc A) B;simp only [World.size_alloc] at hB;refine ⟨by simp only [World.size_alloc],?_,hB,((Below.refl _ _).alloc (Nat.le_refl _) _).alloc (by simp) _⟩;rw [Below.heap_alloc _ _ _ (by simp only [World.size_alloc];omega)];exact World.alloc_heap_new w A
def oz_:List ae_:=[⟨2,⟨#[120,46,121]⟩,⟨#[116,119,111]⟩,false,0⟩,⟨3,⟨#[120,46,121]⟩,⟨#[116,104,114,101,101]⟩,false,0⟩]
def oA_ (o:OutD) (t0 t1:aj_) (ak:Int):ab_:=⟨[oz_,[],[]],[o],[t0,t1],4,6,4,ak,0⟩
def bOut (q:Int):OutD:=⟨5,1,0,⟨q,⟨#[120,46,121]⟩,⟨#[111,110,101]⟩,false,0⟩⟩
structure la_ (W:World) (gI gR gO gT:Nat) (o:OutD) (t0 t1:aj_):Prop where
 i:W.heap[gI]? = some (.cells #[.int .i64 2,.string ⟨#[120,46,121]⟩,.string ⟨#[116,119,111]⟩,.bool false,.int .i64 0,.int .i64 3,.string ⟨#[120,46,121]⟩,.string ⟨#[116,104,114,101,101]⟩,.bool false,.int .i64 0] 48 (0,0))
 r:W.heap[gR]? = some (.cells #[.slice (some ⟨gI,0,none⟩) 2 2,.slice none 0 0,.slice none 0 0] 46 (0,0))
 o:W.heap[gO]? = some (.cells #[.int .i64 o.tag,.int .i64 o.taker,.int .i64 o.queue,.int .i64 o.item.seq,.string o.item.key,.string o.item.body,.bool o.item.again,.int .i64 o.item.deaths] 67 (0,0))
 t:W.heap[gT]? = some (.cells #[.int .i64 t0.queue,.int .i64 t0.most,.int .i64 t1.queue,.int .i64 t1.most] 69 (0,0))
theorem la_.state {W:World} {gI gR gO gT:Nat} {o:OutD} {t0 t1:aj_} (h:la_ W gI gR gO gT o t0 t1) (ak:Int):an_ W (some ⟨gR,0,none⟩) (some ⟨gO,0,none⟩) (some ⟨gT,0,none⟩) 3 1 2 (oA_ o t0 t1 ak):=by
 refine ⟨rfl,rfl,rfl,by unfold maxLen;omega,by omega,by unfold maxLen;omega,?_,?_,?_⟩
 ·refine .inr ⟨gR,0,rfl,lth_ h.r,fun i hi=>?_⟩;have hi3:i < 3:=hi;have hit:ai_ W (some ⟨gI,0,none⟩) oz_:=by
   refine .inr ⟨gI,0,rfl,lth_ h.i,fun j hj=>?_⟩;have hj2:j < 2:=hj;match j,hj2 with
   | 0,_=>exact ⟨coc_ h.i 0,coc_ h.i 1,coc_ h.i 2,coc_ h.i 3,coc_ h.i 4⟩
   | 1,_=>exact ⟨coc_ h.i 5,coc_ h.i 6,coc_ h.i 7,coc_ h.i 8,coc_ h.i 9⟩
  match i,hi3 with
  | 0,_=>exact ⟨some ⟨gI,0,none⟩,2,coc_ h.r 0,Nat.le_refl _,by unfold maxLen;omega,(fun e=>by cases e),hit⟩
  | 1,_=>exact ⟨none,0,coc_ h.r 1,Nat.le_refl _,by unfold maxLen;omega,fun _=>rfl,.inl rfl⟩
  | 2,_=>exact ⟨none,0,coc_ h.r 2,Nat.le_refl _,by unfold maxLen;omega,fun _=>rfl,.inl rfl⟩
 ·refine .inr ⟨gO,0,rfl,lth_ h.o,fun i hi=>?_⟩;have hi1:i < 1:=hi;match i,hi1 with
  | 0,_=>exact ⟨coc_ h.o 0,coc_ h.o 1,coc_ h.o 2,coc_ h.o 3,coc_ h.o 4,coc_ h.o 5,coc_ h.o 6,coc_ h.o 7⟩
 ·refine .inr ⟨gT,0,rfl,lth_ h.t,fun i hi=>?_⟩;have hi2:i < 2:=hi;match i,hi2 with
  | 0,_=>exact ⟨coc_ h.t 0,coc_ h.t 1⟩
  | 1,_=>exact ⟨coc_ h.t 2,coc_ h.t 3⟩
theorem mV_ (w:World):Calls Tryz.prog 43 #[] w fun e w'=>∃ gI gR gO gT,e = .returned (.agg #[.slice (some ⟨gR,0,none⟩) 3 3,.slice (some ⟨gO,0,none⟩) 1 1,.slice (some ⟨gT,0,none⟩) 2 2,.int .i64 4,.int .i64 6,.int .i64 4,.int .i64 1,.int .i64 0])∧la_ w' gI gR gO gT (bOut 1) ⟨-1,1⟩ ⟨0,2⟩∧(w.heap.size≤gI∧w.heap.size≤gR∧w.heap.size≤gO∧w.heap.size≤gT)∧(gI≠gO∧gR≠gO∧gT≠gO∧gI≠gT∧gR≠gT)∧Below w.heap.size w w':=by
 obtain ⟨W0,hW0,hB0,hs0,hbx⟩:=du_ w #[.slice none 0 0,.slice none 0 0,.slice none 0 0,.int .i64 0,.int .i64 0,.int .i64 0,.int .i64 0,.int .i64 0];have HW0:=hidI hW0;have BX:=hidI hbx;have s0:=hB0.size;have hs0':w.heap.size < W0.heap.size:=by omega
 clear hW0 hbx hs0;go_enter Tryz.func43,Tryz.ntmps43;go_wp2_with fail
 rw [← HW0.out];refine (es_ _ _ _).mono ?_;rintro e w1 ⟨rfl,k1⟩;go_wp2_with fail
 refine (es_ _ _ _).mono ?_;rintro e w2 ⟨rfl,k2'⟩;have k2:=k1.trans (k2'.mono k1.size);have s2:=k2.size;obtain ⟨W4,hW4⟩:∃ W4,W4 = (w2.alloc (.cells #[.int .i64 2,.string ⟨#[120,46,121]⟩,.string ⟨#[116,119,111]⟩,.bool false,.int .i64 0,.int .i64 3,.string ⟨#[120,46,121]⟩,.string ⟨#[116,104,114,101,101]⟩,.bool false,.int .i64 0] 48)).alloc (.cells #[.slice (some ⟨w2.heap.size,0,none⟩) 2 2,.slice none 0 0,.slice none 0 0] 46):=⟨_,rfl⟩
 obtain ⟨z4,hi4,hr4,k4'⟩:=cz_ w2 W4 _ _ hW4;have HI4:=hidI hi4;have HR4:=hidI hr4;have HW4:=hidI hW4;have k4:=k2.trans (k4'.mono s2);have HZ4:=hidI z4;clear hW4 z4 k1 k2' hi4 hr4;go_wp2_with fail
 rw [← HW4.out];refine (es_ _ _ _).mono ?_;rintro e w5 ⟨rfl,k5'⟩;have k5:=k4.trans (k5'.mono k4.size);have s5:=k5.size;have s45:=k5'.size;have q5:=BX.out w5 k5;obtain ⟨y0,y1,y2,y3,y4,y5,y6,y7⟩:=aa_ q5;have f0:=foc_ q5 0;have f1:=foc_ q5 1;have f2:=foc_ q5 2;have f3:=foc_ q5 3;have f4:=foc_ q5 4;have f5:=foc_ q5 5;have f6:=foc_ q5 6;have f7:=foc_ q5 7;have hlt5:w.heap.size < w5.heap.size:=by omega
 have HQ5:=hidI q5;have HI5:=hidI (pkp_ HI4.out k5');have HR5:=hidI (pkp_ HR4.out k5');clear q5;go_wp2_with fail
 generalize hW6:World.setCell (World.setCell (World.setCell (World.setCell (World.setCell (World.setCell (World.setCell (World.setCell w5 _ _) _ _) _ _) _ _) _ _) _ _) _ _) _ _ = W6;obtain ⟨b6,t6⟩:=store8 HQ5.out hW6;have z6:W6.heap.size = w5.heap.size:=by rw [← hW6];simp
 generalize hW7:World.alloc (World.alloc W6 _) _ = W7;obtain ⟨z7,ho7,ht7,k7'⟩:=cz_ W6 W7 _ _ hW7.symm;rw [z6] at ho7 ht7;have s6:=t6.size;obtain ⟨x0,x1,x2,x3,x4,x5,x6,x7⟩:=aa_ (pkp_ b6 k7');have hz4:=HZ4.out;have l8:Below w.heap.size w W7:=((hB0.trans (k5.mono s0)).trans (t6.below (by omega) (Nat.le_refl _))).trans (k7'.mono (by omega));have tb:∀ k o,w5.heap[k]? = some o→k≠w.heap.size→W7.heap[k]? = some o:=fun k o h hne=>(k7'.block k (by have:=lth_ h;omega)).trans ((t6.block k (lth_ h) hne).trans h)
 refine bodyPost_ret (v:=.agg #[.slice (some ⟨w2.heap.size+1,0,none⟩) 3 3,.slice (some ⟨w5.heap.size,0,none⟩) 1 1,.slice (some ⟨w5.heap.size+1,0,none⟩) 2 2,.int .i64 4,.int .i64 6,.int .i64 4,.int .i64 1,.int .i64 0]) (by simp [results,Tryz.results43,go_sem,x0,x1,x2,x3,x4,x5,x6,x7]) rfl ⟨w2.heap.size,w2.heap.size+1,w5.heap.size,w5.heap.size+1,rfl,⟨?_,?_,?_,?_⟩,by omega,by omega,l8⟩
 ·exact tb _ _ HI5.out (by omega)
 ·exact tb _ _ HR5.out (by omega)
 ·exact ho7
 ·exact ht7
structure da_ (W:World) (n:Nat) (xss:List (List ae_)) (k:Nat) (vs:List Value):Prop where
 len:vs.length = xss.length
 get:∀ i (h:i < xss.length),i < k→∃ v b c,vs[i]? = some v∧cG_ W n xss[i] v b c
theorem da_.keepT {W W':World} {n k:Nat} {xss:List (List ae_)} {vs:List Value} (h:da_ W n xss k vs) (hk:dI_ n W W'):da_ W' n xss k vs:=by
 refine ⟨h.len,fun i hi hik=>?_⟩;obtain ⟨v,b,c,h1,h2⟩:=h.get i hi hik;exact ⟨v,b,c,h1,h2.keepT hk⟩
theorem da_.set {W:World} {n k:Nat} {xss:List (List ae_)} {vs:List Value} (h:da_ W n xss k vs) (hk:k < xss.length) {v:Value} {b:Option Addr} {c:Nat} (hv:cG_ W n xss[k] v b c):da_ W n xss (k+1) (vs.set k v):=by
 refine ⟨by rw [List.length_set];exact h.len,fun i hi hik=>?_⟩;by_cases e:i = k
 ·subst e;exact ⟨v,b,c,by rw [List.getElem?_set,if_pos rfl,if_pos (by rw [h.len];exact hi)],hv⟩
 ·obtain ⟨u,b',c',h1,h2⟩:=h.get i hi (by omega);exact ⟨u,b',c',by rw [List.getElem?_set,if_neg (fun e'=>e e'.symm)];exact h1,h2⟩
theorem da_.all {W:World} {n k:Nat} {xss:List (List ae_)} {vs:List Value} (h:da_ W n xss k vs) (hk:xss.length≤k):cA_ W n xss vs:=⟨h.len,fun i hi=>h.get i hi (by omega)⟩
theorem bD_ {W:World} {base n:Nat} {v:Value} {xs:List ae_} {m:Nat} (h:W.ownsRow base 48 5 v m (al_ xs)) (hn:n≤base):∃ b c,cG_ W n xs v b c∧m = xs.length:=by
 obtain ⟨e,a,c,h1,h2,h3,h4,h5⟩:=it_ h;refine ⟨a,c,⟨by rw [h1,e],by omega,h3,fun z=>(h4 z).1,h5,?_⟩,e⟩;rcases h.2 with ⟨rfl,_⟩ | ⟨g,cap,cur,rfl,hb,hg,_⟩
 ·cases h1;exact .inl rfl
 ·cases h1;exact .inr ⟨g,0,cur,rfl,by omega,hg⟩
theorem iS_ (s:ab_) (b1 b2 b3:Option Addr) (m1 d1 m2 d2 m3 d3:Nat) (w:World) (hs:an_ w b1 b2 b3 m1 m2 m3 s) (hn2:b2 = none→d2 = 0) (hn3:b3 = none→d3 = 0) (h1:m1≤100) (hl:∀ l ∈ s.ready,l.length≤100) (h2:m2≤1000) (h3:m3≤100) :
 Calls Tryz.prog 126 #[.agg #[.slice b1 m1 d1,.slice b2 m2 d2,.slice b3 m3 d3,.int .i64 s.nextSeq,.int .i64 s.nextTag,.int .i64 s.came,.int .i64 s.acked,.int .i64 s.dropped]] w fun e w'=>∃ v,e = .returned v∧OwV w' w.heap.size v s∧Below w.heap.size w w':=by
 obtain ⟨i0,hi,hz0,hz1,hz2⟩:=info_parts Tryz.infoLine;obtain ⟨W2,hW2,hs2,hb0,hb1,hBw⟩:∃ W2,W2 = (w.alloc (.cells #[.slice b1 m1 d1,.slice b2 m2 d2,.slice b3 m3 d3,.int .i64 s.nextSeq,.int .i64 s.nextTag,.int .i64 s.came,.int .i64 s.acked,.int .i64 s.dropped] 31)).alloc (.cells #[.slice none 0 0,.slice none 0 0,.slice none 0 0,.int .i64 0,.int .i64 0,.int .i64 0,.int .i64 0,.int .i64 0] 31)∧W2.heap.size = w.heap.size+2∧W2.heap[w.heap.size]? = some (.cells #[.slice b1 m1 d1,.slice b2 m2 d2,.slice b3 m3 d3,.int .i64 s.nextSeq,.int .i64 s.nextTag,.int .i64 s.came,.int .i64 s.acked,.int .i64 s.dropped] 31 (0,0))∧W2.heap[w.heap.size+1]? = some (.cells #[.slice none 0 0,.slice none 0 0,.slice none 0 0,.int .i64 0,.int .i64 0,.int .i64 0,.int .i64 0,.int .i64 0] 31 (0,0))∧Below w.heap.size w W2:=by
  obtain ⟨h1,h2,h3,h4⟩:=cz_ w _ _ _ rfl;exact ⟨_,rfl,h1,h2,h3,h4⟩
 have HW2:=hidI hW2;have HB0:=hidI hb0;have HB1:=hidI hb1;have HBW:=hidI hBw;have HS:=hidI (hs.keep hBw);have HM1:Hid (s.ready.length = m1):=hs.l1;have HM2:Hid (s.outs.length = m2):=hs.l2;have HM3:Hid (s.takers.length = m3):=hs.l3;have HS2:Hid (W2.heap.size = w.heap.size+2):=hs2;have HN2:=hidI hn2;have HN3:=hidI hn3;have HL:=hidI hl;have s0:=hBw.size;obtain ⟨y0,y1,y2,y3,y4,y5,y6,y7⟩:=aa_ hb0;clear hW2 hb0 hb1 hs hs2 hn2 hn3 hl hBw;go_enter Tryz.func126,Tryz.ntmps126;go_wp2_with (at_make;rw [← HW2.out];refine wpList_make_full _ rfl _ _ 27 rfl W2.heap.size 46 i0 (.slice none 0 0) 1 Tryz.underlying27 hi hz0 hz1 _ _ _ _ m1 rfl rfl rfl rfl (by rw [hz2];omega) (by unfold maxLen;omega) (Nat.le_refl _) ?_;intro w3 hown3 hgrow3;have q3:=(hgrow3.block w.heap.size (by have:=HS2.out;omega) (by simp)).trans HB0.out;clear y0 y1 y2 y3 y4 y5 y6 y7;obtain ⟨y0,y1,y2,y3,y4,y5,y6,y7⟩:=aa_ q3)
 clear q3;have HB3:Hid (Below W2.heap.size W2 w3):=(Below.refl _ _).grown hgrow3 (Nat.le_refl _) (by simp);have HO3:=hidI hown3;clear hown3 hgrow3 y0 y1 y2 y3 y4 y5 y6 y7;go_loopw [4,5,13] (fun _ _ i wr=>∃ (k:Nat) (vs:List Value),k≤m1∧i = .int .i64 k∧wr.ownsRow W2.heap.size 46 1 (.slice (some ⟨W2.heap.size,0,none⟩) m1 m1) m1 vs∧da_ wr W2.heap.size s.ready k vs∧Below W2.heap.size W2 wr) (fun _ _ i _=>m1 - (intOf i).toNat)
 case atStart=>exact ⟨0,_,Nat.zero_le _,rfl,HO3.out,⟨by rw [fa_,List.length_replicate];exact HM1.out.symm,fun i hi h=>absurd h (Nat.not_lt_zero _)⟩,HB3.out⟩
 case round=>
  obtain ⟨k,vs,hk,rfl,hown,hlt0,hB⟩:=hrel;have HO:=hidI hown;have HLT0:=hidI hlt0;have HB:=hidI hB;have hBs:=hB.size;obtain ⟨y0,y1,y2,y3,y4,y5,y6,y7⟩:=aa_ ((hB.block _ (by have:=HS2.out;omega)).trans HB0.out);clear hown hlt0;by_cases hlt:k < m1
  ·have HLT:=hidI hlt;have hkl:k < s.ready.length:=by rw [HM1.out];exact hlt
   obtain ⟨g,o,b,c,ha,hg,hl⟩:=(HS.out.q1.keep hB).get hkl;subst ha;have c1:=hl.cell;have HLC:=hidI hl;have HKL:=hidI hkl;obtain ⟨n,hn⟩:∃ n,n = (s.ready[k]'hkl).length:=⟨_,rfl⟩
   have HNN:=hidI hn;rw [← hn] at c1;have hn100:n≤100:=by rw [hn];exact HL.out _ (List.getElem_mem hkl)
   have j1:(0:Int)≤(k:Int):=by omega
   have j2:(k:Int) < m1:=by omega
   clear hl hn;go_wp2_with fail
   refine (h0_ (s.ready[k]'HKL.out) b n c wr (by rw [ca_,HNN.out]) (by omega) (fun e=>⟨HLC.out.nil e,by have:=HLC.out.nil e;have:=HLC.out.le;have:=HNN.out;omega⟩) (cc_.1 HLC.out.it)).mono ?_;rintro e w5 ⟨v,rfl,hown5,hB5⟩;obtain ⟨b5,c5,hv5,hn5⟩:=bD_ hown5 (Nat.le_trans hBs (Nat.le_refl _));have hve:=hv5.v;have HV5:=hidI hv5;have hO5:=cp2_ HO.out hB5;have hf5:=hO5.frozenAt k;have hc5:=hO5.cellAt k (by omega);have HO5:=hidI hO5;have HB5:=hidI hB5;have s5:=hB5.size;have hvs:vs[k]? = some (vs[k]'(by rw [HLT0.out.len];exact HKL.out)):=List.getElem?_eq_getElem _;rw [hvs] at hc5;subst hve;clear hv5 hO5 hB5 hown5 hn5 hvs;go_wp2_with fail
   go_roundw
   case rel=>
    have hst:=HO5.out.stored k (.slice b5 (s.ready[k]'HKL.out).length c5);refine ⟨k+1,vs.set k (.slice b5 (s.ready[k]'HKL.out).length c5),HLT.out,by have:=HLT.out;go_num,hst.1,?_,?_⟩
    ·have hki:=dI_.row (n:=W2.heap.size) HO5.out (by decide) k (.slice b5 (s.ready[k]'HKL.out).length c5);exact da_.set ((HLT0.out.keepT (dI_.of_below HB5.out)).keepT hki) HKL.out (HV5.out.keepT hki)
    ·exact (HB.out.trans (HB5.out.mono hBs)).setCell (p:=⟨W2.heap.size,k,none⟩) (Nat.le_refl _) _
   case measure=>have:=HLT.out;simp [intOf];omega
  ·have hke:m1 = k:=by omega
   subst hke;clear hlt hk;have hO0:=(hB.block _ (by have:=HS2.out;omega)).trans HB0.out;have HOD:Hid (∀ W,Below wr.heap.size wr.drew W→W.heap[w.heap.size]? = some (.cells #[.slice b1 m1 d1,.slice b2 m2 d2,.slice b3 m3 d3,.int .i64 s.nextSeq,.int .i64 s.nextTag,.int .i64 s.came,.int .i64 s.acked,.int .i64 s.dropped] 31 (0,0))):=fun W hW=>(hW.block _ (by have:=HS2.out;omega)).trans hO0
   have HRD:Hid (∀ W,Below wr.heap.size wr.drew W→W.heap[w.heap.size+1]? = some (.cells #[.slice none 0 0,.slice none 0 0,.slice none 0 0,.int .i64 0,.int .i64 0,.int .i64 0,.int .i64 0,.int .i64 0] 31 (0,0))):=fun W hW=>(hW.block _ (by have:=HS2.out;omega)).trans ((hB.block _ (by have:=HS2.out;omega)).trans HB1.out)
   have HST:=hidI (HS.out.keep hB);have hm2:b2 = none→d2 = 0∧m2 = 0:=fun e=>⟨HN2.out e,by
    rcases HST.out.q2 with h | ⟨_,_,h,_⟩
    ·rw [← HM2.out,h];rfl
    ·rw [e] at h;cases h⟩
   have hm3:b3 = none→d3 = 0∧m3 = 0:=fun e=>⟨HN3.out e,by
    rcases HST.out.q3 with h | ⟨_,_,h,_⟩
    ·rw [← HM3.out,h];rfl
    ·rw [e] at h;cases h⟩
   have CO:=hidI (iT_ s.outs b2 m2 d2 wr.drew (by rw [ah_,bK_ (k:=8) (fun _=>rfl),HM2.out]) (by omega) hm2 (c5_.1 HST.out.q2));have CT:Hid (∀ W,Below wr.heap.size wr.drew W→Calls Tryz.prog 160 #[.slice b3 m3 d3] W fun e w'=>∃ v,e = .returned v∧w'.ownsRow W.heap.size 69 2 v m3 (tkC_ s.takers)∧Below W.heap.size W w'):=fun W hW=>hj_ s.takers b3 m3 d3 W (by rw [tkC_,bK_ (k:=2) (fun _=>rfl),HM3.out]) (by omega) hm3 ((b5_.1 HST.out.q3).keep (bud_ hW))
   clear hm2 hm3 hO0;go_wp2_with fail
   go_region_with (first
    | (go_at_call 159;refine CO.out.mono ?_;rintro e w6 ⟨v6,rfl,hown6,hB6⟩;obtain ⟨a6,c6,rfl,l6,l6',l6n,r6⟩:=aH_ hown6;have HO6:=hidI hown6;have HB6:=hidI hB6;obtain ⟨z0,z1,z2,z3,z4,z5,z6,z7⟩:=aa_ (HOD.out _ hB6);clear hown6 hB6 l6 l6' l6n r6)
    | (go_at_call 160;refine (CT.out _ HB6.out).mono ?_;rintro e w7 ⟨v7,rfl,hown7,hB7⟩;obtain ⟨a7,c7,rfl,l7,l7',l7n,r7⟩:=aH_ hown7;have HO7:=hidI hown7;have HB7:=hidI hB7;have k7:=HB6.out.trans (hB7.mono HB6.out.size);have q7:=HOD.out _ k7;have K7:=hidI k7;obtain ⟨u0,u1,u2,u3,u4,u5,u6,u7⟩:=aa_ q7;have f0:=foc_ q7 0;have f1:=foc_ q7 1;have f2:=foc_ q7 2;have Q7:=hidI q7;have r7b:=HRD.out _ K7.out;have R7:=hidI r7b;obtain ⟨x0,x1,x2,x3,x4,x5,x6,x7⟩:=aa_ r7b;have e0:=foc_ r7b 0;have e1:=foc_ r7b 1;have e2:=foc_ r7b 2;have e3:=foc_ r7b 3;have e4:=foc_ r7b 4;have e5:=foc_ r7b 5;have e6:=foc_ r7b 6;have e7:=foc_ r7b 7;clear r7b hown7 hB7 l7 l7' l7n r7 q7 k7))
   all_goals
    go_wp2_with fail
    generalize hX:World.setCell (World.setCell (World.setCell w7 _ _) _ _) _ _ = X;generalize hW4:World.setCell (World.setCell (World.setCell (World.setCell (World.setCell (World.setCell (World.setCell (World.setCell X _ _) _ _) _ _) _ _) _ _) _ _) _ _) _ _ = W4;have tX:aZ_ w.heap.size w7 X:=by rw [← hX];exact ((sct_ _ _ _ _).trans (sct_ _ _ _ _)).trans (sct_ _ _ _ _)
    have hRX:X.heap[w.heap.size+1]? = _:=(tX.block _ (lth_ R7.out) (by omega)).trans R7.out;obtain ⟨b4,t4⟩:=store8 hRX hW4;obtain ⟨z0,z1,z2,z3,z4,z5,z6,z7⟩:=aa_ b4;exact bodyPost_ret (v:=.agg #[.slice (some ⟨W2.heap.size,0,none⟩) m1 m1,.slice a6 m2 c6,.slice a7 m3 c7,.int .i64 s.nextSeq,.int .i64 s.nextTag,.int .i64 s.came,.int .i64 s.acked,.int .i64 s.dropped]) (by simp [results,Tryz.results126,go_sem,z0,z1,z2,z3,z4,z5,z6,z7]) rfl (by
     have T4:∀ k,W2.heap.size≤k→k < w7.heap.size→W4.heap[k]? = w7.heap[k]?:=fun k h1 h2=>(t4.block k (Nat.lt_of_lt_of_le h2 tX.size) (by have:=HS2.out;omega)).trans (tX.block k h2 (by have:=HS2.out;omega))
     have hsz:w7.heap.size≤W4.heap.size:=Nat.le_trans tX.size t4.size;have g6:W2.heap.size≤wr.heap.size:=hBs;have g7:wr.heap.size≤w6.heap.size:=HB6.out.size;have B7:Below wr.heap.size wr w7:=bud_ K7.out;have r1:=cp2_ HO.out B7;have KI:dI_ w.heap.size w7 W4:=⟨hsz,fun g cur hn hg=>by
      by_cases hge:W2.heap.size≤g
      ·exact T4 g hge (lth_ hg)
      ·exfalso
       have:g = w.heap.size∨g = w.heap.size+1:=by have:=HS2.out;omega
       rcases this with rfl | rfl
       ·rw [Q7.out] at hg;cases hg
       ·rw [R7.out] at hg;cases hg⟩
     have KR:∀ {T:TypeId} {size n:Nat} {v:Value} {cs:List Value} {base:Nat},w7.ownsRow base T size v n cs→W2.heap.size≤base→W4.ownsRow w.heap.size T size v n cs:=fun h hb=>bm_ (ch_ h (fun k hk=>by have:=h.lt k hk;exact T4 k (by omega) this.2)) (by omega)
     refine ⟨_,rfl,⟨_,_,_,_,_,_,_,_,_,rfl,HM1.out,HM2.out,HM3.out,by omega,⟨vs,KR r1 (Nat.le_refl _),?_⟩,KR (cp2_ HO6.out HB7.out) g6,KR HO7.out (by omega)⟩,?_⟩
     ·exact (((HLT0.out.all (by rw [HM1.out];exact Nat.le_refl _)).lower (by omega)).keepT (dI_.of_below B7)).keepT KI
     ·exact HBW.out.trans (((hB.trans (B7.mono hBs)).mono s0).trans ((tX.below (by have:=B7.size;omega) (Nat.le_refl _)).trans (t4.below (by have:=tX.size;have:=B7.size;omega) (by omega)))))
def StBox (W:World) (n t:Nat) (s:ab_):Prop:=∃ b1 b2 b3 m1 d1 m2 d2 m3 d3,W.heap[t]? = some (.cells #[.slice b1 m1 d1,.slice b2 m2 d2,.slice b3 m3 d3,.int .i64 s.nextSeq,.int .i64 s.nextTag,.int .i64 s.came,.int .i64 s.acked,.int .i64 s.dropped] 31 (0,0))∧aM_ W n b1 b2 b3 m1 d1 m2 d2 m3 d3 s
def zerS:Value:=.agg #[.slice none 0 0,.slice none 0 0,.slice none 0 0,.int .i64 0,.int .i64 0,.int .i64 0,.int .i64 0,.int .i64 0]
theorem aM_.turn {W W':World} {n t:Nat} {b1 b2 b3:Option Addr} {m1 d1 m2 d2 m3 d3:Nat} {s:ab_} {cur:Array Value} {T:TypeId} (h:aM_ W n b1 b2 b3 m1 d1 m2 d2 m3 d3 s) (ht:W.heap[t]? = some (.cells cur T (0,0))) (hT:T≠48∧T≠67∧T≠69∧T≠46) (k:aZ_ t W W'):aM_ W' n b1 b2 b3 m1 d1 m2 d2 m3 d3 s:=by
 obtain ⟨vs,h1,h2⟩:=h.r1;have KR:∀ {T':TypeId} {size m:Nat} {v:Value} {cs:List Value},W.ownsRow n T' size v m cs→T'≠T→W'.ownsRow n T' size v m cs:=fun h hne=>ch_ h (fun j hj=>k.block j (h.lt j hj).2 (fun e=>eP_ h ht hne (by rw [hj,e])))
 refine ⟨h.l1,h.l2,h.l3,h.x2,⟨vs,KR h1 (fun e=>hT.2.2.2 e.symm),h2.keepT ⟨k.size,fun g cur' _ hg=>k.block g (lth_ hg) (fun e=>?_)⟩⟩,KR h.r2 (fun e=>hT.2.1 e.symm),KR h.r3 (fun e=>hT.2.2.1 e.symm)⟩;rw [e,ht] at hg;cases hg;exact hT.1 rfl
def bn_ (W:World) (n:Nat) (v:Value) (E:Int) (s:ab_):Prop:=(E = 0→OwV W n v s)∧(E≠0→v = zerS)
theorem bn_.keep {W W':World} {n:Nat} {v:Value} {E:Int} {s:ab_} (h:bn_ W n v E s) (hB:Below W.heap.size W W'):bn_ W' n v E s:=⟨fun e=>(h.1 e).keep hB,h.2⟩
theorem bn_.lower {W:World} {n n':Nat} {v:Value} {E:Int} {s:ab_} (h:bn_ W n v E s) (hn:n'≤n):bn_ W n' v E s:=⟨fun e=>(h.1 e).lower hn,h.2⟩
def Does (f:FuncId) (cap:Array Value) (w:World) (s:ab_) (E N:Int) (S':ab_):Prop:=
 ∀ (W : World) (n t : Nat), Below w.heap.size w W → w.heap.size ≤ t → t < n → n ≤ W.heap.size → StBox W n t s →
   Calls Tryz.prog f (#[.pointer (some ⟨t,0,none⟩)] ++ cap) W fun e W'=>ac_ n t W W'∧((E≠0∧e = panE E)∨(E = 0∧e = .returned (.int .i64 N)∧StBox W' n t S'))
theorem bM_ {p:ad_} {s:ab_} (h:ak_ p s 0):s.ready.length≤100∧(∀ l ∈ s.ready,l.length≤100)∧s.outs.length≤1000∧s.takers.length≤100:=by
 have h1:=h.rp.few.2.1;have h2:=h.len;have h3:=h.tk;refine ⟨by omega,fun l hl=>by have:=h.line6 hl;omega,?_,by omega⟩;have hall:sumH s s.takers.length = s.outs.length:=nI_ h.outs;have hk:∀ k,k≤s.takers.length→sumH s k≤k * 4:=by
  intro k;induction k with
  | zero=>intro _;exact Nat.le_refl _
  | succ k ih =>
    intro hk;have a:=ih (by omega);have b:=h.hold k (by omega);have hm:(s.takers.getD k ⟨0,0⟩).most≤4:=by
     rw [List.getD_eq_getElem?_getD,List.getElem?_eq_getElem (by omega)];have:=h.tok _ (List.getElem_mem (show k < s.takers.length by omega));unfold aI_ at this;simp only [Bool.and_eq_true,decide_eq_true_eq] at this;exact this.2.2
    show sumH s k+heldN s k≤(k+1) * 4;omega
 have:=hk s.takers.length (Nat.le_refl _);omega
theorem an_.small {W:World} {b1 b2 b3:Option Addr} {m1 m2 m3:Nat} {s:ab_} {p:ad_} (h:an_ W b1 b2 b3 m1 m2 m3 s) (hr:ak_ p s 0):m1≤100∧(∀ l ∈ s.ready,l.length≤100)∧m2≤1000∧m3≤100:=by
 have:=bM_ hr;rw [h.l1,h.l2,h.l3] at this;exact this
theorem mK_ (p:ad_) (a1 a2 a3:Option Addr) (n1 c1 n2 c2 n3 c3:Nat) (s:ab_) (b1 b2 b3:Option Addr) (m1 d1 m2 d2 m3 d3:Nat) (f:FuncId) (hf:Goes f) (cap:Array Value) (w0:World) (E N:Int) (S':ab_) (hE0:stE p s≠0→E = stE p s) (hdo:stE p s = 0→Does f cap w0 s E N S')
 (B:Nat) (hB0:w0.heap.size≤B) (w:World) (h0:Below w0.heap.size w0 w) (hw:B+6 < w.heap.size) (hp:ap_ w a1 a2 a3 n1 n2 n3 p) (hs:an_ w b1 b2 b3 m1 m2 m3 s) (hn2:b2 = none→d2 = 0) (hn3:b3 = none→d3 = 0)
 (x0:w.heap[B]? = some (.cells #[.slice a1 n1 c1,.slice a2 n2 c2,.slice a3 n3 c3] 26 (0,0))) (x1:w.heap[B+1]? = some (.cells #[.slice b1 m1 d1,.slice b2 m2 d2,.slice b3 m3 d3,.int .i64 s.nextSeq,.int .i64 s.nextTag,.int .i64 s.came,.int .i64 s.acked,.int .i64 s.dropped] 31 (0,0))) (x2:w.heap[B+2]? = some (.cells #[.func (.func f) #[] cap] 108 (0,0))) (x4:w.heap[B+4]? = some (.cells #[.slice none 0 0,.slice none 0 0,.slice none 0 0,.int .i64 0,.int .i64 0,.int .i64 0,.int .i64 0,.int .i64 0] 31 (0,0))) (x5:w.heap[B+5]? = some (.cells #[.int .i64 0] 3 (0,0))) :
 Calls Tryz.prog 125 #[.pointer (some ⟨B,0,none⟩),.pointer (some ⟨B+1,0,none⟩),.pointer (some ⟨B+4,0,none⟩),.pointer (some ⟨B+2,0,none⟩),.pointer (some ⟨B+5,0,none⟩)] w fun e w'=>
  e = askE E∧w.heap.size≤w'.heap.size∧(∀ k,k < w.heap.size→k≠B+4→k≠B+5→w'.heap[k]? = w.heap[k]?)∧w'.os = w.os∧w'.tape = w.tape∧w'.output = w.output∧(E = 0→(∃ n,w.heap.size≤n∧StBox w' n (B+4) S')∧w'.heap[B+5]? = some (.cells #[.int .i64 N] 3 (0,0))):=by
 obtain ⟨E0,hE0'⟩:∃ E0,E0 = stE p s:=⟨_,rfl⟩
 have HE0:=hidI hE0';have HEE:=hidI hE0;have HDO:=hidI hdo;have HP:=hidI hp;have HS:=hidI hs;have HN2:=hidI hn2;have HN3:=hidI hn3;have H0:=hidI h0;have X0:=hidI x0;have X1:=hidI x1;have X2:=hidI x2;have X4:=hidI x4;have X5:=hidI x5;have hf':∀ (args:Array Value) (w:World),Sem.run Tryz.prog (callFunc f args) w = .ok (.enter f args) w:=hf
 obtain ⟨p0,p1,p2⟩:=ag_ x0;obtain ⟨y0,y1,y2,y3,y4,y5,y6,y7⟩:=aa_ x1;clear hE0' hE0 hdo hp hs hn2 hn3 h0 x0 x1 x2 x4 x5 hf;go_enter Tryz.func125,Tryz.ntmps125;go_wp2_with fail
 refine (fh_ p _ _ _ _ _ _ _ _ _ s _ _ _ _ _ _ _ _ _ _ HP.out HS.out).mono ?_;rintro e w1 ⟨rfl,k1⟩;rw [← HE0.out];have s1:=k1.size;have k1':=k1.alloc s1 (.cells #[.int .i64 E0] 33);have s1':=k1'.size;clear p0 p1 p2 y0 y1 y2 y3 y4 y5 y6 y7;by_cases hz:E0 = 0
 ·subst hz;go_wp2_with (go_at_call 47;refine (dY_ _ _ (aP_ _ _ _) (by simp)).mono ?_;rintro e w2 ⟨rfl,hB2⟩;have k2:=k1'.trans (hB2.mono s1');have K2:=hidI k2;obtain ⟨y0,y1,y2,y3,y4,y5,y6,y7⟩:=aa_ (pkp_ X1.out k2);clear hB2)
  have hR:=aK_ HE0.out.symm;obtain ⟨q1,q2,q3,q4⟩:=HS.out.small hR;refine (iS_ s _ _ _ _ _ _ _ _ _ w2 (HS.out.keep K2.out) HN2.out HN3.out q1 q2 q3 q4).mono ?_;rintro e w3 ⟨v3,rfl,hv3,k3'⟩;have k3:=K2.out.trans (k3'.mono K2.out.size);obtain ⟨g1,g2,g3,l1,r1,l2,r2,l3,r3,rfl,ho⟩:=hv3;have HO:=hidI ho;have K3:=hidI k3;have K3':=hidI k3';have q4b:=pkp_ X4.out k3;have Q4:=hidI q4b;obtain ⟨z0,z1,z2,z3,z4,z5,z6,z7⟩:=aa_ q4b;have f0:=foc_ q4b 0;have f1:=foc_ q4b 1;have f2:=foc_ q4b 2;have f3:=foc_ q4b 3;have f4:=foc_ q4b 4;have f5:=foc_ q4b 5;have f6:=foc_ q4b 6;have f7:=foc_ q4b 7;have c2:=coc_ (pkp_ X2.out k3) 0;simp at c2;clear y0 y1 y2 y3 y4 y5 y6 y7 q4b k3 k3' ho k2;go_wp2_with fail
  generalize hW4:World.setCell (World.setCell (World.setCell (World.setCell (World.setCell (World.setCell (World.setCell (World.setCell w3 _ _) _ _) _ _) _ _) _ _) _ _) _ _) _ _ = W4;obtain ⟨b4,t4⟩:=store8 Q4.out hW4;have kW4:ac_ w.heap.size (B+4) w W4:=(ac_.of_below K3.out (Nat.le_refl _)).trans ⟨t4.os,t4.tape,t4.output,t4.size,fun k h1 h2=>t4.block k (by have:=K3.out.size;omega) h2⟩;have hdo:=HDO.out HE0.out.symm W4 w2.heap.size (B+4) (H0.out.trans (kW4.below H0.out.size (by omega))) (by omega) (by have:=K2.out.size;omega) (by have:=K3'.out.size;have:=t4.size;omega) ⟨_,_,_,_,_,_,_,_,_,b4,HO.out.turn Q4.out (by decide) t4⟩;refine hdo.mono ?_;rintro e w5 ⟨hF,hc⟩;have hF':ac_ w.heap.size (B+4) w w5:=kW4.trans ⟨hF.os,hF.tape,hF.output,hF.size,fun k h1 h2=>hF.block k (by have:=K2.out.size;omega) h2⟩;have HF:=hidI hF';clear z0 z1 z2 z3 z4 z5 z6 z7 f0 f1 f2 f3 f4 f5 f6 f7 c2
  rcases hc with ⟨hne,rfl⟩ | ⟨rfl,rfl,hbx⟩
  ·unfold panE;exact ⟨rfl,by rw [cO_ hne];rfl,HF.out.size,fun k h1 h2 _=>HF.out.block k h1 h2,HF.out.os,HF.out.tape,HF.out.output,fun h=>absurd h hne⟩
  ·have q5:w5.heap[B+5]? = _:=(HF.out.block (B+5) (by omega) (by omega)).trans X5.out;have Q5:=hidI q5;have HBX:=hidI hbx;have c0:=coc_ q5 0;simp at c0;have f0:=foc_ q5 0;clear q5 hbx hF hF' hdo;go_wp2_with fail
   go_end0
   have hT5:=sct_ w5 (B+5) 0 (.int .i64 N);refine ⟨by rw [b8_];rfl,Nat.le_trans HF.out.size hT5.size,fun k h1 h2 h3=>(hT5.block k (by have:=HF.out.size;omega) h3).trans (HF.out.block k h1 h2),HF.out.os,HF.out.tape,HF.out.output,⟨w2.heap.size,K2.out.size,?_⟩,?_⟩
   ·obtain ⟨e1,e2,e3,i1,j1,i2,j2,i3,j3,hh,ho⟩:=HBX.out;exact ⟨e1,e2,e3,i1,j1,i2,j2,i3,j3,(hT5.block _ (lth_ hh) (by omega)).trans hh,ho.turn Q5.out (by decide) hT5⟩
   ·exact scb_ Q5.out (j:=0) (.int .i64 N)
 ·have HZ:=hidI hz;have hE:E = E0:=by rw [HEE.out (by rw [← HE0.out];exact hz),HE0.out]
  go_wp2_with (go_at_call 47;refine (dw_ E0 _ _ (aP_ _ _ _) (by simp) HZ.out).mono ?_;rintro e w2 ⟨rfl,hB2⟩)
  have k2:=k1'.trans (hB2.mono s1');subst hE;exact ⟨rfl,by rw [cO_ HZ.out];rfl,k2.size,fun k h1 _ _=>k2.block k h1,k2.os,k2.tape,k2.output,fun h=>absurd h HZ.out⟩
theorem aD_:∀ (os:List Obj) (w:World),(os.foldl World.alloc w).heap.size = w.heap.size+os.length∧(∀ i o,os[i]? = some o→(os.foldl World.alloc w).heap[w.heap.size+i]? = some o)∧Below w.heap.size w (os.foldl World.alloc w)
 | [],w=>⟨by simp,fun i o h=>by simp at h,Below.refl _ _⟩
 | x :: r, w => by
   obtain ⟨h1,h2,h3⟩:=aD_ r (w.alloc x);rw [List.foldl_cons];have hb:Below w.heap.size w (w.alloc x):=(Below.refl _ _).alloc (Nat.le_refl _) _;refine ⟨by rw [h1,World.size_alloc,List.length_cons];omega,fun i o ho=>?_,hb.trans (h3.mono (by simp))⟩;cases i with
   | zero =>
     simp at ho;subst ho;rw [Nat.add_zero,h3.block _ (by simp)];exact World.alloc_heap_new w _
   | succ i =>
     have:=h2 i o (by simpa using ho);rw [World.size_alloc] at this;rw [show w.heap.size+(i+1) = w.heap.size+1+i by omega];exact this
theorem eU_ (p:ad_) (a1 a2 a3:Option Addr) (n1 c1 n2 c2 n3 c3:Nat) (s:ab_) (b1 b2 b3:Option Addr) (m1 d1 m2 d2 m3 d3:Nat) (f:FuncId) (hf:Goes f) (cap:Array Value) (E N:Int) (S':ab_) (w:World) (hp:ap_ w a1 a2 a3 n1 n2 n3 p) (hs:an_ w b1 b2 b3 m1 m2 m3 s) (hn2:b2 = none→d2 = 0) (hn3:b3 = none→d3 = 0) (hE0:stE p s≠0→E = stE p s) (hdo:stE p s = 0→Does f cap w s E N S') :
 Calls Tryz.prog 72 #[.agg #[.slice a1 n1 c1,.slice a2 n2 c2,.slice a3 n3 c3],.agg #[.slice b1 m1 d1,.slice b2 m2 d2,.slice b3 m3 d3,.int .i64 s.nextSeq,.int .i64 s.nextTag,.int .i64 s.came,.int .i64 s.acked,.int .i64 s.dropped],.func (.func f) #[] cap] w fun e w'=>∃ v,e = .returned (.tuple #[v,.int .i64 (if E = 0 then N else 0),.int .i64 E])∧bn_ w' w.heap.size v E S'∧Below w.heap.size w w':=by
 obtain ⟨hz6,hg6,hB6⟩:=aD_ [.cells #[.slice a1 n1 c1,.slice a2 n2 c2,.slice a3 n3 c3] 26,.cells #[.slice b1 m1 d1,.slice b2 m2 d2,.slice b3 m3 d3,.int .i64 s.nextSeq,.int .i64 s.nextTag,.int .i64 s.came,.int .i64 s.acked,.int .i64 s.dropped] 31,.cells #[.func (.func f) #[] cap] 108,.cells #[.slice none 0 0,.slice none 0 0,.slice none 0 0,.int .i64 0,.int .i64 0,.int .i64 0,.int .i64 0,.int .i64 0] 31,.cells #[.slice none 0 0,.slice none 0 0,.slice none 0 0,.int .i64 0,.int .i64 0,.int .i64 0,.int .i64 0,.int .i64 0] 31,.cells #[.int .i64 0] 3] w;obtain ⟨W6,hW6⟩:∃ W6,W6 = List.foldl World.alloc w [.cells #[.slice a1 n1 c1,.slice a2 n2 c2,.slice a3 n3 c3] 26,.cells #[.slice b1 m1 d1,.slice b2 m2 d2,.slice b3 m3 d3,.int .i64 s.nextSeq,.int .i64 s.nextTag,.int .i64 s.came,.int .i64 s.acked,.int .i64 s.dropped] 31,.cells #[.func (.func f) #[] cap] 108,.cells #[.slice none 0 0,.slice none 0 0,.slice none 0 0,.int .i64 0,.int .i64 0,.int .i64 0,.int .i64 0,.int .i64 0] 31,.cells #[.slice none 0 0,.slice none 0 0,.slice none 0 0,.int .i64 0,.int .i64 0,.int .i64 0,.int .i64 0,.int .i64 0] 31,.cells #[.int .i64 0] 3]:=⟨_,rfl⟩
 rw [← hW6] at hz6 hg6 hB6;have x0:=hg6 0 _ rfl;have x1:=hg6 1 _ rfl;have x2:=hg6 2 _ rfl;have x3:=hg6 3 _ rfl;have x4:=hg6 4 _ rfl;have x5:=hg6 5 _ rfl;have hz6':W6.heap.size = w.heap.size+6:=by rw [hz6];rfl
 have l7:Below W6.heap.size W6 (W6.alloc (.cells #[.int .i64 0] 33)):=(Below.refl _ _).alloc (Nat.le_refl _) _;have x6:=World.alloc_heap_new W6 (.cells #[.int .i64 0] 33);have T1:=mK_ p a1 a2 a3 n1 c1 n2 c2 n3 c3 s b1 b2 b3 m1 d1 m2 d2 m3 d3 f hf cap w E N S' hE0 hdo w.heap.size (Nat.le_refl _) (W6.alloc (.cells #[.int .i64 0] 33)) (hB6.trans (l7.mono hB6.size)) (by rw [World.size_alloc];omega) ((hp.keep hB6).keep l7) ((hs.keep hB6).keep l7) hn2 hn3 (pkp_ x0 l7) (pkp_ x1 l7) (pkp_ x2 l7) (pkp_ x4 l7) (pkp_ x5 l7);have TR:=eV_ 125 (fun _ _=>rfl) #[.pointer (some ⟨w.heap.size,0,none⟩),.pointer (some ⟨w.heap.size+1,0,none⟩),.pointer (some ⟨w.heap.size+4,0,none⟩),.pointer (some ⟨w.heap.size+2,0,none⟩),.pointer (some ⟨w.heap.size+5,0,none⟩)]
  (fun D w1=>D = E∧W6.heap.size+1≤w1.heap.size∧(∀ k,k < W6.heap.size+1→k≠w.heap.size+4→k≠w.heap.size+5→w1.heap[k]? = (W6.alloc (.cells #[.int .i64 0] 33)).heap[k]?)∧w1.os = w.os∧w1.tape = w.tape∧w1.output = w.output∧(E = 0→(∃ n,W6.heap.size+1≤n∧StBox w1 n (w.heap.size+4) S')∧w1.heap[w.heap.size+5]? = some (.cells #[.int .i64 N] 3 (0,0)))) W6
  (T1.mono (by
   rintro e w' ⟨rfl,g1,g2,g3,g4,g5,g6⟩;rw [World.size_alloc] at g1 g2 g6;exact ⟨E,rfl,⟨rfl,g1,g2,g3.trans hB6.os,g4.trans hB6.tape,g5.trans hB6.output,g6⟩,(g2 _ (Nat.lt_succ_self _) (by omega) (by omega)).trans x6⟩))
 have HW6:Hid (W6 = ((((((w.alloc (.cells #[.slice a1 n1 c1,.slice a2 n2 c2,.slice a3 n3 c3] 26)).alloc (.cells #[.slice b1 m1 d1,.slice b2 m2 d2,.slice b3 m3 d3,.int .i64 s.nextSeq,.int .i64 s.nextTag,.int .i64 s.came,.int .i64 s.acked,.int .i64 s.dropped] 31)).alloc (.cells #[.func (.func f) #[] cap] 108)).alloc (.cells #[.slice none 0 0,.slice none 0 0,.slice none 0 0,.int .i64 0,.int .i64 0,.int .i64 0,.int .i64 0,.int .i64 0] 31)).alloc (.cells #[.slice none 0 0,.slice none 0 0,.slice none 0 0,.int .i64 0,.int .i64 0,.int .i64 0,.int .i64 0,.int .i64 0] 31)).alloc (.cells #[.int .i64 0] 3))):=hW6;have HTR:=hidI TR;have HB6:=hidI hB6;have X3:=hidI x3;have HZ6:=hidI hz6';have hmf:∀ (fn:Fn) (first cap:Array Value) (w:World),(Instr.makeFunc fn first cap).run Tryz.prog w = .ok (.func fn first cap) w:=fun _ _ _ _=>rfl
 clear T1 TR hW6 hz6 hz6' hg6 hB6 x0 x1 x2 x3 x4 x5 x6 l7 hE0 hdo hf hp hs hn2 hn3;go_enter Tryz.func72,Tryz.ntmps72;go_wp2_with fail
 rw [← HW6.out];refine HTR.out.mono ?_;rintro e w7 ⟨D,w1,rfl,⟨rfl,g1,g2,g3,g4,g5,g6⟩,hb,rfl⟩;have r1:w1.heap[w.heap.size+3]? = _:=(g2 _ (by have:=HZ6.out;omega) (by omega) (by omega)).trans (((Below.refl W6.heap.size W6).alloc (Nat.le_refl _) (.cells #[.int .i64 0] 33)).block _ (by have:=HZ6.out;omega) |>.trans X3.out);have t7:=sct_ w1 W6.heap.size 0 (.int .i64 D);have r7:=(t7.block _ (lth_ r1) (by have:=HZ6.out;omega)).trans r1;generalize hw7:w1.setCell ⟨W6.heap.size,0,none⟩ (.int .i64 D) = w7 at t7 r7;have hB7:Below w.heap.size w w7:=by
  refine ⟨t7.os.trans g3,t7.tape.trans g4,t7.output.trans g5,?_,fun k hk=>?_⟩
  ·have:=t7.size;have:=HZ6.out;omega
  ·rw [t7.block k (by have:=HZ6.out;omega) (by have:=HZ6.out;omega),g2 k (by have:=HZ6.out;omega) (by omega) (by omega),Below.heap_alloc _ _ _ (by have:=HZ6.out;omega),HB6.out.block k hk]
 have HB7:=hidI hB7;have R7:=hidI r7;obtain ⟨x0,x1,x2,x3,x4,x5,x6,x7⟩:=aa_ r7;have e0:=foc_ r7 0;have e1:=foc_ r7 1;have e2:=foc_ r7 2;have e3:=foc_ r7 3;have e4:=foc_ r7 4;have e5:=foc_ r7 5;have e6:=foc_ r7 6;have e7:=foc_ r7 7;by_cases hD:D = 0
 ·subst hD;obtain ⟨⟨n,hn,g1',g2',g3',l1,r1',l2,r2,l3,r3,hbx,ho⟩,hnb⟩:=g6 rfl;have hbx7:=(t7.block _ (lth_ hbx) (by have:=HZ6.out;omega)).trans hbx;have hnb7:=(t7.block _ (lth_ hnb) (by have:=HZ6.out;omega)).trans hnb;have ho7:=ho.turn hb (by decide) t7;have HO7:=hidI ho7;obtain ⟨y0,y1,y2,y3,y4,y5,y6,y7⟩:=aa_ hbx7;have cn:=coc_ hnb7 0;simp at cn;have HN:=hidI hn;clear g1 g2 g3 g4 g5 g6 hb r1 t7 r7 hw7 hB7 hbx hnb ho hbx7 hnb7 ho7 hn;go_wp2_with fail
  go_region
  generalize hW4:World.setCell (World.setCell (World.setCell (World.setCell (World.setCell (World.setCell (World.setCell (World.setCell _ _ _) _ _) _ _) _ _) _ _) _ _) _ _) _ _ = W4;obtain ⟨b4,t4⟩:=store8 R7.out hW4;obtain ⟨z0,z1,z2,z3,z4,z5,z6,z7⟩:=aa_ b4;go_wp2_with fail
  exact bodyPost_ret (v:=.tuple #[.agg #[.slice g1' l1 r1',.slice g2' l2 r2,.slice g3' l3 r3,.int .i64 S'.nextSeq,.int .i64 S'.nextTag,.int .i64 S'.came,.int .i64 S'.acked,.int .i64 S'.dropped],.int .i64 N,.int .i64 0]) (by simp [results,Tryz.results72,go_sem,z0,z1,z2,z3,z4,z5,z6,z7]) rfl ⟨_,by first | rfl | rw [if_pos rfl],⟨fun _=>⟨_,_,_,_,_,_,_,_,_,rfl,((HO7.out.turn R7.out (by decide) t4).lower (by have:=HN.out;have:=HZ6.out;omega)).keep (Below.refl _ _).drew⟩,fun h=>absurd rfl h⟩,HB7.out.trans (t4.below (by have:=HB7.out.size;omega) (by omega)).drew⟩
 ·have hD':(D != 0) = true:=bne_iff_ne.2 hD;have HDN:=hidI hD;clear g1 g2 g3 g4 g5 g6 hb r1 t7 r7 hw7 hB7 hD;go_wp2_with fail
  generalize hW4:World.setCell (World.setCell (World.setCell (World.setCell (World.setCell (World.setCell (World.setCell (World.setCell w7 _ _) _ _) _ _) _ _) _ _) _ _) _ _) _ _ = W4;obtain ⟨b4,t4⟩:=store8 R7.out hW4;obtain ⟨z0,z1,z2,z3,z4,z5,z6,z7⟩:=aa_ b4;exact bodyPost_ret (v:=.tuple #[zerS,.int .i64 0,.int .i64 D]) (by simp [results,Tryz.results72,go_sem,z0,z1,z2,z3,z4,z5,z6,z7,zerS]) rfl ⟨zerS,by first | rfl | rw [if_neg HDN.out],⟨fun h=>absurd h HDN.out,fun _=>rfl⟩,HB7.out.trans (t4.below (by have:=HB7.out.size;omega) (by omega))⟩
structure iJ_ (ts:List aj_) (nt:Int) (o:OutD):Prop where
 tag:o.tag < nt
 rng:0≤o.taker∧o.taker < ts.length
 tk:∃ t,ts[o.taker.toNat]? = some t∧t.queue≠-1∧t.queue = o.queue
 item:am_ o.item = true
theorem l2_ {ts:List aj_} {nt l:Int} {o:OutD}:cI_ ts nt l o = true↔l < o.tag∧iJ_ ts nt o:=by
 unfold cI_;simp only [Bool.and_eq_true,decide_eq_true_eq];constructor
 ·rintro ⟨⟨⟨⟨h1,h2⟩,h3⟩,h4⟩,h5⟩;refine ⟨h1,h2,aB_.1 h3,?_,h5⟩;cases ht:ts[o.taker.toNat]? with
  | none=>rw [ht] at h4;cases h4
  | some t=>rw [ht] at h4;simp only [Bool.and_eq_true,decide_eq_true_eq] at h4;exact ⟨t,rfl,h4.1,h4.2⟩
 ·rintro ⟨h1,h2⟩;refine ⟨⟨⟨⟨h1,h2.tag⟩,aB_.2 h2.rng⟩,?_⟩,h2.item⟩;obtain ⟨t,ht,h3,h4⟩:=h2.tk;rw [ht];simp only [Bool.and_eq_true,decide_eq_true_eq];exact ⟨h3,h4⟩
theorem bB_ {ts:List aj_} {nt:Int}:∀ {xs:List OutD} {l:Int},ao_ ts nt l xs = true↔(∀ o ∈ xs,l < o.tag∧iJ_ ts nt o)∧xs.Pairwise (fun a b=>a.tag < b.tag)
 | [],l=>by simp [ao_]
 | x :: r, l => by
   unfold ao_;rw [Bool.and_eq_true,l2_,bB_];constructor
   ·rintro ⟨h1,h2,h3⟩;refine ⟨fun o ho=>?_,List.pairwise_cons.2 ⟨fun b hb=>(h2 b hb).1,h3⟩⟩;rcases List.mem_cons.1 ho with rfl | ho
    ·exact h1
    ·have:=h2 o ho;exact ⟨by have:=h1.1;omega,this.2⟩
   ·rintro ⟨h1,h2⟩;obtain ⟨h3,h4⟩:=List.pairwise_cons.1 h2;exact ⟨h1 x List.mem_cons_self,fun o ho=>⟨h3 o ho,(h1 o (List.mem_cons_of_mem _ ho)).2⟩,h4⟩
theorem ak_.fine {p:ad_} {s:ab_} {n:Int} (h:ak_ p s n) {o:OutD} (ho:o ∈ s.outs):0≤o.tag∧iJ_ s.takers s.nextTag o:=by
 have:=(bB_.1 h.outs).1 o ho;exact ⟨by omega,this.2⟩
theorem ak_.rise {p:ad_} {s:ab_} {n:Int} (h:ak_ p s n):s.outs.Pairwise (fun a b=>a.tag < b.tag):=(bB_.1 h.outs).2
theorem ct_ {nq:Nat} {t:aj_}:aI_ nq t = true↔(t.queue = -1∨0≤t.queue∧t.queue < nq)∧1≤t.most∧t.most≤4:=by
 unfold aI_ ar_;simp
theorem lw_ (s:ab_) (o:OutD) (t:Int):heldN { s with outs:=s.outs ++ [o] } t = heldN s t+if o.taker = t then 1 else 0:=by
 unfold heldN;simp only;rw [List.filter_append];by_cases h:o.taker = t <;> simp [h]
def goneIdx (ts:List aj_):Nat:=ts.findIdx (fun t=>decide (t.queue = -1))
def hs_ (nq:Nat) (s:ab_) (q most:Int):Int:=if ar_ q nq = false then 5 else if inR most 1 4 = false then 3 else if goneIdx s.takers = s.takers.length∧4≤s.takers.length then 2 else 0
def dn_ (p:ad_) (s:ab_) (q most:Int):Int:=if stE p s≠0 then stE p s else hs_ p.queues.length s q most
def dU_ (ts:List aj_) (q most:Int):List aj_:=if goneIdx ts < ts.length then ts.set (goneIdx ts) ⟨q,most⟩ else ts ++ [⟨q,most⟩]
def dT_ (s:ab_) (q most:Int):ab_:={ s with takers:=dU_ s.takers q most }
theorem e3_ (ts:List aj_):goneIdx ts≤ts.length:=List.findIdx_le_length
theorem kn_ {ts:List aj_} (h:goneIdx ts < ts.length):ts[goneIdx ts].queue = -1:=by
 have:=List.findIdx_getElem (w:=h) (p:=fun t:aj_=>decide (t.queue = -1));exact of_decide_eq_true this
theorem eG_ (ts:List aj_) (q most:Int):(dU_ ts q most).length = if goneIdx ts < ts.length then ts.length else ts.length+1:=by
 unfold dU_;split <;> simp
theorem f2_ {ts:List aj_} {q most:Int} {i:Nat} (hi:i≠goneIdx ts) (hl:i < ts.length):(dU_ ts q most)[i]? = ts[i]?:=by
 unfold dU_;split
 ·rw [List.getElem?_set,if_neg (fun e=>hi e.symm)]
 ·rw [List.getElem?_append_left hl]
theorem if_ (ts:List aj_) (q most:Int):(dU_ ts q most)[goneIdx ts]? = some ⟨q,most⟩:=by
 unfold dU_;split
 ·rename_i h;rw [List.getElem?_set,if_pos rfl,if_pos h]
 ·rename_i h;have:=e3_ ts;have e:goneIdx ts = ts.length:=by omega
  rw [e,List.getElem?_append_right (Nat.le_refl _)];simp
theorem f6_ {p:ad_} {s:ab_} {n:Int} (h:ak_ p s n) {o:OutD} (ho:o ∈ s.outs):o.taker.toNat≠goneIdx s.takers∧o.taker.toNat < s.takers.length:=by
 obtain ⟨_,hf⟩:=h.fine ho;obtain ⟨t,ht,h1,h2⟩:=hf.tk;have hr:=hf.rng;refine ⟨fun e=>?_,by omega⟩;have hl:goneIdx s.takers < s.takers.length:=by omega
 rw [e,List.getElem?_eq_getElem hl] at ht;have:=kn_ hl;cases ht;exact h1 this
theorem hq_ {p:ad_} {s:ab_} {n:Int} (h:ak_ p s n):heldN s (goneIdx s.takers:Nat) = 0:=by
 unfold heldN;rw [List.length_eq_zero_iff,List.filter_eq_nil_iff];intro o ho e;have e':o.taker = (goneIdx s.takers:Nat):=by simpa using e
 have:=(f6_ h ho).1;rw [e'] at this;simp at this
theorem ak_.join {p:ad_} {s:ab_} (h:ak_ p s 0) {q most:Int} (hq:ar_ q p.queues.length = true) (hm:inR most 1 4 = true) (hk:¬ (goneIdx s.takers = s.takers.length∧4≤s.takers.length)):ak_ p (dT_ s q most) 0:=by
 have hq':=aB_.1 hq;have hm':1≤most∧most≤4:=by unfold inR at hm;simpa using hm
 have hg:=e3_ s.takers;refine ⟨h.pl,?_,h.len,h.line,?_,?_,h.ns,h.nt,h.ak,h.dr,h.nodup,h.lt,h.room,?_,h.sum,h.cs⟩
 ·show (dU_ s.takers q most).length≤4;rw [eG_];have:=h.tk;split <;> omega
 ·intro t ht;have ht':t ∈ dU_ s.takers q most:=ht;obtain ⟨i,hi,rfl⟩:=List.mem_iff_getElem.1 ht';by_cases e:i = goneIdx s.takers
  ·have:=if_ s.takers q most;rw [← e,List.getElem?_eq_getElem hi] at this;rw [Option.some.inj this];exact ct_.2 ⟨.inr hq',hm'⟩
  ·have hl:i < s.takers.length:=by
    rw [eG_] at hi;split at hi <;> omega
   have:=f2_ (q:=q) (most:=most) e hl;rw [List.getElem?_eq_getElem hi,List.getElem?_eq_getElem hl] at this;rw [Option.some.inj this];exact h.tok _ (List.getElem_mem hl)
 ·refine bB_.2 ⟨fun o ho=>?_,h.rise⟩;obtain ⟨h1,h2⟩:=h.fine ho;obtain ⟨g1,g2⟩:=f6_ h ho;refine ⟨by omega,h2.tag,?_,?_,h2.item⟩
  ·have:=h2.rng;show 0≤o.taker∧o.taker < ((dU_ s.takers q most).length:Nat);rw [eG_];split <;> omega
  ·show ∃ t,(dU_ s.takers q most)[o.taker.toNat]? = some t∧_
   rw [f2_ g1 g2];exact h2.tk
 ·intro k hk';show (heldN s k:Int)≤((dU_ s.takers q most).getD k ⟨0,0⟩).most;rw [List.getD_eq_getElem?_getD];by_cases e:k = goneIdx s.takers
  ·subst e;rw [if_,hq_ h];simp;omega
  ·have hl:k < s.takers.length:=by
    have hk2:k < (dU_ s.takers q most).length:=hk';rw [eG_] at hk2;split at hk2 <;> omega
   rw [f2_ e hl];have:=h.hold k hl;rw [List.getD_eq_getElem?_getD] at this;exact this
def tAt (s:ab_) (k:Nat):aj_:=s.takers.getD k ⟨0,0⟩
def cH_ (s:ab_) (q:Int) (k:Nat):Bool:=decide ((tAt s k).queue = q) && decide ((heldN s k:Int) < (tAt s k).most)
def lbTo (s:ab_) (q:Int):Nat→Int × Int
 | 0=>(-1,4)
 | k+1=>if cH_ s q k = true∧(heldN s k:Int) < (lbTo s q k).2 then ((k:Int),(heldN s k:Int)) else lbTo s q k
def ce_ (s:ab_) (q:Int):Int:=(lbTo s q s.takers.length).1
def dc_ (p:ad_) (s:ab_) (q:Int):Int:=
 if stE p s≠0 then stE p s else if ar_ q p.queues.length = false then 5 else if af_ s q.toNat = [] then 8 else if ce_ s q = -1 then 9 else 0
structure Least (s:ab_) (q:Int) (n k:Nat):Prop where
 lt:k < n
 free:cH_ s q k = true
 few:heldN s k < 4
 least:∀ j,j < n→cH_ s q j = true→heldN s k≤heldN s j
 first:∀ j,j < k→cH_ s q j = true→heldN s k < heldN s j
theorem oa_ (s:ab_) (q:Int):∀ n,(lbTo s q n = (-1,4)∧∀ j,j < n→cH_ s q j = true→4≤heldN s j)∨∃ k:Nat,lbTo s q n = ((k:Int),(heldN s k:Int))∧Least s q n k
 | 0=>.inl ⟨rfl,fun j hj=>by omega⟩
 | n + 1 => by
   rcases oa_ s q n with ⟨h1,h2⟩ | ⟨k,h1,h2⟩
   ·unfold lbTo;rw [h1];split
    ·rename_i hc;have hc2:(heldN s n:Int) < 4:=hc.2;exact .inr ⟨n,rfl,by omega,hc.1,by omega,fun j hj hf=>by
      by_cases e:j = n
      ·subst e;omega
      ·have:=h2 j (by omega) hf;omega,fun j hj hf=>by have:=h2 j hj hf;omega⟩
    ·rename_i hc;exact .inl ⟨rfl,fun j hj hf=>by
      by_cases e:j = n
      ·subst e;apply Classical.byContradiction
       intro hlt;exact hc ⟨hf,by show (heldN s j:Int) < 4;omega⟩
      ·exact h2 j (by omega) hf⟩
   ·unfold lbTo;rw [h1];split
    ·rename_i hc;have hc2:(heldN s n:Int) < (heldN s k:Int):=hc.2;have:=h2.few;exact .inr ⟨n,rfl,by omega,hc.1,by omega,fun j hj hf=>by
      by_cases e:j = n
      ·subst e;omega
      ·have:=h2.least j (by omega) hf;omega,fun j hj hf=>by have:=h2.least j hj hf;omega⟩
    ·rename_i hc;exact .inr ⟨k,rfl,by have:=h2.lt;omega,h2.free,h2.few,fun j hj hf=>by
      by_cases e:j = n
      ·subst e;apply Classical.byContradiction
       intro hlt;exact hc ⟨hf,by show (heldN s j:Int) < (heldN s k:Int);omega⟩
      ·exact h2.least j (by omega) hf,h2.first⟩
theorem ak_.few {p:ad_} {s:ab_} {n:Int} (h:ak_ p s n) {q:Int} {j:Nat} (hj:j < s.takers.length) (hf:cH_ s q j = true):heldN s j < 4:=by
 unfold cH_ tAt at hf;simp only [Bool.and_eq_true,decide_eq_true_eq] at hf;rw [List.getD_eq_getElem?_getD,List.getElem?_eq_getElem hj] at hf;have:=(ct_.1 (h.tok _ (List.getElem_mem hj))).2;have h2:=hf.2;simp only [Option.getD_some] at h2;omega
theorem jg_ {p:ad_} {s:ab_} {n:Int} (h:ak_ p s n) (q:Int):(ce_ s q = -1∧∀ j,j < s.takers.length→cH_ s q j = false)∨∃ k:Nat,ce_ s q = k∧Least s q s.takers.length k:=by
 rcases oa_ s q s.takers.length with ⟨h1,h2⟩ | ⟨k,h1,h2⟩
 ·refine .inl ⟨by unfold ce_;rw [h1],fun j hj=>?_⟩;rw [Bool.eq_false_iff];intro hf;have:=h.few hj hf;have:=h2 j hj hf;omega
 ·exact .inr ⟨k,by unfold ce_;rw [h1],h2⟩
theorem Least.uniq {s:ab_} {q:Int} {n k j:Nat} (h:Least s q n k) (g:Least s q n j):k = j:=by
 rcases Nat.lt_trichotomy k j with e | e | e
 ·have:=g.first k e h.free;have:=h.least j g.lt g.free;omega
 ·exact e
 ·have:=h.first j e g.free;have:=g.least k h.lt h.free;omega
def delE (p:ad_) (s:ab_) (q:Int):Int:=if dc_ p s q≠0 then dc_ p s q else if s.nextTag = 1048576 then 2 else 0
def iDef:ae_:=⟨0,⟨#[]⟩,⟨#[]⟩,false,0⟩
def delO (s:ab_) (q:Int):OutD:=⟨s.nextTag,ce_ s q,q,(af_ s q.toNat).headD iDef⟩
def delS (s:ab_) (q:Int):ab_:={ s with ready:=s.ready.set q.toNat (af_ s q.toNat).tail,outs:=s.outs ++ [delO s q],nextTag:=s.nextTag+1 }
structure Delivers (p:ad_) (s:ab_) (q:Int) (k:Nat) (x:ae_) (r:List ae_):Prop where
 right:ak_ p s 0
 q0:0≤q
 ql:q.toNat < s.ready.length
 line:af_ s q.toNat = x :: r
 key:ce_ s q = k
 least:Least s q s.takers.length k
 tag:s.nextTag < 1048576
theorem f5_ {p:ad_} {s:ab_} {q:Int} (h:dc_ p s q = 0):ak_ p s 0∧0≤q∧q < p.queues.length∧(∃ x r,af_ s q.toNat = x :: r)∧∃ k:Nat,ce_ s q = k∧Least s q s.takers.length k:=by
 unfold dc_ at h;by_cases h1:stE p s = 0
 ·rw [if_neg (by simp [h1])] at h;by_cases h2:ar_ q p.queues.length = false
  ·rw [if_pos h2] at h;cases h
  ·rw [if_neg h2] at h;by_cases h3:af_ s q.toNat = []
   ·rw [if_pos h3] at h;cases h
   ·rw [if_neg h3] at h;by_cases h4:ce_ s q = -1
    ·rw [if_pos h4] at h;cases h
    ·have hr:=aK_ h1;have hq:=aB_.1 (by simpa using h2);refine ⟨hr,hq.1,hq.2,?_,?_⟩
     ·cases hl:af_ s q.toNat with
      | nil=>exact absurd hl h3
      | cons x r=>exact ⟨x,r,rfl⟩
     ·rcases jg_ hr q with ⟨e,_⟩ | hk
      ·exact absurd e h4
      ·exact hk
 ·rw [if_pos h1] at h;exact absurd h h1
theorem m0_ {p:ad_} {s:ab_} {q:Int} (h:delE p s q = 0):∃ k x r,Delivers p s q k x r:=by
 unfold delE at h;by_cases h1:dc_ p s q = 0
 ·rw [if_neg (by simp [h1])] at h;by_cases h2:s.nextTag = 1048576
  ·rw [if_pos h2] at h;cases h
  ·obtain ⟨hr,q0,q1,⟨x,r,hl⟩,k,hk,hL⟩:=f5_ h1;have:=hr.nt;exact ⟨k,x,r,hr,q0,by rw [hr.len];omega,hl,hk,hL,by omega⟩
 ·rw [if_pos h1] at h;exact absurd h h1
theorem Delivers.out {p:ad_} {s:ab_} {q:Int} {k:Nat} {x:ae_} {r:List ae_} (h:Delivers p s q k x r):delO s q = ⟨s.nextTag,(k:Int),q,x⟩:=by
 unfold delO;rw [h.key,h.line];rfl
theorem nx_ {p:ad_} {s:ab_} {q:Int} {k:Nat} {x:ae_} {r:List ae_} (h:Delivers p s q k x r):(as_ (delS s q)).Perm (as_ s):=by
 obtain ⟨A,B,h1,h2⟩:=hp_ (fun l=>l.map ae_.seq) h.ql r;have e:s.ready[q.toNat]'h.ql = x :: r:=by rw [← a3_ h.ql];exact h.line
 have e1:as_ s = A ++ (x.seq :: (r.map ae_.seq ++ (B ++ s.outs.map fun o=>o.item.seq))):=by
  unfold as_;rw [h1,e];simp only [List.map_cons,List.append_assoc,List.cons_append]
 have e2:as_ (delS s q) = A ++ (r.map ae_.seq ++ (B ++ s.outs.map fun o=>o.item.seq)) ++ [x.seq]:=by
  have:as_ (delS s q) = ((s.ready.set q.toNat (af_ s q.toNat).tail).flatMap fun l=>l.map ae_.seq) ++ (s.outs ++ [delO s q]).map fun o=>o.item.seq:=rfl
  rw [this,h.line,List.tail_cons,h2,h.out,List.map_append];simp only [List.map_cons,List.map_nil,List.append_assoc]
 rw [e1,e2];refine List.perm_append_comm.trans ?_;rw [List.singleton_append];exact List.perm_middle.symm
theorem Delivers.done {p:ad_} {s:ab_} {q:Int} {k:Nat} {x:ae_} {r:List ae_} (h:Delivers p s q k x r):ak_ p (delS s q) 0:=by
 have hR:=h.right;have hp:=nx_ h;have hlx:=hR.line _ (a7_ h.ql);rw [h.line] at hlx;obtain ⟨l1,l2⟩:=bv_.1 hlx;have hfree:=h.least.free;unfold cH_ at hfree;simp only [Bool.and_eq_true,decide_eq_true_eq] at hfree;have htk:s.takers[k]? = some (tAt s k):=by unfold tAt;rw [List.getD_eq_getElem?_getD,List.getElem?_eq_getElem h.least.lt];rfl
 have hkl:=h.least.lt;refine ⟨hR.pl,hR.tk,by simpa [delS] using hR.len,?_,hR.tok,?_,hR.ns,?_,hR.ak,hR.dr,hp.nodup_iff.2 hR.nodup,fun z hz=>hR.lt z (hp.mem_iff.1 hz),?_,?_,?_,hR.cs⟩
 ·intro l hl;rcases List.mem_or_eq_of_mem_set hl with h' | h'
  ·exact hR.line l h'
  ·rw [h',h.line,List.tail_cons];exact bv_.2 ⟨fun z hz=>l1 z (List.mem_cons_of_mem _ hz),(List.pairwise_cons.1 l2).2⟩
 ·show ao_ s.takers (s.nextTag+1) (-1) (s.outs ++ [delO s q]) = true;rw [h.out];refine bB_.2 ⟨fun o ho=>?_,?_⟩
  ·rcases List.mem_append.1 ho with ho | ho
   ·obtain ⟨g1,g2⟩:=hR.fine ho;exact ⟨by omega,by have:=g2.tag;omega,g2.rng,g2.tk,g2.item⟩
   ·rw [List.mem_singleton.1 ho];refine ⟨by have:=hR.nt;simp only;omega,by simp only;omega,by simp only;omega,⟨tAt s k,by simp only [Int.toNat_natCast];exact htk,by rw [hfree.1];have:=h.q0;omega,hfree.1⟩,l1 x List.mem_cons_self⟩
  ·rw [List.pairwise_append];exact ⟨hR.rise,by simp,fun a ha b hb=>by rw [List.mem_singleton.1 hb];exact (hR.fine ha).2.tag⟩
 ·show 0≤s.nextTag+1∧s.nextTag+1≤1048576;have:=hR.nt;have:=h.tag;omega
 ·intro j hj;have hj':j < s.ready.length:=by simpa [delS] using hj
  have:af_ (delS s q) j = if j = q.toNat then (af_ s q.toNat).tail else af_ s j:=gT_ (s:=s) h.ql (af_ s q.toNat).tail 0
  rw [this];split
  ·rename_i e;subst e;have:=hR.room q.toNat hj';rw [List.length_tail];omega
  ·exact hR.room j hj'
 ·intro j hj;show (heldN { s with outs:=s.outs ++ [delO s q] } j:Int)≤(s.takers.getD j ⟨0,0⟩).most;rw [lw_,h.out];by_cases e:k = j
  ·subst e;have:=hfree.2;unfold tAt at this;simp only [if_true];omega
  ·rw [if_neg (by simp only;omega)];exact hR.hold j hj
 ·show s.came = _;have:=hR.sum;rw [hp.length_eq];exact this
def aj_.val (x:aj_):Value:=.agg #[.int .i64 x.queue,.int .i64 x.most]
def OutD.val (o:OutD):Value:=.agg #[.int .i64 o.tag,.int .i64 o.taker,.int .i64 o.queue,.int .i64 o.item.seq,.string o.item.key,.string o.item.body,.bool o.item.again,.int .i64 o.item.deaths]
def idxF {α:Type} (P:α→Bool) (xs:List α):Int:=if xs.findIdx P < xs.length then (xs.findIdx P:Int) else -1
theorem fF_ {α:Type} {P:α→Bool} {xs:List α} {k:Nat} (hk:k < xs.length) (ha:∀ x ∈ xs.take k,P x = false) (hx:P xs[k] = true):idxF P xs = k:=by
 have e:xs.findIdx P = k:=by
  rw [List.findIdx_eq hk];exact ⟨hx,fun j hj=>ha _ (by rw [List.mem_take_iff_getElem];exact ⟨j,by omega,rfl⟩)⟩
 unfold idxF;rw [e,if_pos hk]
theorem fX_ {α:Type} {P:α→Bool} {xs:List α} (ha:∀ x ∈ xs,P x = false):idxF P xs = -1:=by
 have e:xs.findIdx P = xs.length:=List.findIdx_eq_length.2 ha;unfold idxF;rw [e,if_neg (Nat.lt_irrefl _)]
theorem gv_ (f:FuncId) (hf:Goes f) (cap:Array Value) (P:aj_→Bool) (xs:List aj_) (a:Option Addr) (n c:Nat) (w:World) (hn:xs.length = n) (hm:n≤100000000) (hp:cv_ w a xs)
 (hcl:∀ (x:aj_) (W:World),Below w.heap.size w W→Calls Tryz.prog f (#[x.val] ++ cap) W fun e w'=>e = .returned (.bool (P x))∧Below W.heap.size W w') :
 Calls Tryz.prog 75 #[.slice a n c,.func (.func f) #[] cap] w fun e w'=>e = .returned (.int .i64 (idxF P xs))∧Below w.heap.size w w':=by
 have HN:=hidI hn;have HP:=hidI hp;have HCL:=hidI hcl;have hf':∀ (args:Array Value) (w:World),Sem.run Tryz.prog (callFunc f args) w = .ok (.enter f args) w:=hf
 clear hn hp hcl hf;go_enter Tryz.func75,Tryz.ntmps75;go_wp2
 go_loopw [8] (fun i wr=>∃ (k:Nat),k≤n∧i = .int .i64 k∧(∀ x ∈ xs.take k,P x = false)∧Below w.heap.size w wr) (fun i _=>n - (intOf i).toNat)
 case atStart=>exact ⟨0,Nat.zero_le _,rfl,by simp,Below.refl _ _⟩
 case round=>
  obtain ⟨k,hk,rfl,ha,hBl⟩:=hrel;have HA:=hidI ha;have hBs:=hBl.size;clear ha;by_cases hlt:k < n
  ·have hkl:k < xs.length:=by rw [HN.out];exact hlt
   obtain ⟨g,o,rfl,hg,hc⟩:=(HP.out.keep hBl).get hkl;have HX:Hid (P xs[k] = true→idxF P xs = k):=fun h=>fF_ hkl HA.out h
   have HT:Hid (P xs[k] = false→∀ x ∈ xs.take (k+1),P x = false):=fun h x hx=>by
    rw [List.take_succ_eq_append_getElem hkl,List.mem_append,List.mem_singleton] at hx;rcases hx with hx | rfl
    ·exact HA.out x hx
    ·exact h
   have HCX:=hidI (HCL.out xs[k] wr hBl);obtain ⟨x,hxx⟩:∃ x,x = xs[k]:=⟨_,rfl⟩
   rw [← hxx] at hc HX HT HCX;obtain ⟨y,hy⟩:∃ y,y = P x:=⟨_,rfl⟩
   rw [← hy] at HX HT HCX;clear hxx hy HA;obtain ⟨c0,c1⟩:=hc;have j1:(0:Int)≤(k:Int):=by omega
   have j2:(k:Int) < n:=by omega
   cases y with
   | true =>
     go_wp2_with fail
     refine HCX.out.mono ?_;rintro e w2 ⟨rfl,hB2⟩;go_wp2_with fail
     go_ret
     exact ⟨au_ (HX.out (by first | rfl | trivial)).symm,hBl.trans (hB2.mono hBs)⟩
   | false =>
     go_wp2_with fail
     refine HCX.out.mono ?_;rintro e w2 ⟨rfl,hB2⟩;go_wp2_with fail
     go_roundw
     case rel=>exact ⟨k+1,by omega,by go_num,HT.out (by first | rfl | trivial),hBl.trans (hB2.mono hBs)⟩
     case measure=>simp [intOf];omega
  ·have HF:Hid (idxF P xs = -1):=fX_ (fun x hx=>HA.out x (by rw [List.take_of_length_le (by rw [HN.out];omega)];exact hx));go_wp2
   go_ret
   exact ⟨au_ HF.out.symm,hBl⟩
theorem ic_ (f:FuncId) (hf:Goes f) (cap:Array Value) (P:OutD→Bool) (xs:List OutD) (a:Option Addr) (n c:Nat) (w:World) (hn:xs.length = n) (hm:n≤100000000) (hp:eg_ w a xs)
 (hcl:∀ (x:OutD) (W:World),Below w.heap.size w W→Calls Tryz.prog f (#[x.val] ++ cap) W fun e w'=>e = .returned (.bool (P x))∧Below W.heap.size W w') :
 Calls Tryz.prog 145 #[.slice a n c,.func (.func f) #[] cap] w fun e w'=>e = .returned (.int .i64 (idxF P xs))∧Below w.heap.size w w':=by
 have HN:=hidI hn;have HP:=hidI hp;have HCL:=hidI hcl;have hf':∀ (args:Array Value) (w:World),Sem.run Tryz.prog (callFunc f args) w = .ok (.enter f args) w:=hf
 clear hn hp hcl hf;go_enter Tryz.func145,Tryz.ntmps145;go_wp2
 go_loopw [8] (fun i wr=>∃ (k:Nat),k≤n∧i = .int .i64 k∧(∀ x ∈ xs.take k,P x = false)∧Below w.heap.size w wr) (fun i _=>n - (intOf i).toNat)
 case atStart=>exact ⟨0,Nat.zero_le _,rfl,by simp,Below.refl _ _⟩
 case round=>
  obtain ⟨k,hk,rfl,ha,hBl⟩:=hrel;have HA:=hidI ha;have hBs:=hBl.size;clear ha;by_cases hlt:k < n
  ·have hkl:k < xs.length:=by rw [HN.out];exact hlt
   obtain ⟨g,o,rfl,hg,hc⟩:=(HP.out.keep hBl).get hkl;have HX:Hid (P xs[k] = true→idxF P xs = k):=fun h=>fF_ hkl HA.out h
   have HT:Hid (P xs[k] = false→∀ x ∈ xs.take (k+1),P x = false):=fun h x hx=>by
    rw [List.take_succ_eq_append_getElem hkl,List.mem_append,List.mem_singleton] at hx;rcases hx with hx | rfl
    ·exact HA.out x hx
    ·exact h
   have HCX:=hidI (HCL.out xs[k] wr hBl);obtain ⟨x,hxx⟩:∃ x,x = xs[k]:=⟨_,rfl⟩
   rw [← hxx] at hc HX HT HCX;obtain ⟨y,hy⟩:∃ y,y = P x:=⟨_,rfl⟩
   rw [← hy] at HX HT HCX;clear hxx hy HA;obtain ⟨c0,c1,c2,c3,c4,c5,c6,c7⟩:=hc;have j1:(0:Int)≤(k:Int):=by omega
   have j2:(k:Int) < n:=by omega
   cases y with
   | true =>
     go_wp2_with fail
     refine HCX.out.mono ?_;rintro e w2 ⟨rfl,hB2⟩;go_wp2_with fail
     go_ret
     exact ⟨au_ (HX.out (by first | rfl | trivial)).symm,hBl.trans (hB2.mono hBs)⟩
   | false =>
     go_wp2_with fail
     refine HCX.out.mono ?_;rintro e w2 ⟨rfl,hB2⟩;go_wp2_with fail
     go_roundw
     case rel=>exact ⟨k+1,by omega,by go_num,HT.out (by first | rfl | trivial),hBl.trans (hB2.mono hBs)⟩
     case measure=>simp [intOf];omega
  ·have HF:Hid (idxF P xs = -1):=fX_ (fun x hx=>HA.out x (by rw [List.take_of_length_le (by rw [HN.out];omega)];exact hx));go_wp2
   go_ret
   exact ⟨au_ HF.out.symm,hBl⟩
theorem fo_ (p:ad_) (a1 a2 a3:Option Addr) (n1 c1 n2 c2 n3 c3:Nat) (q:Int) (w:World) (hp:ap_ w a1 a2 a3 n1 n2 n3 p) :
 Calls Tryz.prog 102 #[.agg #[.slice a1 n1 c1,.slice a2 n2 c2,.slice a3 n3 c3],.int .i64 q] w fun e w'=>e = askE (if ar_ q n2 = false then 5 else 0)∧Below w.heap.size w w':=by
 obtain ⟨E,hE⟩:∃ E:Int,E = if ar_ q n2 = false then 5 else 0:=⟨_,rfl⟩
 rw [← hE];obtain ⟨W1,hW1,hBw,hs1,hbx⟩:=cr_ w (.slice a1 n1 c1) (.slice a2 n2 c2) (.slice a3 n3 c3) 26;have HW1:=hidI hW1;have HE:=hidI hE;have HS1:=hidI hs1;have s0:=hBw.size;obtain ⟨x0,x1,x2⟩:=hbx W1 (Below.refl _ _);clear hW1 hbx hE hs1;go_enter Tryz.func102,Tryz.ntmps102;go_wp2_with fail
 rw [← HW1.out];by_cases h:0≤q∧q < n2
 ·have HE0:Hid (E = 0):=by show E = 0;rw [HE.out,if_neg (by rw [aB_.2 h];decide)]
  refine (aF_ 5 [decide (q < 0),decide ((n2:Int)≤q)] _ _ (by simp) (bng_ W1 _ HS1.out.symm) (by simp;omega)).mono ?_;rintro e w2 ⟨rfl,rfl⟩;go_wp2_with fail
  go_end0
  exact ⟨by rw [HE0.out];rfl,hBw.trans ((Below.refl _ _).alloc s0 _)⟩
 ·have HE0:Hid (E = 5):=by show E = 5;rw [HE.out,if_pos (d6_.2 h)]
  refine (ax_ 5 [decide (q < 0),decide ((n2:Int)≤q)] _ _ (by simp) (bng_ W1 _ HS1.out.symm) (by simp;omega)).mono ?_;rintro e w2 ⟨rfl,rfl⟩;exact ⟨rfl,by rw [HE0.out];rfl,hBw.trans ((Below.refl _ _).alloc s0 _)⟩
end Go.Proofs.YtlbnkpicnokgoaaGreat
