import Derived.Test.YtlbnkpicnokgoaaGreatUhx
import Derived.Test.YtlbnkpicnokgoaaGreatCKa
import Derived.Deep.RegionHeld3
import Derived.Test.YtlbnkpicnokgoaaGreatUex
import Derived.Test.YtlbnkpicnokgoaaGreatUax
namespace Go.Proofs.YtlbnkpicnokgoaaGreat
open Go.RowKit Go.Maps
set_option linter.unusedVariables false
set_option maxRecDepth 100000
set_option maxHeartbeats 4000000
theorem ac_.next {R:Nat} {w w1 w2:World} (h:ac_ w.heap.size R w w1) (k:ac_ w1.heap.size R w1 w2):ac_ w.heap.size R w w2:=
 h.trans ⟨k.os,k.tape,k.output,k.size,fun i h1 h2=>k.block i (by have:=h.size;omega) h2⟩
theorem ac_.newer {R:Nat} {w w0 w1:World} (h:Below w.heap.size w w0) (k:ac_ w0.heap.size R w0 w1):ac_ w.heap.size R w w1:=
 (ac_.of_below h (Nat.le_refl _)).trans ⟨k.os,k.tape,k.output,k.size,fun i h1 h2=>k.block i (by have:=h.size;omega) h2⟩
theorem m9_ (s:ByteArray) (w:World):Calls Tryz.prog 112 #[.string s] w fun e w'=>e = .returned (.pointer (some ⟨w.heap.size,0,none⟩))∧cR_ w' w.heap.size s 0∧Below w.heap.size w w':=by
 go_enter Tryz.func112,Tryz.ntmps112;go_wp2_with fail
 go_ret
 exact ⟨rfl,World.alloc_heap_new w _,(Below.refl _ _).alloc (Nat.le_refl _) _⟩
theorem oy_ (s:ByteArray) (i R:Nat) (w:World) (h:cR_ w R s i):Calls Tryz.prog 114 #[.pointer (some ⟨R,0,none⟩)] w fun e w'=>e = .returned (.int .i64 i)∧w' = w:=by
 obtain ⟨c0,c1⟩:=h.cells;clear h;go_enter Tryz.func114,Tryz.ntmps114;go_wp2_with fail
 go_ret
 exact ⟨rfl,rfl⟩
def actT (x:ActD):List bi_:=[.num x.kind,.num x.a,.num x.b,.text x.key,.text x.body]
def rAct (s:ByteArray) (i:Nat):Option (ActD × Nat):=
 match rNum s i with
 | none=>none
 | some (a, j) => match rNum s j with
   | none=>none
   | some (b, k) => match rNum s k with
     | none=>none
     | some (c, m) => match rText s m with
       | none=>none
       | some (t, n) => match rText s n with
         | none=>none
         | some (u,e)=>some (⟨a,b,c,t,u⟩,e)
theorem cells5 {W:World} {B:Nat} {v0 v1 v2 v3 v4:Value} {T:TypeId} (h:W.heap[B]? = some (.cells #[v0,v1,v2,v3,v4] T (0,0))):W.cell? ⟨B,0,none⟩ = some v0∧W.cell? ⟨B,1,none⟩ = some v1∧W.cell? ⟨B,2,none⟩ = some v2∧W.cell? ⟨B,3,none⟩ = some v3∧W.cell? ⟨B,4,none⟩ = some v4:=
 ⟨coc_ h 0,coc_ h 1,coc_ h 2,coc_ h 3,coc_ h 4⟩
theorem store5 {W W':World} {B:Nat} {v0 v1 v2 v3 v4 u0 u1 u2 u3 u4:Value} {t:TypeId} (h:W.heap[B]? = some (.cells #[v0,v1,v2,v3,v4] t (0,0)))
 (hW:(((((W.setCell ⟨B,0,none⟩ u0).setCell ⟨B,1,none⟩ u1).setCell ⟨B,2,none⟩ u2).setCell ⟨B,3,none⟩ u3).setCell ⟨B,4,none⟩ u4) = W') :
 W'.heap[B]? = some (.cells #[u0,u1,u2,u3,u4] t (0,0))∧aZ_ B W W':=by
 subst hW;exact ⟨scb_ (scb_ (scb_ (scb_ (scb_ h (j:=0) u0) (j:=1) u1) (j:=2) u2) (j:=3) u3) (j:=4) u4,((((sct_ _ _ _ _).trans (sct_ _ _ _ _)).trans (sct_ _ _ _ _)).trans (sct_ _ _ _ _)).trans (sct_ _ _ _ _)⟩
theorem e8_ (x:ActD) (w:World) :
 Calls Tryz.prog 23 #[x.val] w fun e w'=>e = .returned (.tuple #[.string (putV (actT x)),.int .i64 (putE (actT x))])∧Below w.heap.size w w':=by
 obtain ⟨kd,ka,kb,ky,bd⟩:=x;obtain ⟨V,hV⟩:∃ V,V = putV (actT ⟨kd,ka,kb,ky,bd⟩):=⟨_,rfl⟩
 obtain ⟨E,hE⟩:∃ E,E = putE (actT ⟨kd,ka,kb,ky,bd⟩):=⟨_,rfl⟩
 obtain ⟨W2,hW2⟩:∃ W2,W2 = (w.alloc (.cells #[.int .i64 kd,.int .i64 ka,.int .i64 kb,.string ky,.string bd] 53)).alloc (.cells #[.iface 3 (.int .i64 kd),.iface 3 (.int .i64 ka),.iface 3 (.int .i64 kb),.iface 9 (.string ky),.iface 9 (.string bd)] 20):=⟨_,rfl⟩
 obtain ⟨hz2,hb1,hb2,hB2⟩:=cz_ w _ _ _ hW2;have HP:=hidI (oh_ (actT ⟨kd,ka,kb,ky,bd⟩) (some ⟨w.heap.size+1,0,none⟩) 5 5 W2 rfl (by omega) (.inr ⟨w.heap.size+1,0,rfl,by omega,fun j u hj=>by rw [Nat.zero_add,coc_ hb2,← hj,← List.getElem?_toArray];rfl⟩) (fun g o h=>by cases h;omega));have HW2:=hidI hW2;have HB2:=hidI hB2;have HV:=hidI hV;have HE:=hidI hE;rw [← hV,← hE];unfold ActD.val;dsimp only;clear hW2 hz2 hb1 hb2 hB2 hV hE;go_enter Tryz.func23,Tryz.ntmps23;go_wp2_with fail
 rw [← HW2.out];refine HP.out.mono ?_;rintro e w3 ⟨rfl,k3⟩;rw [← HV.out,← HE.out];go_wp2_with fail
 go_ret2
 exact ⟨rfl,HB2.out.trans (k3.mono HB2.out.size)⟩
theorem nX_ (s:ByteArray) (i R:Nat) (w:World) (hs:s.size≤1000000) (hi:i≤s.size) (hR:cR_ w R s i) :
 Calls Tryz.prog 153 #[.pointer (some ⟨R,0,none⟩)] w fun e w'=>ac_ w.heap.size R w w'∧ka_ R s ActD.val (rAct s i) e w':=by
 obtain ⟨res,hres⟩:∃ res,res = rAct s i:=⟨_,rfl⟩
 rw [← hres];unfold rAct at hres;obtain ⟨W1,hW1,hB1,hb1⟩:∃ W1,W1 = w.alloc (.cells #[.int .i64 0,.int .i64 0,.int .i64 0,.string ⟨#[]⟩,.string ⟨#[]⟩] 53)∧Below w.heap.size w W1∧W1.heap[w.heap.size]? = some (.cells #[.int .i64 0,.int .i64 0,.int .i64 0,.string ⟨#[]⟩,.string ⟨#[]⟩] 53 (0,0)):=⟨_,rfl,(Below.refl _ _).alloc (Nat.le_refl _) _,World.alloc_heap_new w _⟩
 have HW1:=hidI hW1;have HB1:=hidI hB1;have HBX:=hidI hb1;have hlt:=lth_ hR;have HC1:=hidI (d8_ s i R W1 hs hi (hR.keep hB1));have HRES:=hidI hres;clear hR hres hW1 hb1 hB1;go_enter Tryz.func153,Tryz.ntmps153;go_wp2_with fail
 rw [← HW1.out];refine HC1.out.mono ?_;rintro e w1 ⟨hF,hr1⟩;have HF1:=hidI hF;cases hn1:rNum s i with
 | none =>
   rw [hn1] at hr1;have e2:e = panE 1:=hr1;subst e2;exact ⟨rfl,ac_.newer HB1.out HF1.out,by rw [HRES.out];simp only [hn1];rfl⟩
 | some q =>
   obtain ⟨k1,j1⟩:=q;rw [hn1] at hr1;obtain ⟨rfl,hb1,hj1⟩:=hr1;have HC2:=hidI (d8_ s j1 R w1 hs hj1 hb1);clear hb1 hF;go_wp2_with fail
   refine HC2.out.mono ?_;rintro e w2 ⟨hF,hr2⟩;have HF2:=hidI (HF1.out.next hF);cases hn2:rNum s j1 with
   | none =>
     rw [hn2] at hr2;have e2:e = panE 1:=hr2;subst e2;exact ⟨rfl,ac_.newer HB1.out HF2.out,by rw [HRES.out];simp only [hn1,hn2];rfl⟩
   | some q =>
     obtain ⟨k2,j2⟩:=q;rw [hn2] at hr2;obtain ⟨rfl,hb2,hj2⟩:=hr2;have HC3:=hidI (d8_ s j2 R w2 hs hj2 hb2);clear hb2 hF;go_wp2_with fail
     refine HC3.out.mono ?_;rintro e w3 ⟨hF,hr3⟩;have HF3:=hidI (HF2.out.next hF);cases hn3:rNum s j2 with
     | none =>
       rw [hn3] at hr3;have e2:e = panE 1:=hr3;subst e2;exact ⟨rfl,ac_.newer HB1.out HF3.out,by rw [HRES.out];simp only [hn1,hn2,hn3];rfl⟩
     | some q =>
       obtain ⟨k3,j3⟩:=q;rw [hn3] at hr3;obtain ⟨rfl,hb3,hj3⟩:=hr3;have HC4:=hidI (j7_ s j3 R w3 hs hj3 hb3);clear hb3 hF;go_wp2_with fail
       refine HC4.out.mono ?_;rintro e w4 ⟨hF,hr4⟩;have HF4:=hidI (HF3.out.next hF);cases hn4:rText s j3 with
       | none =>
         rw [hn4] at hr4;have e2:e = panE 1:=hr4;subst e2;exact ⟨rfl,ac_.newer HB1.out HF4.out,by rw [HRES.out];simp only [hn1,hn2,hn3,hn4];rfl⟩
       | some q =>
         obtain ⟨t4,j4⟩:=q;rw [hn4] at hr4;obtain ⟨rfl,hb4,hj4⟩:=hr4;have HC5:=hidI (j7_ s j4 R w4 hs hj4 hb4);clear hb4 hF;go_wp2_with fail
         refine HC5.out.mono ?_;rintro e w5 ⟨hF,hr5⟩;have HF5:=hidI (HF4.out.next hF);cases hn5:rText s j4 with
         | none =>
           rw [hn5] at hr5;have e2:e = panE 1:=hr5;subst e2;exact ⟨rfl,ac_.newer HB1.out HF5.out,by rw [HRES.out];simp only [hn1,hn2,hn3,hn4,hn5];rfl⟩
         | some q =>
           obtain ⟨t5,j5⟩:=q;rw [hn5] at hr5;obtain ⟨rfl,hb5,hj5⟩:=hr5;have HB5:=hidI hb5;have HJ5:=hidI hj5;have b5:=(HF5.out.block w.heap.size (by rw [HW1.out];simp) (by omega)).trans HBX.out;obtain ⟨y0,y1,y2,y3,y4⟩:=cells5 b5;have f0:=foc_ b5 0;have f1:=foc_ b5 1;have f2:=foc_ b5 2;have f3:=foc_ b5 3;have f4:=foc_ b5 4;have X5:=hidI b5;clear hb5 hF b5;go_wp2_with fail
           generalize hW4:World.setCell (World.setCell (World.setCell (World.setCell (World.setCell w5 _ _) _ _) _ _) _ _) _ _ = W4;obtain ⟨b4,t4'⟩:=store5 X5.out hW4;obtain ⟨z0,z1,z2,z3,z4⟩:=cells5 b4;have hF0:=ac_.newer HB1.out HF5.out;have hFr:ac_ w.heap.size R w W4:=hF0.trans ⟨t4'.os,t4'.tape,t4'.output,t4'.size,fun k h1 h2=>t4'.block k (by have:=hF0.size;omega) (by omega)⟩;exact bodyPost_ret (v:=ActD.val ⟨k1,k2,k3,t4,t5⟩) (by simp [results,Tryz.results153,go_sem,z0,z1,z2,z3,z4,ActD.val]) rfl ⟨hFr,by rw [HRES.out];simp only [hn1,hn2,hn3,hn4,hn5];exact ⟨rfl,(t4'.block R (by have:=HF5.out.size;have:W1.heap.size = w.heap.size+1:=(by rw [HW1.out];simp);omega) (by omega)).trans HB5.out,HJ5.out⟩⟩
def actZ:ActD:=⟨0,0,0,⟨#[]⟩,⟨#[]⟩⟩
def bU_ (s:ByteArray) (i:Nat):ActD × Int:=match rAct s i with | none=>(actZ,1) | some (x,_)=>(x,0)
theorem k8_ (s:ByteArray) (i R B1 B4:Nat) (w:World) (hs:s.size≤1000000) (hi:i≤s.size) (hR:cR_ w R s i) (x1:w.heap[B1]? = some (.cells #[.pointer (some ⟨R,0,none⟩)] 138 (0,0))) (x4:w.heap[B4]? = some (.cells #[.int .i64 0,.int .i64 0,.int .i64 0,.string ⟨#[]⟩,.string ⟨#[]⟩] 53 (0,0))) (h4:B4≠R) (h1:B1≠R) :
 Calls Tryz.prog 152 #[.pointer (some ⟨B1,0,none⟩),.pointer (some ⟨B4,0,none⟩)] w fun e w'=>e = askE (bU_ s i).2∧w.heap.size≤w'.heap.size∧(∀ k,k < w.heap.size→k≠R→k≠B4→w'.heap[k]? = w.heap[k]?)∧w'.os = w.os∧w'.tape = w.tape∧w'.output = w.output∧w'.heap[B4]? = some (.cells #[.int .i64 (bU_ s i).1.kind,.int .i64 (bU_ s i).1.a,.int .i64 (bU_ s i).1.b,.string (bU_ s i).1.key,.string (bU_ s i).1.body] 53 (0,0))∧(∀ x j,rAct s i = some (x,j)→cR_ w' R s j∧j≤s.size):=by
 have HA:=hidI (nX_ s i R w hs hi hR);have c1:=coc_ x1 0;simp at c1;have X4:=hidI x4;have hl4:=lth_ x4;obtain ⟨wx,hwx⟩:∃ wx,wx = bU_ s i:=⟨_,rfl⟩
 have HWX:=hidI hwx;rw [← hwx];clear x1 x4 hR hwx;go_enter Tryz.func152,Tryz.ntmps152;go_wp2_with fail
 refine HA.out.mono ?_;rintro e w1 ⟨hF,hr⟩;have HF:=hidI hF;have b4:=(hF.block B4 hl4 h4).trans X4.out;cases hn:rAct s i with
 | none =>
   rw [hn] at hr;have e2:e = panE 1:=hr;subst e2;have hx:wx = (actZ,1):=by rw [HWX.out];unfold bU_;rw [hn]
   subst hx;unfold panE;exact ⟨rfl,rfl,HF.out.size,fun k h1 h2 _=>HF.out.block k h1 h2,HF.out.os,HF.out.tape,HF.out.output,b4,fun x j h=>by rw [hn] at h;cases h⟩
 | some q =>
   obtain ⟨x,j⟩:=q;rw [hn] at hr;obtain ⟨rfl,hb,hj⟩:=hr;have hx:wx = (x,0):=by rw [HWX.out];unfold bU_;rw [hn]
   subst hx;obtain ⟨kd,ka,kb,ky,bd⟩:=x;unfold ActD.val;dsimp only;obtain ⟨y0,y1,y2,y3,y4⟩:=cells5 b4;have f0:=foc_ b4 0;have f1:=foc_ b4 1;have f2:=foc_ b4 2;have f3:=foc_ b4 3;have f4:=foc_ b4 4;have BB:=hidI b4;have HB:=hidI hb;have HJ:=hidI hj;have HNS:=hidI hn;clear b4 hb hj hF c1 hn;go_wp2_with fail
   generalize hW4:World.setCell (World.setCell (World.setCell (World.setCell (World.setCell w1 _ _) _ _) _ _) _ _) _ _ = W4;obtain ⟨b5,t5⟩:=store5 BB.out hW4;go_end0
   exact ⟨by rw [b8_];rfl,Nat.le_trans HF.out.size t5.size,fun k h1 h2 h3=>(t5.block k (by have:=HF.out.size;omega) h3).trans (HF.out.block k h1 h2),by rw [t5.os,HF.out.os],by rw [t5.tape,HF.out.tape],by rw [t5.output,HF.out.output],b5,fun x' j' h=>by rw [HNS.out] at h;cases h;exact ⟨(t5.block R (lth_ HB.out) (fun e=>h4 e.symm)).trans HB.out,HJ.out⟩⟩
theorem mO_ (s:ByteArray) (i R:Nat) (w:World) (hs:s.size≤1000000) (hi:i≤s.size) (hR:cR_ w R s i) :
 Calls Tryz.prog 113 #[.pointer (some ⟨R,0,none⟩)] w fun e w'=>e = .returned (.tuple #[(bU_ s i).1.val,.int .i64 (bU_ s i).2])∧ac_ w.heap.size R w w'∧(∀ x j,rAct s i = some (x,j)→cR_ w' R s j∧j≤s.size):=by
 obtain ⟨hz,hg,hB⟩:=aD_ [.cells #[.pointer (some ⟨R,0,none⟩)] 138,.cells #[.int .i64 0,.int .i64 0,.int .i64 0,.string ⟨#[]⟩,.string ⟨#[]⟩] 53,.cells #[.int .i64 0,.int .i64 0,.int .i64 0,.string ⟨#[]⟩,.string ⟨#[]⟩] 53] w;obtain ⟨W3,hW3⟩:∃ W3,W3 = List.foldl World.alloc w [.cells #[.pointer (some ⟨R,0,none⟩)] 138,.cells #[.int .i64 0,.int .i64 0,.int .i64 0,.string ⟨#[]⟩,.string ⟨#[]⟩] 53,.cells #[.int .i64 0,.int .i64 0,.int .i64 0,.string ⟨#[]⟩,.string ⟨#[]⟩] 53]:=⟨_,rfl⟩
 rw [← hW3] at hz hg hB;have HW3:Hid (W3 = (((w.alloc (.cells #[.pointer (some ⟨R,0,none⟩)] 138)).alloc (.cells #[.int .i64 0,.int .i64 0,.int .i64 0,.string ⟨#[]⟩,.string ⟨#[]⟩] 53)).alloc (.cells #[.int .i64 0,.int .i64 0,.int .i64 0,.string ⟨#[]⟩,.string ⟨#[]⟩] 53))):=hW3;have hz3:W3.heap.size = w.heap.size+3:=by rw [hz];rfl
 have x0:=hg 0 _ rfl;have x1:=hg 1 _ rfl;have x2:=hg 2 _ rfl;have hlR:=lth_ hR;have l8:Below W3.heap.size W3 (W3.alloc (.cells #[.int .i64 0] 33)):=(Below.refl _ _).alloc (Nat.le_refl _) _;have x8:=World.alloc_heap_new W3 (.cells #[.int .i64 0] 33);have RD:=k8_ s i R w.heap.size (w.heap.size+2) (W3.alloc (.cells #[.int .i64 0] 33)) hs hi ((hR.keep hB).keep l8) (pkp_ x0 l8) (pkp_ x2 l8) (by omega) (by omega);have TR:=eV_ 152 (fun _ _=>rfl) #[.pointer (some ⟨w.heap.size,0,none⟩),.pointer (some ⟨w.heap.size+2,0,none⟩)]
  (fun D w1=>D = (bU_ s i).2∧W3.heap.size+1≤w1.heap.size∧(∀ k,k < W3.heap.size→k≠R→k≠w.heap.size+2→w1.heap[k]? = W3.heap[k]?)∧w1.os = w.os∧w1.tape = w.tape∧w1.output = w.output∧w1.heap[w.heap.size+2]? = some (.cells #[.int .i64 (bU_ s i).1.kind,.int .i64 (bU_ s i).1.a,.int .i64 (bU_ s i).1.b,.string (bU_ s i).1.key,.string (bU_ s i).1.body] 53 (0,0))∧(∀ x j,rAct s i = some (x,j)→cR_ w1 R s j∧j≤s.size)) W3
  (RD.mono (by
   rintro e w' ⟨g1,g2,g3,g4,g5,g6,g7,g8⟩;rw [World.size_alloc] at g2 g3;exact ⟨_,g1,⟨rfl,g2,fun k h1 h2 h3=>(g3 k (by omega) h2 h3).trans (Below.heap_alloc _ _ _ h1),g4.trans hB.os,g5.trans hB.tape,g6.trans hB.output,g7,g8⟩,(g3 W3.heap.size (Nat.lt_succ_self _) (by omega) (by omega)).trans x8⟩))
 obtain ⟨wx,hwx⟩:∃ wx,wx = bU_ s i:=⟨_,rfl⟩
 rw [← hwx] at TR ⊢;have HTR:=hidI TR;have X1:=hidI x1;have HZ3:=hidI hz3;have HB:=hidI hB;have hmf:∀ (fn:Fn) (first cap:Array Value) (w:World),(Instr.makeFunc fn first cap).run Tryz.prog w = .ok (.func fn first cap) w:=fun _ _ _ _=>rfl
 clear TR RD hW3 hz hz3 hg hB x0 x1 x2 x8 l8 hwx hR;go_enter Tryz.func113,Tryz.ntmps113;go_wp2_with fail
 rw [← HW3.out];refine HTR.out.mono ?_;rintro e w7 ⟨D,w1,rfl,⟨rfl,g2,g3,g4,g5,g6,g7,g8⟩,hb,rfl⟩;have hz3:=HZ3.out;have t7:=sct_ w1 W3.heap.size 0 (.int .i64 wx.2);generalize hw7:w1.setCell ⟨W3.heap.size,0,none⟩ (.int .i64 wx.2) = w7 at t7;have r7:=(t7.block (w.heap.size+1) (by omega) (by omega)).trans ((g3 (w.heap.size+1) (by omega) (by omega) (by omega)).trans X1.out);have q7:=(t7.block (w.heap.size+2) (lth_ g7) (by omega)).trans g7;have hF7:ac_ w.heap.size R w w7:=⟨t7.os.trans g4,t7.tape.trans g5,t7.output.trans g6,by have:=t7.size;omega,fun k h1 h2=>(t7.block k (by omega) (by omega)).trans ((g3 k (by omega) h2 (by omega)).trans (HB.out.block k h1))⟩;have hr7:∀ x j,rAct s i = some (x,j)→cR_ w7 R s j∧j≤s.size:=fun x j h=>⟨(t7.block R (by omega) (by omega)).trans (g8 x j h).1,(g8 x j h).2⟩
 have R7:=hidI r7;have HF7:=hidI hF7;have HR7:=hidI hr7;obtain ⟨⟨kd,ka,kb,ky,bd⟩,E⟩:=wx;dsimp only at q7 ⊢;obtain ⟨y0,y1,y2,y3,y4⟩:=cells5 q7;obtain ⟨z0,z1,z2,z3,z4⟩:=cells5 r7;have f0:=foc_ r7 0;have f1:=foc_ r7 1;have f2:=foc_ r7 2;have f3:=foc_ r7 3;have f4:=foc_ r7 4;clear g2 g3 g4 g5 g6 g7 g8 hb t7 hw7 r7 q7 hF7 hr7;go_wp2_with fail
 generalize hW4:World.setCell (World.setCell (World.setCell (World.setCell (World.setCell w7 _ _) _ _) _ _) _ _) _ _ = W4;obtain ⟨b5,t5⟩:=store5 R7.out hW4;obtain ⟨z0,z1,z2,z3,z4⟩:=cells5 b5;exact bodyPost_ret (v:=.tuple #[ActD.val ⟨kd,ka,kb,ky,bd⟩,.int .i64 E]) (by simp [results,Tryz.results113,go_sem,z0,z1,z2,z3,z4,ActD.val]) rfl ⟨rfl,HF7.out.trans ⟨t5.os,t5.tape,t5.output,t5.size,fun k h1 h2=>t5.block k (by have:=HF7.out.size;omega) (by omega)⟩,fun x j h=>⟨(t5.block R (by have:=HF7.out.size;omega) (by omega)).trans (HR7.out x j h).1,(HR7.out x j h).2⟩⟩
def repL (s:ByteArray):Nat→Nat→List ActD × Nat
 | 0,i=>([],i)
 | f + 1, i => match rAct s i with
   | none=>([],i)
   | some (x,j)=>(x :: (repL s f j).1,(repL s f j).2)
def repE (s:ByteArray):Int:=if 4096 < s.size then 2 else 0
def repA (s:ByteArray):List ActD:=if repE s = 0 then (repL s 60 0).1 else []
def repN (s:ByteArray):Int:=if repE s = 0 then ((repL s 60 0).2:Nat) else 0
def ActD.cells (x:ActD):List Value:=[.int .i64 x.kind,.int .i64 x.a,.int .i64 x.b,.string x.key,.string x.body]
def bC_ (xs:List ActD):List Value:=xs.flatMap ActD.cells
theorem hO_ (xs:List ActD):(bC_ xs).length = xs.length * 5:=bK_ (f:=ActD.cells) (fun _=>rfl) xs
theorem fN_ (xs ys:List ActD):bC_ (xs ++ ys) = bC_ xs ++ bC_ ys:=by unfold bC_;rw [List.flatMap_append]
theorem hP_ (xs:List ActD):∀ u ∈ bC_ xs,u.oneCell' = true:=by
 intro u hu;obtain ⟨x,_,hx⟩:=List.mem_flatMap.1 hu;simp [ActD.cells] at hx;rcases hx with rfl | rfl | rfl | rfl | rfl <;> rfl
theorem Tryz.infoAct:(Tryz.prog.info? 53).map (fun i=>(i.zero,i.size,i.bytes)) = some (some (.agg #[.int .i64 0,.int .i64 0,.int .i64 0,.string ⟨#[]⟩,.string ⟨#[]⟩]),5,56):=by kernel_rfl
theorem n2_:eY_ 57 53 5 56:=dl_ Tryz.underlying57 Tryz.infoAct rfl (by omega)
def oO_:Value→Nat
 | .slice _ n _=>n
 | _=>0
structure ov_ (s:ByteArray) (w1 wr:World) (R:Nat) (acc:List ActD) (i:Nat) (v:Value):Prop where
 few:acc.length≤60
 list:(repL s 60 0).1 = acc ++ (repL s (60 - acc.length) i).1
 pos:(repL s 60 0).2 = (repL s (60 - acc.length) i).2
 le:i≤s.size
 rd:cR_ wr R s i
 fr:ac_ w1.heap.size R w1 wr
 own:wr.ownsRow w1.heap.size 53 5 v acc.length (bC_ acc)
theorem g0_ (s:ByteArray) (w:World) :
 Calls Tryz.prog 65 #[.string s] w fun e w'=>∃ v,e = .returned (.tuple #[v,.int .i64 (repN s),.int .i64 (repE s)])∧w'.ownsRow w.heap.size 53 5 v (repA s).length (bC_ (repA s))∧Below w.heap.size w w':=by
 by_cases hbig:4096 < s.size
 ·have hE:repE s = 2:=if_pos hbig;have hA:repA s = []:=by unfold repA;rw [hE];rfl
  have hN:repN s = 0:=by unfold repN;rw [hE];rfl
  rw [hE,hA,hN];have hb:decide ((4096:Int) < (s.size:Int)) = true:=by rw [decide_eq_true_eq];omega
  have hb':(4096:Int) < (s.size:Int):=by omega
  clear hE hA hN hbig;go_enter Tryz.func65,Tryz.ntmps65;go_wp2_with fail
  go_ret3
  exact ⟨_,rfl,World.ownsRow_nil _ _ _ _,Below.refl _ _⟩
 have hE:repE s = 0:=if_neg hbig;have hA:repA s = (repL s 60 0).1:=if_pos hE;have hN:repN s = ((repL s 60 0).2:Nat):=if_pos hE;rw [hE,hA,hN];obtain ⟨LL,hLL⟩:∃ LL,LL = (repL s 60 0).1:=⟨_,rfl⟩
 obtain ⟨NN,hNN⟩:∃ NN,NN = (repL s 60 0).2:=⟨_,rfl⟩
 rw [← hLL,← hNN];have HLL:=hidI hLL;have HNN:=hidI hNN;have hb':¬ (4096:Int) < (s.size:Int):=by omega
 have HS:Hid (s.size≤4096):=by show s.size≤4096;omega
 clear hE hA hN hbig hLL hNN;go_enter Tryz.func65,Tryz.ntmps65;go_wp2_with fail
 refine (m9_ s w).mono ?_;rintro e w1 ⟨rfl,hR,k1⟩;have K1:=hidI k1;have HR:=hidI hR;obtain ⟨R,hRe⟩:∃ R,R = w.heap.size:=⟨_,rfl⟩
 rw [← hRe] at HR;have HRE:=hidI hRe;rw [← hRe];have hlt:=lth_ HR.out;clear k1 hR hb' hRe;go_wp2_with fail
 go_loopw [5,6] (fun l n wr=>∃ (acc:List ActD) (i:Nat),n = .int .i64 i∧ov_ s w1 wr R acc i l) (fun l _ _=>60 - oO_ l)
 case atStart=>exact ⟨[],0,rfl,Nat.zero_le _,by simp,by simp,Nat.zero_le _,HR.out,ac_.refl _ _ _,World.ownsRow_nil _ _ _ _⟩
 case round=>
  obtain ⟨acc,i,rfl,hinv⟩:=hrel;have HI:=hidI hinv;obtain ⟨a,c,hv,hac,hcm,hna,-⟩:=aH_ hinv.own;obtain ⟨m,hm⟩:∃ m,m = acc.length:=⟨_,rfl⟩
  rw [← hm] at hv;have HM:=hidI hm;have hm60:m≤60:=by rw [hm];exact hinv.few
  subst hv;clear hinv hm hac hcm hna;by_cases hlt6:m < 60
  rotate_left
  ·have hm6:m = 60:=by omega
   have HLE:Hid (LL = acc):=by show LL = acc;rw [HLL.out,HI.out.list,← HM.out,hm6];simp [repL]
   have HNE:Hid (NN = i):=by show NN = i;rw [HNN.out,HI.out.pos,← HM.out,hm6];rfl
   subst hm6;clear hlt6;go_wp2_with fail
   go_ret3
   refine ⟨_,by rw [HNE.out];rfl,?_,K1.out.trans (HI.out.fr.below K1.out.size (by rw [HRE.out];exact Nat.le_refl _))⟩;rw [HLE.out];have:=bm_ HI.out.own K1.out.size;rw [← HM.out] at this ⊢;exact this
  have j1:(m:Int) < 60:=by omega
  have HLT:=hidI hlt6;clear hlt6;go_wp2_with fail
  refine (mO_ s i R wr (by have:=HS.out;omega) HI.out.le HI.out.rd).mono ?_;rintro e w2 ⟨rfl,hF2,hr2⟩;have HF2:=hidI hF2;have HR2:=hidI hr2;have hFF:ac_ w1.heap.size R w1 w2:=HI.out.fr.trans ⟨hF2.os,hF2.tape,hF2.output,hF2.size,fun k h1 h2=>hF2.block k (by have:=HI.out.fr.size;omega) h2⟩;have HFF:=hidI hFF;have ho2:w2.ownsRow w1.heap.size 53 5 (.slice a m c) acc.length (bC_ acc):=g1_ HI.out.own hF2 hlt;have HO2:=hidI ho2;clear hF2 hr2 hFF ho2;cases hn:rAct s i with
  | none =>
    have hw:bU_ s i = (actZ,1):=by unfold bU_;rw [hn]
    rw [hw];have HLE:Hid (LL = acc):=by
     show LL = acc;rw [HLL.out,HI.out.list];obtain ⟨d,hd⟩:∃ d,60 - acc.length = d+1:=⟨60 - acc.length - 1,by have:=HLT.out;have:=HM.out;omega⟩
     rw [hd];unfold repL;rw [hn];simp
    have HNE:Hid (NN = i):=by
     show NN = i;rw [HNN.out,HI.out.pos];obtain ⟨d,hd⟩:∃ d,60 - acc.length = d+1:=⟨60 - acc.length - 1,by have:=HLT.out;have:=HM.out;omega⟩
     rw [hd];unfold repL;rw [hn]
    unfold ActD.val actZ;dsimp only;clear hn hw;go_wp2_with fail
    go_ret3
    refine ⟨_,by rw [HNE.out];rfl,?_,?_⟩
    ·rw [HLE.out];have:=cp2_ (bm_ HO2.out K1.out.size) ((Below.refl w2.heap.size w2).alloc (Nat.le_refl _) (.cells #[.int .i64 0,.int .i64 0,.int .i64 0,.string ⟨#[]⟩,.string ⟨#[]⟩] 53));rw [← HM.out] at this ⊢;exact this
    ·have k2:=K1.out.trans (HFF.out.below K1.out.size (by rw [HRE.out];exact Nat.le_refl _));exact k2.alloc k2.size _
  | some q =>
    obtain ⟨x,j⟩:=q;have hw:bU_ s i = (x,0):=by unfold bU_;rw [hn]
    rw [hw];obtain ⟨hb2,hj2⟩:=HR2.out x j hn;have HNX:Hid (acc.length+1≤60∧(repL s 60 0).1 = (acc ++ [x]) ++ (repL s (60 - (acc ++ [x]).length) j).1∧(repL s 60 0).2 = (repL s (60 - (acc ++ [x]).length) j).2):=by
     have hl1:=HLT.out;have hl2:=HM.out;obtain ⟨d,hd⟩:∃ d,60 - acc.length = d+1:=⟨60 - acc.length - 1,by omega⟩
     have hd2:60 - (acc ++ [x]).length = d:=by simp;omega
     refine ⟨by omega,?_,?_⟩
     ·rw [HI.out.list,hd,hd2];conv=>lhs;unfold repL
      rw [hn];simp
     ·rw [HI.out.pos,hd,hd2];conv=>lhs;unfold repL
      rw [hn]
    obtain ⟨w3,hw3⟩:∃ w3,w3 = w2.alloc (.cells #[.int .i64 x.kind,.int .i64 x.a,.int .i64 x.b,.string x.key,.string x.body] 53):=⟨_,rfl⟩
    have l3:Below w2.heap.size w2 w3:=by rw [hw3];exact (Below.refl _ _).alloc (Nat.le_refl _) _
    have b3:w3.heap[w2.heap.size]? = some (.cells #[.int .i64 x.kind,.int .i64 x.a,.int .i64 x.b,.string x.key,.string x.body] 53 (0,0)):=by rw [hw3];exact World.alloc_heap_new w2 _
    have HW3:=hidI hw3;have L3:=hidI l3;have HB3:=hidI (hb2.keep l3);have HJ2:=hidI hj2;have HO3:=hidI (cp2_ HO2.out l3);obtain ⟨BX,hBX⟩:∃ BX,BX = w2.heap.size:=⟨_,rfl⟩
    have HBX:=hidI hBX;rw [← hBX] at b3;obtain ⟨y0,y1,y2,y3,y4⟩:=cells5 b3;unfold ActD.val;dsimp only;have hlb:=lth_ b3;clear hn hw hb2 hj2 hw3 l3 hBX b3;go_upto_region 9 with fail
    rw [← HW3.out,← HBX.out];obtain ⟨w4,hw4⟩:∃ w4,w4 = w3.alloc (.cells #[.int .i64 x.kind,.int .i64 x.a,.int .i64 x.b,.string x.key,.string x.body] 53):=⟨_,rfl⟩
    have l4:Below w3.heap.size w3 w4:=by rw [hw4];exact (Below.refl _ _).alloc (Nat.le_refl _) _
    have HRW:Hid (aO_ w4 (some ⟨w3.heap.size,0,none⟩) (bC_ [x])):=by show aO_ w4 _ _;rw [hw4];exact gf_ (w:=w3) (cs:=[.int .i64 x.kind,.int .i64 x.a,.int .i64 x.b,.string x.key,.string x.body])
    have HW4:=hidI hw4;have L4:=hidI l4;have HO4:=hidI (cp2_ HO3.out l4);have HB4:=hidI (HB3.out.keep l4);have HSZ:Hid (w1.heap.size≤w4.heap.size):=by show _≤_;have:=HFF.out.size;have:=L3.out.size;have:=l4.size;omega
    clear hw4 l4;have HO4m:Hid (w4.ownsRow w1.heap.size 53 5 (.slice a m c) m (bC_ acc)):=by show w4.ownsRow _ _ _ _ m _;rw [HM.out] at HO4 ⊢;exact HO4.out
    go_wp2_with (at_builtin;rw [← HW4.out];refine a1_ n2_ (by kernel_rfl) _ _ rfl w1.heap.size _ m (bC_ acc) rfl HO4m.out (some ⟨w3.heap.size,0,none⟩) 1 1 (bC_ [x]) rfl rfl (fun h=>by cases h) HRW.out (hP_ _) (by unfold maxLen;omega) (by omega) HSZ.out ?_;intro v5 w5 ho5 hg5 hblk;obtain ⟨a5,c5,rfl,-⟩:=aH_ ho5;have HO5:=hidI ho5;have HB5:Hid (cR_ w5 R s j):=(hg5.block R (lth_ HB4.out) (fun e=>by have:=(HO4m.out.lt R e.symm).1;omega)).trans HB4.out;have HF5:Hid (ac_ w1.heap.size R w1 w5):=(((HFF.out.trans (ac_.of_below L3.out HFF.out.size)).trans (ac_.of_below L4.out (Nat.le_trans HFF.out.size L3.out.size)))).grown hg5 HSZ.out (fun k e=>(HO4m.out.lt k e).1);clear ho5 hg5 hblk)
    refine (oy_ s j R w5 HB5.out).mono ?_;rintro e w6 ⟨rfl,hw6⟩;subst hw6;go_wp2_with fail
    go_roundw
    case rel=>
     refine ⟨acc ++ [x],j,rfl,by rw [List.length_append];exact HNX.out.1,HNX.out.2.1,HNX.out.2.2,HJ2.out,HB5.out,HF5.out,?_⟩;have:=HO5.out;rw [← fN_,HM.out] at this;rw [List.length_append,List.length_singleton];exact HM.out ▸ this
    case measure=>have:=HLT.out;show 60 - (m+1) < 60 - m;omega
theorem kD_ {w W:World} {B g n:Nat} (h:b6_ w (some ⟨g,0,none⟩) (List.replicate n [])) (t:aZ_ B w W) (hg:n≠0→g≠B):b6_ W (some ⟨g,0,none⟩) (List.replicate n []):=by
 rcases h with h | ⟨g',o,ha,hlt,hc⟩
 ·exact .inl h
 ·by_cases hn:n = 0
  ·exact .inl (by rw [hn];rfl)
  ·have hg2:=hg hn;injection ha with ha
   injection ha with e1 e2
   subst e1;subst e2;refine .inr ⟨g,0,rfl,Nat.lt_of_lt_of_le hlt t.size,fun i hi=>?_⟩;obtain ⟨b,c,hl⟩:=hc i hi;have hb:=t.block g hlt hg2;refine ⟨b,c,?_,hl.le,hl.cm,hl.nil,.inl (by simp)⟩;have:W.cell? ⟨g,0+i,none⟩ = w.cell? ⟨g,0+i,none⟩:=by unfold World.cell?;simp only [hb]
   rw [this];exact hl.cell
theorem nG_ (w:World) (pv sv:Array Value):∃ W2,W2 = (w.alloc (.cells pv 31)).alloc (.cells sv 31)∧Below w.heap.size w W2∧W2.heap.size = w.heap.size+2 ∧
 ∀ W,Below W2.heap.size W2 W→W.heap[w.heap.size]? = some (.cells pv 31 (0,0))∧W.heap[w.heap.size+1]? = some (.cells sv 31 (0,0)):=by
 refine ⟨_,rfl,((Below.refl _ _).alloc (Nat.le_refl _) _).alloc (by simp) _,by simp,fun W hW=>⟨(hW.block _ (by simp;omega)).trans ?_,(hW.block _ (by simp)).trans ?_⟩⟩
 ·rw [Below.heap_alloc _ _ _ (by simp)];exact World.alloc_heap_new w _
 ·have:=World.alloc_heap_new (w.alloc (.cells pv 31)) (.cells sv 31);rw [World.size_alloc] at this;exact this
theorem lf_ (p:ad_) (a1 a2 a3:Option Addr) (n1 c1 n2 c2 n3 c3:Nat) (w:World) (hp:ap_ w a1 a2 a3 n1 n2 n3 p) :
 Calls Tryz.prog 67 #[.agg #[.slice a1 n1 c1,.slice a2 n2 c2,.slice a3 n3 c3]] w fun e w'=>(chkP p = 0→∃ g,w.heap.size≤g∧e = .returned (.tuple #[.agg #[.slice (some ⟨g,0,none⟩) n2 n2,.slice none 0 0,.slice none 0 0,.int .i64 0,.int .i64 0,.int .i64 0,.int .i64 0,.int .i64 0],.int .i64 0])∧an_ w' (some ⟨g,0,none⟩) none none n2 0 0 (fp_ n2))∧(chkP p≠0→e = .returned (.tuple #[.agg #[.slice none 0 0,.slice none 0 0,.slice none 0 0,.int .i64 0,.int .i64 0,.int .i64 0,.int .i64 0,.int .i64 0],.int .i64 (chkP p)]))∧Below w.heap.size w w':=by
 obtain ⟨i0,hi,hz0,hz1,hz2⟩:=info_parts Tryz.infoLine;obtain ⟨W2,hW2,hBw,hs2,hbx⟩:=bZ_ w #[.slice a1 n1 c1,.slice a2 n2 c2,.slice a3 n3 c3] #[.slice none 0 0,.slice none 0 0,.slice none 0 0,.int .i64 0,.int .i64 0,.int .i64 0,.int .i64 0,.int .i64 0];have HW2:=hidI hW2;have BX:=hidI hbx;have HP:=hidI (hp.keep hBw);have s0:=hBw.size;have HL2:Hid (p.queues.length = n2):=hp.l2;obtain ⟨D,hD⟩:∃ D:Int,D = chkP p:=⟨_,rfl⟩
 rw [← hD];have HD:=hidI hD;obtain ⟨x0,x1,x2⟩:=ag_ (hbx W2 (Below.refl _ _)).1;have HS2:Hid (W2.heap.size = w.heap.size+2):=hs2;clear hW2 hbx hs2 hp hD;go_enter Tryz.func67,Tryz.ntmps67;go_wp2_with fail
 rw [← HW2.out];refine (bW_ p _ _ _ _ _ _ _ _ _ _ HP.out.l1 HP.out.l2 HP.out.l3 HP.out.sz HP.out.p1 HP.out.p2 HP.out.p3).mono ?_;rintro e w1 ⟨rfl,k1⟩;rw [← HD.out];have s1:=k1.size;clear x0 x1 x2;obtain ⟨p0,q0⟩:=BX.out w1 k1;obtain ⟨x0,x1,x2⟩:=ag_ p0;obtain ⟨y0,y1,y2,y3,y4,y5,y6,y7⟩:=aa_ q0;have f0:=foc_ q0 0;have f1:=foc_ q0 1;have f2:=foc_ q0 2;have f3:=foc_ q0 3;have f4:=foc_ q0 4;have f5:=foc_ q0 5;have f6:=foc_ q0 6;have f7:=foc_ q0 7;have HQ0:=hidI q0;clear p0 q0;by_cases h0:D = 0
 ·subst h0;have hn4:n2≤4:=by have:=(bc_ HD.out.symm).few.2.1;rw [HL2.out] at this;exact this
  go_wp2_with (at_make;refine wpList_make_full _ rfl _ _ 27 rfl W2.heap.size 46 i0 (.slice none 0 0) 1 Tryz.underlying27 hi hz0 hz1 _ _ _ _ n2 rfl rfl rfl rfl (by rw [hz2];omega) (by unfold maxLen;omega) s1 ?_;intro w3 hown3 hgrow3;have q3:=(hgrow3.block (w.heap.size+1) (by have:=HS2.out;omega) (by simp)).trans HQ0.out;clear y0 y1 y2 y3 y4 y5 y6 y7 f0 f1 f2 f3 f4 f5 f6 f7;obtain ⟨y0,y1,y2,y3,y4,y5,y6,y7⟩:=aa_ q3;have f0:=foc_ q3 0;have f1:=foc_ q3 1;have f2:=foc_ q3 2;have f3:=foc_ q3 3;have f4:=foc_ q3 4;have f5:=foc_ q3 5;have f6:=foc_ q3 6;have f7:=foc_ q3 7;have HQ3:=hidI q3;clear q3)
  generalize hW4:World.setCell (World.setCell (World.setCell (World.setCell (World.setCell (World.setCell (World.setCell (World.setCell w3 _ _) _ _) _ _) _ _) _ _) _ _) _ _) _ _ = W4;obtain ⟨b4,t4⟩:=store8 HQ3.out hW4;obtain ⟨z0,z1,z2,z3,z4,z5,z6,z7⟩:=aa_ b4;have l3:Below W2.heap.size W2 w3:=k1.grown hgrow3 s1 (fun k e=>by cases e);have hlt3:w1.heap.size < w3.heap.size:=(hown3.lt _ rfl).2;have hL:b6_ w3 (some ⟨w1.heap.size,0,none⟩) (List.replicate n2 []):=iP_ (by rw [← fa_];exact hown3) hlt3;have l4:Below w.heap.size w W4:=(hBw.trans (l3.mono s0)).trans (t4.below (by have:=l3.size;omega) (by omega));have hL4:b6_ W4 (some ⟨w1.heap.size,0,none⟩) (List.replicate n2 []):=by
   refine .inr ⟨w1.heap.size,0,rfl,Nat.lt_of_lt_of_le hlt3 t4.size,fun i hi=>⟨none,0,?_,by simp,Nat.zero_le _,fun _=>rfl,.inl (by simp)⟩⟩;have hi':i < n2:=by simpa using hi
   have hb:=t4.block w1.heap.size hlt3 (by have:=HS2.out;omega);have hc:=hown3.cellAt i (by omega);rw [fa_,List.getElem?_replicate,if_pos hi'] at hc;rw [Nat.zero_add];have:W4.cell? ⟨w1.heap.size,i,none⟩ = w3.cell? ⟨w1.heap.size,i,none⟩:=by unfold World.cell?;simp only [hb]
   rw [this,hc];simp
  exact bodyPost_ret (v:=.tuple #[.agg #[.slice (some ⟨w1.heap.size,0,none⟩) n2 n2,.slice none 0 0,.slice none 0 0,.int .i64 0,.int .i64 0,.int .i64 0,.int .i64 0,.int .i64 0],.int .i64 0]) (by simp [results,Tryz.results67,go_sem,z0,z1,z2,z3,z4,z5,z6,z7]) rfl ⟨⟨w1.heap.size,(by have:=k1.size;omega),rfl,⟨by simp [fp_],rfl,rfl,by unfold maxLen;omega,by omega,by unfold maxLen;omega,hL4,.inl rfl,.inl rfl⟩⟩,l4⟩
 ·have h0':(D != 0) = true:=bne_iff_ne.2 h0;have H0:=hidI h0;clear h0;go_wp2_with fail
  generalize hW4:World.setCell (World.setCell (World.setCell (World.setCell (World.setCell (World.setCell (World.setCell (World.setCell w1 _ _) _ _) _ _) _ _) _ _) _ _) _ _) _ _ = W4;obtain ⟨b4,t4⟩:=store8 HQ0.out hW4;obtain ⟨z0,z1,z2,z3,z4,z5,z6,z7⟩:=aa_ b4;have l4:Below w.heap.size w W4:=(hBw.trans (k1.mono s0)).trans (t4.below (by omega) (by omega));exact bodyPost_ret (v:=.tuple #[.agg #[.slice none 0 0,.slice none 0 0,.slice none 0 0,.int .i64 0,.int .i64 0,.int .i64 0,.int .i64 0,.int .i64 0],.int .i64 D]) (by simp [results,Tryz.results67,go_sem,z0,z1,z2,z3,z4,z5,z6,z7]) rfl ⟨fun h=>absurd h H0.out,fun _=>rfl,l4⟩
end Go.Proofs.YtlbnkpicnokgoaaGreat
