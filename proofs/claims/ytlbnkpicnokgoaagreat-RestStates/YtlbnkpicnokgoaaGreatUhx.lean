import Derived.Deep.DeepCutAuto
import Derived.Test.YtlbnkpicnokgoaaGreatUgx
import Derived.Test.YtlbnkpicnokgoaaGreatCKw
namespace Go.Proofs.YtlbnkpicnokgoaaGreat
open Go.RowKit Go.Maps
set_option linter.unusedVariables false
set_option maxRecDepth 100000
set_option maxHeartbeats 4000000
theorem oh_ (l:List bi_) (a:Option Addr) (n c:Nat) (w:World) (hn:l.length = n) (hm:n≤100000) (hT:jx_ w a l) (hlt:∀ g o,a = some ⟨g,o,none⟩→g < w.heap.size) :
 Calls Tryz.prog 66 #[.slice a n c] w fun e w'=>e = .returned (.tuple #[.string (putV l),.int .i64 (putE l)])∧Below w.heap.size w w':=by
 obtain ⟨E,hE⟩:∃ E,E = putE l:=⟨_,rfl⟩
 obtain ⟨V,hV⟩:∃ V,V = putV l:=⟨_,rfl⟩
 rw [← hE,← hV];obtain ⟨W6,hW6⟩:∃ W6,W6 = (w.alloc (.cells #[.slice a n c] 143)).alloc (.cells #[.slice none 0 0] 144):=⟨_,rfl⟩
 obtain ⟨hz6,x0,x1,hB6⟩:W6.heap.size = w.heap.size+2∧W6.heap[w.heap.size]? = some (.cells #[.slice a n c] 143 (0,0))∧W6.heap[w.heap.size+1]? = some (.cells #[.slice none 0 0] 144 (0,0))∧Below w.heap.size w W6:=cz_ w _ _ _ hW6;have l8:Below W6.heap.size W6 (W6.alloc (.cells #[.int .i64 0] 33)):=(Below.refl _ _).alloc (Nat.le_refl _) _;have x8:=World.alloc_heap_new W6 (.cells #[.int .i64 0] 33);have RD:=nr_ l a n c w.heap.size (w.heap.size+1) (W6.alloc (.cells #[.int .i64 0] 33)) hn hm (aO_.keep (aO_.keep hT hB6) l8) (fun g o h=>by have:=hlt g o h;omega) (pkp_ x0 l8) (pkp_ x1 l8);have TR:=eV_ 115 (fun _ _=>rfl) #[.pointer (some ⟨w.heap.size,0,none⟩),.pointer (some ⟨w.heap.size+1,0,none⟩)]
  (fun D w1=>D = E∧ac_ (W6.heap.size+1) (w.heap.size+1) (W6.alloc (.cells #[.int .i64 0] 33)) w1∧(E = 0→∃ b m c,cM_ w1 (W6.heap.size+1) (w.heap.size+1) (de_ l) b m c)) W6
  (RD.mono (by
   rintro e w' ⟨g1,g2,g3⟩;rw [World.size_alloc] at g1 g3;rw [← hE] at g2 g3;exact ⟨E,g2,⟨rfl,g1,g3⟩,(g1.block W6.heap.size (Nat.lt_succ_self _) (by omega)).trans x8⟩))
 have HTR:=hidI TR;have HW6:=hidI hW6;have HB6:=hidI hB6;have HZ6:=hidI hz6;have HV:Hid (V = if E = 0 then gC_ (de_ l) else ⟨#[]⟩):=by show V = _;rw [hV,hE];rfl
 have hmf:∀ (fn:Fn) (first cap:Array Value) (w:World),(Instr.makeFunc fn first cap).run Tryz.prog w = .ok (.func fn first cap) w:=fun _ _ _ _=>rfl
 clear TR RD hz6 hB6 hW6 x0 x1 x8 l8 hE hV hT hn hlt;go_enter Tryz.func66,Tryz.ntmps66;go_wp2_with fail
 rw [← HW6.out];refine HTR.out.mono ?_;rintro e w8 ⟨D,w1,rfl,⟨rfl,hF,hP⟩,hbx,rfl⟩;have t8:=sct_ w1 W6.heap.size 0 (.int .i64 D);have hF8:Below w.heap.size w w1:=HB6.out.trans ⟨hF.os,hF.tape,hF.output,Nat.le_trans (by simp) hF.size,fun k hk=>(hF.block k (by have:=HZ6.out;omega) (by omega)).trans (Below.heap_alloc _ _ _ (by have:=HZ6.out;omega))⟩;have hF9:Below w.heap.size w (w1.setCell ⟨W6.heap.size,0,none⟩ (.int .i64 D)):=hF8.trans (t8.below hF8.size (by have:=HZ6.out;omega));generalize hw8:w1.setCell ⟨W6.heap.size,0,none⟩ (.int .i64 D) = w8 at t8 hF9 ⊢;have HF9:=hidI hF9;by_cases hD:D = 0
 ·subst hD;obtain ⟨b,m,c',hb⟩:=hP rfl;have hb8:=(t8.block _ (lth_ hb.box) (by have:=HZ6.out;omega)).trans hb.box;have ho8:=ch_ hb.row (W':=w8) (fun g hg=>t8.block g (hb.row.lt g hg).2 (by have:=(hb.row.lt g hg).1;omega));have hcv:=nv_ w8 ho8;have c0:=coc_ hb8 0;simp at c0;have HV0:Hid (V = gC_ (de_ l)):=by show V = _;rw [HV.out,if_pos rfl]
  clear hb hb8 ho8 hP hF hF8 hF9 t8 hw8 hbx;go_wp2_with fail
  go_ret2
  exact ⟨by rw [HV0.out];rfl,HF9.out⟩
 ·have hD':(D != 0) = true:=bne_iff_ne.2 hD;have HV0:Hid (V = ⟨#[]⟩):=by show V = _;rw [HV.out,if_neg hD]
  clear hD hP hF hF8 hF9 t8 hw8 hbx;go_wp2_with fail
  go_ret2
  exact ⟨by rw [HV0.out];rfl,HF9.out⟩
end Go.Proofs.YtlbnkpicnokgoaaGreat
