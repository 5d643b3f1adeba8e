import Derived.Test.YtlbnkpicnokgoaaGreatObx
import Derived.Test.YtlbnkpicnokgoaaGreatOax
import Derived.Deep.RegionHeld3
import Derived.ProofKit
import Derived.Laws.AppendOwnNone
import Derived.Lib.AppendZeros
import Derived.Laws.StructEq
namespace Go.Proofs.YtlbnkpicnokgoaaGreat
open Go.RowKit
set_option linter.unusedVariables false
set_option maxRecDepth 100000
set_option maxHeartbeats 4000000
theorem gf_:∀ {xs:List dF_},a8_ xs = 0→∀ b ∈ xs,perr b.pat.data.toList = 0
 | [],_,b,hb=>by simp at hb
 | x :: r, h, b, hb => by
   unfold a8_ at h;by_cases h0:perr x.pat.data.toList = 0
   ·rw [if_pos h0] at h;rcases List.mem_cons.1 hb with rfl | hb
    ·exact h0
    ·exact gf_ h b hb
   ·rw [if_neg h0] at h;exact absurd h h0
structure by_ (p:ad_):Prop where
 few:p.posts.length≤4∧p.queues.length≤4∧p.binds.length≤10
 kinds:∀ x ∈ p.posts,x.kind = 1∨x.kind = 2∨x.kind = 3
 queues:∀ x ∈ p.queues,1≤x.limit∧x.limit≤6∧-1≤x.dead∧x.dead < p.posts.length
 src:∀ b ∈ p.binds,0≤b.src∧b.src < p.posts.length
 dst:∀ b ∈ p.binds,0≤b.dst∧b.dst < (if b.toPost then p.posts.length else p.queues.length:Nat)
 pat:∀ b ∈ p.binds,perr b.pat.data.toList = 0
theorem a1_ {p:ad_} (h:chkP p = 0):by_ p:=by
 unfold chkP at h;by_cases q1:4 < p.posts.length∨4 < p.queues.length∨10 < p.binds.length
 ·rw [if_pos q1] at h;cases h
 rw [if_neg q1] at h;by_cases q2:((p.posts.map bX_.name).all (fun x=>bf_ x.data.toList) && (p.queues.map bd_.name).all (fun x=>bf_ x.data.toList)) = false
 ·rw [if_pos q2] at h;cases h
 rw [if_neg q2] at h;by_cases q3:(dupB (p.posts.map bX_.name) || dupB (p.queues.map bd_.name)) = true
 ·rw [if_pos q3] at h;cases h
 rw [if_neg q3] at h;by_cases q4:p.posts.all cp_ = false
 ·rw [if_pos q4] at h;cases h
 rw [if_neg q4] at h;by_cases q5:(p.queues.all (qOk p.posts.length) && p.binds.all (bOk p.posts.length p.queues.length)) = false
 ·rw [if_pos q5] at h;cases h
 rw [if_neg q5] at h;simp only [Bool.not_eq_false,Bool.and_eq_true,List.all_eq_true] at q4 q5;refine ⟨by omega,fun x hx=>?_,fun x hx=>?_,fun b hb=>?_,fun b hb=>?_,gf_ h⟩
 ·have:=q4 x hx;unfold cp_ inR at this;simp at this;omega
 ·have:=q5.1 x hx;unfold qOk inR at this;simp at this;omega
 ·have:=q5.2 b hb;unfold bOk as_ at this;simp at this;omega
 ·have:=q5.2 b hb;unfold bOk as_ at this;simp at this;exact this.2
def fitP (p:ad_) (i:Nat) (key:ByteArray):Bool:=
 match p.binds[i]? with
 | none=>false
 | some b => match p.posts[b.src.toNat]? with
   | none=>false
   | some x=>if x.kind = 1 then key.data.toList == b.pat.data.toList else if x.kind = 2 then true else fitL b.pat.data.toList key.data.toList
def fitE (p:ad_) (n:Int) (key:ByteArray):Int:=if chkP p = 0 then (if as_ n p.binds.length = true then kerr key.data.toList else 5) else chkP p
def fitB (p:ad_) (n:Int) (key:ByteArray):Bool:=if fitE p n key = 0 then fitP p n.toNat key else false
theorem lm_ {p:ad_} (h:by_ p) {i:Nat} (hi:i < p.binds.length):∃ j:Nat,∃ hj:j < p.posts.length,p.binds[i].src = j ∧
 ((p.posts[j].kind = 1∧∀ key,fitP p i key = (key.data.toList == p.binds[i].pat.data.toList))∨(p.posts[j].kind = 2∧∀ key,fitP p i key = true)∨(p.posts[j].kind = 3∧∀ key,fitP p i key = fitL p.binds[i].pat.data.toList key.data.toList)):=by
 obtain ⟨s1,s2⟩:=h.src _ (List.getElem_mem hi);obtain ⟨j,hj⟩:=Int.eq_ofNat_of_zero_le s1;have hj':j < p.posts.length:=by omega
 refine ⟨j,hj',hj,?_⟩;have e:∀ key,fitP p i key = if p.posts[j].kind = 1 then key.data.toList == p.binds[i].pat.data.toList else if p.posts[j].kind = 2 then true else fitL p.binds[i].pat.data.toList key.data.toList:=by
  intro key;unfold fitP;rw [List.getElem?_eq_getElem hi];simp only;rw [hj,Int.toNat_natCast,List.getElem?_eq_getElem hj']
 rcases h.kinds _ (List.getElem_mem hj') with k | k | k
 ·exact .inl ⟨k,fun key=>by rw [e,if_pos k]⟩
 ·exact .inr (.inl ⟨k,fun key=>by rw [e,if_neg (by omega),if_pos k]⟩)
 ·exact .inr (.inr ⟨k,fun key=>by rw [e,if_neg (by omega),if_neg (by omega)]⟩)
theorem jJ_ (a b:List UInt8):(a == b) = decide (a = b):=by by_cases e:a = b <;> simp [e]
theorem je_ (n:Int) (m:Nat):inR n 0 (m - 1) = as_ n m:=by unfold inR as_;rw [Bool.eq_iff_iff];simp;omega
theorem mw_ {a b:Bool} {x y:Int} (h:a = b) (h2:x = y):Ending.returned (.tuple #[.bool a,.int .i64 x]) = .returned (.tuple #[.bool b,.int .i64 y]):=by rw [h,h2]
structure ao_ (W:World) (a1 a2 a3:Option Addr) (n1 n2 n3:Nat) (p:ad_):Prop where
 l1:p.posts.length = n1
 l2:p.queues.length = n2
 l3:p.binds.length = n3
 sz:Sized p
 p1:bH_ W a1 p.posts
 p2:a9_ W a2 p.queues
 p3:bG_ W a3 p.binds
theorem ao_.keep {W W':World} {a1 a2 a3:Option Addr} {n1 n2 n3:Nat} {p:ad_} (h:ao_ W a1 a2 a3 n1 n2 n3 p) (hB:Below W.heap.size W W'):ao_ W' a1 a2 a3 n1 n2 n3 p:=
 ⟨h.l1,h.l2,h.l3,h.sz,h.p1.keep hB,h.p2.keep hB,h.p3.keep hB⟩
theorem cu_ (w:World) (v1 v2 v3:Value) (t:TypeId):∃ W1,W1 = w.alloc (.cells #[v1,v2,v3] t)∧Below w.heap.size w W1∧W1.heap.size = w.heap.size+1 ∧
 ∀ W,Below W1.heap.size W1 W→W.cell? ⟨w.heap.size,0,none⟩ = some v1∧W.cell? ⟨w.heap.size,1,none⟩ = some v2∧W.cell? ⟨w.heap.size,2,none⟩ = some v3:=by
 obtain ⟨b0,b1,b2⟩:=fR_ w v1 v2 v3 t;have hs:(w.alloc (.cells #[v1,v2,v3] t)).heap.size = w.heap.size+1:=by simp
 exact ⟨_,rfl,(Below.refl _ _).alloc (Nat.le_refl _) _,hs,fun W hW=>⟨(hW.cell (p:=⟨w.heap.size,0,none⟩) (by show w.heap.size < _;omega)).trans b0,(hW.cell (p:=⟨w.heap.size,1,none⟩) (by show w.heap.size < _;omega)).trans b1,(hW.cell (p:=⟨w.heap.size,2,none⟩) (by show w.heap.size < _;omega)).trans b2⟩⟩
theorem na_ (p:ad_) (a1 a2 a3:Option Addr) (n1 c1 n2 c2 n3 c3:Nat) (n:Int) (key:ByteArray) (w:World) (hp:ao_ w a1 a2 a3 n1 n2 n3 p) :
 Calls Tryz.prog 166 #[.agg #[.slice a1 n1 c1,.slice a2 n2 c2,.slice a3 n3 c3],.int .i64 n,.string key] w fun e w'=>e = .returned (.tuple #[.bool (fitB p n key),.int .i64 (fitE p n key)])∧Below w.heap.size w w':=by
 obtain ⟨W1,hW1,hBw,hs1,hbx⟩:=cu_ w (.slice a1 n1 c1) (.slice a2 n2 c2) (.slice a3 n3 c3) 26;have HP1:Hid (ao_ W1 a1 a2 a3 n1 n2 n3 p):=hp.keep hBw;have HP:Hid (ao_ w a1 a2 a3 n1 n2 n3 p):=hp;have BX:Hid (∀ W,Below W1.heap.size W1 W→W.cell? ⟨w.heap.size,0,none⟩ = some (.slice a1 n1 c1)∧W.cell? ⟨w.heap.size,1,none⟩ = some (.slice a2 n2 c2)∧W.cell? ⟨w.heap.size,2,none⟩ = some (.slice a3 n3 c3)):=hbx;have hlt1:w.heap.size < W1.heap.size:=by omega
 clear hp hbx hs1;obtain ⟨d,hd⟩:∃ d,d = chkP p:=⟨_,rfl⟩
 have HD:Hid (d = chkP p):=hd;by_cases h0:d = 0
 ·have HR:Hid (by_ p):=a1_ (by rw [← hd];exact h0);have F1:Hid (fitE p n key = if as_ n n3 = true then kerr key.data.toList else 5):=by
   show fitE p n key = _;unfold fitE;rw [if_pos (by rw [← hd];exact h0),HP.out.l3]
  clear hd;subst h0;cases hnum:as_ n n3 with
  | false =>
    have F2:Hid (fitE p n key = 5):=by show fitE p n key = 5;rw [F1.out,hnum];simp
    have F3:Hid (fitB p n key = false):=by show fitB p n key = false;unfold fitB;rw [F2.out];simp
    rw [F2.out,F3.out];go_enter Tryz.func166,Tryz.ntmps166;go_wp2_with fail
    rw [← hW1];clear hW1;refine (bY_ p _ _ _ _ _ _ _ _ _ _ HP1.out.l1 HP1.out.l2 HP1.out.l3 HP1.out.sz HP1.out.p1 HP1.out.p2 HP1.out.p3).mono ?_;rintro e w2 ⟨rfl,hB2⟩;rw [← HD.out];obtain ⟨d0,d1,d2⟩:=BX.out w2 hB2;go_wp2_with (go_at_call 180;refine (di_ _ _ _ _ _).mono ?_;rintro e w3 ⟨rfl,rfl⟩)
    go_ret2
    exact ⟨rfl,hBw.trans (hB2.mono hBw.size)⟩
  | true =>
    have F2:Hid (fitE p n key = kerr key.data.toList):=by show fitE p n key = _;rw [F1.out,hnum];simp
    obtain ⟨i,rfl⟩:=Int.eq_ofNat_of_zero_le (aB_.1 hnum).1;have hi:i < n3:=by have:=(aB_.1 hnum).2;omega
    by_cases hk:kerr key.data.toList = 0
    ·have F3:Hid (fitB p i key = fitP p i key):=by show fitB p i key = _;unfold fitB;rw [F2.out,if_pos hk,Int.toNat_natCast]
     rw [F2.out,F3.out,hk];have hil:i < p.binds.length:=by rw [HP.out.l3];exact hi
     obtain ⟨j,hj,hsrc,hkind⟩:=lm_ HR.out hil;obtain ⟨g3,o3,rfl,hg3,hx3⟩:=HP1.out.p3.cells (by omega);obtain ⟨g1,o1,rfl,hg1,hx1⟩:=HP1.out.p1.cells (by omega);have hpe:=HR.out.pat _ (List.getElem_mem hil);obtain ⟨x,hx⟩:∃ x,x = p.binds[i]:=⟨_,rfl⟩
     obtain ⟨y,hy⟩:∃ y,y = p.posts[j]:=⟨_,rfl⟩
     have e3:=hx3 i hil;have e1:=hx1 j hj;rw [← hx] at hsrc hkind e3 hpe;rw [← hy] at hkind e1;obtain ⟨f,tp,t,pt⟩:=x;obtain ⟨nm,kd⟩:=y;dsimp only at hsrc hkind e3 e1 hpe;subst hsrc;have hjn:j < n1:=by rw [← HP.out.l1];exact hj
     obtain ⟨xs,hxs⟩:∃ xs,xs = wlB key.data.toList:=⟨_,rfl⟩
     have HS:Hid (∀ w,Calls Tryz.prog 164 #[.string key] w fun e w'=>∃ g cap,e = .returned (.tuple #[.slice (some ⟨g,0,none⟩) xs.length cap,.int .i64 0])∧w.heap.size≤g∧xs.length≤cap∧cap≤maxLen∧a5_ w' g 0 xs∧Below w.heap.size w w'):=fun w=>e2_ key xs hxs w hk
     have HM:Hid (∀ w,Calls Tryz.prog 181 #[.string pt,.string key] w fun e w'=>e = .returned (.tuple #[.bool (fitL pt.data.toList key.data.toList),.int .i64 0])∧Below w.heap.size w w'):=fun w=>by
      have h:=lW_ pt key w;rw [show mis pt.data.toList key.data.toList = fitL pt.data.toList key.data.toList from by simp [mis,merr,hpe,hk],show merr pt.data.toList key.data.toList = 0 from by simp [merr,hpe,hk]] at h;exact h
     have HE:Hid ((W1.cell? ⟨g3,o3+i * 4,none⟩ = some (.int .i64 (j:Int))∧W1.cell? ⟨g3,o3+i * 4+1,none⟩ = some (.bool tp)∧W1.cell? ⟨g3,o3+i * 4+2,none⟩ = some (.int .i64 t)∧W1.cell? ⟨g3,o3+i * 4+3,none⟩ = some (.string pt))∧W1.cell? ⟨g1,o1+j * 2+1,none⟩ = some (.int .i64 kd)):=⟨e3,e1.2⟩;have HKD:Hid ((kd = 1∧∀ key,fitP p i key = (key.data.toList == pt.data.toList))∨(kd = 2∧∀ key,fitP p i key = true)∨(kd = 3∧∀ key,fitP p i key = fitL pt.data.toList key.data.toList)):=hkind;have hin:(i:Int) < n3:=by omega
     have hjn':(j:Int) < n1:=by omega
     clear hk hx hy hxs hpe hx3 hx1 e3 e1 hkind F2 F3 F1;go_enter Tryz.func166,Tryz.ntmps166;go_wp2_with fail
     rw [← hW1];clear hW1;refine (bY_ p _ _ _ _ _ _ _ _ _ _ HP1.out.l1 HP1.out.l2 HP1.out.l3 HP1.out.sz HP1.out.p1 HP1.out.p2 HP1.out.p3).mono ?_;rintro e w2 ⟨rfl,hB2⟩;rw [← HD.out];obtain ⟨d0,d1,d2⟩:=BX.out w2 hB2;go_wp2_with (go_at_call 180;refine (di_ _ _ _ _ _).mono ?_;rintro e w3 ⟨rfl,rfl⟩)
     refine (HS.out _).mono ?_;rintro e w4 ⟨gs,cs,rfl,_,_,_,_,hB4⟩;clear d0 d1 d2;have s2:=hB2.size;have s4:=hB4.size;have hB14:Below W1.heap.size W1 w4:=hB2.trans (hB4.mono s2);obtain ⟨d0,d1,d2⟩:=BX.out w4 hB14;have z1:=(hB14.cell (p:=⟨g3,o3+i * 4,none⟩) hg3).trans HE.out.1.1;have z2:=(hB14.cell (p:=⟨g3,o3+i * 4+1,none⟩) hg3).trans HE.out.1.2.1;have z3:=(hB14.cell (p:=⟨g3,o3+i * 4+2,none⟩) hg3).trans HE.out.1.2.2.1;have z4:=(hB14.cell (p:=⟨g3,o3+i * 4+3,none⟩) hg3).trans HE.out.1.2.2.2;have z5:=(hB14.cell (p:=⟨g1,o1+j * 2+1,none⟩) hg1).trans HE.out.2;have hg1':g1 < w4.heap.size:=by omega
     have hww:w.heap.size < w4.heap.size:=by omega
     have hB04:Below w.heap.size w w4:=hBw.trans (hB14.mono hBw.size);rcases HKD.out with ⟨rfl,hf⟩ | ⟨rfl,hf⟩ | ⟨rfl,hf⟩
     ·have HF:Hid (fitP p i key = (key.data.toList == pt.data.toList)):=hf key;clear hf HKD;go_wp2_with fail
      go_ret2
      exact ⟨mw_ (by rw [HF.out,← Lib.toList_data,← Lib.toList_data]) rfl,hB04.alloc (by omega) _⟩
     ·have HF:Hid (fitP p i key = true):=hf key;clear hf HKD;go_wp2_with fail
      go_ret2
      exact ⟨mw_ HF.out.symm rfl,hB04.alloc (by omega) _⟩
     ·have HF:Hid (fitP p i key = fitL pt.data.toList key.data.toList):=hf key;clear hf HKD;go_wp2_with fail
      refine (HM.out _).mono ?_;rintro e w6 ⟨rfl,hB6⟩;go_wp2_with fail
      go_ret2
      exact ⟨mw_ HF.out.symm rfl,(hB04.alloc (by omega) _).trans (hB6.mono (by simp;omega))⟩
    ·have F3:Hid (fitB p i key = false):=by show fitB p i key = false;unfold fitB;rw [F2.out,if_neg hk]
     rw [F2.out,F3.out];have hk':(kerr key.data.toList != 0) = true:=bne_iff_ne.2 hk;have HSP:=em_ key;obtain ⟨dk,hdk⟩:∃ dk,dk = kerr key.data.toList:=⟨_,rfl⟩
     have HC:Hid (∀ w,Calls Tryz.prog 164 #[.string key] w fun e w'=>e = .returned (.tuple #[.slice none 0 0,.int .i64 dk])∧Below w.heap.size w w'):=fun w=>by rw [hdk];exact HSP w hk
     rw [← hdk] at hk' ⊢;clear hdk hk HSP F2;go_enter Tryz.func166,Tryz.ntmps166;go_wp2_with fail
     rw [← hW1];clear hW1;refine (bY_ p _ _ _ _ _ _ _ _ _ _ HP1.out.l1 HP1.out.l2 HP1.out.l3 HP1.out.sz HP1.out.p1 HP1.out.p2 HP1.out.p3).mono ?_;rintro e w2 ⟨rfl,hB2⟩;rw [← HD.out];obtain ⟨d0,d1,d2⟩:=BX.out w2 hB2;go_wp2_with (first
      | (go_at_call 180;refine (di_ _ _ _ _ _).mono ?_;rintro e w3 ⟨rfl,rfl⟩)
      | (go_at_call 164;refine (HC.out _).mono ?_;rintro e w4 ⟨rfl,hB4⟩))
     go_ret2
     have s2:=hB2.size;exact ⟨rfl,hBw.trans ((hB2.mono hBw.size).trans (hB4.mono (by omega)))⟩
 ·have F1:Hid (fitE p n key = d):=by show fitE p n key = d;unfold fitE;rw [if_neg (by rw [← hd];exact h0),hd]
  have F2:Hid (fitB p n key = false):=by show fitB p n key = false;unfold fitB;rw [F1.out,if_neg h0]
  have h0':(d != 0) = true:=bne_iff_ne.2 h0;rw [F1.out,F2.out];clear h0 hd;go_enter Tryz.func166,Tryz.ntmps166;go_wp2_with fail
  rw [← hW1];clear hW1;refine (bY_ p _ _ _ _ _ _ _ _ _ _ HP1.out.l1 HP1.out.l2 HP1.out.l3 HP1.out.sz HP1.out.p1 HP1.out.p2 HP1.out.p3).mono ?_;rintro e w2 ⟨rfl,hB2⟩;rw [← HD.out];go_wp2_with fail
  go_ret2
  exact ⟨rfl,hBw.trans (hB2.mono hBw.size)⟩
theorem iF_ (p:ad_) (a1 a2 a3:Option Addr) (n1 c1 n2 c2 n3 c3:Nat) (i:Nat) (key:ByteArray) (w:World) (hp:ao_ w a1 a2 a3 n1 n2 n3 p) (hr:by_ p) (hi:i < n3) (hk:key.size≤24) :
 Calls Tryz.prog 156 #[.agg #[.slice a1 n1 c1,.slice a2 n2 c2,.slice a3 n3 c3],.int .i64 i,.string key] w fun e w'=>e = .returned (.bool (fitP p i key))∧Below w.heap.size w w':=by
 have HP1:Hid (ao_ w a1 a2 a3 n1 n2 n3 p):=hp;have hil:i < p.binds.length:=by rw [hp.l3];exact hi
 obtain ⟨j,hj,hsrc,hkind⟩:=lm_ hr hil;obtain ⟨g3,o3,rfl,hg3,hx3⟩:=HP1.out.p3.cells (by omega);obtain ⟨g1,o1,rfl,hg1,hx1⟩:=HP1.out.p1.cells (by omega);have hpe:=hr.pat _ (List.getElem_mem hil);obtain ⟨x,hx⟩:∃ x,x = p.binds[i]:=⟨_,rfl⟩
 obtain ⟨y,hy⟩:∃ y,y = p.posts[j]:=⟨_,rfl⟩
 have e3:=hx3 i hil;have e1:=(hx1 j hj).2;rw [← hx] at hsrc hkind e3 hpe;rw [← hy] at hkind e1;obtain ⟨f,tp,t,pt⟩:=x;obtain ⟨nm,kd⟩:=y;dsimp only at hsrc hkind e3 e1 hpe;subst hsrc;obtain ⟨z1,z2,z3,z4⟩:=e3;have hjn:j < n1:=by rw [← hp.l1];exact hj
 have hpt:pt.size≤24:=by have:=(dp_ hpe).1;simpa using this
 have HKD:Hid ((kd = 1∧∀ key,fitP p i key = (key.data.toList == pt.data.toList))∨(kd = 2∧∀ key,fitP p i key = true)∨(kd = 3∧∀ key,fitP p i key = fitL pt.data.toList key.data.toList)):=hkind;have hin:(i:Int) < n3:=by omega
 have hjn':(j:Int) < n1:=by omega
 clear hp hx hy hpe hx3 hx1 hkind HP1 hr;rcases HKD.out with ⟨rfl,hf⟩ | ⟨rfl,hf⟩ | ⟨rfl,hf⟩
 ·have HF:Hid (fitP p i key = (key.data.toList == pt.data.toList)):=hf key;clear hf HKD;go_enter Tryz.func156,Tryz.ntmps156;go_wp2_with fail
  go_ret
  exact ⟨aq_ (by rw [HF.out,Lib.toList_data,Lib.toList_data,jJ_,jJ_];simp [eq_comm]),(by repeat (first | exact Below.refl _ _ | assumption | refine Below.drew ?_ | refine Below.alloc ?_ (by first | (simp;done) | (simp;omega) | omega) _ | refine Below.setCell ?_ (by first | (simp;done) | (simp;omega) | omega) _))⟩
 ·have HF:Hid (fitP p i key = true):=hf key;clear hf HKD;go_enter Tryz.func156,Tryz.ntmps156;go_wp2_with fail
  go_ret
  exact ⟨aq_ HF.out.symm,(by repeat (first | exact Below.refl _ _ | assumption | refine Below.drew ?_ | refine Below.alloc ?_ (by first | (simp;done) | (simp;omega) | omega) _ | refine Below.setCell ?_ (by first | (simp;done) | (simp;omega) | omega) _))⟩
 ·have HF:Hid (fitP p i key = fitL pt.data.toList key.data.toList):=hf key;clear hf HKD;go_enter Tryz.func156,Tryz.ntmps156;go_wp2_with fail
  refine (n9_ _ _ _ hpt hk).mono ?_;rintro e w6 ⟨rfl,hB6⟩;go_wp2_with fail
  go_ret
  exact ⟨aq_ HF.out.symm,Below.trans (b:=(w.alloc (.cells #[.slice (some ⟨g1,o1,none⟩) n1 c1,.slice a2 n2 c2,.slice (some ⟨g3,o3,none⟩) n3 c3] 26)).alloc (.cells #[.int .i64 j,.bool tp,.int .i64 t,.string pt] 100)) (by repeat (first | exact Below.refl _ _ | assumption | refine Below.drew ?_ | refine Below.alloc ?_ (by first | (simp;done) | (simp;omega) | omega) _ | refine Below.setCell ?_ (by first | (simp;done) | (simp;omega) | omega) _)) (hB6.mono (by simp;omega))⟩
def oct8 (n:Int):UInt8:=UInt8.ofNat (n % 256).toNat
theorem oK_ {n:Nat} (h:n < 256):(oct8 (n:Int)).toNat = n:=by unfold oct8;rw [UInt8.toNat_ofNat'];omega
theorem oS_ {n:Int} (h0:0≤n) (h:n < 256):((oct8 n).toNat:Int) = n:=by unfold oct8;rw [UInt8.toNat_ofNat'];omega
theorem ou_ (b:UInt8):oct8 (b.toNat:Int) = b:=by
 unfold oct8;have:=b.toNat_lt;apply UInt8.toNat_inj.1
 rw [UInt8.toNat_ofNat'];omega
def Has (s:ByteArray) (i:Nat) (l:List UInt8):Prop:=i≤s.size∧l <+: s.data.toList.drop i
theorem bm_ (s:ByteArray):s.data.toList.length = s.size:=Array.length_toList
theorem Has.le {s:ByteArray} {i:Nat} {l:List UInt8} (h:Has s i l):i+l.length≤s.size:=by
 have:=h.2.length_le;rw [List.length_drop,bm_] at this;have:=h.1;omega
theorem Has.append {s:ByteArray} {i:Nat} {l m:List UInt8}:Has s i (l ++ m)↔Has s i l∧Has s (i+l.length) m:=by
 constructor
 ·intro h;have hle:=h.le;rw [List.length_append] at hle;refine ⟨⟨h.1,(List.prefix_append l m).trans h.2⟩,by omega,?_⟩;obtain ⟨t,ht⟩:=h.2;refine ⟨t,?_⟩;rw [← List.drop_drop,← ht,List.append_assoc,List.drop_left]
 ·rintro ⟨h1,h2⟩;refine ⟨h1.1,?_⟩;obtain ⟨t,ht⟩:=h1.2;obtain ⟨u,hu⟩:=h2.2;rw [← List.drop_drop,← ht,List.drop_left] at hu;exact ⟨u,by rw [List.append_assoc,hu,ht]⟩
theorem Has.cons {s:ByteArray} {i:Nat} {b:UInt8} {m:List UInt8}:Has s i (b :: m)↔Has s i [b]∧Has s (i+1) m:=Has.append (l:=[b])
theorem Has.one {s:ByteArray} {i:Nat} {b:UInt8}:Has s i [b]↔∃ h:i < s.size,s[i] = b:=by
 constructor
 ·intro h;have hle:=h.le;have hi:i < s.size:=Nat.lt_of_succ_le (by simpa using hle);refine ⟨hi,?_⟩;obtain ⟨t,ht⟩:=h.2;have hl:i < s.data.toList.length:=by rw [bm_];exact hi
  rw [List.drop_eq_getElem_cons hl] at ht;have e:=(List.cons.inj ht).1;rw [e];rfl
 ·rintro ⟨hi,rfl⟩;refine ⟨by omega,?_⟩;have hl:i < s.data.toList.length:=by rw [bm_];exact hi
  rw [List.drop_eq_getElem_cons hl];exact ⟨_,rfl⟩
theorem ht_ (s:ByteArray) (i j:Nat):(s.extract i j).data.toList = (s.data.toList.drop i).take (j - i):=by rw [Lib.extract_data]
theorem Has.ext {s t:ByteArray} {i:Nat} (h:Has s i t.data.toList):s.extract i (i+t.size) = t:=by
 apply ByteArray.ext
 apply Array.toList_inj.1
 rw [ht_,Nat.add_sub_cancel_left];have:=List.prefix_iff_eq_take.1 h.2;rw [bm_] at this;exact this.symm
theorem Has.of_ext {s:ByteArray} {i n:Nat} (h:i+n≤s.size):Has s i (s.extract i (i+n)).data.toList:=by
 refine ⟨by omega,?_⟩;rw [ht_,Nat.add_sub_cancel_left];exact List.take_prefix _ _
def rNum (s:ByteArray) (i:Nat):Option (Nat × Nat):=if h:i < s.size then some (s[i].toNat,i+1) else none
def rText (s:ByteArray) (i:Nat):Option (ByteArray × Nat):=
 match rNum s i with
 | none=>none
 | some (n,j)=>if n≤s.size - j then some (s.extract j (j+n),j+n) else none
def eF_ (t:ByteArray):List UInt8:=oct8 t.size :: t.data.toList
def cC_ (b:Bool):Int:=if b = true then 1 else 0
structure Reads {α:Type} (s:ByteArray) (one:Nat→Option (α × Nat)) (enc:α→List UInt8) (ok:α→Prop):Prop where
 fwd:∀ i x j,one i = some (x,j)→Has s i (enc x)∧j = i+(enc x).length∧ok x
 bwd:∀ i x,ok x→Has s i (enc x)→one i = some (x,i+(enc x).length)
theorem ci_ (s:ByteArray):Reads s (rNum s) (fun n=>[oct8 (n:Int)]) (fun n=>n < 256):=by
 constructor
 ·intro i x j h;unfold rNum at h;split at h
  ·rename_i hi;cases h;exact ⟨Has.one.2 ⟨hi,(ou_ _).symm⟩,rfl,UInt8.toNat_lt _⟩
  ·cases h
 ·intro i x hx h;obtain ⟨hi,e⟩:=Has.one.1 h;unfold rNum;rw [dif_pos hi,e,oK_ hx];rfl
theorem ei_ (s:ByteArray):Reads s (rText s) eF_ (fun t=>t.size < 256):=by
 constructor
 ·intro i x j h;unfold rText at h;cases hn:rNum s i with
  | none=>rw [hn] at h;cases h
  | some q =>
    obtain ⟨n,m⟩:=q;rw [hn] at h;obtain ⟨h1,h2,h3⟩:=(ci_ s).fwd _ _ _ hn;simp only at h;split at h
    ·rename_i hle;cases h;have hm:m = i+1:=by simpa using h2
     have hm1:=h1.le;simp only [List.length_singleton] at hm1;have hsz:(s.extract m (m+n)).size = n:=by rw [ByteArray.size_extract];omega
     refine ⟨Has.cons.2 ⟨?_,?_⟩,?_,by rw [hsz];exact h3⟩
     ·rw [hsz];exact h1
     ·rw [← hm];exact Has.of_ext (by omega)
     ·unfold eF_;rw [List.length_cons,bm_,hsz];omega
    ·cases h
 ·intro i x hx h;obtain ⟨h1,h2⟩:=Has.cons.1 h;have hn:=(ci_ s).bwd i x.size hx h1;unfold rText;rw [hn];simp only [List.length_singleton];have hle:=h2.le;rw [bm_] at hle;rw [if_pos (by omega),h2.ext];unfold eF_;rw [List.length_cons,bm_];congr 2;omega
structure ae_ where
 seq:Int
 key:ByteArray
 body:ByteArray
 again:Bool
 deaths:Int
def ae_.val (x:ae_):Value:=.agg #[.int .i64 x.seq,.string x.key,.string x.body,.bool x.again,.int .i64 x.deaths]
def bN_ (s d:Int) (b:Nat):Bool:=decide (0≤s) && decide (s < 1048576) && decide (b≤12) && decide (0≤d) && decide (d≤2)
def am_ (x:ae_):Bool:=bN_ x.seq x.deaths x.body.size && decide (kerr x.key.data.toList = 0)
theorem k9_ (s:ByteArray) (w:World) :
 Calls Tryz.prog 164 #[.string s] w fun e w'=>∃ v,e = .returned (.tuple #[v,.int .i64 (kerr s.data.toList)])∧Below w.heap.size w w':=by
 by_cases h:kerr s.data.toList = 0
 ·refine (e2_ s _ rfl w h).mono ?_;rintro e w' ⟨g,cap,rfl,_,_,_,_,hB⟩;exact ⟨_,by rw [h],hB⟩
 ·refine (em_ s w h).mono ?_;rintro e w' ⟨rfl,hB⟩;exact ⟨_,rfl,hB⟩
theorem c6_ (w:World) (v0 v1 v2 v3 v4:Value) (t:TypeId):∃ W1,W1 = w.alloc (.cells #[v0,v1,v2,v3,v4] t)∧Below w.heap.size w W1∧W1.heap.size = w.heap.size+1 ∧
 ∀ W,Below W1.heap.size W1 W→W.cell? ⟨w.heap.size,0,none⟩ = some v0∧W.cell? ⟨w.heap.size,1,none⟩ = some v1∧W.cell? ⟨w.heap.size,2,none⟩ = some v2∧W.cell? ⟨w.heap.size,3,none⟩ = some v3∧W.cell? ⟨w.heap.size,4,none⟩ = some v4:=by
 have hh:(w.alloc (.cells #[v0,v1,v2,v3,v4] t)).heap[w.heap.size]? = some (.cells #[v0,v1,v2,v3,v4] t):=World.alloc_heap_new w _;have hs:(w.alloc (.cells #[v0,v1,v2,v3,v4] t)).heap.size = w.heap.size+1:=by simp
 have hc:∀ i,(w.alloc (.cells #[v0,v1,v2,v3,v4] t)).cell? ⟨w.heap.size,i,none⟩ = #[v0,v1,v2,v3,v4][i]?:=by intro i;unfold World.cell?;simp only;rw [hh];rfl
 refine ⟨_,rfl,(Below.refl _ _).alloc (Nat.le_refl _) _,hs,fun W hW=>?_⟩;have hk:∀ i,W.cell? ⟨w.heap.size,i,none⟩ = #[v0,v1,v2,v3,v4][i]?:=fun i=>(hW.cell (p:=⟨w.heap.size,i,none⟩) (by show w.heap.size < _;omega)).trans (hc i)
 exact ⟨hk 0,hk 1,hk 2,hk 3,hk 4⟩
theorem gC_ (s d:Int) (b:Nat):(bN_ s d b = true∧¬ s < 0∧¬ (1048576:Int)≤s∧¬ (12:Int) < b∧¬ d < 0∧¬ (2:Int) < d) ∨
 (bN_ s d b = false∧(s < 0∨(¬ s < 0∧(1048576:Int)≤s)∨(¬ s < 0∧¬ (1048576:Int)≤s∧(12:Int) < b)∨(¬ s < 0∧¬ (1048576:Int)≤s∧¬ (12:Int) < b∧d < 0)∨(¬ s < 0∧¬ (1048576:Int)≤s∧¬ (12:Int) < b∧¬ d < 0∧(2:Int) < d))):=by
 by_cases h:bN_ s d b = true
 ·left;refine ⟨h,?_⟩;unfold bN_ at h;simp at h;omega
 ·right;refine ⟨by simpa using h,?_⟩;unfold bN_ at h;simp at h;omega
theorem og_ {x:Int}:(x == 0) = decide (x = 0):=by by_cases h:x = 0 <;> simp [h]
theorem c1_ (s d:Int) (k b:ByteArray) (a:Bool) (w:World) :
 Calls Tryz.prog 133 #[.agg #[.int .i64 s,.string k,.string b,.bool a,.int .i64 d]] w fun e w'=>e = .returned (.bool (am_ ⟨s,k,b,a,d⟩))∧Below w.heap.size w w':=by
 rcases gC_ s d b.size with ⟨h,q1,q2,q3,q4,q5⟩ | ⟨h,q⟩
 ·have E:Hid (am_ ⟨s,k,b,a,d⟩ = decide (kerr k.data.toList = 0)):=by show am_ _ = _;unfold am_;simp only [h,Bool.true_and]
  obtain ⟨c,hc⟩:∃ c,c = kerr k.data.toList:=⟨_,rfl⟩
  have HC:Hid (c = kerr k.data.toList):=hc;clear h hc;go_enter Tryz.func133,Tryz.ntmps133;go_wp2_with fail
  refine (k9_ _ _).mono ?_;rintro e w2 ⟨v,rfl,hB2⟩;rw [← HC.out];go_wp2_with fail
  go_ret
  exact ⟨aq_ (by rw [E.out,← HC.out];exact og_),((Below.refl _ _).alloc (Nat.le_refl _) _).trans (hB2.mono (by simp))⟩
 ·have E:Hid (am_ ⟨s,k,b,a,d⟩ = false):=by show am_ _ = _;unfold am_;simp only [h,Bool.false_and]
  rw [E.out];clear h E;rcases q with q1 | ⟨q1,q2⟩ | ⟨q1,q2,q3⟩ | ⟨q1,q2,q3,q4⟩ | ⟨q1,q2,q3,q4,q5⟩
  all_goals
   go_enter Tryz.func133,Tryz.ntmps133;go_wp2_with fail
   go_ret
   exact ⟨rfl,(Below.refl _ _).alloc (Nat.le_refl _) _⟩
def inR2 (a b c:Int):Bool:=decide (b≤a∧a≤c)
theorem lH_ (x:ae_):am_ x = (inR2 x.seq 0 1048575 && decide (kerr x.key.data.toList = 0) && decide ((x.body.size:Int)≤12) && inR2 x.deaths 0 2):=by
 unfold am_ bN_ inR2;rw [Bool.eq_iff_iff];simp;omega
theorem iO_ (a b c:Int) (w:World) :
 Calls Tryz.prog 63 #[.int .i64 a,.int .i64 b,.int .i64 c] w fun e w'=>e = .returned (.bool (inR2 a b c))∧w' = w:=by
 by_cases h1:b≤a
 ·have E:inR2 a b c = decide (a≤c):=by unfold inR2;simp [h1]
  rw [E];go_enter Tryz.func63,Tryz.ntmps63;go_wp2
  go_ret
  exact ⟨rfl,rfl⟩
 ·have E:inR2 a b c = false:=by unfold inR2;simp [h1]
  rw [E];go_enter Tryz.func63,Tryz.ntmps63;go_wp2
  go_ret
  exact ⟨rfl,rfl⟩
theorem b4_ (s d:Int) (k b:ByteArray) (a:Bool) (w:World) :
 Calls Tryz.prog 77 #[.agg #[.int .i64 s,.string k,.string b,.bool a,.int .i64 d]] w fun e w'=>e = .returned (.bool (am_ ⟨s,k,b,a,d⟩))∧Below w.heap.size w w':=by
 have E:Hid (am_ ⟨s,k,b,a,d⟩ = (inR2 s 0 1048575 && decide (kerr k.data.toList = 0) && decide ((b.size:Int)≤12) && inR2 d 0 2)):=lH_ ⟨s,k,b,a,d⟩;obtain ⟨r1,h1⟩:∃ r,r = inR2 s 0 1048575:=⟨_,rfl⟩
 obtain ⟨r2,h2⟩:∃ r,r = inR2 d 0 2:=⟨_,rfl⟩
 obtain ⟨c,hc⟩:∃ c,c = kerr k.data.toList:=⟨_,rfl⟩
 have H1:Hid (r1 = inR2 s 0 1048575):=h1;have H2:Hid (r2 = inR2 d 0 2):=h2;have HC:Hid (c = kerr k.data.toList):=hc;rw [← h1,← h2,← hc] at E;clear h1 h2 hc;obtain ⟨q,hq⟩:∃ q,q = am_ ⟨s,k,b,a,d⟩:=⟨_,rfl⟩
 rw [← hq] at E ⊢;clear hq;obtain ⟨W1,hW1,hBw,hs1,hbx⟩:=c6_ w (.int .i64 s) (.string k) (.string b) (.bool a) (.int .i64 d) 48;have HW1:Hid (W1 = _):=hW1;have BX:Hid (∀ W,Below W1.heap.size W1 W→_):=hbx;clear hW1 hbx hs1;cases r1 <;> by_cases hc0:c = 0 <;> by_cases hb:(b.size:Int)≤12 <;> cases r2
 all_goals
  have E':=E.out;simp [hc0,hb] at E';subst E';clear E;go_enter Tryz.func77,Tryz.ntmps77;go_wp2_with fail
  rw [← HW1.out];refine (iO_ _ _ _ _).mono ?_;rintro e w' ⟨rfl,rfl⟩;rw [← H1.out];obtain ⟨d0,d1,d2,d3,d4⟩:=BX.out w' (Below.refl _ _);go_wp2_with (first
   | (go_at_call 63;refine (iO_ _ _ _ _).mono ?_;rintro e w' ⟨rfl,rfl⟩;rw [← H2.out])
   | (go_at_call 128;refine (d2_ _ _).mono ?_;rintro e w2 ⟨rfl,hB2⟩;obtain ⟨d0,d1,d2,d3,d4⟩:=BX.out w2 hB2;rw [← HC.out]))
  go_ret
  exact ⟨rfl,by first | exact hBw | exact hBw.trans (hB2.mono hBw.size)⟩
theorem tk (i:Nat) {P:Program} {ops:Array Oper} {Q:Exit→Act→World→Prop} {md:Region.Mode} {S:World→Prop} {oi:Oper} {v:Value} {fuel:Nat} {listed l':Array Bool} {a a':Act} {w:World} (h:wpAnyH P md ops Q S fuel l' a' w) (hi:ops[i]? = some oi:=by rfl)
 (hs:Region.noSelect ops = true:=by kernel_rfl) (hf:Region.free md ops listed i = true:=by kernel_rfl) (hr:(Region.ready md ops listed).contains i = true:=by kernel_rfl)
 (hy:YieldsIf P ops S oi v a:=by refine Or.inl ⟨by kernel_rfl,?_⟩;intro w hSw;(try dsimp only at hSw);go_simp;(try with_reducible rfl))
 (hQ:∀ c a w,Q (.panic c) (a.put oi.dst v) w→Q (.panic c) a w:=by exact fun _ _ _ h=>h) (hS:S w:=by assumption)
 (hl:listed.setIfInBounds i true = l':=by (try simp only [List.setIfInBounds_toArray,List.set_cons_zero,List.set_cons_succ]);exact rfl)
 (ha:a.put oi.dst v = a':=by (try simp only [Act.put,List.getElem_toArray,List.getElem_cons_succ,List.getElem_cons_zero,List.setIfInBounds_toArray,List.set_cons_zero,List.set_cons_succ]);exact rfl) :
 wpAnyH P md ops Q S (fuel+1) listed a w:=
 wpAnyH_take hi hs hf hr hQ hy hS (by rw [hl,ha];exact h)
theorem sk (i:Nat) {P:Program} {ops:Array Oper} {Q:Exit→Act→World→Prop} {md:Region.Mode} {S:World→Prop} {oi:Oper} {fuel:Nat} {listed l':Array Bool} {a a':Act} {w:World} (h:wpAnyH P md ops Q S fuel l' a' w) (hi:ops[i]? = some oi:=by rfl)
 (hs:Region.noSelect ops = true:=by kernel_rfl) (hf:Region.free md ops listed i = true:=by kernel_rfl) (hr:(Region.ready md ops listed).contains i = true:=by kernel_rfl)
 (hy:YieldsIf P ops S oi undef a:=by exact Or.inr ⟨by kernel_rfl,rfl⟩)
 (hQ:∀ c a w,Q (.panic c) (a.put oi.dst undef) w→Q (.panic c) a w:=by exact fun _ _ _ h=>h) (hS:S w:=by assumption)
 (hl:listed.setIfInBounds i true = l':=by (try simp only [List.setIfInBounds_toArray,List.set_cons_zero,List.set_cons_succ]);exact rfl)
 (ha:a.put oi.dst undef = a':=by (try simp only [Act.put,List.getElem_toArray,List.getElem_cons_succ,List.getElem_cons_zero,List.setIfInBounds_toArray,List.set_cons_zero,List.set_cons_succ]);exact rfl) :
 wpAnyH P md ops Q S (fuel+1) listed a w:=
 wpAnyH_take hi hs hf hr hQ hy hS (by rw [hl,ha];exact h)
theorem nrm {P:Program} {ops:Array Oper} {Q:Exit→Act→World→Prop} {md:Region.Mode} {S:World→Prop} {fuel:Nat} {l l':Array Bool} {a a':Act} {w:World} (h:wpAnyH P md ops Q S fuel l' a' w)
 (hl:l = l':=by (try simp only [List.setIfInBounds_toArray,List.set_cons_zero,List.set_cons_succ]);exact rfl)
 (ha:a = a':=by (try simp only [Act.put,List.getElem_toArray,List.getElem_cons_succ,List.getElem_cons_zero,List.setIfInBounds_toArray,List.set_cons_zero,List.set_cons_succ]);exact rfl) :
 wpAnyH P md ops Q S fuel l a w:=by rw [hl,ha];exact h
theorem rdy (i:Nat) {P:Program} {ops:Array Oper} {Q:Exit→Act→World→Prop} {md:Region.Mode} {S:World→Prop} {o:Oper} {fuel:Nat} {listed:Array Bool} {a:Act} {w:World}
 (h:∀ K':Act→World→Prop,Shut (∀ a w,S w→(S w→wpAnyH P md ops Q S fuel (listed.setIfInBounds i true) a w)→K' a w)→if Region.wanted o (yielded ops a.tmps) = true then Oper.wp P o a w K' Q else K' (a.put o.dst undef) w)
 (ho:ops[i]? = some o:=by rfl) (hr:Region.ready md ops listed = [i]:=by kernel_rfl):wpAnyH P md ops Q S (fuel+1) listed a w:=
 wpAnyH_ready hr (by simp) (AllReadyH.cons ho h AllReadyH.nil)
def aK_:Int→List ae_→Bool
 | _,[]=>true
 | last,x :: r=>am_ x && decide (last < x.seq) && aK_ x.seq r
def at_ (xs:List ae_):Bool:=aK_ (-1) xs
def bx_ (xs:List ae_):Int:=if at_ xs = true then 0 else 1
def aS_ (W:World) (g o:Nat) (x:ae_):Prop:=
 W.cell? ⟨g,o,none⟩ = some (.int .i64 x.seq)∧W.cell? ⟨g,o+1,none⟩ = some (.string x.key)∧W.cell? ⟨g,o+2,none⟩ = some (.string x.body)∧W.cell? ⟨g,o+3,none⟩ = some (.bool x.again)∧W.cell? ⟨g,o+4,none⟩ = some (.int .i64 x.deaths)
theorem aS_.keep {W W':World} {g o:Nat} {x:ae_} {b:Nat} (h:aS_ W g o x) (hB:Below b W W') (hg:g < b):aS_ W' g o x:=
 ⟨(hB.cell (p:=⟨g,_,none⟩) hg).trans h.1,(hB.cell (p:=⟨g,_,none⟩) hg).trans h.2.1,(hB.cell (p:=⟨g,_,none⟩) hg).trans h.2.2.1,(hB.cell (p:=⟨g,_,none⟩) hg).trans h.2.2.2.1,(hB.cell (p:=⟨g,_,none⟩) hg).trans h.2.2.2.2⟩
def ai_ (W:World) (a:Option Addr) (xs:List ae_):Prop:=xs = []∨∃ g o,a = some ⟨g,o,none⟩∧g < W.heap.size∧∀ i (h:i < xs.length),aS_ W g (o+i * 5) xs[i]
theorem ai_.cells {W:World} {a:Option Addr} {xs:List ae_} (h:ai_ W a xs) (hne:0 < xs.length):∃ g o,a = some ⟨g,o,none⟩∧g < W.heap.size∧∀ i (h:i < xs.length),aS_ W g (o+i * 5) xs[i]:=by
 rcases h with h | h
 ·rw [h] at hne;simp at hne
 ·exact h
theorem ai_.keep {W W':World} {a:Option Addr} {xs:List ae_} (h:ai_ W a xs) (hB:Below W.heap.size W W'):ai_ W' a xs:=by
 rcases h with h | ⟨g,o,ha,hg,h⟩
 ·exact .inl h
 ·exact .inr ⟨g,o,ha,Nat.lt_of_lt_of_le hg hB.size,fun i hi=>(h i hi).keep hB hg⟩
theorem du_ {last:Int} {x:ae_} {r:List ae_} (h:am_ x = false∨x.seq≤last):aK_ last (x :: r) = false:=by
 unfold aK_;rcases h with h | h
 ·simp [h]
 ·have:¬ last < x.seq:=by omega
  simp [this]
theorem c9_ {last:Int} {x:ae_} {r:List ae_} (h:am_ x = true) (h2:¬ x.seq≤last):aK_ last (x :: r) = aK_ x.seq r:=by
 have:last < x.seq:=by omega
 conv=>lhs;unfold aK_
 simp [h,this]
theorem bu_ (xs:List ae_) (a:Option Addr) (n c:Nat) (w:World) (hn:xs.length = n) (hm:n≤maxLen) (hp:ai_ w a xs) :
 Calls Tryz.prog 94 #[.slice a n c] w fun e w'=>e = .returned (.int .i64 (bx_ xs))∧Below w.heap.size w w':=by
 have HN:Hid (xs.length = n):=hn;have HP:Hid (ai_ w a xs):=hp;unfold maxLen at hm;clear hn hp;go_enter Tryz.func94,Tryz.ntmps94;go_wp2
 go_loopw [3,8] (fun l i wr=>∃ (k:Nat) (last:Int),k≤n∧i = .int .i64 k∧l = .int .i64 last∧at_ xs = aK_ last (xs.drop k)∧Below w.heap.size w wr) (fun _ i _=>n - (intOf i).toNat)
 case atStart=>exact ⟨0,-1,Nat.zero_le _,rfl,rfl,rfl,Below.refl _ _⟩
 case round=>
  obtain ⟨k,last,hk,rfl,rfl,ha,hB⟩:=hrel;have HA:Hid (at_ xs = aK_ last (xs.drop k)):=ha;have hBs:=hB.size;clear ha;by_cases hlt:k < n
  ·have hkl:k < xs.length:=by rw [HN.out];exact hlt
   obtain ⟨g,o,rfl,hg,hx⟩:=HP.out.cells (by omega);obtain ⟨x,hxx⟩:∃ x,x = xs[k]:=⟨_,rfl⟩
   have hc:=(hx k hkl).keep hB hg;rw [← hxx] at hc;have hd:xs.drop k = x :: xs.drop (k+1):=by rw [hxx];exact List.drop_eq_getElem_cons hkl
   clear hx hxx;obtain ⟨s,ky,b,ag,d⟩:=x;obtain ⟨c0,c1,c2,c3,c4⟩:=hc;dsimp only at c0 c1 c2 c3 c4;obtain ⟨r,hr⟩:∃ r,r = am_ ⟨s,ky,b,ag,d⟩:=⟨_,rfl⟩
   have HR:Hid (r = am_ ⟨s,ky,b,ag,d⟩):=hr;obtain ⟨W1,hW1,hBw,hs1,hbx⟩:=c6_ wr (.int .i64 s) (.string ky) (.string b) (.bool ag) (.int .i64 d) 48;have HW1:Hid (W1 = _):=hW1;have BX:Hid (∀ W,Below W1.heap.size W1 W→_):=hbx;clear hW1 hbx hs1;have hB1:Below w.heap.size w W1:=hB.trans (hBw.mono hBs);have s1:=hB1.size;cases r with
   | false =>
     have HF:Hid (bx_ xs = 1):=by show bx_ xs = 1;unfold bx_;rw [HA.out,hd,du_ (.inl hr.symm)];rfl
     clear hd hr;go_wp2_with fail
     rw [← HW1.out];refine (c1_ _ _ _ _ _ _).mono ?_;rintro e w2 ⟨rfl,hB2⟩;rw [← HR.out];go_wp2_with fail
     go_ret
     exact ⟨au_ HF.out.symm,hB1.trans (hB2.mono s1)⟩
   | true =>
     by_cases hle:s≤last
     ·have HF:Hid (bx_ xs = 1):=by show bx_ xs = 1;unfold bx_;rw [HA.out,hd,du_ (.inr hle)];rfl
      clear hd hr;go_wp2_with fail
      rw [← HW1.out];refine (c1_ _ _ _ _ _ _).mono ?_;rintro e w2 ⟨rfl,hB2⟩;obtain ⟨d0,d1,d2,d3,d4⟩:=BX.out w2 hB2;rw [← HR.out];go_wp2_with fail
      go_ret
      exact ⟨au_ HF.out.symm,hB1.trans (hB2.mono s1)⟩
     ·have HF:Hid (at_ xs = aK_ s (xs.drop (k+1))):=by show at_ xs = _;rw [HA.out,hd,c9_ hr.symm hle]
      clear hd hr;go_wp2_with fail
      rw [← HW1.out];refine (c1_ _ _ _ _ _ _).mono ?_;rintro e w2 ⟨rfl,hB2⟩;obtain ⟨d0,d1,d2,d3,d4⟩:=BX.out w2 hB2;rw [← HR.out];go_wp2_with fail
      go_roundw
      case rel=>exact ⟨k+1,s,by omega,by go_num,rfl,HF.out,hB1.trans (hB2.mono s1)⟩
      case measure=>simp [intOf];omega
  ·have e:xs.drop k = []:=List.drop_eq_nil_of_le (by rw [HN.out];omega);have HF:Hid (bx_ xs = 0):=by show bx_ xs = 0;unfold bx_;rw [HA.out,e];rfl
   go_wp2
   go_ret
   exact ⟨au_ HF.out.symm,hB⟩
theorem gW_ {x:ae_} (h:am_ x = true):0≤x.seq:=by unfold am_ bN_ at h;simp at h;omega
theorem jd_ (k:Nat) (h:k≤9223372036854775807):IntKind.i64.wrap (k:Int) = (k:Int):=by rw [IntKind.wrap_i64];omega
theorem bud_ {b:Nat} {W w':World} (h:Below b W.drew w'):Below b W w':=⟨h.os,h.tape,h.output,h.size,h.block⟩
def dt_ (xs:List ae_) (k:Nat):Int:=if k = 0 then -1 else (xs[k - 1]?.map ae_.seq).getD (-1)
theorem io_ (xs:List ae_) (a:Option Addr) (n c:Nat) (w:World) (hn:xs.length = n) (hm:n≤maxLen) (hp:ai_ w a xs) :
 Calls Tryz.prog 76 #[.slice a n c] w fun e w'=>e = .returned (.bool (at_ xs))∧Below w.heap.size w w':=by
 have HN:Hid (xs.length = n):=hn;have HP:Hid (ai_ w a xs):=hp;unfold maxLen at hm;clear hn hp;go_enter Tryz.func76,Tryz.ntmps76;go_wp2
 go_loopw [3] (fun i wr=>∃ (k:Nat),k≤n∧i = .int .i64 k∧at_ xs = aK_ (dt_ xs k) (xs.drop k)∧Below w.heap.size w wr) (fun i _=>n - (intOf i).toNat)
 case atStart=>exact ⟨0,Nat.zero_le _,rfl,rfl,Below.refl _ _⟩
 case round=>
  obtain ⟨k,hk,rfl,ha,hB⟩:=hrel;have HA:Hid (at_ xs = aK_ (dt_ xs k) (xs.drop k)):=ha;have hBs:=hB.size;clear ha;by_cases hlt:k < n
  ·have hkl:k < xs.length:=by rw [HN.out];exact hlt
   obtain ⟨g,o,rfl,hg,hx⟩:=HP.out.cells (by omega);obtain ⟨x,hxx⟩:∃ x,x = xs[k]:=⟨_,rfl⟩
   have hc:=(hx k hkl).keep hB hg;rw [← hxx] at hc;have hd:xs.drop k = x :: xs.drop (k+1):=by rw [hxx];exact List.drop_eq_getElem_cons hkl
   have HL1:Hid (dt_ xs (k+1) = x.seq):=by show dt_ xs (k+1) = _;unfold dt_;rw [if_neg (by omega)];simp [hkl,hxx]
   clear hxx;obtain ⟨s,ky,b,ag,d⟩:=x;obtain ⟨c0,c1,c2,c3,c4⟩:=hc;dsimp only at c0 c1 c2 c3 c4;obtain ⟨r,hr⟩:∃ r,r = am_ ⟨s,ky,b,ag,d⟩:=⟨_,rfl⟩
   have HR:Hid (r = am_ ⟨s,ky,b,ag,d⟩):=hr;have hgw:g < wr.heap.size:=by omega
   obtain ⟨W1,hW1⟩:∃ W1,W1 = wr:=⟨_,rfl⟩
   cases r with
   | false =>
     clear hx;have j1:(0:Int)≤(k:Int):=by omega
     have j2:(k:Int) < n:=by omega
     have HF:Hid (at_ xs = false):=by show at_ xs = false;rw [HA.out,hd,du_ (.inl hr.symm)]
     clear hd hr;go_wp2_with fail
     refine wp_region_held_drew (S:=fun w'=>w'.cell? ⟨g,o+k * 5,none⟩ = some (.int .i64 s)∧w'.cell? ⟨g,o+k * 5+1,none⟩ = some (.string ky)∧w'.cell? ⟨g,o+k * 5+2,none⟩ = some (.string b)∧w'.cell? ⟨g,o+k * 5+3,none⟩ = some (.bool ag)∧w'.cell? ⟨g,o+k * 5+4,none⟩ = some (.int .i64 d)) (by kernel_rfl) ⟨c0,c1,c2,c3,c4⟩ (fun hHeld=>?_);refine tk 0 ?_;refine tk 1 ?_;refine tk 2 ?_;refine tk 3 ?_;refine rdy 4 (fun K hK=>?_);go_simp;refine (b4_ _ _ _ _ _ _).mono ?_;rintro e w2 ⟨rfl,hB2'⟩;have hB2:=bud_ hB2';rw [← HR.out];refine hK.out _ _ ⟨(hB2.cell (p:=⟨g,_,none⟩) hgw).trans c0,(hB2.cell (p:=⟨g,_,none⟩) hgw).trans c1,(hB2.cell (p:=⟨g,_,none⟩) hgw).trans c2,(hB2.cell (p:=⟨g,_,none⟩) hgw).trans c3,(hB2.cell (p:=⟨g,_,none⟩) hgw).trans c4⟩ (fun hHeld2=>?_);clear hHeld;try simp only [Act.put,List.getElem_toArray,List.getElem_cons_succ,List.getElem_cons_zero,List.setIfInBounds_toArray,List.set_cons_zero,List.set_cons_succ]
     clear hK K;refine tk 5 ?_;refine tk 6 ?_;refine sk 7 ?_;refine sk 8 ?_;refine sk 9 ?_;refine sk 10 ?_;refine sk 11 ?_;refine sk 12 ?_;refine sk 13 ?_;refine sk 14 ?_;refine sk 15 ?_;refine sk 16 ?_;refine sk 17 ?_;refine sk 18 ?_;refine sk 19 ?_;refine sk 20 ?_;refine sk 21 ?_;refine sk 22 ?_;refine tk 23 ?_;refine wpAnyH_done (by kernel_rfl) ?_ _
     all_goals
      go_wp2_with fail
      go_ret
      exact ⟨aq_ HF.out.symm,hB.trans (hB2.mono hBs)⟩
   | true =>
     rcases Nat.eq_zero_or_pos k with hk0 | hk0
     ·subst hk0;clear hx;simp only [Nat.zero_mul,Nat.add_zero] at c0 c1 c2 c3 c4;have j2:(0:Int) < n:=by omega
      have HF:Hid (at_ xs = aK_ s (xs.drop 1)):=by
       show at_ xs = _;rw [HA.out,hd,c9_ hr.symm (by have:=gW_ hr.symm;unfold dt_;simp;dsimp only at this;omega)]
      clear hd hr;go_wp2_with fail
      refine wp_region_held_drew (S:=fun w'=>w'.cell? ⟨g,o,none⟩ = some (.int .i64 s)∧w'.cell? ⟨g,o+1,none⟩ = some (.string ky)∧w'.cell? ⟨g,o+2,none⟩ = some (.string b)∧w'.cell? ⟨g,o+3,none⟩ = some (.bool ag)∧w'.cell? ⟨g,o+4,none⟩ = some (.int .i64 d)) (by kernel_rfl) ⟨c0,c1,c2,c3,c4⟩ (fun hHeld=>?_);refine tk 0 ?_;refine tk 1 ?_;refine tk 2 ?_;refine tk 3 ?_;refine rdy 4 (fun K hK=>?_);go_simp;refine (b4_ _ _ _ _ _ _).mono ?_;rintro e w2 ⟨rfl,hB2'⟩;have hB2:=bud_ hB2';rw [← HR.out];refine hK.out _ _ ⟨(hB2.cell (p:=⟨g,_,none⟩) hgw).trans c0,(hB2.cell (p:=⟨g,_,none⟩) hgw).trans c1,(hB2.cell (p:=⟨g,_,none⟩) hgw).trans c2,(hB2.cell (p:=⟨g,_,none⟩) hgw).trans c3,(hB2.cell (p:=⟨g,_,none⟩) hgw).trans c4⟩ (fun hHeld2=>?_);clear hHeld;try simp only [Act.put,List.getElem_toArray,List.getElem_cons_succ,List.getElem_cons_zero,List.setIfInBounds_toArray,List.set_cons_zero,List.set_cons_succ]
      clear hK K;refine tk 5 ?_;refine tk 6 ?_;refine tk 7 ?_;refine tk 8 ?_;refine tk 9 ?_;refine sk 10 ?_;refine sk 11 ?_;refine sk 12 ?_;refine sk 13 ?_;refine sk 14 ?_;refine sk 15 ?_;refine sk 16 ?_;refine sk 17 ?_;refine sk 18 ?_;refine sk 19 ?_;refine sk 20 ?_;refine sk 21 ?_;refine tk 22 ?_;refine tk 23 ?_;refine wpAnyH_done (by kernel_rfl) ?_ _
      all_goals
       go_wp2_with fail
       go_roundw
       case rel=>exact ⟨1,by omega,by go_num,by rw [HF.out,HL1.out],hB.trans (hB2.mono hBs)⟩
       case measure=>simp [intOf];omega
     ·obtain ⟨k',rfl⟩:∃ k',k = k' + 1:=⟨k - 1,by omega⟩
      have hkl':k' < xs.length:=by omega
      have cp:=((hx k' hkl').keep hB hg).1;have HL0:Hid (dt_ xs (k' + 1) = xs[k'].seq):=by show dt_ xs (k' + 1) = _;unfold dt_;rw [if_neg (by omega)];simp [hkl']
      obtain ⟨l,hl⟩:∃ l,l = xs[k'].seq:=⟨_,rfl⟩
      rw [← hl] at cp HL0;clear hx hl hk0;have j0:(0:Int) < (k':Int)+1:=by omega
      have j1:(0:Int)≤(k':Int)+1:=by omega
      have j2:(k':Int)+1 < n:=by omega
      have j3:(k':Int) < n:=by omega
      have j4:(0:Int)≤(k':Int):=by omega
      have j5:IntKind.i64.wrap (k':Int) = (k':Int):=jd_ _ (by omega);by_cases hle:s≤l
      ·have HF:Hid (at_ xs = false):=by show at_ xs = false;rw [HA.out,hd,du_ (.inr (by rw [HL0.out];exact hle))]
       clear hd hr;go_wp2_with fail
       go_region_held3 (fun w'=>w'.cell? ⟨g,o+(k' + 1) * 5,none⟩ = some (.int .i64 s)∧w'.cell? ⟨g,o+(k' + 1) * 5+1,none⟩ = some (.string ky)∧w'.cell? ⟨g,o+(k' + 1) * 5+2,none⟩ = some (.string b)∧w'.cell? ⟨g,o+(k' + 1) * 5+3,none⟩ = some (.bool ag)∧w'.cell? ⟨g,o+(k' + 1) * 5+4,none⟩ = some (.int .i64 d)∧w'.cell? ⟨g,o+k' * 5,none⟩ = some (.int .i64 l))
        (go_keep)
        (first | (go_at_call 77;refine (b4_ _ _ _ _ _ _).mono ?_;rintro e w2 ⟨rfl,hB2'⟩;have hB2:=bud_ hB2';rw [← HR.out];have e0:=(hB2.cell (p:=⟨g,_,none⟩) hgw).trans c0;have e1:=(hB2.cell (p:=⟨g,_,none⟩) hgw).trans c1;have e2:=(hB2.cell (p:=⟨g,_,none⟩) hgw).trans c2;have e3:=(hB2.cell (p:=⟨g,_,none⟩) hgw).trans c3;have e4:=(hB2.cell (p:=⟨g,_,none⟩) hgw).trans c4;have ep:=(hB2.cell (p:=⟨g,_,none⟩) hgw).trans cp))
       all_goals
        go_wp2_with fail
        go_ret
        exact ⟨aq_ HF.out.symm,hB.trans (hB2.mono hBs)⟩
      ·have HF:Hid (at_ xs = aK_ s (xs.drop (k' + 1+1))):=by show at_ xs = _;rw [HA.out,hd,c9_ hr.symm (by rw [HL0.out];exact hle)]
       clear hd hr;go_wp2_with fail
       go_region_held3 (fun w'=>w'.cell? ⟨g,o+(k' + 1) * 5,none⟩ = some (.int .i64 s)∧w'.cell? ⟨g,o+(k' + 1) * 5+1,none⟩ = some (.string ky)∧w'.cell? ⟨g,o+(k' + 1) * 5+2,none⟩ = some (.string b)∧w'.cell? ⟨g,o+(k' + 1) * 5+3,none⟩ = some (.bool ag)∧w'.cell? ⟨g,o+(k' + 1) * 5+4,none⟩ = some (.int .i64 d)∧w'.cell? ⟨g,o+k' * 5,none⟩ = some (.int .i64 l))
        (go_keep)
        (first | (go_at_call 77;refine (b4_ _ _ _ _ _ _).mono ?_;rintro e w2 ⟨rfl,hB2'⟩;have hB2:=bud_ hB2';rw [← HR.out];have e0:=(hB2.cell (p:=⟨g,_,none⟩) hgw).trans c0;have e1:=(hB2.cell (p:=⟨g,_,none⟩) hgw).trans c1;have e2:=(hB2.cell (p:=⟨g,_,none⟩) hgw).trans c2;have e3:=(hB2.cell (p:=⟨g,_,none⟩) hgw).trans c3;have e4:=(hB2.cell (p:=⟨g,_,none⟩) hgw).trans c4;have ep:=(hB2.cell (p:=⟨g,_,none⟩) hgw).trans cp))
       all_goals
        go_wp2_with fail
        go_roundw
        case rel=>exact ⟨k' + 1+1,by omega,by go_num,by rw [HF.out,HL1.out],hB.trans (hB2.mono hBs)⟩
        case measure=>simp [intOf];omega
  ·have e:xs.drop k = []:=List.drop_eq_nil_of_le (by rw [HN.out];omega);have HF:Hid (at_ xs = true):=by show at_ xs = true;rw [HA.out,e];unfold aK_;rfl
   go_wp2
   go_ret
   exact ⟨aq_ HF.out.symm,hB⟩
theorem Tryz.infoItem:(Tryz.prog.info? 48).map (fun i=>(i.zero,i.size,i.bytes)) = some (some (.agg #[.int .i64 0,.string ⟨#[]⟩,.string ⟨#[]⟩,.bool false,.int .i64 0]),5,56):=by kernel_rfl
def ae_.cells (x:ae_):List Value:=[.int .i64 x.seq,.string x.key,.string x.body,.bool x.again,.int .i64 x.deaths]
def al_ (xs:List ae_):List Value:=xs.flatMap ae_.cells
theorem cb_ (xs:List ae_):(al_ xs).length = xs.length * 5:=by
 induction xs with
 | nil=>rfl
 | cons x r ih=>unfold al_ at ih ⊢;rw [List.flatMap_cons,List.length_append,ih];simp [ae_.cells];omega
theorem dZ_:∀ (xs:List ae_) (i:Nat) (h:i < xs.length) (j:Nat),j < 5→(al_ xs)[i * 5+j]? = (xs[i].cells)[j]?
 | [],i,h,_,_=>by simp at h
 | x :: r, 0, h, j, hj => by
   unfold al_;rw [List.flatMap_cons,List.getElem?_append_left (by simp [ae_.cells];omega)];simp
 | x :: r, i + 1, h, j, hj => by
   have ih:=dZ_ r i (by simpa using h) j hj;unfold al_ at ih ⊢;rw [List.flatMap_cons,List.getElem?_append_right (by simp [ae_.cells];omega)];have e:(i+1) * 5+j - x.cells.length = i * 5+j:=by simp [ae_.cells];omega
   rw [e,ih];simp
theorem fF_ (xs ys:List ae_):al_ (xs ++ ys) = al_ xs ++ al_ ys:=by unfold al_;rw [List.flatMap_append]
theorem cc_ (xs:List ae_):∀ u ∈ al_ xs,u.oneCell' = true:=by
 intro u hu;obtain ⟨x,_,hx⟩:=List.mem_flatMap.1 hu;simp [ae_.cells] at hx;rcases hx with rfl | rfl | rfl | rfl | rfl <;> rfl
theorem aS_.of {W:World} {g o:Nat} {x:ae_} (h:∀ j,j < 5→W.cell? ⟨g,o+j,none⟩ = x.cells[j]?):aS_ W g o x:=
 ⟨h 0 (by omega),h 1 (by omega),h 2 (by omega),h 3 (by omega),h 4 (by omega)⟩
theorem aS_.at {W:World} {g o:Nat} {x:ae_} (h:aS_ W g o x) {j:Nat} (hj:j < 5):W.cell? ⟨g,o+j,none⟩ = x.cells[j]?:=by
 obtain ⟨h0,h1,h2,h3,h4⟩:=h;match j,hj with
 | 0,_=>exact h0
 | 1,_=>exact h1
 | 2,_=>exact h2
 | 3,_=>exact h3
 | 4,_=>exact h4
theorem cR_ (g o j:Nat):(⟨g,o,none⟩:Addr).add j = ⟨g,o+j,none⟩:=by unfold Addr.add;split <;> simp_all
theorem iy_ {W:World} {base:Nat} {T:TypeId} {v:Value} {n:Nat} {xs:List ae_} (h:W.ownsRow base T 5 v n (al_ xs)) :
 n = xs.length∧∃ a c,v = .slice a n c∧n≤c∧c≤maxLen∧(a = none→c = 0∧xs = [])∧ai_ W a xs:=by
 have hn:n = xs.length:=by have:=h.1;rw [cb_] at this;omega
 refine ⟨hn,?_⟩;rcases h.2 with ⟨rfl,h0⟩ | ⟨g,cap,cur,rfl,hb,hg,h1,h2,_⟩
 ·have hx:xs = []:=List.length_eq_zero_iff.1 (by omega);exact ⟨none,0,by rw [h0],by omega,by unfold maxLen;omega,fun _=>⟨rfl,hx⟩,.inl hx⟩
 ·refine ⟨_,cap,rfl,h1,h2,(fun h=>by cases h),.inr ⟨g,0,rfl,(Array.getElem?_eq_some_iff.1 hg).1,fun i hi=>aS_.of fun j hj=>?_⟩⟩;have hc:=dZ_ xs i hi j hj;have hv:xs[i].cells[j]? = some (xs[i].cells[j]'(by simpa [ae_.cells] using hj)):=List.getElem?_eq_getElem _;rw [hv] at hc ⊢;have:=h.cells (g:=g) rfl _ _ hc;rw [cR_] at this;rw [← Nat.add_assoc] at this;exact this
theorem kB_ {W:World} {ad:Addr} {ys:List ae_} (h:ai_ W (some ad) ys):∀ j u,(al_ ys)[j]? = some u→W.cell? (ad.add j) = some u:=by
 intro j u hj;have hjl:j < ys.length * 5:=by
  rcases Nat.lt_or_ge j (ys.length * 5) with h | h
  ·exact h
  ·rw [List.getElem?_eq_none (by rw [cb_];exact h)] at hj;cases hj
 rcases h with rfl | ⟨g,o,ha,_,h⟩
 ·simp at hjl
 ·cases ha;have hi:j / 5 < ys.length:=by omega
  have hr:j % 5 < 5:=Nat.mod_lt _ (by omega);have hc:=(h (j / 5) hi).at hr;have e:j / 5 * 5+j % 5 = j:=by omega
  have hk:=dZ_ ys (j / 5) hi (j % 5) hr;rw [e] at hk;rw [cR_];rw [Nat.add_assoc,e] at hc;rw [hc,← hk,hj]
theorem gR_ (w:World) (row:Option Nat):w.grownBy w row:=⟨rfl,rfl,rfl,Nat.le_refl _,fun _ _ _=>rfl⟩
theorem bo_ {w:World} {ops:Array Oper} {rest:List Oper} {o:Oper} {act:Act} {Q:Exit→Act→World→Prop} (hgd:o.guard = none) (s x:Operand)
 (ho:o.op = .call { callee:=.builtin .append,args:=#[s,x],argTypes:=#[46,46] })
 (base:Nat) (v:Value) (n:Nat) (xs:List ae_) (hs:act.eval s = v) (hown:w.ownsRow base 48 5 v n (al_ xs))
 (a:Option Addr) (m c:Nat) (ys:List ae_) (hx:act.eval x = .slice a m c) (hm:ys.length = m) (hz:a = none→c = 0∧ys = []) (hT:ai_ w a ys)
 (hb:n+m≤100000000) (hbase:base≤w.heap.size)
 (h:∀ v' w',w'.ownsRow base 48 5 v' (n+m) (al_ (xs ++ ys))→w.grownBy w' v.ownBlock→wpList Tryz.prog ops Q rest (act.put o.dst v') w'):wpList Tryz.prog ops Q (o :: rest) act w:=by
 obtain ⟨i0,hi,hz0,hz1,hz2⟩:=info_parts Tryz.infoItem;cases a with
 | none =>
   obtain ⟨rfl,rfl⟩:=hz rfl;simp at hm;subst hm;exact wpList_append_own_none hgd s x _ ho base _ i0 5 Tryz.underlying46 hi v n _ hs hown hx (by
    have:=h v w (by simpa using hown) (gR_ _ _);exact this)
 | some ad =>
   exact wpList_append_own _ hgd s x _ ho base _ i0 _ 5 56 Tryz.underlying46 hi hz0 hz1 hz2 rfl (by decide) v n _ hs hown ad m c (al_ ys) hx (by rw [cb_,hm]) (kB_ hT) (cc_ ys) (by unfold maxLen;omega) (by omega) hbase (fun v' w' h1 h2 _=>h v' w' (by rw [fF_];exact h1) h2)
theorem nc_ (n:Nat) (w:World) (h1:0 < n) (h2:n≤100000000) :
 Calls Tryz.prog 193 #[.slice none 0 0,.int .i64 n] w fun e w'=>∃ v,e = .returned v∧w'.ownsRow w.heap.size 48 5 v 0 (al_ [])∧Below w.heap.size w w':=by
 obtain ⟨i0,hi,hz0,hz1,hz2⟩:=info_parts Tryz.infoItem;have hrun:=Lib.run_append_nil_zeros (P:=Tryz.prog) w 46 3 46 48 i0 _ .i64 .i64 Tryz.underlying46 Tryz.underlying3 hi hz0 n h1 (by omega) (by omega) (by rw [hz2];omega);obtain ⟨cap,hcap⟩:∃ cap,cap = grownCap w n 0 48:=⟨_,rfl⟩
 have hge:n≤cap:=by rw [hcap];exact grownCap_ge _ _ _ _
 have hle:cap≤maxLen:=by rw [hcap];exact grownCap_le_maxLen _ _ _ _ (by unfold maxLen;omega)
 rw [← hcap] at hrun;obtain ⟨cs,hcs⟩:∃ cs,cs = Builtin.zeroCells (Value.agg #[.int .i64 0,.string ⟨#[]⟩,.string ⟨#[]⟩,.bool false,.int .i64 0]).cells n ++ Builtin.zeroCells (Value.agg #[.int .i64 0,.string ⟨#[]⟩,.string ⟨#[]⟩,.bool false,.int .i64 0]).cells (cap - n):=⟨_,rfl⟩
 have hsz:cs.size = cap * 5:=by rw [hcs];simp [size_zeroCells,Value.cells];omega
 rw [← hcs] at hrun;have HS:Hid (cs.size = cap * 5):=hsz;have HL:Hid (cap≤maxLen):=hle;clear hsz hcs hcap hle;have q0:¬ (n:Int) < 0:=by omega
 have q1:(0:Int) < n:=by omega
 have q2:IntKind.i64.wrap (n:Int) = (n:Int):=jd_ _ (by omega);go_enter Tryz.func193,Tryz.ntmps193;go_wp2_with (at_builtin;refine Lib.wpList_append_run _ rfl _ _ _ _ rfl _ _ rfl rfl _ _ hrun ?_)
 go_ret
 have hown:=World.ownsRow_made (base:=w.heap.size) (e:=48) (size:=5) w.drew cs cap (by simp) HL.out HS.out;exact ⟨_,rfl,hown,(by repeat (first | exact Below.refl _ _ | assumption | refine Below.drew ?_ | refine Below.alloc ?_ (by first | (simp;done) | (simp;omega) | omega) _ | refine Below.setCell ?_ (by first | (simp;done) | (simp;omega) | omega) _))⟩
def idxSeq (q:Int):List ae_→Nat
 | []=>0
 | x :: r=>if q≤x.seq then 0 else idxSeq q r+1
def idxI (q:Int) (xs:List ae_):Int:=if idxSeq q xs < xs.length then idxSeq q xs else -1
theorem dY_ (q:Int):∀ xs:List ae_,idxSeq q xs≤xs.length
 | []=>by simp [idxSeq]
 | x :: r => by
   have:=dY_ q r;unfold idxSeq;split <;> simp <;> omega
theorem iz_ (s d:Int) (k b:ByteArray) (a:Bool) (B:Nat) (q:Int) (w:World) (hB:B < w.heap.size) (hq:w.cell? ⟨B,0,none⟩ = some (.int .i64 q)) :
 Calls Tryz.prog 172 #[.agg #[.int .i64 s,.string k,.string b,.bool a,.int .i64 d],.pointer (some ⟨B,0,none⟩)] w fun e w'=>e = .returned (.bool (decide (q≤s)))∧Below w.heap.size w w':=by
 have hne:¬ w.heap.size = B:=by omega
 go_enter Tryz.func172,Tryz.ntmps172;go_wp2
 go_ret
 exact ⟨rfl,(Below.refl _ _).alloc (Nat.le_refl _) _⟩
theorem dr_ (xs:List ae_) (a:Option Addr) (n c:Nat) (B:Nat) (q:Int) (w:World) (hn:xs.length = n) (hm:n≤maxLen) (hp:ai_ w a xs) (hB:B < w.heap.size) (hq:w.cell? ⟨B,0,none⟩ = some (.int .i64 q)) :
 Calls Tryz.prog 171 #[.slice a n c,.func (.func 172) #[] #[.pointer (some ⟨B,0,none⟩)]] w fun e w'=>e = .returned (.int .i64 (idxI q xs))∧Below w.heap.size w w':=by
 have HN:Hid (xs.length = n):=hn;have HP:Hid (ai_ w a xs):=hp;unfold maxLen at hm;clear hn hp;go_enter Tryz.func171,Tryz.ntmps171;go_wp2
 go_loopw [8] (fun i wr=>∃ (k:Nat),k≤n∧i = .int .i64 k∧idxSeq q xs = k+idxSeq q (xs.drop k)∧Below w.heap.size w wr) (fun i _=>n - (intOf i).toNat)
 case atStart=>exact ⟨0,Nat.zero_le _,rfl,by simp,Below.refl _ _⟩
 case round=>
  obtain ⟨k,hk,rfl,ha,hBl⟩:=hrel;have HA:Hid (idxSeq q xs = k+idxSeq q (xs.drop k)):=ha;have hBs:=hBl.size;have hqc:=(hBl.cell (p:=⟨B,0,none⟩) hB).trans hq;clear ha;by_cases hlt:k < n
  ·have hkl:k < xs.length:=by rw [HN.out];exact hlt
   obtain ⟨g,o,rfl,hg,hx⟩:=HP.out.cells (by omega);obtain ⟨x,hxx⟩:∃ x,x = xs[k]:=⟨_,rfl⟩
   have hc:=(hx k hkl).keep hBl hg;rw [← hxx] at hc;have hd:xs.drop k = x :: xs.drop (k+1):=by rw [hxx];exact List.drop_eq_getElem_cons hkl
   clear hx hxx;obtain ⟨s,ky,b,ag,d⟩:=x;obtain ⟨c0,c1,c2,c3,c4⟩:=hc;dsimp only at c0 c1 c2 c3 c4;have j1:(0:Int)≤(k:Int):=by omega
   have j2:(k:Int) < n:=by omega
   by_cases hle:q≤s
   ·have HF:Hid (idxI q xs = k):=by
     show idxI q xs = k;have e:idxSeq q xs = k:=by rw [HA.out,hd,idxSeq,if_pos hle];rfl
     unfold idxI;rw [e,if_pos hkl]
    have HD:Hid (decide (q≤s) = true):=by show decide (q≤s) = true;simpa using hle
    clear hd hle;go_wp2_with fail
    refine (iz_ _ _ _ _ _ _ q _ (by omega) hqc).mono ?_;rintro e w2 ⟨rfl,hB2⟩;rw [HD.out];go_wp2_with fail
    go_ret
    exact ⟨au_ HF.out.symm,hBl.trans (hB2.mono hBs)⟩
   ·have HF:Hid (idxSeq q xs = (k+1)+idxSeq q (xs.drop (k+1))):=by
     show idxSeq q xs = _;rw [HA.out,hd,idxSeq,if_neg hle];omega
    have HD:Hid (decide (q≤s) = false):=by show decide (q≤s) = false;simpa using hle
    clear hd hle;go_wp2_with fail
    refine (iz_ _ _ _ _ _ _ q _ (by omega) hqc).mono ?_;rintro e w2 ⟨rfl,hB2⟩;rw [HD.out];go_wp2_with fail
    go_roundw
    case rel=>exact ⟨k+1,by omega,by go_num,HF.out,hBl.trans (hB2.mono hBs)⟩
    case measure=>simp [intOf];omega
  ·have HF:Hid (idxI q xs = -1):=by
    show idxI q xs = -1;have e:xs.drop k = []:=List.drop_eq_nil_of_le (by rw [HN.out];omega);have e2:idxSeq q xs = k:=by rw [HA.out,e];rfl
    unfold idxI;rw [e2,if_neg (by rw [HN.out];exact hlt)]
   go_wp2
   go_ret
   exact ⟨au_ HF.out.symm,hBl⟩
def sum3 (a b c:Nat):Nat→Nat
 | 0=>0
 | 1=>a
 | 2=>a+b
 | _=>a+b+c
def cat3 (x y z:List ae_):Nat→List ae_
 | 0=>[]
 | 1=>x
 | 2=>x ++ y
 | _=>x ++ y ++ z
theorem concat3 (h:Nat) (x y z:List ae_) (a1 a2 a3:Option Addr) (n1 n2 n3 c1 c2 c3:Nat) (w:World) (hh:h < w.heap.size)
 (g0:w.cell? ⟨h,0,none⟩ = some (.slice a1 n1 c1)) (g1:w.cell? ⟨h,1,none⟩ = some (.slice a2 n2 c2)) (g2:w.cell? ⟨h,2,none⟩ = some (.slice a3 n3 c3))
 (l1:x.length = n1) (l2:y.length = n2) (l3:z.length = n3) (hx:ai_ w a1 x) (hy:ai_ w a2 y) (hz:ai_ w a3 z)
 (z1:a1 = none→c1 = 0∧x = []) (z2:a2 = none→c2 = 0∧y = []) (z3:a3 = none→c3 = 0∧z = []) (hpos:0 < n1+n2+n3) (hb:n1+n2+n3≤100000000) :
 Calls Tryz.prog 173 #[.slice (some ⟨h,0,none⟩) 3 3] w fun e w'=>∃ v,e = .returned v∧w'.ownsRow w.heap.size 48 5 v (n1+n2+n3) (al_ (x ++ y ++ z))∧Below w.heap.size w w':=by
 have HX:Hid (ai_ w a1 x∧ai_ w a2 y∧ai_ w a3 z):=⟨hx,hy,hz⟩;have HL:Hid (x.length = n1∧y.length = n2∧z.length = n3):=⟨l1,l2,l3⟩;have HZ:Hid ((a1 = none→c1 = 0∧x = [])∧(a2 = none→c2 = 0∧y = [])∧(a3 = none→c3 = 0∧z = [])):=⟨z1,z2,z3⟩;clear hx hy hz l1 l2 l3 z1 z2 z3;go_enter Tryz.func173,Tryz.ntmps173;go_wp2
 go_loopw [3,11] (fun s i wr=>∃ k:Nat,k≤3∧i = .int .i64 k∧s = .int .i64 (sum3 n1 n2 n3 k:Nat)∧w = wr) (fun _ i _=>3 - (intOf i).toNat)
 case atStart=>exact ⟨0,by omega,rfl,rfl,rfl⟩
 case round=>
  obtain ⟨k,hk,rfl,rfl,rfl⟩:=hrel;by_cases hlt:k < 3
  ·match k,hlt with
   | 0, _ =>
     have q:¬ (n1:Int) < 0:=by omega
     have q2:IntKind.i64.wrap (n1:Int) = (n1:Int):=jd_ _ (by omega);simp only [sum3];go_wp2
     go_roundw
     case rel=>exact ⟨1,by omega,by go_num,by go_num,trivial⟩
     case measure=>simp [intOf]
   | 1, _ =>
     have q:¬ (n1:Int)+n2 < 0:=by omega
     have q2:IntKind.i64.wrap ((n1:Int)+n2) = (n1:Int)+n2:=by rw [IntKind.wrap_i64];omega
     simp only [sum3];go_wp2
     go_roundw
     case rel=>exact ⟨2,by omega,by go_num,by go_num,trivial⟩
     case measure=>simp [intOf]
   | 2, _ =>
     have q:¬ (n1:Int)+n2+n3 < 0:=by omega
     have q2:IntKind.i64.wrap ((n1:Int)+n2+n3) = (n1:Int)+n2+n3:=by rw [IntKind.wrap_i64];omega
     simp only [sum3];go_wp2
     go_roundw
     case rel=>exact ⟨3,by omega,by go_num,by go_num,trivial⟩
     case measure=>simp [intOf]
  ·have e3:k = 3:=by omega
   subst e3;simp only [sum3];obtain ⟨t,ht⟩:∃ t,t = n1+n2+n3:=⟨_,rfl⟩
   rw [← ht];have ht1:0 < t:=by omega
   have ht2:t≤100000000:=by omega
   have HT:Hid (t = n1+n2+n3):=ht;clear hpos hlt hk ht;go_wp2_with fail
   refine (nc_ t _ ht1 ht2).mono ?_;rintro e w2 ⟨v,rfl,hown,hB⟩;have hBs:=hB.size;go_wp2_with fail
   go_loopw [6,27] (fun s i wr=>∃ k:Nat,k≤3∧i = .int .i64 k∧wr.ownsRow w.heap.size 48 5 s (sum3 n1 n2 n3 k) (al_ (cat3 x y z k))∧Below w.heap.size w wr) (fun _ i _=>3 - (intOf i).toNat)
   case atStart=>exact ⟨0,by omega,rfl,hown,hB⟩
   case round=>
    obtain ⟨k,hk,rfl,hrow,hB2⟩:=hrel;have hB2s:=hB2.size;have e0:=(hB2.cell (p:=⟨h,0,none⟩) hh).trans g0;have e1:=(hB2.cell (p:=⟨h,1,none⟩) hh).trans g1;have e2:=(hB2.cell (p:=⟨h,2,none⟩) hh).trans g2;by_cases hlt:k < 3
    ·match k,hlt with
     | 0, _ =>
       go_wp2_with (at_builtin;refine bo_ rfl _ _ rfl w.heap.size _ _ [] rfl hrow a1 n1 c1 x rfl HL.out.1 HZ.out.1 (HX.out.1.keep hB2) (by simp [sum3];omega) hB2s ?_;intro v' w3 hown3 hgrow3)
       have hB3:=hB2.grown hgrow3 hB2s (ch_ hrow);go_roundw
       case rel=>exact ⟨1,by omega,by go_num,by simpa [sum3,cat3] using hown3,hB3⟩
       case measure=>simp [intOf]
     | 1, _ =>
       go_wp2_with (at_builtin;refine bo_ rfl _ _ rfl w.heap.size _ _ x rfl hrow a2 n2 c2 y rfl HL.out.2.1 HZ.out.2.1 (HX.out.2.1.keep hB2) (by simp [sum3];omega) hB2s ?_;intro v' w3 hown3 hgrow3)
       have hB3:=hB2.grown hgrow3 hB2s (ch_ hrow);go_roundw
       case rel=>exact ⟨2,by omega,by go_num,by simpa [sum3,cat3] using hown3,hB3⟩
       case measure=>simp [intOf]
     | 2, _ =>
       go_wp2_with (at_builtin;refine bo_ rfl _ _ rfl w.heap.size _ _ (x ++ y) rfl hrow a3 n3 c3 z rfl HL.out.2.2 HZ.out.2.2 (HX.out.2.2.keep hB2) (by simp [sum3];omega) hB2s ?_;intro v' w3 hown3 hgrow3)
       have hB3:=hB2.grown hgrow3 hB2s (ch_ hrow);go_roundw
       case rel=>exact ⟨3,by omega,by go_num,by simpa [sum3,cat3] using hown3,hB3⟩
       case measure=>simp [intOf]
    ·have e3:k = 3:=by omega
     subst e3;go_wp2_with fail
     go_ret
     exact ⟨_,rfl,hrow,hB2⟩
def bM_ (q:Int) (xs:List ae_):Bool:=(xs[idxSeq q xs]?.map ae_.seq) == some q
def ay_ (xs:List ae_) (x:ae_):List ae_:=xs.take (idxSeq x.seq xs) ++ [x] ++ xs.drop (idxSeq x.seq xs)
def eB_ (xs:List ae_) (x:ae_):Int:=if at_ xs = true then (if am_ x = true then (if bM_ x.seq xs = true then 6 else 0) else 1) else 1
def hJ_ (xs:List ae_) (x:ae_):List ae_:=if eB_ xs x = 0 then ay_ xs x else []
theorem fy_:∀ {xs:List ae_} {last:Int},last≤1048575→aK_ last xs = true→(xs.length:Int)≤1048575 - last
 | [],last,h,_=>by simp;omega
 | x :: r, last, h, hl => by
   unfold aK_ at hl;simp only [Bool.and_eq_true,decide_eq_true_eq] at hl;obtain ⟨⟨h1,h2⟩,h3⟩:=hl;have hx:x.seq≤1048575:=by unfold am_ bN_ at h1;simp at h1;omega
   have:=fy_ hx h3;simp only [List.length_cons];omega
theorem ed_ {xs:List ae_} (h:at_ xs = true):xs.length≤1048576:=by
 have:=fy_ (by omega) h;omega
theorem bn_ {W:World} {base base':Nat} {e:TypeId} {size:Nat} {v:Value} {n:Nat} {xs:List Value} (h:W.ownsRow base e size v n xs) (hb:base'≤base):W.ownsRow base' e size v n xs:=by
 refine ⟨h.1,?_⟩;rcases h.2 with h | ⟨g,cap,cur,h1,h2,h3⟩
 ·exact .inl h
 ·exact .inr ⟨g,cap,cur,h1,Nat.le_trans hb h2,h3⟩
theorem c4_ {W:World} {b:Nat} {cs:Array Value} {t:TypeId} (h:W.heap[b]? = some (.cells cs t (0,0))) (i:Nat):W.cell? ⟨b,i,none⟩ = cs[i]?:=by
 unfold World.cell?;simp only;rw [h];rfl
theorem ai_.take {W:World} {a:Option Addr} {xs:List ae_} (h:ai_ W a xs) (i:Nat):ai_ W a (xs.take i):=by
 rcases h with h | ⟨g,o,ha,hg,h⟩
 ·exact .inl (by rw [h];simp)
 ·exact .inr ⟨g,o,ha,hg,fun j hj=>by
   have hj':j < xs.length:=by simp at hj;omega
   have:=h j hj';simpa using this⟩
theorem ai_.drop {W:World} {a:Option Addr} {xs:List ae_} (h:ai_ W a xs) (i c:Nat) (hc:xs.length≤c):ai_ W (if c = i then a else Option.map (fun x=>x.add (i * 5)) a) (xs.drop i):=by
 by_cases hci:c = i
 ·exact .inl (List.drop_eq_nil_of_le (by omega))
 ·rw [if_neg hci];rcases h with h | ⟨g,o,ha,hg,h⟩
  ·exact .inl (by rw [h];simp)
  ·subst ha;refine .inr ⟨g,o+i * 5,by simp [cR_],hg,fun j hj=>?_⟩;have hj':i+j < xs.length:=by simp at hj;omega
   have:=h (i+j) hj';have e:o+i * 5+j * 5 = o+(i+j) * 5:=by omega
   rw [e];simpa using this
theorem ai_.single {W:World} {hb:Nat} {t:TypeId} {x:ae_} (h:W.heap[hb]? = some (.cells #[.int .i64 x.seq,.string x.key,.string x.body,.bool x.again,.int .i64 x.deaths] t (0,0))):ai_ W (some ⟨hb,0,none⟩) [x]:=
 .inr ⟨hb,0,rfl,(Array.getElem?_eq_some_iff.1 h).1,fun j hj=>by
  have hj0:j = 0:=by simp at hj;omega
  subst hj0;exact ⟨c4_ h 0,c4_ h 1,c4_ h 2,c4_ h 3,c4_ h 4⟩⟩
theorem gh_ (xs:List ae_) (x:ae_) (a A3:Option Addr) (n c i m3 c3:Nat) (h hb:Nat) (t t2:TypeId) (W:World) (hn:xs.length = n) (hi:i≤n) (hnc:n≤c) (hz:a = none→c = 0) (hf:n≤1048576)
 (hA3:A3 = (if c = i then a else Option.map (fun x=>x.add (i * 5)) a)) (hm3:m3 = n - i) (hc3:c3 = c - i) (hp:ai_ W a xs)
 (hh:W.heap[h]? = some (.cells #[.slice a i c,.slice (some ⟨hb,0,none⟩) 1 1,.slice A3 m3 c3] t (0,0)))
 (hx:W.heap[hb]? = some (.cells #[.int .i64 x.seq,.string x.key,.string x.body,.bool x.again,.int .i64 x.deaths] t2 (0,0))) :
 Calls Tryz.prog 173 #[.slice (some ⟨h,0,none⟩) 3 3] W fun e w'=>∃ v,e = .returned v∧w'.ownsRow W.heap.size 48 5 v (n+1) (al_ (xs.take i ++ [x] ++ xs.drop i))∧Below W.heap.size W w':=by
 subst hm3 hc3;have ha0:a = none→xs = []:=fun e=>List.length_eq_zero_iff.1 (by have:=hz e;omega)
 have key:=concat3 h (xs.take i) [x] (xs.drop i) a (some ⟨hb,0,none⟩) A3 i 1 (n - i) c 1 (c - i) W (Array.getElem?_eq_some_iff.1 hh).1 (c4_ hh 0) (c4_ hh 1) (c4_ hh 2) (by simp;omega) rfl (by simp;omega)
  (hp.take i) (ai_.single hx) (by rw [hA3];exact hp.drop i c (by omega)) (fun e=>⟨hz e,by rw [ha0 e];simp⟩) (fun e=>by cases e)
  (fun e=>by
   have e2:a = none:=by
    rw [hA3] at e;split at e
    ·exact e
    ·simpa using e
   exact ⟨by have:=hz e2;omega,by rw [ha0 e2];simp⟩) (by omega) (by omega)
 have e:i+1+(n - i) = n+1:=by omega
 rw [e] at key;exact key
theorem ok_ (xs:List ae_) (a:Option Addr) (n c:Nat) (s d:Int) (ky b:ByteArray) (ag:Bool) (w:World) (hn:xs.length = n) (hnc:n≤c) (hcm:c≤maxLen) (hz:a = none→c = 0) (hp:ai_ w a xs)
 (hl:at_ xs = true) (hr:am_ ⟨s,ky,b,ag,d⟩ = true) (i:Nat) (hi:i = idxSeq s xs) (hlt:¬ i < n) :
 Calls Tryz.prog 148 #[.slice a n c,.agg #[.int .i64 s,.string ky,.string b,.bool ag,.int .i64 d]] w fun e w'=>∃ v,e = .returned (.tuple #[v,.int .i64 0])∧w'.ownsRow w.heap.size 48 5 v (n+1) (al_ (ay_ xs ⟨s,ky,b,ag,d⟩))∧Below w.heap.size w w':=by
 have hm:n≤maxLen:=Nat.le_trans hnc hcm;have hfew:=ed_ hl;have HL:Hid (bx_ xs = 0):=by show bx_ xs = 0;unfold bx_;rw [if_pos hl]
 have HR:Hid (am_ ⟨s,ky,b,ag,d⟩ = true):=hr;have HI:Hid (idxI s xs = -1):=by show idxI s xs = -1;unfold idxI;rw [← hi,if_neg (by rw [hn];exact hlt)]
 obtain ⟨W1,hW1,hBw,hs1,hbx⟩:=c6_ w (.int .i64 s) (.string ky) (.string b) (.bool ag) (.int .i64 d) 48;have HW1:Hid (W1 = _):=hW1;have BX:Hid (∀ W,Below W1.heap.size W1 W→_):=hbx;have HP:Hid (ai_ W1 a xs):=hp.keep hBw;have HN:Hid (xs.length = n):=hn;have HM:Hid (n≤maxLen):=hm;have HF:Hid (n≤1048576):=by show n≤1048576;omega
 have HX:Hid (i = idxSeq s xs):=hi;clear hW1 hbx hp hl hr hn hm;have s1:=hBw.size;go_enter Tryz.func148,Tryz.ntmps148;go_wp2_with fail
 rw [← HW1.out];refine (bu_ xs _ _ _ _ HN.out HM.out HP.out).mono ?_;rintro e w2 ⟨rfl,hB2⟩;obtain ⟨d0,d1,d2,d3,d4⟩:=BX.out w2 hB2;rw [HL.out];go_wp2_with fail
 refine (c1_ _ _ _ _ _ _).mono ?_;rintro e w3 ⟨rfl,hB3⟩;have hB13:Below W1.heap.size W1 w3:=hB2.trans (hB3.mono hB2.size);clear d0 d1 d2 d3 d4;obtain ⟨d0,d1,d2,d3,d4⟩:=BX.out w3 hB13;rw [HR.out];go_wp2_with fail
 refine (dr_ xs _ _ _ _ s _ HN.out HM.out (HP.out.keep hB13) (by have:=hB13.size;omega) d0).mono ?_;rintro e w4 ⟨rfl,hB4⟩;have hB14:Below W1.heap.size W1 w4:=hB13.trans (hB4.mono hB13.size);clear d0 d1 d2 d3 d4;obtain ⟨d0,d1,d2,d3,d4⟩:=BX.out w4 hB14;rw [HI.out];go_wp2_with fail
 refine wp_region_held_drew (S:=fun w'=>True) (by kernel_rfl) trivial (fun hHeld=>?_);refine tk 0 ?_;refine tk 1 ?_;refine tk 2 ?_;refine tk 3 ?_;refine tk 4 ?_;refine sk 5 ?_;refine sk 6 ?_;refine sk 7 ?_;refine sk 8 ?_;refine sk 9 ?_;refine sk 10 ?_;refine sk 11 ?_;refine sk 12 ?_;refine tk 13 ?_;refine wpAnyH_done (by kernel_rfl) ?_ _;go_wp2_with fail
 have hB5:Below W1.heap.size W1 w4.drew:=⟨hB14.os,hB14.tape,hB14.output,hB14.size,hB14.block⟩;have hB6:Below W1.heap.size W1 w4.drew.drew:=⟨hB14.os,hB14.tape,hB14.output,hB14.size,hB14.block⟩;have q1:(0:Int)≤(n:Int):=by omega
 have q2:(n:Int)≤(c:Int):=by omega
 have q3:(n:Int)≤(n:Int):=by omega
 clear d0 d1 d2 d3 d4;refine wp_region_held_drew (S:=fun w'=>w'.cell? ⟨w.heap.size,0,none⟩ = some (.int .i64 s)∧w'.cell? ⟨w.heap.size,1,none⟩ = some (.string ky)∧w'.cell? ⟨w.heap.size,2,none⟩ = some (.string b)∧w'.cell? ⟨w.heap.size,3,none⟩ = some (.bool ag)∧w'.cell? ⟨w.heap.size,4,none⟩ = some (.int .i64 d)) (by kernel_rfl) (BX.out _ hB6) (fun hHeld=>?_);refine tk 0 ?_;refine tk 1 ?_;refine tk 2 ?_;refine tk 3 ?_;refine tk 5 ?_;refine tk 6 ?_;refine tk 7 ?_;refine rdy 4 (fun K hK=>?_);go_simp;obtain ⟨W5,hW5⟩:∃ W5,W5 = w4.alloc (.cells #[.int .i64 s,.string ky,.string b,.bool ag,.int .i64 d] 48):=⟨_,rfl⟩
 have hB45:Below w4.heap.size w4 W5:=by rw [hW5];exact (Below.refl _ _).alloc (Nat.le_refl _) _
 have hs5:W5.heap.size = w4.heap.size+1:=by rw [hW5];simp
 have hh5:W5.heap[w4.heap.size]? = some (.cells #[.int .i64 s,.string ky,.string b,.bool ag,.int .i64 d] 48):=by rw [hW5];exact World.alloc_heap_new w4 _
 rw [← hW5];clear hW5;have hB15:Below W1.heap.size W1 W5:=hB14.trans (hB45.mono hB14.size);have hB15':Below W1.heap.size W1 W5.drew.drew:=⟨hB15.os,hB15.tape,hB15.output,hB15.size,hB15.block⟩;refine hK.out _ _ (BX.out _ hB15') (fun hHeld2=>?_);clear hHeld hK K;try simp only [Act.put,List.getElem_toArray,List.getElem_cons_succ,List.getElem_cons_zero,List.setIfInBounds_toArray,List.set_cons_zero,List.set_cons_succ]
 refine rdy 8 (fun K hK=>?_);go_simp;obtain ⟨A3,hA3⟩:∃ A3,A3 = (if c = n then a else Option.map (fun x=>x.add (n * 5)) a):=⟨_,rfl⟩
 have HA3:Hid (A3 = (if c = n then a else Option.map (fun x=>x.add (n * 5)) a)):=hA3;rw [← hA3];clear hA3;obtain ⟨W6,hW6⟩:∃ W6,W6 = W5.alloc (.cells #[.slice a n c,.slice (some ⟨w4.heap.size,0,none⟩) 1 1,.slice A3 0 (c - n)] 46):=⟨_,rfl⟩
 have hB56:Below W5.heap.size W5 W6:=by rw [hW6];exact (Below.refl _ _).alloc (Nat.le_refl _) _
 have hs6:W6.heap.size = W5.heap.size+1:=by rw [hW6];simp
 have hh6:W6.heap[W5.heap.size]? = some (.cells #[.slice a n c,.slice (some ⟨w4.heap.size,0,none⟩) 1 1,.slice A3 0 (c - n)] 46):=by rw [hW6];exact World.alloc_heap_new W5 _
 rw [← hW6];clear hW6;have hB16:Below W1.heap.size W1 W6:=hB15.trans (hB56.mono hB15.size);have hB16':Below W1.heap.size W1 W6.drew.drew:=⟨hB16.os,hB16.tape,hB16.output,hB16.size,hB16.block⟩;have hx6:W6.heap[w4.heap.size]? = some (.cells #[.int .i64 s,.string ky,.string b,.bool ag,.int .i64 d] 48):=(hB56.block _ (by omega)).trans hh5;have hi6:ai_ W6 a xs:=(HP.out.keep hB14).keep (hB45.trans (hB56.mono hB45.size));refine hK.out _ _ (BX.out _ hB16') (fun hHeld3=>?_);clear hHeld2 hK K;try simp only [Act.put,List.getElem_toArray,List.getElem_cons_succ,List.getElem_cons_zero,List.setIfInBounds_toArray,List.set_cons_zero,List.set_cons_succ]
 refine rdy 9 (fun K hK=>?_);go_simp;refine (gh_ xs ⟨s,ky,b,ag,d⟩ a A3 n c n 0 (c - n) _ w4.heap.size _ _ W6.drew.drew HN.out (Nat.le_refl _) hnc hz HF.out HA3.out (by omega) rfl hi6 (by rw [← hs5];exact hh6) hx6).mono ?_;rintro e w7 ⟨v,rfl,hown,hB7⟩;have hB7':Below W6.heap.size W6 w7:=⟨hB7.os,hB7.tape,hB7.output,hB7.size,hB7.block⟩;have hB17:Below W1.heap.size W1 w7:=hB16.trans (hB7'.mono hB16.size);refine hK.out _ _ (BX.out _ hB17) (fun hHeld4=>?_);clear hHeld3 hK K;try simp only [Act.put,List.getElem_toArray,List.getElem_cons_succ,List.getElem_cons_zero,List.setIfInBounds_toArray,List.set_cons_zero,List.set_cons_succ]
 refine tk 10 ?_;refine tk 11 ?_;refine wpAnyH_done (by kernel_rfl) ?_ _;go_wp2_with fail
 go_ret2
 have e1:ay_ xs ⟨s,ky,b,ag,d⟩ = xs.take n ++ [⟨s,ky,b,ag,d⟩] ++ xs.drop n:=by
  unfold ay_;have e2:idxSeq s xs = n:=by have:=dY_ s xs;have:=HX.out;have:=HN.out;omega
  dsimp only;rw [e2]
 have h16:=hB16.size;have h17:=hB17.size;refine ⟨v,rfl,?_,hBw.trans (hB17.mono hBw.size)⟩;rw [e1];exact bn_ hown (by show w.heap.size≤W6.heap.size;omega)
theorem nr_ (xs:List ae_) (a:Option Addr) (n c:Nat) (s d:Int) (ky b:ByteArray) (ag:Bool) (w:World) (hn:xs.length = n) (hnc:n≤c) (hcm:c≤maxLen) (hz:a = none→c = 0) (hp:ai_ w a xs)
 (hl:at_ xs = true) (hr:am_ ⟨s,ky,b,ag,d⟩ = true) (i:Nat) (hi:i = idxSeq s xs) (hlt:i < n) (q:Int) (hq:xs[i]?.map ae_.seq = some q) (hne:¬ q = s) :
 Calls Tryz.prog 148 #[.slice a n c,.agg #[.int .i64 s,.string ky,.string b,.bool ag,.int .i64 d]] w fun e w'=>∃ v,e = .returned (.tuple #[v,.int .i64 0])∧w'.ownsRow w.heap.size 48 5 v (n+1) (al_ (ay_ xs ⟨s,ky,b,ag,d⟩))∧Below w.heap.size w w':=by
 have hm:n≤maxLen:=Nat.le_trans hnc hcm;have hfew:=ed_ hl;have HL:Hid (bx_ xs = 0):=by show bx_ xs = 0;unfold bx_;rw [if_pos hl]
 have HR:Hid (am_ ⟨s,ky,b,ag,d⟩ = true):=hr;have HI:Hid (idxI s xs = i):=by show idxI s xs = i;unfold idxI;rw [← hi,if_pos (by rw [hn];exact hlt)]
 obtain ⟨W1,hW1,hBw,hs1,hbx⟩:=c6_ w (.int .i64 s) (.string ky) (.string b) (.bool ag) (.int .i64 d) 48;have HW1:Hid (W1 = _):=hW1;have BX:Hid (∀ W,Below W1.heap.size W1 W→_):=hbx;have HP:Hid (ai_ W1 a xs):=hp.keep hBw;have HN:Hid (xs.length = n):=hn;have HM:Hid (n≤maxLen):=hm;have HF:Hid (n≤1048576):=by show n≤1048576;omega
 have HX:Hid (i = idxSeq s xs):=hi;clear hW1 hbx hp hl hr hn hm hi;have s1:=hBw.size;go_enter Tryz.func148,Tryz.ntmps148;go_wp2_with fail
 rw [← HW1.out];refine (bu_ xs _ _ _ _ HN.out HM.out HP.out).mono ?_;rintro e w2 ⟨rfl,hB2⟩;obtain ⟨d0,d1,d2,d3,d4⟩:=BX.out w2 hB2;rw [HL.out];go_wp2_with fail
 refine (c1_ _ _ _ _ _ _).mono ?_;rintro e w3 ⟨rfl,hB3⟩;have hB13:Below W1.heap.size W1 w3:=hB2.trans (hB3.mono hB2.size);clear d0 d1 d2 d3 d4;obtain ⟨d0,d1,d2,d3,d4⟩:=BX.out w3 hB13;rw [HR.out];go_wp2_with fail
 refine (dr_ xs _ _ _ _ s _ HN.out HM.out (HP.out.keep hB13) (by have:=hB13.size;omega) d0).mono ?_;rintro e w4 ⟨rfl,hB4⟩;have hB14:Below W1.heap.size W1 w4:=hB13.trans (hB4.mono hB13.size);clear d0 d1 d2 d3 d4;obtain ⟨d0,d1,d2,d3,d4⟩:=BX.out w4 hB14;rw [HI.out];have q0:¬ (i:Int) < 0:=by omega
 have q4:(0:Int)≤(i:Int):=by omega
 have q5:(i:Int) < (n:Int):=by omega
 go_wp2_with fail
 obtain ⟨g,o,rfl,hg,hx⟩:=HP.out.cells (by rw [HN.out];omega);have hg4:g < w4.heap.size:=by have:=hB14.size;omega
 have cq:w4.cell? ⟨g,o+i * 5,none⟩ = some (.int .i64 q):=by
  have h1:=((hx i (by rw [HN.out];exact hlt)).keep hB14 hg).1;have h2:xs[i]'(by rw [HN.out];exact hlt) = xs[i]'(by rw [HN.out];exact hlt):=rfl;rw [List.getElem?_eq_getElem (by rw [HN.out];exact hlt)] at hq;simp at hq;rw [hq] at h1;exact h1
 clear hx hq;refine wp_region_held_drew (S:=fun w'=>w'.cell? ⟨g,o+i * 5,none⟩ = some (.int .i64 q)∧w'.cell? ⟨w.heap.size,0,none⟩ = some (.int .i64 s)) (by kernel_rfl) ⟨cq,d0⟩ (fun hHeld=>?_);refine tk 0 ?_;refine tk 1 ?_;refine tk 2 ?_;refine tk 3 ?_;refine tk 4 ?_;refine tk 5 ?_;refine tk 6 ?_;refine tk 7 ?_;refine tk 8 ?_;refine tk 9 ?_;refine tk 10 ?_;refine tk 11 ?_;refine tk 12 ?_;refine tk 13 ?_;refine wpAnyH_done (by kernel_rfl) ?_ _;go_wp2_with fail
 have hB5:Below W1.heap.size W1 w4.drew:=⟨hB14.os,hB14.tape,hB14.output,hB14.size,hB14.block⟩;have hB6:Below W1.heap.size W1 w4.drew.drew:=⟨hB14.os,hB14.tape,hB14.output,hB14.size,hB14.block⟩;have q1:(i:Int)≤(n:Int):=by omega
 have q2:(i:Int)≤(c:Int):=by omega
 have q3:(n:Int)≤(c:Int):=by omega
 clear d0 d1 d2 d3 d4;refine wp_region_held_drew (S:=fun w'=>w'.cell? ⟨w.heap.size,0,none⟩ = some (.int .i64 s)∧w'.cell? ⟨w.heap.size,1,none⟩ = some (.string ky)∧w'.cell? ⟨w.heap.size,2,none⟩ = some (.string b)∧w'.cell? ⟨w.heap.size,3,none⟩ = some (.bool ag)∧w'.cell? ⟨w.heap.size,4,none⟩ = some (.int .i64 d)) (by kernel_rfl) (BX.out _ hB6) (fun hHeld=>?_);refine tk 0 ?_;refine tk 1 ?_;refine tk 2 ?_;refine tk 3 ?_;refine tk 5 ?_;refine tk 6 ?_;refine tk 7 ?_;refine rdy 4 (fun K hK=>?_);go_simp;obtain ⟨W5,hW5⟩:∃ W5,W5 = w4.alloc (.cells #[.int .i64 s,.string ky,.string b,.bool ag,.int .i64 d] 48):=⟨_,rfl⟩
 have hB45:Below w4.heap.size w4 W5:=by rw [hW5];exact (Below.refl _ _).alloc (Nat.le_refl _) _
 have hs5:W5.heap.size = w4.heap.size+1:=by rw [hW5];simp
 have hh5:W5.heap[w4.heap.size]? = some (.cells #[.int .i64 s,.string ky,.string b,.bool ag,.int .i64 d] 48):=by rw [hW5];exact World.alloc_heap_new w4 _
 rw [← hW5];clear hW5;have hB15:Below W1.heap.size W1 W5:=hB14.trans (hB45.mono hB14.size);have hB15':Below W1.heap.size W1 W5.drew.drew:=⟨hB15.os,hB15.tape,hB15.output,hB15.size,hB15.block⟩;refine hK.out _ _ (BX.out _ hB15') (fun hHeld2=>?_);clear hHeld hK K;try simp only [Act.put,List.getElem_toArray,List.getElem_cons_succ,List.getElem_cons_zero,List.setIfInBounds_toArray,List.set_cons_zero,List.set_cons_succ]
 refine rdy 8 (fun K hK=>?_);go_simp;obtain ⟨A3,hA3⟩:∃ A3:Option Addr,A3 = (if c = i then some ⟨g,o,none⟩ else some ⟨g,o+i * 5,none⟩):=⟨_,rfl⟩
 have HA3:Hid (A3 = (if c = i then some ⟨g,o,none⟩ else some ⟨g,o+i * 5,none⟩)):=hA3;rw [← hA3];clear hA3;obtain ⟨W6,hW6⟩:∃ W6,W6 = W5.alloc (.cells #[.slice (some ⟨g,o,none⟩) i c,.slice (some ⟨w4.heap.size,0,none⟩) 1 1,.slice A3 (n - i) (c - i)] 46):=⟨_,rfl⟩
 have hB56:Below W5.heap.size W5 W6:=by rw [hW6];exact (Below.refl _ _).alloc (Nat.le_refl _) _
 have hs6:W6.heap.size = W5.heap.size+1:=by rw [hW6];simp
 have hh6:W6.heap[W5.heap.size]? = some (.cells #[.slice (some ⟨g,o,none⟩) i c,.slice (some ⟨w4.heap.size,0,none⟩) 1 1,.slice A3 (n - i) (c - i)] 46):=by rw [hW6];exact World.alloc_heap_new W5 _
 rw [← hW6];clear hW6;have hB16:Below W1.heap.size W1 W6:=hB15.trans (hB56.mono hB15.size);have hB16':Below W1.heap.size W1 W6.drew.drew:=⟨hB16.os,hB16.tape,hB16.output,hB16.size,hB16.block⟩;have hx6:W6.heap[w4.heap.size]? = some (.cells #[.int .i64 s,.string ky,.string b,.bool ag,.int .i64 d] 48):=(hB56.block _ (by omega)).trans hh5;have hi6:ai_ W6 (some ⟨g,o,none⟩) xs:=(HP.out.keep hB14).keep (hB45.trans (hB56.mono hB45.size));refine hK.out _ _ (BX.out _ hB16') (fun hHeld3=>?_);clear hHeld2 hK K;try simp only [Act.put,List.getElem_toArray,List.getElem_cons_succ,List.getElem_cons_zero,List.setIfInBounds_toArray,List.set_cons_zero,List.set_cons_succ]
 refine rdy 9 (fun K hK=>?_);go_simp;refine (gh_ xs ⟨s,ky,b,ag,d⟩ _ A3 n c i (n - i) (c - i) _ w4.heap.size _ _ W6.drew.drew HN.out (Nat.le_of_lt hlt) hnc hz HF.out (by rw [HA3.out];simp [cR_]) rfl rfl hi6 (by rw [← hs5];exact hh6) hx6).mono ?_;rintro e w7 ⟨v,rfl,hown,hB7⟩;have hB7':Below W6.heap.size W6 w7:=⟨hB7.os,hB7.tape,hB7.output,hB7.size,hB7.block⟩;have hB17:Below W1.heap.size W1 w7:=hB16.trans (hB7'.mono hB16.size);refine hK.out _ _ (BX.out _ hB17) (fun hHeld4=>?_);clear hHeld3 hK K;try simp only [Act.put,List.getElem_toArray,List.getElem_cons_succ,List.getElem_cons_zero,List.setIfInBounds_toArray,List.set_cons_zero,List.set_cons_succ]
 refine tk 10 ?_;refine tk 11 ?_;refine wpAnyH_done (by kernel_rfl) ?_ _;go_wp2_with fail
 go_ret2
 have e1:ay_ xs ⟨s,ky,b,ag,d⟩ = xs.take i ++ [⟨s,ky,b,ag,d⟩] ++ xs.drop i:=by
  unfold ay_;have e2:idxSeq s xs = i:=HX.out.symm;dsimp only;rw [e2]
 have h16:=hB16.size;have h17:=hB17.size;refine ⟨v,rfl,?_,hBw.trans (hB17.mono hBw.size)⟩;rw [e1];exact bn_ hown (by show w.heap.size≤W6.heap.size;omega)
theorem mm_ (xs:List ae_) (a:Option Addr) (n c:Nat) (s d:Int) (ky b:ByteArray) (ag:Bool) (w:World) (hn:xs.length = n) (hm:n≤maxLen) (hp:ai_ w a xs) (hl:at_ xs = false) :
 Calls Tryz.prog 148 #[.slice a n c,.agg #[.int .i64 s,.string ky,.string b,.bool ag,.int .i64 d]] w fun e w'=>e = .returned (.tuple #[.slice none 0 0,.int .i64 1])∧Below w.heap.size w w':=by
 have HL:Hid (bx_ xs = 1):=by show bx_ xs = 1;unfold bx_;rw [hl];rfl
 obtain ⟨W1,hW1,hBw,hs1,hbx⟩:=c6_ w (.int .i64 s) (.string ky) (.string b) (.bool ag) (.int .i64 d) 48;have HW1:Hid (W1 = _):=hW1;have HP:Hid (ai_ W1 a xs):=hp.keep hBw;have HN:Hid (xs.length = n):=hn;have HM:Hid (n≤maxLen):=hm;clear hW1 hbx hp hl hn hm;go_enter Tryz.func148,Tryz.ntmps148;go_wp2_with fail
 rw [← HW1.out];refine (bu_ xs _ _ _ _ HN.out HM.out HP.out).mono ?_;rintro e w2 ⟨rfl,hB2⟩;rw [HL.out];go_wp2_with fail
 go_ret2
 exact ⟨rfl,hBw.trans (hB2.mono hBw.size)⟩
theorem ml_ (xs:List ae_) (a:Option Addr) (n c:Nat) (s d:Int) (ky b:ByteArray) (ag:Bool) (w:World) (hn:xs.length = n) (hm:n≤maxLen) (hp:ai_ w a xs) (hl:at_ xs = true) (hr:am_ ⟨s,ky,b,ag,d⟩ = false) :
 Calls Tryz.prog 148 #[.slice a n c,.agg #[.int .i64 s,.string ky,.string b,.bool ag,.int .i64 d]] w fun e w'=>e = .returned (.tuple #[.slice none 0 0,.int .i64 1])∧Below w.heap.size w w':=by
 have HL:Hid (bx_ xs = 0):=by show bx_ xs = 0;unfold bx_;rw [if_pos hl]
 have HR:Hid (am_ ⟨s,ky,b,ag,d⟩ = false):=hr;obtain ⟨W1,hW1,hBw,hs1,hbx⟩:=c6_ w (.int .i64 s) (.string ky) (.string b) (.bool ag) (.int .i64 d) 48;have HW1:Hid (W1 = _):=hW1;have BX:Hid (∀ W,Below W1.heap.size W1 W→_):=hbx;have HP:Hid (ai_ W1 a xs):=hp.keep hBw;have HN:Hid (xs.length = n):=hn;have HM:Hid (n≤maxLen):=hm;clear hW1 hbx hp hl hr hn hm;go_enter Tryz.func148,Tryz.ntmps148;go_wp2_with fail
 rw [← HW1.out];refine (bu_ xs _ _ _ _ HN.out HM.out HP.out).mono ?_;rintro e w2 ⟨rfl,hB2⟩;obtain ⟨d0,d1,d2,d3,d4⟩:=BX.out w2 hB2;rw [HL.out];go_wp2_with fail
 refine (c1_ _ _ _ _ _ _).mono ?_;rintro e w3 ⟨rfl,hB3⟩;rw [HR.out];go_wp2_with fail
 go_ret2
 exact ⟨rfl,hBw.trans ((hB2.trans (hB3.mono hB2.size)).mono hBw.size)⟩
theorem k2_ (xs:List ae_) (a:Option Addr) (n c:Nat) (s d:Int) (ky b:ByteArray) (ag:Bool) (w:World) (hn:xs.length = n) (hnc:n≤c) (hcm:c≤maxLen) (hz:a = none→c = 0) (hp:ai_ w a xs)
 (hl:at_ xs = true) (hr:am_ ⟨s,ky,b,ag,d⟩ = true) (i:Nat) (hi:i = idxSeq s xs) (hlt:i < n) (hq:xs[i]?.map ae_.seq = some s) :
 Calls Tryz.prog 148 #[.slice a n c,.agg #[.int .i64 s,.string ky,.string b,.bool ag,.int .i64 d]] w fun e w'=>e = .returned (.tuple #[.slice none 0 0,.int .i64 6])∧Below w.heap.size w w':=by
 have hm:n≤maxLen:=Nat.le_trans hnc hcm;have hfew:=ed_ hl;have HL:Hid (bx_ xs = 0):=by show bx_ xs = 0;unfold bx_;rw [if_pos hl]
 have HR:Hid (am_ ⟨s,ky,b,ag,d⟩ = true):=hr;have HI:Hid (idxI s xs = i):=by show idxI s xs = i;unfold idxI;rw [← hi,if_pos (by rw [hn];exact hlt)]
 obtain ⟨W1,hW1,hBw,hs1,hbx⟩:=c6_ w (.int .i64 s) (.string ky) (.string b) (.bool ag) (.int .i64 d) 48;have HW1:Hid (W1 = _):=hW1;have BX:Hid (∀ W,Below W1.heap.size W1 W→_):=hbx;have HP:Hid (ai_ W1 a xs):=hp.keep hBw;have HN:Hid (xs.length = n):=hn;have HM:Hid (n≤maxLen):=hm;have HF:Hid (n≤1048576):=by show n≤1048576;omega
 have HX:Hid (i = idxSeq s xs):=hi;clear hW1 hbx hp hl hr hn hm hi;have s1:=hBw.size;go_enter Tryz.func148,Tryz.ntmps148;go_wp2_with fail
 rw [← HW1.out];refine (bu_ xs _ _ _ _ HN.out HM.out HP.out).mono ?_;rintro e w2 ⟨rfl,hB2⟩;obtain ⟨d0,d1,d2,d3,d4⟩:=BX.out w2 hB2;rw [HL.out];go_wp2_with fail
 refine (c1_ _ _ _ _ _ _).mono ?_;rintro e w3 ⟨rfl,hB3⟩;have hB13:Below W1.heap.size W1 w3:=hB2.trans (hB3.mono hB2.size);clear d0 d1 d2 d3 d4;obtain ⟨d0,d1,d2,d3,d4⟩:=BX.out w3 hB13;rw [HR.out];go_wp2_with fail
 refine (dr_ xs _ _ _ _ s _ HN.out HM.out (HP.out.keep hB13) (by have:=hB13.size;omega) d0).mono ?_;rintro e w4 ⟨rfl,hB4⟩;have hB14:Below W1.heap.size W1 w4:=hB13.trans (hB4.mono hB13.size);clear d0 d1 d2 d3 d4;obtain ⟨d0,d1,d2,d3,d4⟩:=BX.out w4 hB14;rw [HI.out];have q0:¬ (i:Int) < 0:=by omega
 have q4:(0:Int)≤(i:Int):=by omega
 have q5:(i:Int) < (n:Int):=by omega
 go_wp2_with fail
 obtain ⟨g,o,rfl,hg,hx⟩:=HP.out.cells (by rw [HN.out];omega);have hg4:g < w4.heap.size:=by have:=hB14.size;omega
 have cq:w4.cell? ⟨g,o+i * 5,none⟩ = some (.int .i64 s):=by
  have h1:=((hx i (by rw [HN.out];exact hlt)).keep hB14 hg).1;have h2:xs[i]'(by rw [HN.out];exact hlt) = xs[i]'(by rw [HN.out];exact hlt):=rfl;rw [List.getElem?_eq_getElem (by rw [HN.out];exact hlt)] at hq;simp at hq;rw [hq] at h1;exact h1
 clear hx hq;refine wp_region_held_drew (S:=fun w'=>w'.cell? ⟨g,o+i * 5,none⟩ = some (.int .i64 s)∧w'.cell? ⟨w.heap.size,0,none⟩ = some (.int .i64 s)) (by kernel_rfl) ⟨cq,d0⟩ (fun hHeld=>?_);refine tk 0 ?_;refine tk 1 ?_;refine tk 2 ?_;refine tk 3 ?_;refine tk 4 ?_;refine tk 5 ?_;refine tk 6 ?_;refine tk 7 ?_;refine tk 8 ?_;refine tk 9 ?_;refine tk 10 ?_;refine tk 11 ?_;refine tk 12 ?_;refine tk 13 ?_;refine wpAnyH_done (by kernel_rfl) ?_ _;go_wp2_with fail
 go_ret2
 exact ⟨rfl,hBw.trans ((hB14.mono hBw.size).trans ⟨rfl,rfl,rfl,Nat.le_refl _,fun _ _=>rfl⟩)⟩
theorem nq_ (xs:List ae_) (a:Option Addr) (n c:Nat) (s d:Int) (ky b:ByteArray) (ag:Bool) (w:World) (hn:xs.length = n) (hnc:n≤c) (hcm:c≤maxLen) (hz:a = none→c = 0) (hp:ai_ w a xs) :
 Calls Tryz.prog 148 #[.slice a n c,.agg #[.int .i64 s,.string ky,.string b,.bool ag,.int .i64 d]] w fun e w'=>∃ v m,e = .returned (.tuple #[v,.int .i64 (eB_ xs ⟨s,ky,b,ag,d⟩)])∧w'.ownsRow w.heap.size 48 5 v m (al_ (hJ_ xs ⟨s,ky,b,ag,d⟩))∧Below w.heap.size w w':=by
 have hm:n≤maxLen:=Nat.le_trans hnc hcm;cases hl:at_ xs with
 | false =>
   have e1:eB_ xs ⟨s,ky,b,ag,d⟩ = 1:=by unfold eB_;rw [hl];rfl
   refine (mm_ xs a n c s d ky b ag w hn hm hp hl).mono ?_;rintro e w' ⟨rfl,hB⟩;exact ⟨_,0,by rw [e1],by unfold hJ_;rw [e1];exact World.ownsRow_nil _ _ _ _,hB⟩
 | true =>
   cases hr:am_ ⟨s,ky,b,ag,d⟩ with
   | false =>
     have e1:eB_ xs ⟨s,ky,b,ag,d⟩ = 1:=by unfold eB_;rw [hl,hr];rfl
     refine (ml_ xs a n c s d ky b ag w hn hm hp hl hr).mono ?_;rintro e w' ⟨rfl,hB⟩;exact ⟨_,0,by rw [e1],by unfold hJ_;rw [e1];exact World.ownsRow_nil _ _ _ _,hB⟩
   | true =>
     by_cases hlt:idxSeq s xs < n
     ·have hq:xs[idxSeq s xs]?.map ae_.seq = some (xs[idxSeq s xs]'(by rw [hn];exact hlt)).seq:=by rw [List.getElem?_eq_getElem (by rw [hn];exact hlt)];rfl
      by_cases heq:(xs[idxSeq s xs]'(by rw [hn];exact hlt)).seq = s
      ·have e1:eB_ xs ⟨s,ky,b,ag,d⟩ = 6:=by unfold eB_ bM_;rw [hl,hr];simp only [hq,heq];simp
       refine (k2_ xs a n c s d ky b ag w hn hnc hcm hz hp hl hr _ rfl hlt (by rw [hq,heq])).mono ?_;rintro e w' ⟨rfl,hB⟩;exact ⟨_,0,by rw [e1],by unfold hJ_;rw [e1];exact World.ownsRow_nil _ _ _ _,hB⟩
      ·have e1:eB_ xs ⟨s,ky,b,ag,d⟩ = 0:=by unfold eB_ bM_;rw [hl,hr];simp only [hq];simp [heq]
       refine (nr_ xs a n c s d ky b ag w hn hnc hcm hz hp hl hr _ rfl hlt _ hq heq).mono ?_;rintro e w' ⟨v,rfl,hown,hB⟩;exact ⟨v,_,by rw [e1],by unfold hJ_;rw [e1];exact hown,hB⟩
     ·have e1:eB_ xs ⟨s,ky,b,ag,d⟩ = 0:=by
       unfold eB_ bM_;rw [hl,hr];have:xs[idxSeq s xs]? = none:=List.getElem?_eq_none (by rw [hn];omega);simp only [this];simp
      refine (ok_ xs a n c s d ky b ag w hn hnc hcm hz hp hl hr _ rfl hlt).mono ?_;rintro e w' ⟨v,rfl,hown,hB⟩;exact ⟨v,_,by rw [e1],by unfold hJ_;rw [e1];exact hown,hB⟩
theorem k6_ (xs:List ae_) (a1 a2:Option Addr) (n c1 c2:Nat) (w:World) (hn:xs.length = n) (hm:n≤maxLen) (h1:ai_ w a1 xs) (h2:ai_ w a2 xs) :
 Calls Tryz.prog 19 #[.slice a1 n c1,.slice a2 n c2] w fun e w'=>e = .returned (.bool true)∧Below w.heap.size w w':=by
 have HN:Hid (xs.length = n):=hn;have HP:Hid (ai_ w a1 xs∧ai_ w a2 xs):=⟨h1,h2⟩;unfold maxLen at hm;clear hn h1 h2;go_enter Tryz.func19,Tryz.ntmps19;go_wp2
 go_loopw [5] (fun i wr=>∃ (k:Nat),k≤n∧i = .int .i64 k∧Below w.heap.size w wr) (fun i _=>n - (intOf i).toNat)
 case atStart=>exact ⟨0,Nat.zero_le _,rfl,Below.refl _ _⟩
 case round=>
  obtain ⟨k,hk,rfl,hB⟩:=hrel;have hBs:=hB.size;by_cases hlt:k < n
  ·have hkl:k < xs.length:=by rw [HN.out];exact hlt
   obtain ⟨g,o,rfl,hg,hx⟩:=HP.out.1.cells (by omega);obtain ⟨g',o',rfl,hg',hx'⟩:=HP.out.2.cells (by omega);obtain ⟨x,hxx⟩:∃ x,x = xs[k]:=⟨_,rfl⟩
   have hc:=(hx k hkl).keep hB hg;have hc':=(hx' k hkl).keep hB hg';rw [← hxx] at hc hc';clear hx hx' hxx;obtain ⟨s,ky,b,ag,d⟩:=x;have j1:(0:Int)≤(k:Int):=by omega
   have j2:(k:Int) < n:=by omega
   go_wp2_with fail
   refine wp_region_held_drew (S:=fun w'=>(w'.cell? ⟨g,o+k * 5,none⟩ = some (.int .i64 s)∧w'.cell? ⟨g,o+k * 5+1,none⟩ = some (.string ky)∧w'.cell? ⟨g,o+k * 5+2,none⟩ = some (.string b)∧w'.cell? ⟨g,o+k * 5+3,none⟩ = some (.bool ag)∧w'.cell? ⟨g,o+k * 5+4,none⟩ = some (.int .i64 d)) ∧
    (w'.cell? ⟨g',o' + k * 5,none⟩ = some (.int .i64 s)∧w'.cell? ⟨g',o' + k * 5+1,none⟩ = some (.string ky)∧w'.cell? ⟨g',o' + k * 5+2,none⟩ = some (.string b)∧w'.cell? ⟨g',o' + k * 5+3,none⟩ = some (.bool ag)∧w'.cell? ⟨g',o' + k * 5+4,none⟩ = some (.int .i64 d))) (by kernel_rfl) ⟨hc,hc'⟩ (fun hHeld=>?_)
   refine tk 0 ?_;refine tk 1 ?_;refine tk 2 ?_;refine tk 3 ?_;refine tk 4 ?_;refine tk 5 ?_;refine tk 6 ?_;refine tk 7 ?_;refine tk 8 ?_;refine wpAnyH_done (by kernel_rfl) ?_ _;go_wp2_with fail
   go_roundw
   case rel=>exact ⟨k+1,by omega,by go_num,⟨hB.os,hB.tape,hB.output,hB.size,hB.block⟩⟩
   case measure=>simp [intOf];omega
  ·go_wp2
   go_ret
   exact ⟨rfl,hB⟩
theorem gL_ (xs:List ae_) (a:Option Addr) (n c:Nat) (w:World) (hn:xs.length = n) (hb:n≤100000000) (hz:a = none→c = 0∧xs = []) (hp:ai_ w a xs) :
 Calls Tryz.prog 174 #[.slice a n c] w fun e w'=>∃ v,e = .returned v∧w'.ownsRow w.heap.size 48 5 v n (al_ xs)∧Below w.heap.size w w':=by
 have HN:Hid (xs.length = n):=hn;have HP:Hid (ai_ w a xs):=hp;have HZ:Hid (a = none→c = 0∧xs = []):=hz;clear hn hp hz;go_enter Tryz.func174,Tryz.ntmps174;go_wp2_with (at_builtin;refine bo_ rfl _ _ rfl w.heap.size (.slice none 0 0) 0 [] rfl (World.ownsRow_nil _ _ _ _) a n c xs rfl HN.out HZ.out HP.out (by omega) (Nat.le_refl _) ?_;intro v' w3 hown3 hgrow3)
 go_ret
 exact ⟨v',rfl,by simpa using hown3,(Below.refl _ _).grown hgrow3 (Nat.le_refl _) (by simp [Value.ownBlock])⟩
end Go.Proofs.YtlbnkpicnokgoaaGreat
