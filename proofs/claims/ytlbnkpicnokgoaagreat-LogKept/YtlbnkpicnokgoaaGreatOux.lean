import Derived.Test.YtlbnkpicnokgoaaGreatWKf
import Derived.Test.YtlbnkpicnokgoaaGreatWAn
import Derived.Test.YtlbnkpicnokgoaaGreatOhx
import Derived.Test.YtlbnkpicnokgoaaGreatOlx
namespace Go.Proofs.YtlbnkpicnokgoaaGreat
open Go.RowKit Go.Maps
set_option linter.unusedVariables false
set_option maxRecDepth 100000
set_option maxHeartbeats 8000000
def lgA:ActD:=⟨1,0,0,⟨#[120,46,121]⟩,⟨#[104,105]⟩⟩
def lgB:ActD:=⟨2,1,2,⟨#[]⟩,⟨#[]⟩⟩
def lgC:ActD:=⟨0,256,0,⟨#[]⟩,⟨#[]⟩⟩
def lgS:ByteArray:=⟨#[1,0,0,3,120,46,121,2,104,105]⟩
def lgT:ByteArray:=⟨#[2,1,2,0,0]⟩
def lgU:ByteArray:=⟨#[1,0,0,3,120,46,121,2,104,105,2,1,2,0,0]⟩
def lgV:ByteArray:=⟨#[1,0,0,3,120,46,121,2,104,105,2,1,2,0,0,1]⟩
theorem m7_:putE (actT lgA) = 0∧putE (actT lgB) = 0∧putE (actT lgC) = 3∧repE lgV = 0∧repN lgV = 15∧(repA lgV).length = 2:=by decide +kernel
theorem m8_:putV (actT lgA) = lgS∧putV (actT lgB) = lgT∧putV (actT lgC) = ⟨#[]⟩:=by
 refine ⟨?_,?_,?_⟩ <;> kernel_rfl
theorem m9_:recE cg_ lgU = 0∧recN cg_ lgU = 2∧(recS cg_ lgU).came = 2∧(recS cg_ lgU).takers.length = 1∧doE cg_ bS ⟨0,0,0,⟨#[]⟩,⟨#[]⟩⟩ = 7:=by decide +kernel
theorem oE_:((⟨#[1,0,0,3,120,46,121,2,104,105]⟩:ByteArray) ++ (⟨#[2,1,2,0,0]⟩:ByteArray)) = lgU:=by kernel_rfl
theorem oF_:((⟨#[1,0,0,3,120,46,121,2,104,105]⟩:ByteArray) ++ (⟨#[2,1,2,0,0]⟩:ByteArray) ++ (⟨#[1]⟩:ByteArray)) = lgV:=by kernel_rfl
theorem cE_ (w:World):Calls Tryz.prog 22 #[] w fun e w'=>e = .returned (.bool true)∧Below w.heap.size w w':=by
 have F1:=hidI m7_;have F2:=hidI m8_;have F3:=hidI m9_;go_enter Tryz.func22,Tryz.ntmps22;go_wp2_with fail
 refine (ee_ lgA _).mono ?_;rintro e w1 ⟨rfl,k1⟩;rw [F1.out.1,F2.out.1];have K1:=hidI k1;clear k1;go_wp2_with fail
 refine (ee_ lgB _).mono ?_;rintro e w2 ⟨rfl,k2⟩;rw [F1.out.2.1,F2.out.2.1];have K2:=hidI (K1.out.trans (k2.mono K1.out.size));clear k2;unfold lgS lgT;go_wp2_with fail
 rw [oF_];refine (g6_ lgV _).mono ?_;rintro e w3 ⟨v3,rfl,ho3,k3⟩;rw [F1.out.2.2.2.1,F1.out.2.2.2.2.1];obtain ⟨a3,c3,hv3,-⟩:=aD_ ho3;rw [F1.out.2.2.2.2.2] at hv3;subst hv3;have K3:=hidI (K2.out.trans (k3.mono K2.out.size));clear k3 ho3;go_wp2_with fail
 refine (g2_ _).mono ?_;rintro e w4 ⟨rfl,k4,hp4⟩;have K4:=hidI (K3.out.trans (k4.mono K3.out.size));have HP4:=hidI hp4;clear k4 hp4;go_wp2_with fail
 rw [oE_];refine (eE_ cg_ _ _ _ _ _ _ _ _ _ lgU _ HP4.out).mono ?_;rintro e w5 ⟨v5,rfl,hr5,k5⟩;rw [F3.out.1] at hr5 ⊢;rw [F3.out.2.1];obtain ⟨b1,b2,b3,m1,d1,m2,d2,m3,d3,hv5,hrs⟩:=hr5.1 rfl;obtain ⟨S5,hS5⟩:∃ S5,S5 = recS cg_ lgU:=⟨_,rfl⟩
 rw [← hS5] at hv5 hrs;have hl3:=hrs.state.1.l3;have hca:S5.came = 2:=by rw [hS5];exact F3.out.2.2.1
 have htk:m3 = 1:=by rw [← hl3,hS5];exact F3.out.2.2.2.1
 subst hv5 htk;rw [hca];have K5:=hidI (K4.out.trans (k5.mono K4.out.size));obtain ⟨w6,hw6⟩:∃ w6,w6 = w5.alloc (.cells #[.slice b1 m1 d1,.slice b2 m2 d2,.slice b3 1 d3,.int .i64 S5.nextSeq,.int .i64 S5.nextTag,.int .i64 2,.int .i64 S5.acked,.int .i64 S5.dropped] 31):=⟨_,rfl⟩
 have l6:Below w5.heap.size w5 w6:=by rw [hw6];exact (Below.refl _ _).alloc (Nat.le_refl _) _
 have b6:w6.heap[w5.heap.size]? = some (.cells #[.slice b1 m1 d1,.slice b2 m2 d2,.slice b3 1 d3,.int .i64 S5.nextSeq,.int .i64 S5.nextTag,.int .i64 2,.int .i64 S5.acked,.int .i64 S5.dropped] 31 (0,0)):=by rw [hw6];exact World.alloc_heap_new w5 _
 have HW6:=hidI hw6;obtain ⟨B6,hB6⟩:∃ B6,B6 = w5.heap.size:=⟨_,rfl⟩
 have HBB:=hidI hB6;rw [← hB6] at b6;have HB6:=hidI b6;have K6:=hidI (K5.out.trans (l6.mono K5.out.size));clear hr5 k5 hrs hS5 hl3 hca hw6 l6 b6 hB6;go_upto_region 5 with fail
 rw [← HW6.out,← HBB.out];go_wp2_with fail
 refine (ee_ lgC _).mono ?_;rintro e w7 ⟨rfl,k7⟩;rw [F1.out.2.2.1,F2.out.2.2];have K7:=hidI (K6.out.trans (k7.mono K6.out.size));have HB7:=hidI (pkp_ HB6.out k7);clear k7;go_wp2_with fail
 refine (g2_ _).mono ?_;rintro e w8 ⟨rfl,k8,hp8⟩;have K8:=hidI (K7.out.trans (k8.mono K7.out.size));have HB8:=hidI (pkp_ HB7.out k8);have HP8:=hidI hp8;clear k8 hp8;go_wp2_with fail
 refine (m0_ _).mono ?_;rintro e w9 ⟨gI,gR,gO,gT,rfl,hb9,-,-,k9⟩;have K9:=hidI (K8.out.trans (k9.mono K8.out.size));have HB9:=hidI (pkp_ HB8.out k9);have HP9:=hidI (HP8.out.keep k9);have HS9:=hidI (hb9.state 1);clear k9 hb9;go_wp2_with fail
 refine (nT_ cg_ _ _ _ _ _ _ _ _ _ bS _ _ _ _ _ _ _ _ _ ⟨0,0,0,⟨#[]⟩,⟨#[]⟩⟩ _ HP9.out HS9.out (fun h=>by cases h) (fun h=>by cases h)).mono ?_;rintro e wa ⟨va,rfl,hra,ka⟩;rw [F3.out.2.2.2.2] at hra ⊢;obtain ⟨x1,x2,x3,k1,e1,k2,e2,k3,e3,i1,i2,i3,i4,i5,rfl⟩:=hra.shape;have KA:=hidI (K9.out.trans (ka.mono K9.out.size));have HBA:=hidI (pkp_ HB9.out ka);obtain ⟨wb,hwb⟩:∃ wb,wb = wa.alloc (.cells #[.slice x1 k1 e1,.slice x2 k2 e2,.slice x3 k3 e3,.int .i64 i1,.int .i64 i2,.int .i64 i3,.int .i64 i4,.int .i64 i5] 31):=⟨_,rfl⟩
 have lb:Below wa.heap.size wa wb:=by rw [hwb];exact (Below.refl _ _).alloc (Nat.le_refl _) _
 have HWB:=hidI hwb;have KB:=hidI (KA.out.trans (lb.mono KA.out.size));have hbb:=pkp_ HBA.out lb;clear hra ka hwb lb;go_upto_region 7 with fail
 rw [← HWB.out];obtain ⟨y0,y1,y2,y3,y4,y5,y6,y7⟩:=aa_ hbb;clear hbb;go_wp2_with fail
 go_ret
 exact ⟨rfl,KB.out⟩
def nZ_ (x:ActD):Prop:=(0≤x.kind∧x.kind≤255)∧(0≤x.a∧x.a≤255)∧(0≤x.b∧x.b≤255)∧x.key.size≤255∧x.body.size≤255
theorem li_ {x:ActD} (h:putE (actT x) = 0):nZ_ x:=by
 unfold putE at h;by_cases g:(actT x).all a6_.ok = true
 ·unfold actT at g;simp [a6_.ok] at g;obtain ⟨g1,g2,g3,g4,g5⟩:=g;exact ⟨g1,g2,g3,g4,g5⟩
 ·rw [if_neg g] at h;cases h
theorem gi_ {x:ActD} (h:putE (actT x) = 0):(putV (actT x)).data.toList = b7_ (actT x):=by
 unfold putV;rw [if_pos h];rfl
theorem iR_ (x:ActD):b7_ (actT x) = [oct8 x.kind] ++ ([oct8 x.a] ++ ([oct8 x.b] ++ (eF_ x.key ++ eF_ x.body))):=by
 unfold b7_ actT;simp [a6_.bytes]
theorem nu_ {s:ByteArray} {i j:Nat} {x:ActD} (h:rAct s i = some (x,j)):Has s i (b7_ (actT x))∧j = i+(b7_ (actT x)).length∧nZ_ x:=by
 unfold rAct at h;cases h1:rNum s i with
 | none=>rw [h1] at h;cases h
 | some q1 =>
   obtain ⟨a,i1⟩:=q1;rw [h1] at h;dsimp only at h;cases h2:rNum s i1 with
   | none=>rw [h2] at h;cases h
   | some q2 =>
     obtain ⟨b,i2⟩:=q2;rw [h2] at h;dsimp only at h;cases h3:rNum s i2 with
     | none=>rw [h3] at h;cases h
     | some q3 =>
       obtain ⟨c,i3⟩:=q3;rw [h3] at h;dsimp only at h;cases h4:rText s i3 with
       | none=>rw [h4] at h;cases h
       | some q4 =>
         obtain ⟨t,i4⟩:=q4;rw [h4] at h;dsimp only at h;cases h5:rText s i4 with
         | none=>rw [h5] at h;cases h
         | some q5 =>
           obtain ⟨u,i5⟩:=q5;rw [h5] at h;dsimp only at h;cases h;obtain ⟨f1,e1,o1⟩:=(ci_ s).fwd _ _ _ h1;obtain ⟨f2,e2,o2⟩:=(ci_ s).fwd _ _ _ h2;obtain ⟨f3,e3,o3⟩:=(ci_ s).fwd _ _ _ h3;obtain ⟨f4,e4,o4⟩:=(ei_ s).fwd _ _ _ h4;obtain ⟨f5,e5,o5⟩:=(ei_ s).fwd _ _ _ h5;subst e1 e2 e3 e4 e5;rw [iR_];refine ⟨Has.append.2 ⟨f1,Has.append.2 ⟨f2,Has.append.2 ⟨f3,Has.append.2 ⟨f4,f5⟩⟩⟩⟩,by simp only [List.length_append];omega,by dsimp only;omega,by dsimp only;omega,by dsimp only;omega,by dsimp only;omega,by dsimp only;omega⟩
theorem hK_ {s:ByteArray} {i:Nat} {x:ActD} (ho:nZ_ x) (h:Has s i (b7_ (actT x))):rAct s i = some (x,i+(b7_ (actT x)).length):=by
 obtain ⟨k,a,b,t,u⟩:=x;obtain ⟨o1,o2,o3,o4,o5⟩:=ho;dsimp only at o1 o2 o3 o4 o5;obtain ⟨k,rfl⟩:∃ n:Nat,k = n:=⟨k.toNat,by omega⟩
 obtain ⟨a,rfl⟩:∃ n:Nat,a = n:=⟨a.toNat,by omega⟩
 obtain ⟨b,rfl⟩:∃ n:Nat,b = n:=⟨b.toNat,by omega⟩
 rw [iR_] at h ⊢;dsimp only at h ⊢;obtain ⟨f1,h⟩:=Has.append.1 h;obtain ⟨f2,h⟩:=Has.append.1 h;obtain ⟨f3,h⟩:=Has.append.1 h;obtain ⟨f4,f5⟩:=Has.append.1 h;have g1:=(ci_ s).bwd _ k (by omega) f1;have g2:=(ci_ s).bwd _ a (by omega) f2;have g3:=(ci_ s).bwd _ b (by omega) f3;have g4:=(ei_ s).bwd _ t (by omega) f4;have g5:=(ei_ s).bwd _ u (by omega) f5;try dsimp only at g1 g2 g3
 unfold rAct;rw [g1];dsimp only;rw [g2];dsimp only;rw [g3];dsimp only;rw [g4];dsimp only;rw [g5];dsimp only;simp only [List.length_append];congr 2;omega
theorem nt_ {s:ByteArray} {i:Nat} (h:s.size≤i):rAct s i = none:=by
 unfold rAct rNum;rw [dif_neg (by omega)]
theorem dq_ (s t:ByteArray):(s ++ t).data.toList = s.data.toList ++ t.data.toList:=by
 rw [ByteArray.data_append,Array.toList_append]
theorem fI_ (s t:ByteArray):(s ++ t).size = s.size+t.size:=ByteArray.size_append
theorem Has.more {s t:ByteArray} {i:Nat} {l:List UInt8} (h:Has s i l):Has (s ++ t) i l:=by
 refine ⟨by rw [fI_];have:=h.1;omega,?_⟩;rw [dq_,List.drop_append_of_le_length (by rw [bm_];exact h.1)];exact h.2.trans (List.prefix_append _ _)
theorem nd_ (s t:ByteArray):Has (s ++ t) s.size t.data.toList:=by
 refine ⟨by rw [fI_];omega,?_⟩;rw [dq_,← bm_,List.drop_left];exact List.prefix_rfl
def encN (l:List ActD):Nat→ByteArray
 | 0=>⟨#[]⟩
 | k + 1 => match l[k]? with
   | none=>encN l k
   | some x=>encN l k ++ putV (actT x)
theorem dU_ {l:List ActD} {k:Nat} (h:k < l.length):encN l (k+1) = encN l k ++ putV (actT l[k]):=by
 conv=>lhs;unfold encN
 rw [List.getElem?_eq_getElem h]
theorem gN_ (l:List ActD) (j:Nat):∀ d,∃ r,encN l (j+d) = encN l j ++ r
 | 0 => ⟨⟨#[]⟩, by
   apply ByteArray.ext;apply Array.toList_inj.1
   rw [dq_];simp⟩
 | d + 1 => by
   obtain ⟨r,hr⟩:=gN_ l j d;by_cases h:j+d < l.length
   ·refine ⟨r ++ putV (actT l[j+d]),?_⟩;rw [show j+(d+1) = (j+d)+1 from rfl,dU_ h,hr];apply ByteArray.ext;apply Array.toList_inj.1
    rw [dq_,dq_,dq_,dq_,List.append_assoc]
   ·refine ⟨r,?_⟩;rw [← hr];conv=>lhs;rw [show j+(d+1) = (j+d)+1 from rfl];unfold encN
    rw [List.getElem?_eq_none (by omega)]
theorem j8_ (s:ByteArray) (k:Nat):(s.extract 0 k).data.toList = s.data.toList.take k:=by rw [ht_];simp
theorem fS_ {s:ByteArray} {k:Nat} (h:k≤s.size):(s.extract 0 k).size = k:=by rw [ByteArray.size_extract];omega
theorem Has.pre {s:ByteArray} {k i:Nat} {l:List UInt8} (hk:k≤s.size):Has (s.extract 0 k) i l↔Has s i l∧i+l.length≤k:=by
 constructor
 ·intro h;have hle:=h.le;rw [fS_ hk] at hle;have h2:=h.2;rw [j8_] at h2;refine ⟨⟨by omega,?_⟩,hle⟩;rw [List.drop_take] at h2;exact h2.trans (List.take_prefix _ _)
 ·rintro ⟨h,hle⟩;refine ⟨by rw [fS_ hk];omega,?_⟩;rw [j8_,List.drop_take];exact List.prefix_take_iff.2 ⟨h.2,by omega⟩
theorem nQ_ {l:List ActD} {j:Nat} (hj:j < l.length) (hok:putE (actT l[j]) = 0):Has (encN l l.length) (encN l j).size (b7_ (actT l[j]))∧(encN l (j+1)).size = (encN l j).size+(b7_ (actT l[j])).length:=by
 obtain ⟨r,hr⟩:=gN_ l (j+1) (l.length - (j+1));rw [show j+1+(l.length - (j+1)) = l.length by omega] at hr;have h1:=nd_ (encN l j) (putV (actT l[j]));rw [gi_ hok,← dU_ hj] at h1;refine ⟨by rw [hr];exact h1.more,?_⟩;rw [dU_ hj,fI_,← bm_ (putV _),gi_ hok]
theorem lt_ {l:List ActD} (hok:∀ (j:Nat) (h:j < l.length),putE (actT (l[j]'h)) = 0) {k wh:Nat} (hk:k≤(encN l l.length).size) (hw:wh≤l.length) (h1:∀ j,j < wh→(encN l (j+1)).size≤k) (h2:wh < l.length→k < (encN l (wh+1)).size) :
 ∀ (d j f:Nat),wh = j+d→d < f→repL ((encN l l.length).extract 0 k) f (encN l j).size = ((l.drop j).take d,(encN l wh).size)
 | d,j,0,_,hf=>absurd hf (Nat.not_lt_zero _)
 | 0, j, f + 1, hj, hf => by
   obtain rfl:wh = j:=hj;have hn:rAct ((encN l l.length).extract 0 k) (encN l wh).size = none:=by
    by_cases hl:wh < l.length
    ·cases hr:rAct ((encN l l.length).extract 0 k) (encN l wh).size with
     | none=>rfl
     | some q =>
       obtain ⟨y,e⟩:=q;obtain ⟨f1,f2,f3⟩:=nu_ hr;obtain ⟨g1,g2⟩:=(Has.pre hk).1 f1;obtain ⟨a1,a2⟩:=nQ_ hl (hok _ hl);have e1:=hK_ f3 g1;rw [hK_ (li_ (hok _ hl)) a1] at e1;have e2:=(Prod.mk.inj (Option.some.inj e1)).1;have:=h2 hl;rw [a2,e2] at this;omega
    ·have:wh = l.length:=by omega
     exact nt_ (by rw [fS_ hk,this];exact hk)
   unfold repL;rw [hn];simp
 | d + 1, j, f + 1, hj, hf => by
   have hjl:j < l.length:=by omega
   obtain ⟨a1,a2⟩:=nQ_ hjl (hok _ hjl);have hle:=h1 j (by omega);have hr:rAct ((encN l l.length).extract 0 k) (encN l j).size = some (l[j],(encN l (j+1)).size):=by
    rw [a2];exact hK_ (li_ (hok _ hjl)) ((Has.pre hk).2 ⟨a1,by rw [← a2];exact hle⟩)
   have ih:=lt_ hok hk hw h1 h2 d (j+1) f (by omega) (by omega);conv=>lhs;unfold repL
   rw [hr];dsimp only;rw [ih,List.drop_eq_getElem_cons hjl];rfl
theorem iw_ (s:ab_) (b1 b2 b3:Option Addr) (m1 d1 m2 d2 m3 d3:Nat) (t:Int) (w:World) (hs:an_ w b1 b2 b3 m1 m2 m3 s) :
 Calls Tryz.prog 79 #[.agg #[.slice b1 m1 d1,.slice b2 m2 d2,.slice b3 m3 d3,.int .i64 s.nextSeq,.int .i64 s.nextTag,.int .i64 s.came,.int .i64 s.acked,.int .i64 s.dropped],.int .i64 t] w fun e w'=>e = .returned (.int .i64 (idxF (fun o:OutD=>decide (o.tag = t)) s.outs))∧Below w.heap.size w w':=by
 obtain ⟨W1,hW1,hBw,hs1,hbx⟩:=dz_ w #[.slice b1 m1 d1,.slice b2 m2 d2,.slice b3 m3 d3,.int .i64 s.nextSeq,.int .i64 s.nextTag,.int .i64 s.came,.int .i64 s.acked,.int .i64 s.dropped];have HW1:=hidI hW1;have HS:=hidI (hs.keep hBw);have HM2:Hid (s.outs.length = m2):=hs.l2;have hx2:=hs.x2;have s0:=hBw.size;obtain ⟨y0,y1,y2,y3,y4,y5,y6,y7⟩:=aa_ (hbx W1 (Below.refl _ _));clear hW1 hbx hs1 hs;go_enter Tryz.func79,Tryz.ntmps79;go_wp2_with fail
 rw [← HW1.out];go_loopw [5] (fun i wr=>∃ (k:Nat),k≤m2∧i = .int .i64 k∧(∀ x ∈ s.outs.take k,decide (x.tag = t) = false)∧wr = W1) (fun i _=>m2 - (intOf i).toNat)
 case atStart=>exact ⟨0,Nat.zero_le _,rfl,by simp,rfl⟩
 case round=>
  obtain ⟨k,hk,rfl,ha,rfl⟩:=hrel;have HA:=hidI ha;clear ha;by_cases hlt:k < m2
  ·have HLT:=hidI hlt;have hkl:k < s.outs.length:=by rw [HM2.out];exact hlt
   obtain ⟨g,o,ha,hg,e1,e2,e3,e4⟩:=HS.out.q2.get hkl;subst ha;have HX:Hid (decide (s.outs[k].tag = t) = true→idxF (fun o:OutD=>decide (o.tag = t)) s.outs = k):=fun h=>fN_ hkl HA.out h
   have HT:Hid (decide (s.outs[k].tag = t) = false→∀ x ∈ s.outs.take (k+1),decide (x.tag = t) = false):=fun h x hx=>by
    rw [List.take_succ_eq_append_getElem hkl,List.mem_append,List.mem_singleton] at hx;rcases hx with hx | rfl
    ·exact HA.out x hx
    ·exact h
   obtain ⟨x,hx⟩:∃ x,x = s.outs[k]:=⟨_,rfl⟩
   rw [← hx] at e1 HX HT;obtain ⟨tk,htk⟩:∃ tk,tk = x.tag:=⟨_,rfl⟩
   rw [← htk] at e1 HX HT;have j1:(0:Int)≤(k:Int):=by omega
   have j2:(k:Int) < m2:=by omega
   clear hx htk e2 e3 e4;by_cases htk:tk = t
   ·have hb:(tk == t) = true:=by simpa using htk
    have HXX:=hidI (HX.out (decide_eq_true htk));clear htk;go_wp2_with fail
    go_ret
    exact ⟨au_ HXX.out.symm,hBw⟩
   ·have hb:(tk == t) = false:=by simpa using htk
    have HTT:=hidI (HT.out (decide_eq_false htk));clear htk;go_wp2_with fail
    go_roundw
    case rel=>exact ⟨k+1,HLT.out,by have:=HLT.out;go_num,HTT.out,by first | trivial | rfl⟩
    case measure=>have:=HLT.out;simp [intOf];omega
  ·have HF:Hid (idxF (fun o:OutD=>decide (o.tag = t)) s.outs = -1):=f4_ (fun x hx=>HA.out x (by rw [List.take_of_length_le (by rw [HM2.out];omega)];exact hx));have hke:k = m2:=by omega
   subst hke;clear hlt hk;go_wp2_with fail
   go_ret
   exact ⟨au_ HF.out.symm,hBw⟩
end Go.Proofs.YtlbnkpicnokgoaaGreat
