import Derived.Test.YtlbnkpicnokgoaaGreatCKf
import Derived.Test.YtlbnkpicnokgoaaGreatCAn
import Derived.Test.YtlbnkpicnokgoaaGreatUex
import Derived.Test.YtlbnkpicnokgoaaGreatUlx
namespace Go.Proofs.YtlbnkpicnokgoaaGreat
open Go.RowKit Go.Maps
set_option linter.unusedVariables false
set_option maxRecDepth 100000
set_option maxHeartbeats 8000000
def lgA:ActD:=⟨1,0,0,⟨#[120,46,121]⟩,⟨#[104,105]⟩⟩
def lgB:ActD:=⟨2,1,2,⟨#[]⟩,⟨#[]⟩⟩
def lgC:ActD:=⟨0,256,0,⟨#[]⟩,⟨#[]⟩⟩
def lgS:ByteArray:=⟨#[1,0,0,3,120,46,121,2,104,105]⟩
def lgT:ByteArray:=⟨#[2,1,2,0,0]⟩
def lgU:ByteArray:=⟨#[1,0,0,3,120,46,121,2,104,105,2,1,2,0,0]⟩
def lgV:ByteArray:=⟨#[1,0,0,3,120,46,121,2,104,105,2,1,2,0,0,1]⟩
theorem m5_:putE (actT lgA) = 0∧putE (actT lgB) = 0∧putE (actT lgC) = 3∧repE lgV = 0∧repN lgV = 15∧(repA lgV).length = 2:=by decide +kernel
theorem m6_:putV (actT lgA) = lgS∧putV (actT lgB) = lgT∧putV (actT lgC) = ⟨#[]⟩:=by
 refine ⟨?_,?_,?_⟩ <;> kernel_rfl
theorem m7_:recE cf_ lgU = 0∧recN cf_ lgU = 2∧(recS cf_ lgU).came = 2∧(recS cf_ lgU).takers.length = 1∧doE cf_ bS ⟨0,0,0,⟨#[]⟩,⟨#[]⟩⟩ = 7:=by decide +kernel
theorem oB_:((⟨#[1,0,0,3,120,46,121,2,104,105]⟩:ByteArray) ++ (⟨#[2,1,2,0,0]⟩:ByteArray)) = lgU:=by kernel_rfl
theorem oC_:((⟨#[1,0,0,3,120,46,121,2,104,105]⟩:ByteArray) ++ (⟨#[2,1,2,0,0]⟩:ByteArray) ++ (⟨#[1]⟩:ByteArray)) = lgV:=by kernel_rfl
theorem fr_ (w:World):Calls Tryz.prog 22 #[] w fun e w'=>e = .returned (.bool true)∧Below w.heap.size w w':=by
 have F1:=hidI m5_;have F2:=hidI m6_;have F3:=hidI m7_;go_enter Tryz.func22,Tryz.ntmps22;go_wp2_with fail
 refine (e8_ lgA _).mono ?_;rintro e w1 ⟨rfl,k1⟩;rw [F1.out.1,F2.out.1];have K1:=hidI k1;clear k1;go_wp2_with fail
 refine (e8_ lgB _).mono ?_;rintro e w2 ⟨rfl,k2⟩;rw [F1.out.2.1,F2.out.2.1];have K2:=hidI (K1.out.trans (k2.mono K1.out.size));clear k2;unfold lgS lgT;go_wp2_with fail
 rw [oC_];refine (g0_ lgV _).mono ?_;rintro e w3 ⟨v3,rfl,ho3,k3⟩;rw [F1.out.2.2.2.1,F1.out.2.2.2.2.1];obtain ⟨a3,c3,hv3,-⟩:=aH_ ho3;rw [F1.out.2.2.2.2.2] at hv3;subst hv3;have K3:=hidI (K2.out.trans (k3.mono K2.out.size));clear k3 ho3;go_wp2_with fail
 refine (gW_ _).mono ?_;rintro e w4 ⟨rfl,k4,hp4⟩;have K4:=hidI (K3.out.trans (k4.mono K3.out.size));have HP4:=hidI hp4;clear k4 hp4;go_wp2_with fail
 rw [oB_];refine (jq_ cf_ _ _ _ _ _ _ _ _ _ lgU _ HP4.out).mono ?_;rintro e w5 ⟨v5,rfl,hr5,k5⟩;rw [F3.out.1] at hr5 ⊢;rw [F3.out.2.1];obtain ⟨b1,b2,b3,m1,d1,m2,d2,m3,d3,hv5,hrs⟩:=hr5.1 rfl;obtain ⟨S5,hS5⟩:∃ S5,S5 = recS cf_ lgU:=⟨_,rfl⟩
 rw [← hS5] at hv5 hrs;have hl3:=hrs.state.1.l3;have hca:S5.came = 2:=by rw [hS5];exact F3.out.2.2.1
 have htk:m3 = 1:=by rw [← hl3,hS5];exact F3.out.2.2.2.1
 subst hv5 htk;rw [hca];have K5:=hidI (K4.out.trans (k5.mono K4.out.size));obtain ⟨w6,hw6⟩:∃ w6,w6 = w5.alloc (.cells #[.slice b1 m1 d1,.slice b2 m2 d2,.slice b3 1 d3,.int .i64 S5.nextSeq,.int .i64 S5.nextTag,.int .i64 2,.int .i64 S5.acked,.int .i64 S5.dropped] 31):=⟨_,rfl⟩
 have l6:Below w5.heap.size w5 w6:=by rw [hw6];exact (Below.refl _ _).alloc (Nat.le_refl _) _
 have b6:w6.heap[w5.heap.size]? = some (.cells #[.slice b1 m1 d1,.slice b2 m2 d2,.slice b3 1 d3,.int .i64 S5.nextSeq,.int .i64 S5.nextTag,.int .i64 2,.int .i64 S5.acked,.int .i64 S5.dropped] 31 (0,0)):=by rw [hw6];exact World.alloc_heap_new w5 _
 have HW6:=hidI hw6;obtain ⟨B6,hB6⟩:∃ B6,B6 = w5.heap.size:=⟨_,rfl⟩
 have HBB:=hidI hB6;rw [← hB6] at b6;have HB6:=hidI b6;have K6:=hidI (K5.out.trans (l6.mono K5.out.size));clear hr5 k5 hrs hS5 hl3 hca hw6 l6 b6 hB6;go_upto_region 5 with fail
 rw [← HW6.out,← HBB.out];go_wp2_with fail
 refine (e8_ lgC _).mono ?_;rintro e w7 ⟨rfl,k7⟩;rw [F1.out.2.2.1,F2.out.2.2];have K7:=hidI (K6.out.trans (k7.mono K6.out.size));have HB7:=hidI (pkp_ HB6.out k7);clear k7;go_wp2_with fail
 refine (gW_ _).mono ?_;rintro e w8 ⟨rfl,k8,hp8⟩;have K8:=hidI (K7.out.trans (k8.mono K7.out.size));have HB8:=hidI (pkp_ HB7.out k8);have HP8:=hidI hp8;clear k8 hp8;go_wp2_with fail
 refine (mV_ _).mono ?_;rintro e w9 ⟨gI,gR,gO,gT,rfl,hb9,-,-,k9⟩;have K9:=hidI (K8.out.trans (k9.mono K8.out.size));have HB9:=hidI (pkp_ HB8.out k9);have HP9:=hidI (HP8.out.keep k9);have HS9:=hidI (hb9.state 1);clear k9 hb9;go_wp2_with fail
 refine (jG_ cf_ _ _ _ _ _ _ _ _ _ bS _ _ _ _ _ _ _ _ _ ⟨0,0,0,⟨#[]⟩,⟨#[]⟩⟩ _ HP9.out HS9.out (fun h=>by cases h) (fun h=>by cases h)).mono ?_;rintro e wa ⟨va,rfl,hra,ka⟩;rw [F3.out.2.2.2.2] at hra ⊢;obtain ⟨x1,x2,x3,k1,e1,k2,e2,k3,e3,i1,i2,i3,i4,i5,rfl⟩:=hra.shape;have KA:=hidI (K9.out.trans (ka.mono K9.out.size));have HBA:=hidI (pkp_ HB9.out ka);obtain ⟨wb,hwb⟩:∃ wb,wb = wa.alloc (.cells #[.slice x1 k1 e1,.slice x2 k2 e2,.slice x3 k3 e3,.int .i64 i1,.int .i64 i2,.int .i64 i3,.int .i64 i4,.int .i64 i5] 31):=⟨_,rfl⟩
 have lb:Below wa.heap.size wa wb:=by rw [hwb];exact (Below.refl _ _).alloc (Nat.le_refl _) _
 have HWB:=hidI hwb;have KB:=hidI (KA.out.trans (lb.mono KA.out.size));have hbb:=pkp_ HBA.out lb;clear hra ka hwb lb;go_upto_region 7 with fail
 rw [← HWB.out];obtain ⟨y0,y1,y2,y3,y4,y5,y6,y7⟩:=aa_ hbb;clear hbb;go_wp2_with fail
 go_ret
 exact ⟨rfl,KB.out⟩
theorem ir_ (s:ab_) (b1 b2 b3:Option Addr) (m1 d1 m2 d2 m3 d3:Nat) (t:Int) (w:World) (hs:an_ w b1 b2 b3 m1 m2 m3 s) :
 Calls Tryz.prog 79 #[.agg #[.slice b1 m1 d1,.slice b2 m2 d2,.slice b3 m3 d3,.int .i64 s.nextSeq,.int .i64 s.nextTag,.int .i64 s.came,.int .i64 s.acked,.int .i64 s.dropped],.int .i64 t] w fun e w'=>e = .returned (.int .i64 (idxF (fun o:OutD=>decide (o.tag = t)) s.outs))∧Below w.heap.size w w':=by
 obtain ⟨W1,hW1,hBw,hs1,hbx⟩:=du_ w #[.slice b1 m1 d1,.slice b2 m2 d2,.slice b3 m3 d3,.int .i64 s.nextSeq,.int .i64 s.nextTag,.int .i64 s.came,.int .i64 s.acked,.int .i64 s.dropped];have HW1:=hidI hW1;have HS:=hidI (hs.keep hBw);have HM2:Hid (s.outs.length = m2):=hs.l2;have hx2:=hs.x2;have s0:=hBw.size;obtain ⟨y0,y1,y2,y3,y4,y5,y6,y7⟩:=aa_ (hbx W1 (Below.refl _ _));clear hW1 hbx hs1 hs;go_enter Tryz.func79,Tryz.ntmps79;go_wp2_with fail
 rw [← HW1.out];go_loopw [5] (fun i wr=>∃ (k:Nat),k≤m2∧i = .int .i64 k∧(∀ x ∈ s.outs.take k,decide (x.tag = t) = false)∧wr = W1) (fun i _=>m2 - (intOf i).toNat)
 case atStart=>exact ⟨0,Nat.zero_le _,rfl,by simp,rfl⟩
 case round=>
  obtain ⟨k,hk,rfl,ha,rfl⟩:=hrel;have HA:=hidI ha;clear ha;by_cases hlt:k < m2
  ·have HLT:=hidI hlt;have hkl:k < s.outs.length:=by rw [HM2.out];exact hlt
   obtain ⟨g,o,ha,hg,e1,e2,e3,e4⟩:=HS.out.q2.get hkl;subst ha;have HX:Hid (decide (s.outs[k].tag = t) = true→idxF (fun o:OutD=>decide (o.tag = t)) s.outs = k):=fun h=>fF_ hkl HA.out h
   have HT:Hid (decide (s.outs[k].tag = t) = false→∀ x ∈ s.outs.take (k+1),decide (x.tag = t) = false):=fun h x hx=>by
    rw [List.take_succ_eq_append_getElem hkl,List.mem_append,List.mem_singleton] at hx;rcases hx with hx | rfl
    ·exact HA.out x hx
    ·exact h
   obtain ⟨x,hx⟩:∃ x,x = s.outs[k]:=⟨_,rfl⟩
   rw [← hx] at e1 HX HT;obtain ⟨tk,htk⟩:∃ tk,tk = x.tag:=⟨_,rfl⟩
   rw [← htk] at e1 HX HT;have j1:(0:Int)≤(k:Int):=by omega
   have j2:(k:Int) < m2:=by omega
   clear hx htk e2 e3 e4;by_cases htk:tk = t
   ·have hb:(tk == t) = true:=by simpa using htk
    have HXX:=hidI (HX.out (decide_eq_true htk));clear htk;go_wp2_with fail
    go_ret
    exact ⟨au_ HXX.out.symm,hBw⟩
   ·have hb:(tk == t) = false:=by simpa using htk
    have HTT:=hidI (HT.out (decide_eq_false htk));clear htk;go_wp2_with fail
    go_roundw
    case rel=>exact ⟨k+1,HLT.out,by have:=HLT.out;go_num,HTT.out,by first | trivial | rfl⟩
    case measure=>have:=HLT.out;simp [intOf];omega
  ·have HF:Hid (idxF (fun o:OutD=>decide (o.tag = t)) s.outs = -1):=fX_ (fun x hx=>HA.out x (by rw [List.take_of_length_le (by rw [HM2.out];omega)];exact hx));have hke:k = m2:=by omega
   subst hke;clear hlt hk;go_wp2_with fail
   go_ret
   exact ⟨au_ HF.out.symm,hBw⟩
end Go.Proofs.YtlbnkpicnokgoaaGreat
