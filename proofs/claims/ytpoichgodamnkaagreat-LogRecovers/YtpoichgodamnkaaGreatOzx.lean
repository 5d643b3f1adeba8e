import Derived.Test.YtpoichgodamnkaaGreatWKf
import Derived.Lib.AppendStr
import Derived.Test.YtpoichgodamnkaaGreatOpx
import Derived.Test.YtpoichgodamnkaaGreatOox
import Derived.Deep.RegionHeld3
import Derived.Laws.StructEq
import Derived.Test.YtpoichgodamnkaaGreatOdx
import Derived.Test.YtpoichgodamnkaaGreatOcx
import Derived.Deep.DeepCutAuto
import Derived.Test.YtpoichgodamnkaaGreatWKb
import Derived.Test.YtpoichgodamnkaaGreatWUk
namespace Go.Proofs.YtpoichgodamnkaaGreat
open Go.RowKit Go.Maps
set_option linter.unusedVariables false
set_option maxRecDepth 100000
set_option maxHeartbeats 4000000
def oj_ (x:ActD):Prop:=(0≤x.kind∧x.kind≤255)∧(0≤x.a∧x.a≤255)∧(0≤x.b∧x.b≤255)∧x.key.size≤255∧x.body.size≤255
theorem iL_ (x:ActD):cl_ (actT x) = [oct8 x.kind] ++ ([oct8 x.a] ++ ([oct8 x.b] ++ (eX_ x.key ++ eX_ x.body))):=by
 unfold cl_ actT;simp [bc_.bytes]
theorem j1_ {s:ByteArray} {i j:Nat} {x:ActD} (h:rAct s i = some (x,j)):Has s i (cl_ (actT x))∧j = i+(cl_ (actT x)).length∧oj_ x:=by
 unfold rAct at h;cases h1:rNum s i with
 | none=>rw [h1] at h;cases h
 | some q1 =>
   obtain ⟨a,i1⟩:=q1;rw [h1] at h;dsimp only at h;cases h2:rNum s i1 with
   | none=>rw [h2] at h;cases h
   | some q2 =>
     obtain ⟨b,i2⟩:=q2;rw [h2] at h;dsimp only at h;cases h3:rNum s i2 with
     | none=>rw [h3] at h;cases h
     | some q3 =>
       obtain ⟨c,i3⟩:=q3;rw [h3] at h;dsimp only at h;cases h4:rText s i3 with
       | none=>rw [h4] at h;cases h
       | some q4 =>
         obtain ⟨t,i4⟩:=q4;rw [h4] at h;dsimp only at h;cases h5:rText s i4 with
         | none=>rw [h5] at h;cases h
         | some q5 =>
           obtain ⟨u,i5⟩:=q5;rw [h5] at h;dsimp only at h;cases h;obtain ⟨f1,e1,o1⟩:=(ce_ s).fwd _ _ _ h1;obtain ⟨f2,e2,o2⟩:=(ce_ s).fwd _ _ _ h2;obtain ⟨f3,e3,o3⟩:=(ce_ s).fwd _ _ _ h3;obtain ⟨f4,e4,o4⟩:=(eb_ s).fwd _ _ _ h4;obtain ⟨f5,e5,o5⟩:=(eb_ s).fwd _ _ _ h5;subst e1 e2 e3 e4 e5;rw [iL_];refine ⟨Has.append.2 ⟨f1,Has.append.2 ⟨f2,Has.append.2 ⟨f3,Has.append.2 ⟨f4,f5⟩⟩⟩⟩,by simp only [List.length_append];omega,by dsimp only;omega,by dsimp only;omega,by dsimp only;omega,by dsimp only;omega,by dsimp only;omega⟩
theorem j0_ {s:ByteArray} {i:Nat} {x:ActD} (ho:oj_ x) (h:Has s i (cl_ (actT x))):rAct s i = some (x,i+(cl_ (actT x)).length):=by
 obtain ⟨k,a,b,t,u⟩:=x;obtain ⟨o1,o2,o3,o4,o5⟩:=ho;dsimp only at o1 o2 o3 o4 o5;obtain ⟨k,rfl⟩:∃ n:Nat,k = n:=⟨k.toNat,by omega⟩
 obtain ⟨a,rfl⟩:∃ n:Nat,a = n:=⟨a.toNat,by omega⟩
 obtain ⟨b,rfl⟩:∃ n:Nat,b = n:=⟨b.toNat,by omega⟩
 rw [iL_] at h ⊢;dsimp only at h ⊢;obtain ⟨f1,h⟩:=Has.append.1 h;obtain ⟨f2,h⟩:=Has.append.1 h;obtain ⟨f3,h⟩:=Has.append.1 h;obtain ⟨f4,f5⟩:=Has.append.1 h;have g1:=(ce_ s).bwd _ k (by omega) f1;have g2:=(ce_ s).bwd _ a (by omega) f2;have g3:=(ce_ s).bwd _ b (by omega) f3;have g4:=(eb_ s).bwd _ t (by omega) f4;have g5:=(eb_ s).bwd _ u (by omega) f5;try dsimp only at g1 g2 g3
 unfold rAct;rw [g1];dsimp only;rw [g2];dsimp only;rw [g3];dsimp only;rw [g4];dsimp only;rw [g5];dsimp only;simp only [List.length_append];congr 2;omega
theorem ex_ {s:ByteArray} {i:Nat} (h:i < s.size):rNum s i = some (s[i].toNat,i+1):=by unfold rNum;rw [dif_pos h]
theorem hB_ {s:ByteArray} {i:Nat} (h:¬ i < s.size):rNum s i = none:=by unfold rNum;rw [dif_neg h]
theorem eO_ {s:ByteArray} {i:Nat} (h:i < s.size) (hn:s[i].toNat≤s.size - (i+1)):rText s i = some (s.extract (i+1) (i+1+s[i].toNat),i+1+s[i].toNat):=by
 unfold rText;rw [ex_ h];dsimp only;rw [if_pos hn]
theorem hC_ {s:ByteArray} {i:Nat} (h:¬ i < s.size):rText s i = none:=by unfold rText;rw [hB_ h]
theorem ey_ {s:ByteArray} {i:Nat} (h:i < s.size) (hn:¬ s[i].toNat≤s.size - (i+1)):rText s i = none:=by
 unfold rText;rw [ex_ h];dsimp only;rw [if_neg hn]
theorem d9_ {s:ByteArray} (h:3≤s.size):rAct s 0 = match rText s 3 with
 | none=>none
 | some (t, n) => match rText s n with
   | none=>none
   | some (u,e)=>some (⟨(s[0].toNat:Nat),(s[1].toNat:Nat),(s[2].toNat:Nat),t,u⟩,e):=by
 unfold rAct;rw [ex_ (by omega:0 < s.size)];dsimp only;rw [ex_ (by omega:0+1 < s.size)];dsimp only;rw [ex_ (by omega:0+1+1 < s.size)];rfl
theorem oA_ {s:ByteArray} (h:s.size < 5):rAct s 0 = none:=by
 by_cases h3:3≤s.size
 ·rw [d9_ h3];by_cases h4:3 < s.size
  ·by_cases hn:s[3].toNat≤s.size - (3+1)
   ·rw [eO_ h4 hn];dsimp only;rw [hC_ (by omega)]
   ·rw [ey_ h4 hn]
  ·rw [hC_ h4]
 ·unfold rAct;by_cases h0:0 < s.size
  ·rw [ex_ h0];dsimp only;by_cases h1:0+1 < s.size
   ·rw [ex_ h1];dsimp only;rw [hB_ (by omega)]
   ·rw [hB_ h1]
  ·rw [hB_ h0]
theorem oB_ {s:ByteArray} (h:5≤s.size) (hk:s.size≤4+s[3].toNat):rAct s 0 = none:=by
 rw [d9_ (by omega)];by_cases hn:s[3].toNat≤s.size - (3+1)
 ·rw [eO_ (by omega) hn];dsimp only;rw [hC_ (by omega)]
 ·rw [ey_ (by omega) hn]
theorem oC_ {s:ByteArray} {n:Nat} (h:5≤s.size) (hn:n = s[3].toNat) (hk:4+n < s.size) (he:s.size < 4+n+1+s[4+n].toNat):rAct s 0 = none:=by
 rw [d9_ (by omega),eO_ (by omega) (by omega),← hn];dsimp only;rw [ey_ hk (by omega)]
theorem oD_ {s:ByteArray} {n m:Nat} (h:5≤s.size) (hn:n = s[3].toNat) (hk:4+n < s.size) (hm:m = s[4+n].toNat) (he:4+n+1+m≤s.size) :
 rAct s 0 = some (⟨(s[0].toNat:Nat),(s[1].toNat:Nat),(s[2].toNat:Nat),s.extract 4 (4+n),s.extract (4+n+1) (4+n+1+m)⟩,4+n+1+m):=by
 rw [d9_ (by omega),eO_ (by omega) (by omega),← hn];dsimp only;rw [eO_ hk (by omega),← hm]
def f0_ (s:ByteArray):ActD × Nat:=match rAct s 0 with | none=>(actZ,0) | some (x,n)=>(x,n)
theorem iM_ (s:ByteArray) (w:World) (hs:s.size≤1000000) :
 Calls Tryz.prog 123 #[.string s] w fun e w'=>e = .returned (.tuple #[(f0_ s).1.val,.int .i64 ((f0_ s).2:Nat)])∧Below w.heap.size w w':=by
 obtain ⟨X,hX⟩:∃ X,X = f0_ s:=⟨_,rfl⟩
 rw [← hX];have HX:=hidI hX;clear hX;by_cases h5:s.size < 5
 ·have e:X = (actZ,0):=by rw [HX.out];unfold f0_;rw [oA_ h5]
  subst e;have g1:decide ((s.size:Int) < 5) = true:=by simp;omega
  clear h5;go_enter Tryz.func123,Tryz.ntmps123;go_wp2_with fail
  obtain ⟨W9,hW9⟩:∃ W9,W9 = w.alloc (.cells #[.int .i64 0,.int .i64 0,.int .i64 0,.string ⟨#[]⟩,.string ⟨#[]⟩] 72):=⟨_,rfl⟩
  have hx:W9.heap[w.heap.size]? = some (.cells #[.int .i64 0,.int .i64 0,.int .i64 0,.string ⟨#[]⟩,.string ⟨#[]⟩] 72 (0,0)):=by rw [hW9];exact World.alloc_heap_new w _
  obtain ⟨c0,c1,c2,c3,c4⟩:=cells5 hx;rw [← hW9];exact bodyPost_ret (v:=.tuple #[.agg #[.int .i64 0,.int .i64 0,.int .i64 0,.string ⟨#[]⟩,.string ⟨#[]⟩],.int .i64 0]) (by simp [results,Tryz.results123,go_sem,c0,c1,c2,c3,c4]) rfl ⟨rfl,by rw [hW9];exact (Below.refl _ _).alloc (Nat.le_refl _) _⟩
 have HS5:Hid (5≤s.size):=by show 5≤s.size;omega
 have g1:decide ((s.size:Int) < 5) = false:=by simp;omega
 obtain ⟨n,hn⟩:∃ n,n = s[3].toNat:=⟨_,rfl⟩
 have n256:n < 256:=by rw [hn];exact UInt8.toNat_lt _
 have HN:=hidI hn;obtain ⟨K,hK⟩:∃ K,K = 4+n:=⟨_,rfl⟩
 have k1:(4:Int)+(n:Int) = (K:Int):=by omega
 have HK:=hidI hK;clear hK;go_enter Tryz.func123,Tryz.ntmps123;go_upto_region 4 with fail
 rw [← hn,k1];clear k1 hn;by_cases hB:s.size≤K
 ·have e:X = (actZ,0):=by rw [HX.out];unfold f0_;rw [oB_ HS5.out (by have:=HN.out;have:=HK.out;omega)]
  subst e;have g2:decide ((s.size:Int)≤(K:Int)) = true:=by simp;omega
  go_wp2_with fail
  obtain ⟨W9,hW9⟩:∃ W9,W9 = w.alloc (.cells #[.int .i64 0,.int .i64 0,.int .i64 0,.string ⟨#[]⟩,.string ⟨#[]⟩] 72):=⟨_,rfl⟩
  have hx:W9.heap[w.heap.size]? = some (.cells #[.int .i64 0,.int .i64 0,.int .i64 0,.string ⟨#[]⟩,.string ⟨#[]⟩] 72 (0,0)):=by rw [hW9];exact World.alloc_heap_new w _
  obtain ⟨c0,c1,c2,c3,c4⟩:=cells5 hx;rw [← hW9];exact bodyPost_ret (v:=.tuple #[.agg #[.int .i64 0,.int .i64 0,.int .i64 0,.string ⟨#[]⟩,.string ⟨#[]⟩],.int .i64 0]) (by simp [results,Tryz.results123,go_sem,c0,c1,c2,c3,c4]) rfl ⟨rfl,by rw [hW9];exact (Below.refl _ _).alloc (Nat.le_refl _) _⟩
 have g2:decide ((s.size:Int)≤(K:Int)) = false:=by simp;omega
 have kl:K < s.size:=by omega
 have ki:(K:Int) < (s.size:Int):=by omega
 obtain ⟨m,hm⟩:∃ m,m = (s[K]'kl).toNat:=⟨_,rfl⟩
 have m256:m < 256:=by rw [hm];exact UInt8.toNat_lt _
 have HM:=hidI hm;obtain ⟨M,hMM⟩:∃ M,M = K+1+m:=⟨_,rfl⟩
 have HMM:=hidI hMM;have w1:IntKind.i64.wrap ((K:Int)+1) = ((K+1:Nat):Int):=by rw [IntKind.wrap_i64];omega
 have w2:IntKind.i64.wrap (((K+1:Nat):Int)+(m:Int)) = (M:Int):=by rw [IntKind.wrap_i64];omega
 have w3:IntKind.i64.wrap ((K:Int)+1+(m:Int)) = (M:Int):=by rw [IntKind.wrap_i64];omega
 have k0:(0:Int)≤(K:Int):=by omega
 clear hMM;go_upto_region 7 with fail
 have e0:(K:Int)+1+((s[K]'kl).toNat:Int) = (M:Int):=by rw [← hm];have:=HMM.out;omega
 rw [e0,← hm];clear e0 hm w1 w2 w3;by_cases hC:s.size < M
 ·have e:X = (actZ,0):=by
   obtain rfl:=HK.out;rw [HX.out];unfold f0_;rw [oC_ HS5.out HN.out kl (by rw [← HM.out,← HMM.out];exact hC)]
  subst e;have g3:decide ((s.size:Int) < (M:Int)) = true:=by simp;omega
  go_wp2_with fail
  obtain ⟨W9,hW9⟩:∃ W9,W9 = w.alloc (.cells #[.int .i64 0,.int .i64 0,.int .i64 0,.string ⟨#[]⟩,.string ⟨#[]⟩] 72):=⟨_,rfl⟩
  have hx:W9.heap[w.heap.size]? = some (.cells #[.int .i64 0,.int .i64 0,.int .i64 0,.string ⟨#[]⟩,.string ⟨#[]⟩] 72 (0,0)):=by rw [hW9];exact World.alloc_heap_new w _
  obtain ⟨c0,c1,c2,c3,c4⟩:=cells5 hx;rw [← hW9];exact bodyPost_ret (v:=.tuple #[.agg #[.int .i64 0,.int .i64 0,.int .i64 0,.string ⟨#[]⟩,.string ⟨#[]⟩],.int .i64 0]) (by simp [results,Tryz.results123,go_sem,c0,c1,c2,c3,c4]) rfl ⟨rfl,by rw [hW9];exact (Below.refl _ _).alloc (Nat.le_refl _) _⟩
 have g3:decide ((s.size:Int) < (M:Int)) = false:=by simp;omega
 have hd:X = (⟨((s[0]'(by omega)).toNat:Nat),((s[1]'(by omega)).toNat:Nat),((s[2]'(by omega)).toNat:Nat),s.extract 4 K,s.extract (K+1) M⟩,M):=by
  obtain rfl:=HK.out;rw [HX.out];unfold f0_;rw [oD_ HS5.out HN.out kl HM.out (by rw [← HMM.out];omega),← HMM.out]
 have HD:=hidI hd;have q0:0 < s.size:=by omega
 have q1:1 < s.size:=by omega
 have q2:2 < s.size:=by omega
 have q1':(1:Int) < (s.size:Int):=by omega
 have q2':(2:Int) < (s.size:Int):=by omega
 have q3':4≤K:=by have:=HK.out;omega
 have q4':K≤s.size:=by omega
 have q5':K+1≤M:=by have:=HMM.out;omega
 have q6':M≤s.size:=by omega
 have q3:(4:Int)≤(K:Int):=by have:=HK.out;omega
 have q4:(K:Int)≤(s.size:Int):=by omega
 have q5:(K:Int)+1≤(M:Int):=by have:=HMM.out;omega
 have q6:(M:Int)≤(s.size:Int):=by omega
 have w1:IntKind.i64.wrap ((K:Int)+1) = (K:Int)+1:=by rw [IntKind.wrap_i64];omega
 clear hd;obtain ⟨r0,hr0⟩:∃ r,r = (s[0]'q0).toNat:=⟨_,rfl⟩
 obtain ⟨r1,hr1⟩:∃ r,r = (s[1]'q1).toNat:=⟨_,rfl⟩
 obtain ⟨r2,hr2⟩:∃ r,r = (s[2]'q2).toNat:=⟨_,rfl⟩
 have l0:r0 < 256:=by rw [hr0];exact UInt8.toNat_lt _
 have l1:r1 < 256:=by rw [hr1];exact UInt8.toNat_lt _
 have l2:r2 < 256:=by rw [hr2];exact UInt8.toNat_lt _
 have HR:Hid (X = (⟨(r0:Nat),(r1:Nat),(r2:Nat),s.extract 4 K,s.extract (K+1) M⟩,M)):=by show X = _;rw [HD.out,hr0,hr1,hr2]
 clear HD;go_upto_region 9 with fail
 go_region
 rw [← hr0,← hr1,← hr2];clear hr0 hr1 hr2;have hX:=HR.out;subst hX;go_wp2_with fail
 obtain ⟨W9,hW9⟩:∃ W9,W9 = (w.alloc (.cells #[.int .i64 (r0:Nat),.int .i64 (r1:Nat),.int .i64 (r2:Nat),.string (s.extract 4 K),.string (s.extract (K+1) M)] 72)).drew:=⟨_,rfl⟩
 have hx:W9.heap[w.heap.size]? = some (.cells #[.int .i64 (r0:Nat),.int .i64 (r1:Nat),.int .i64 (r2:Nat),.string (s.extract 4 K),.string (s.extract (K+1) M)] 72 (0,0)):=by rw [hW9];exact World.alloc_heap_new w _
 obtain ⟨c0,c1,c2,c3,c4⟩:=cells5 hx;rw [← hW9];exact bodyPost_ret (v:=.tuple #[.agg #[.int .i64 (r0:Nat),.int .i64 (r1:Nat),.int .i64 (r2:Nat),.string (s.extract 4 K),.string (s.extract (K+1) M)],.int .i64 (M:Nat)]) (by simp [results,Tryz.results123,go_sem,c0,c1,c2,c3,c4]) rfl ⟨rfl,by rw [hW9];exact ((Below.refl _ _).alloc (Nat.le_refl _) _).drew⟩
end Go.Proofs.YtpoichgodamnkaaGreat
namespace Go.Proofs.YtpoichgodamnkaaGreat
open Go.RowKit
set_option linter.unusedVariables false
set_option maxRecDepth 100000
end Go.Proofs.YtpoichgodamnkaaGreat
namespace Go.Proofs.YtpoichgodamnkaaGreat
open Go.RowKit Go.Maps
set_option linter.unusedVariables false
set_option maxRecDepth 100000
set_option maxHeartbeats 8000000
theorem oE_ (xs:List ActD) (a1 a2:Option Addr) (n c1 c2:Nat) (w:World) (hn:xs.length = n) (hm:n≤60) (h1:aI_ w a1 (aJ_ xs)) (h2:aI_ w a2 (aJ_ xs)) :
 Calls Tryz.prog 56 #[.slice a1 n c1,.slice a2 n c2] w fun e w'=>e = .returned (.bool true)∧∃ m,w' = w.drewN m:=by
 have HN:Hid (xs.length = n):=hn;have HP:Hid (aI_ w a1 (aJ_ xs)∧aI_ w a2 (aJ_ xs)):=⟨h1,h2⟩;clear hn h1 h2;go_enter Tryz.func56,Tryz.ntmps56;go_wp2
 go_loopw [5] (fun i wr=>∃ (k m:Nat),k≤n∧i = .int .i64 k∧wr = w.drewN m) (fun i _=>n - (intOf i).toNat)
 case atStart=>exact ⟨0,0,Nat.zero_le _,rfl,rfl⟩
 case round=>
  obtain ⟨k,m,hk,rfl,hwr⟩:=hrel;have HWR:Hid (wr = w.drewN m):=hwr;have hB:Below w.heap.size w wr:=by rw [hwr];exact cn_ (Below.refl _ _)
  clear hwr;by_cases hlt:k < n
  ·have hkl:k < xs.length:=by rw [HN.out];exact hlt
   obtain ⟨g,o,rfl,hg,p0,p1,p2,p3,p4⟩:=gk_ (HP.out.1.keep hB) hkl;obtain ⟨g',o',rfl,hg',q0,q1,q2,q3,q4⟩:=gk_ (HP.out.2.keep hB) hkl;obtain ⟨x,hxx⟩:∃ x,x = xs[k]:=⟨_,rfl⟩
   rw [← hxx] at p0 p1 p2 p3 p4 q0 q1 q2 q3 q4;clear hxx;obtain ⟨kd,ka,kb,ky,bd⟩:=x;have j1:(0:Int)≤(k:Int):=by omega
   have j2:(k:Int) < n:=by omega
   go_wp2_with fail
   refine wp_region_held_drew (S:=fun w'=>(w'.cell? ⟨g,o+k * 5,none⟩ = some (.int .i64 kd)∧w'.cell? ⟨g,o+k * 5+1,none⟩ = some (.int .i64 ka)∧w'.cell? ⟨g,o+k * 5+2,none⟩ = some (.int .i64 kb)∧w'.cell? ⟨g,o+k * 5+3,none⟩ = some (.string ky)∧w'.cell? ⟨g,o+k * 5+4,none⟩ = some (.string bd)) ∧
    (w'.cell? ⟨g',o' + k * 5,none⟩ = some (.int .i64 kd)∧w'.cell? ⟨g',o' + k * 5+1,none⟩ = some (.int .i64 ka)∧w'.cell? ⟨g',o' + k * 5+2,none⟩ = some (.int .i64 kb)∧w'.cell? ⟨g',o' + k * 5+3,none⟩ = some (.string ky)∧w'.cell? ⟨g',o' + k * 5+4,none⟩ = some (.string bd))) (by kernel_rfl) ⟨⟨p0,p1,p2,p3,p4⟩,q0,q1,q2,q3,q4⟩ (fun hHeld=>?_)
   refine tk 0 ?_;refine tk 1 ?_;refine tk 2 ?_;refine tk 3 ?_;refine tk 4 ?_;refine tk 5 ?_;refine tk 6 ?_;refine tk 7 ?_;refine tk 8 ?_;refine wpAnyH_done (by kernel_rfl) ?_ _;go_wp2_with fail
   go_roundw
   case rel=>exact ⟨k+1,m+1,by omega,by go_num,by rw [HWR.out];rfl⟩
   case measure=>simp [intOf];omega
  ·go_wp2
   go_ret
   exact ⟨rfl,m,HWR.out⟩
theorem g8_ {s:ByteArray} {i:Nat} {l:List UInt8} (hi:i≤s.size):Has (s.extract i s.size) 0 l↔Has s i l:=by
 have e:(s.extract i s.size).data.toList = s.data.toList.drop i:=by rw [ho_,List.take_of_length_le (by rw [List.length_drop,bY_];exact Nat.le_refl _)]
 unfold Has;rw [List.drop_zero,e];exact ⟨fun h=>⟨hi,h.2⟩,fun h=>⟨Nat.zero_le _,h.2⟩⟩
theorem i5_ {s:ByteArray} {i:Nat} (hi:i≤s.size):(rAct s i = none∧f0_ (s.extract i s.size) = (actZ,0))∨∃ x n,rAct s i = some (x,i+n)∧f0_ (s.extract i s.size) = (x,n)∧n≠0∧i+n≤s.size:=by
 cases h:rAct s i with
 | none =>
   refine .inl ⟨rfl,?_⟩;unfold f0_;cases g:rAct (s.extract i s.size) 0 with
   | none=>rfl
   | some q =>
     obtain ⟨x,j⟩:=q;obtain ⟨f1,f2,f3⟩:=j1_ g;rw [j0_ f3 ((g8_ hi).1 f1)] at h;cases h
 | some q =>
   obtain ⟨x,j⟩:=q;obtain ⟨f1,f2,f3⟩:=j1_ h;refine .inr ⟨x,(cl_ (actT x)).length,by rw [f2],?_,by rw [iL_];simp,f1.le⟩;unfold f0_;rw [j0_ f3 ((g8_ hi).2 f1)];dsimp only;rw [Nat.zero_add]
structure RepJ (s:ByteArray) (w wr:World) (acc:List ActD) (i:Nat) (v:Value):Prop where
 few:acc.length≤60
 list:(repL s 60 0).1 = acc ++ (repL s (60 - acc.length) i).1
 pos:(repL s 60 0).2 = (repL s (60 - acc.length) i).2
 le:i≤s.size
 fr:Below w.heap.size w wr
 own:wr.ownsRow w.heap.size 72 5 v acc.length (aJ_ acc)
theorem iz_ (s:ByteArray) (w:World) :
 Calls Tryz.prog 55 #[.string s] w fun e w'=>∃ v,e = .returned (.tuple #[v,.int .i64 (repN s),.int .i64 (repE s)])∧w'.ownsRow w.heap.size 72 5 v (repA s).length (aJ_ (repA s))∧Below w.heap.size w w':=by
 by_cases hbig:4096 < s.size
 ·have hE:repE s = 2:=if_pos hbig;have hA:repA s = []:=by unfold repA;rw [hE];rfl
  have hN:repN s = 0:=by unfold repN;rw [hE];rfl
  rw [hE,hA,hN];have hb:decide ((4096:Int) < (s.size:Int)) = true:=by rw [decide_eq_true_eq];omega
  have hb':(4096:Int) < (s.size:Int):=by omega
  clear hE hA hN hbig;go_enter Tryz.func55,Tryz.ntmps55;go_wp2_with fail
  go_ret3
  exact ⟨_,rfl,World.ownsRow_nil _ _ _ _,Below.refl _ _⟩
 have hE:repE s = 0:=if_neg hbig;have hA:repA s = (repL s 60 0).1:=if_pos hE;have hN:repN s = ((repL s 60 0).2:Nat):=if_pos hE;rw [hE,hA,hN];obtain ⟨LL,hLL⟩:∃ LL,LL = (repL s 60 0).1:=⟨_,rfl⟩
 obtain ⟨NN,hNN⟩:∃ NN,NN = (repL s 60 0).2:=⟨_,rfl⟩
 rw [← hLL,← hNN];have HLL:=hidI hLL;have HNN:=hidI hNN;have hb':¬ (4096:Int) < (s.size:Int):=by omega
 have HS:Hid (s.size≤4096):=by show s.size≤4096;omega
 clear hE hA hN hbig hLL hNN;go_enter Tryz.func55,Tryz.ntmps55;go_wp2_with fail
 go_loopw [5,6,7,8] (fun l n _ _ wr=>∃ (acc:List ActD) (i:Nat),n = .int .i64 i∧RepJ s w wr acc i l) (fun l _ _ _ _=>60 - ov_ l)
 case atStart=>exact ⟨[],0,rfl,Nat.zero_le _,by simp,by simp,Nat.zero_le _,Below.refl _ _,World.ownsRow_nil _ _ _ _⟩
 case round=>
  obtain ⟨acc,i,rfl,hinv⟩:=hrel;have HI:=hidI hinv;obtain ⟨a,c,hv,hac,hcm,hna,-⟩:=aD_ hinv.own;obtain ⟨m,hm⟩:∃ m,m = acc.length:=⟨_,rfl⟩
  rw [← hm] at hv;have HM:=hidI hm;have hm60:m≤60:=by rw [hm];exact hinv.few
  subst hv;clear hinv hm hac hcm hna;by_cases hlt6:m < 60
  rotate_left
  ·have hm6:m = 60:=by omega
   have HLE:Hid (LL = acc):=by show LL = acc;rw [HLL.out,HI.out.list,← HM.out,hm6];simp [repL]
   have HNE:Hid (NN = i):=by show NN = i;rw [HNN.out,HI.out.pos,← HM.out,hm6];rfl
   subst hm6;clear hlt6;go_wp2_with fail
   go_ret3
   refine ⟨_,by rw [HNE.out];rfl,?_,HI.out.fr⟩;rw [HLE.out];have:=HI.out.own;rw [← HM.out] at this ⊢;exact this
  have j1:(m:Int) < 60:=by omega
  have HLT:=hidI hlt6;have i1:(i:Int)≤(s.size:Int):=by have:=HI.out.le;omega
  have i2:i≤s.size:=HI.out.le;have i3:(0:Int)≤(i:Int):=by omega
  clear hlt6;go_wp2_with fail
  refine (iM_ (s.extract i s.size) wr (by rw [ByteArray.size_extract];have:=HS.out;omega)).mono ?_;rintro e w2 ⟨rfl,l2⟩;have K2:=hidI (HI.out.fr.trans (l2.mono HI.out.fr.size));have HO2:=hidI (cp2_ HI.out.own l2);clear l2;rcases i5_ i2 with ⟨hn,hx⟩ | ⟨x,n,hn,hx,hn0,hle⟩
  ·rw [hx];have HLE:Hid (LL = acc):=by
    show LL = acc;rw [HLL.out,HI.out.list];obtain ⟨d,hd⟩:∃ d,60 - acc.length = d+1:=⟨60 - acc.length - 1,by have:=HLT.out;have:=HM.out;omega⟩
    rw [hd];unfold repL;rw [hn];simp
   have HNE:Hid (NN = i):=by
    show NN = i;rw [HNN.out,HI.out.pos];obtain ⟨d,hd⟩:∃ d,60 - acc.length = d+1:=⟨60 - acc.length - 1,by have:=HLT.out;have:=HM.out;omega⟩
    rw [hd];unfold repL;rw [hn]
   unfold ActD.val actZ;dsimp only;clear hn hx;go_wp2_with fail
   go_ret3
   refine ⟨_,by rw [HNE.out];rfl,?_,?_⟩
   ·rw [HLE.out];have:=cp2_ HO2.out ((Below.refl w2.heap.size w2).alloc (Nat.le_refl _) (.cells #[.int .i64 0,.int .i64 0,.int .i64 0,.string ⟨#[]⟩,.string ⟨#[]⟩] 72));rw [← HM.out] at this ⊢;exact this
   ·exact K2.out.alloc K2.out.size _
  ·rw [hx];have HNX:Hid (acc.length+1≤60∧(repL s 60 0).1 = (acc ++ [x]) ++ (repL s (60 - (acc ++ [x]).length) (i+n)).1∧(repL s 60 0).2 = (repL s (60 - (acc ++ [x]).length) (i+n)).2):=by
    have hl1:=HLT.out;have hl2:=HM.out;obtain ⟨d,hd⟩:∃ d,60 - acc.length = d+1:=⟨60 - acc.length - 1,by omega⟩
    have hd2:60 - (acc ++ [x]).length = d:=by simp;omega
    refine ⟨by omega,?_,?_⟩
    ·rw [HI.out.list,hd,hd2];conv=>lhs;unfold repL
     rw [hn];simp
    ·rw [HI.out.pos,hd,hd2];conv=>lhs;unfold repL
     rw [hn]
   obtain ⟨w3,hw3⟩:∃ w3,w3 = w2.alloc (.cells #[.int .i64 x.kind,.int .i64 x.a,.int .i64 x.b,.string x.key,.string x.body] 72):=⟨_,rfl⟩
   have l3:Below w2.heap.size w2 w3:=by rw [hw3];exact (Below.refl _ _).alloc (Nat.le_refl _) _
   have b3:w3.heap[w2.heap.size]? = some (.cells #[.int .i64 x.kind,.int .i64 x.a,.int .i64 x.b,.string x.key,.string x.body] 72 (0,0)):=by rw [hw3];exact World.alloc_heap_new w2 _
   have HW3:=hidI hw3;have K3:=hidI (K2.out.trans (l3.mono K2.out.size));have HO3:=hidI (cp2_ HO2.out l3);have HLE:=hidI hle;obtain ⟨BX,hBX⟩:∃ BX,BX = w2.heap.size:=⟨_,rfl⟩
   have HBX:=hidI hBX;rw [← hBX] at b3;obtain ⟨y0,y1,y2,y3,y4⟩:=cells5 b3;unfold ActD.val;dsimp only;have hlb:=lth_ b3;have g0:((n:Int) == 0) = false:=by rw [beq_eq_false_iff_ne];omega
   clear hn hx hw3 l3 hBX b3;go_upto_region 8 with fail
   rw [← HW3.out,← HBX.out];obtain ⟨w4,hw4⟩:∃ w4,w4 = w3.alloc (.cells #[.int .i64 x.kind,.int .i64 x.a,.int .i64 x.b,.string x.key,.string x.body] 72):=⟨_,rfl⟩
   have l4:Below w3.heap.size w3 w4:=by rw [hw4];exact (Below.refl _ _).alloc (Nat.le_refl _) _
   have HRW:Hid (aI_ w4 (some ⟨w3.heap.size,0,none⟩) (aJ_ [x])):=by show aI_ w4 _ _;rw [hw4];exact fg_ (w:=w3) (cs:=[.int .i64 x.kind,.int .i64 x.a,.int .i64 x.b,.string x.key,.string x.body])
   have HW4:=hidI hw4;have K4:=hidI (K3.out.trans (l4.mono K3.out.size));have HO4:=hidI (cp2_ HO3.out l4);clear hw4 l4;have HO4m:Hid (w4.ownsRow w.heap.size 72 5 (.slice a m c) m (aJ_ acc)):=by show w4.ownsRow _ _ _ _ m _;rw [HM.out] at HO4 ⊢;exact HO4.out
   have hwa:IntKind.i64.wrap ((i:Int)+(n:Int)) = ((i+n:Nat):Int):=by rw [IntKind.wrap_i64];have:=HS.out;omega
   go_wp2_with (at_builtin;rw [← HW4.out];refine aU_ lq_ (by kernel_rfl) _ _ rfl w.heap.size _ m (aJ_ acc) rfl HO4m.out (some ⟨w3.heap.size,0,none⟩) 1 1 (aJ_ [x]) rfl rfl (fun h=>by cases h) HRW.out (fk_ _) (by unfold maxLen;omega) (by omega) K4.out.size ?_;intro v5 w5 ho5 hg5 hblk;obtain ⟨a5,c5,rfl,-⟩:=aD_ ho5;have HO5:=hidI ho5;have K5:=hidI (K4.out.grown hg5 K4.out.size (fun j hj=>(HO4m.out.lt j hj).1));clear ho5 hg5 hblk)
   go_roundw
   case rel=>
    refine ⟨acc ++ [x],i+n,by go_num,by rw [List.length_append];exact HNX.out.1,HNX.out.2.1,HNX.out.2.2,HLE.out,K5.out,?_⟩;have:=HO5.out;rw [← dM_,HM.out] at this;rw [List.length_append,List.length_singleton];exact HM.out ▸ this
   case measure=>have:=HLT.out;show 60 - (m+1) < 60 - m;omega
theorem kg_ (p:ae_) (a1 a2 a3:Option Addr) (n1 c1 n2 c2 n3 c3:Nat) (A:List ActD) (aa:Option Addr) (m ca:Nat) (w:World) (hp:an_ w a1 a2 a3 n1 n2 n3 p) (hn4:n2≤4) (hm:A.length = m) (hm60:m≤60) (hrow:aI_ w aa (aJ_ A)) :
 Calls Tryz.prog 59 #[.agg #[.slice a1 n1 c1,.slice a2 n2 c2,.slice a3 n3 c3],.slice aa m ca] w fun e w'=>∃ v,e = .returned v∧(∃ b1 b2 b3 m1 d1 m2 d2 m3 d3 s,s = fZ_ p A (bQ_ n2)∧v = .agg #[.slice b1 m1 d1,.slice b2 m2 d2,.slice b3 m3 d3,.int .i64 s.nextSeq,.int .i64 s.nextTag,.int .i64 s.came,.int .i64 s.acked,.int .i64 s.dropped]∧eB_ w' w.heap.size b1 b2 b3 m1 d1 m2 d2 m3 d3 s)∧Below w.heap.size w w':=by
 obtain ⟨W2,hW2⟩:∃ W2,W2 = (w.alloc (.cells #[.slice a1 n1 c1,.slice a2 n2 c2,.slice a3 n3 c3] 26)).alloc (.cells #[.slice none 0 0,.slice none 0 0,.slice none 0 0,.int .i64 0,.int .i64 0,.int .i64 0,.int .i64 0,.int .i64 0] 31):=⟨_,rfl⟩
 obtain ⟨hz2,hb1,hb2,hBw⟩:=ci_ w _ _ _ hW2;have HW2:=hidI hW2;have PX:Hid (∀ W,Below W2.heap.size W2 W→W.heap[w.heap.size]? = some (.cells #[.slice a1 n1 c1,.slice a2 n2 c2,.slice a3 n3 c3] 26 (0,0))):=fun W h=>pkp_ hb1 h
 have BX:Hid (∀ W,Below W2.heap.size W2 W→W.heap[w.heap.size+1]? = some (.cells #[.slice none 0 0,.slice none 0 0,.slice none 0 0,.int .i64 0,.int .i64 0,.int .i64 0,.int .i64 0,.int .i64 0] 31 (0,0))):=fun W h=>pkp_ hb2 h
 have HP:=hidI (hp.keep hBw);have HROW:=hidI (hrow.keep hBw);have HBW:=hidI hBw;have HZ:=hidI hz2;have HM:=hidI hm;have s0:=hBw.size;obtain ⟨x0,x1,x2⟩:=ag_ hb1;clear hW2 hb1 hb2 hz2 hp hBw hm hrow;go_enter Tryz.func59,Tryz.ntmps59;go_wp2_with fail
 rw [← HW2.out];refine (iS_ p a1 a2 a3 n1 c1 n2 c2 n3 c3 W2 HP.out hn4).mono ?_;rintro e w5 ⟨g,rfl,hln,hgl,k5⟩;have K5:=hidI k5;have HROW5:=hidI (HROW.out.keep k5);obtain ⟨w6,hw6⟩:∃ w6,w6 = w5.alloc (.cells #[.slice (some ⟨g,0,none⟩) n2 n2,.slice none 0 0,.slice none 0 0,.int .i64 0,.int .i64 0,.int .i64 0,.int .i64 0,.int .i64 0] 31):=⟨_,rfl⟩
 have l6:Below w5.heap.size w5 w6:=by rw [hw6];exact (Below.refl _ _).alloc (Nat.le_refl _) _
 have b6:w6.heap[w5.heap.size]? = some (.cells #[.slice (some ⟨g,0,none⟩) n2 n2,.slice none 0 0,.slice none 0 0,.int .i64 0,.int .i64 0,.int .i64 0,.int .i64 0,.int .i64 0] 31 (0,0)):=by rw [hw6];exact World.alloc_heap_new w5 _
 have HW6:=hidI hw6;obtain ⟨B,hB⟩:∃ B,B = w5.heap.size:=⟨_,rfl⟩
 have HBB:=hidI hB;rw [← hB] at b6;have hst:am_ w6 (some ⟨g,0,none⟩) none none n2 0 0 (bQ_ n2):=⟨List.length_replicate,rfl,rfl,by unfold maxLen;omega,by omega,by unfold maxLen;omega,hln.keep l6,.inl rfl,.inl rfl⟩;have HIN:Hid (StIn w6 W2.heap.size B (bQ_ n2)):=⟨_,_,_,_,_,_,_,_,_,b6,.inr ⟨g,hgl,rfl,⟨rfl,rfl,rfl,rfl,rfl,rfl⟩,rfl,hst⟩⟩;have L6:=hidI l6;have hlb:=lth_ b6;have HS5:Hid (W2.heap.size≤w5.heap.size):=K5.out.size;clear hst hw6 l6 b6 hB hln k5 x0 x1 x2 hgl;go_upto_region 2 with fail
 rw [← HW6.out,← HBB.out];go_wp2_with fail
 go_loopw [6,7,8] (fun i _ _ wr=>∃ (k:Nat),k≤m∧i = .int .i64 k∧∃ cur,ol_ p A (bQ_ n2) W2.heap.size w5 wr B k cur) (fun i _ _ _=>m - (intOf i).toNat)
 case atStart=>exact ⟨0,Nat.zero_le _,rfl,_,HIN.out,L6.out,hlb,by simp⟩
 case round=>
  obtain ⟨k,hk,rfl,cur,hinv⟩:=hrel;have HI:=hidI hinv;have hsr:=hinv.size;obtain ⟨b1,b2,b3,m1,d1,m2,d2,m3,d3,hbr,hrs⟩:=hinv.box;have HRS:=hidI hrs;obtain ⟨hsr',hn2',hn3',hc2',hm2'⟩:=hrs.state;have HBR:=hidI hbr;have HSR:=hidI hsr';have HNL:=hidI (And.intro hn2' (And.intro hn3' (And.intro hc2' hm2')));have KR:Hid (Below W2.heap.size W2 wr):=K5.out.trans (hinv.bel.mono K5.out.size);clear hinv hbr hrs hsr' hn2' hn3' hc2' hm2';by_cases hlt:k < m
  ·have HLT:=hidI hlt;have hkl:k < A.length:=by rw [HM.out];exact hlt
   obtain ⟨ga,oa,ha,hga,-,-,-,-,-⟩:=gk_ (HROW5.out.keep HI.out.bel) hkl;have HDR:Hid (A.drop k = A[k] :: A.drop (k+1)):=List.drop_eq_getElem_cons hkl;have HCE:Hid (∀ W',Below wr.heap.size wr W'→W'.cell? ⟨ga,oa+k * 5,none⟩ = some (.int .i64 A[k].kind)∧W'.cell? ⟨ga,oa+k * 5+1,none⟩ = some (.int .i64 A[k].a)∧W'.cell? ⟨ga,oa+k * 5+2,none⟩ = some (.int .i64 A[k].b)∧W'.cell? ⟨ga,oa+k * 5+3,none⟩ = some (.string A[k].key)∧W'.cell? ⟨ga,oa+k * 5+4,none⟩ = some (.string A[k].body)):=fun W' h=>by
    obtain ⟨ga',oa',ha',_,q0,q1,q2,q3,q4⟩:=gk_ ((HROW5.out.keep HI.out.bel).keep h) hkl;rw [ha] at ha';cases ha';exact ⟨q0,q1,q2,q3,q4⟩
   obtain ⟨x,hx⟩:∃ x,x = A[k]:=⟨_,rfl⟩
   rw [← hx] at HCE HDR;clear hx;obtain ⟨kd,ka,kb,ky,bd⟩:=x;subst ha;have i1':(0:Int)≤(k:Int):=by omega
   have i2':(k:Int) < m:=by omega
   obtain ⟨E,hE⟩:∃ E,E = doE p cur ⟨kd,ka,kb,ky,bd⟩:=⟨_,rfl⟩
   have HG:=hidI hE;obtain ⟨n,hn⟩:∃ n,n = wr.heap.size:=⟨_,rfl⟩
   have HNW:Hid (n≤wr.heap.size):=by show n≤_;omega
   have HNE:=hidI hn;have SC:Hid (∀ W',Below wr.heap.size wr W'→(W'.cell? ⟨w.heap.size,0,none⟩ = some (.slice a1 n1 c1)∧W'.cell? ⟨w.heap.size,1,none⟩ = some (.slice a2 n2 c2)∧W'.cell? ⟨w.heap.size,2,none⟩ = some (.slice a3 n3 c3))∧(W'.cell? ⟨B,0,none⟩ = some (.slice b1 m1 d1)∧W'.cell? ⟨B,1,none⟩ = some (.slice b2 m2 d2)∧W'.cell? ⟨B,2,none⟩ = some (.slice b3 m3 d3)∧W'.cell? ⟨B,3,none⟩ = some (.int .i64 cur.nextSeq)∧W'.cell? ⟨B,4,none⟩ = some (.int .i64 cur.nextTag)∧W'.cell? ⟨B,5,none⟩ = some (.int .i64 cur.came)∧W'.cell? ⟨B,6,none⟩ = some (.int .i64 cur.acked)∧W'.cell? ⟨B,7,none⟩ = some (.int .i64 cur.dropped))∧(W'.cell? ⟨ga,oa+k * 5,none⟩ = some (.int .i64 kd)∧W'.cell? ⟨ga,oa+k * 5+1,none⟩ = some (.int .i64 ka)∧W'.cell? ⟨ga,oa+k * 5+2,none⟩ = some (.int .i64 kb)∧W'.cell? ⟨ga,oa+k * 5+3,none⟩ = some (.string ky)∧W'.cell? ⟨ga,oa+k * 5+4,none⟩ = some (.string bd))):=fun W' h=>⟨ag_ (PX.out W' (KR.out.trans (h.mono KR.out.size))),aa_ (pkp_ HBR.out h),HCE.out W' h⟩
   clear hE hn;go_upto_region 5 with fail
   go_cut [7,8] from 11 to 29 (fun s7 s8 wx=>∃ BB u,s7 = .pointer (some ⟨BB,0,none⟩)∧s8 = .int .i64 E∧wx.heap[BB]? = some (.cells u 31 (0,0))∧bl_ wx n (.agg u) E (doS p cur ⟨kd,ka,kb,ky,bd⟩)∧Below wr.heap.size wr wx)
   case first=>
    refine wp_region_held_drew (S:=fun W'=>(W'.cell? ⟨w.heap.size,0,none⟩ = some (.slice a1 n1 c1)∧W'.cell? ⟨w.heap.size,1,none⟩ = some (.slice a2 n2 c2)∧W'.cell? ⟨w.heap.size,2,none⟩ = some (.slice a3 n3 c3))∧(W'.cell? ⟨B,0,none⟩ = some (.slice b1 m1 d1)∧W'.cell? ⟨B,1,none⟩ = some (.slice b2 m2 d2)∧W'.cell? ⟨B,2,none⟩ = some (.slice b3 m3 d3)∧W'.cell? ⟨B,3,none⟩ = some (.int .i64 cur.nextSeq)∧W'.cell? ⟨B,4,none⟩ = some (.int .i64 cur.nextTag)∧W'.cell? ⟨B,5,none⟩ = some (.int .i64 cur.came)∧W'.cell? ⟨B,6,none⟩ = some (.int .i64 cur.acked)∧W'.cell? ⟨B,7,none⟩ = some (.int .i64 cur.dropped))∧(W'.cell? ⟨ga,oa+k * 5,none⟩ = some (.int .i64 kd)∧W'.cell? ⟨ga,oa+k * 5+1,none⟩ = some (.int .i64 ka)∧W'.cell? ⟨ga,oa+k * 5+2,none⟩ = some (.int .i64 kb)∧W'.cell? ⟨ga,oa+k * 5+3,none⟩ = some (.string ky)∧W'.cell? ⟨ga,oa+k * 5+4,none⟩ = some (.string bd))) (by kernel_rfl) (SC.out _ (Below.refl _ _).drew) (fun hHeld=>?_);obtain ⟨wq,hwq⟩:∃ wq,wq = wr.drew:=⟨_,rfl⟩
    have Lwq:Hid (Below wr.heap.size wr wq):=by show Below wr.heap.size wr wq;rw [hwq];exact (Below.refl _ _).drew
    rw [← hwq] at hHeld ⊢;clear hwq;refine tk 0 ?_;refine tk 1 ?_;refine tk 2 ?_;refine tk 3 ?_;refine tk 4 ?_;refine tk 5 ?_;refine wpAnyH_ready (rs:=[6,10]) (by kernel_rfl) (by simp) ?_;refine AllReadyH.cons rfl (fun K hK=>?_) (AllReadyH.cons rfl (fun K hK=>?_) AllReadyH.nil)
    ·go_simp;refine (hm_ p a1 a2 a3 n1 c1 n2 c2 n3 c3 cur b1 b2 b3 m1 d1 m2 d2 m3 d3 ⟨kd,ka,kb,ky,bd⟩ _ ((HP.out.keep KR.out).keep Lwq.out) (HSR.out.keep Lwq.out) HNL.out.1 HNL.out.2.1 HNL.out.2.2.1 HNL.out.2.2.2).mono ?_;rintro e wd ⟨vd,rfl,hresd,kd⟩;rw [← HG.out] at hresd ⊢;obtain ⟨x1,x2,x3,q1,e1,q2,e2,q3,e3,i1,i2,i3,i4,i5,rfl⟩:=hresd.shape;have Lwd:Hid (Below wr.heap.size wr wd):=Lwq.out.trans (kd.mono Lwq.out.size);have HSd:=hidI (hresd.lower (n':=n) (by have:=Lwq.out.size;have:=HNW.out;omega));refine hK.out _ _ (SC.out _ Lwd.out) (fun hHd=>?_);clear hK K hresd kd;try refine nrm ?_
     refine tk 7 ?_;refine tk 8 ?_;refine tk 9 ?_;refine rdy 10 (fun K hK=>?_);go_simp;obtain ⟨wa,hwa⟩:∃ wa,wa = wd.alloc (.cells #[.slice none 0 0,.slice none 0 0,.slice none 0 0,.int .i64 0,.int .i64 0,.int .i64 0,.int .i64 0,.int .i64 0] 31):=⟨_,rfl⟩
     have la:Below wd.heap.size wd wa:=by rw [hwa];exact (Below.refl _ _).alloc (Nat.le_refl _) _
     have Lwa:Hid (Below wr.heap.size wr wa):=Lwd.out.trans (la.mono Lwd.out.size);have ba:wa.heap[wd.heap.size]? = some (.cells #[.slice none 0 0,.slice none 0 0,.slice none 0 0,.int .i64 0,.int .i64 0,.int .i64 0,.int .i64 0,.int .i64 0] 31 (0,0)):=by rw [hwa];exact World.alloc_heap_new wd _
     obtain ⟨BB,hBB⟩:∃ BB,BB = wd.heap.size:=⟨_,rfl⟩
     have hBg:wr.heap.size≤BB:=by rw [hBB];exact Lwd.out.size
     rw [← hwa,← hBB];rw [← hBB] at ba;have HSa:=hidI (HSd.out.keep la);refine hK.out _ _ (SC.out _ Lwa.out) (fun hHa=>?_);clear hK K hwa hBB;try refine nrm ?_
     refine rdy 11 (fun K hK=>?_);obtain ⟨c0,c1',c2',c3',c4,c5,c6,c7⟩:=aa_ ba;have g0:=foc_ ba 0;have g1:=foc_ ba 1;have g2:=foc_ ba 2;have g3:=foc_ ba 3;have g4:=foc_ ba 4;have g5:=foc_ ba 5;have g6:=foc_ ba 6;have g7:=foc_ ba 7;go_simp;generalize hWz:World.setCell (World.setCell (World.setCell (World.setCell (World.setCell (World.setCell (World.setCell (World.setCell wa _ _) _ _) _ _) _ _) _ _) _ _) _ _) _ _ = Wz;obtain ⟨bz,tz⟩:=store8 ba hWz;have lz:Below wr.heap.size wr Wz:=Lwa.out.trans (tz.below Lwa.out.size hBg);have rz:=HSa.out.turn ba tz;have RL:=hidI (And.intro bz (And.intro rz lz));refine hK.out _ _ (SC.out _ lz) (fun hHz=>?_);clear hK K;try refine nrm ?_
     refine tk 12 ?_;refine wpAnyH_done (by kernel_rfl) ?_ _;clear c0 c1' c2' c3' c4 c5 c6 c7 g0 g1 g2 g3 g4 g5 g6 g7 bz rz lz hHz tz hWz;go_wp2_with fail
     go_meet
     case rel=>exact ⟨BB,_,rfl,rfl,RL.out⟩
    ·go_simp;obtain ⟨wa,hwa⟩:∃ wa,wa = wq.alloc (.cells #[.slice none 0 0,.slice none 0 0,.slice none 0 0,.int .i64 0,.int .i64 0,.int .i64 0,.int .i64 0,.int .i64 0] 31):=⟨_,rfl⟩
     have la:Below wq.heap.size wq wa:=by rw [hwa];exact (Below.refl _ _).alloc (Nat.le_refl _) _
     have Lwa:Hid (Below wr.heap.size wr wa):=Lwq.out.trans (la.mono Lwq.out.size);have ba:wa.heap[wq.heap.size]? = some (.cells #[.slice none 0 0,.slice none 0 0,.slice none 0 0,.int .i64 0,.int .i64 0,.int .i64 0,.int .i64 0,.int .i64 0] 31 (0,0)):=by rw [hwa];exact World.alloc_heap_new wq _
     obtain ⟨BB,hBB⟩:∃ BB,BB = wq.heap.size:=⟨_,rfl⟩
     have hBg:wr.heap.size≤BB:=by rw [hBB];exact Lwq.out.size
     rw [← hwa,← hBB];rw [← hBB] at ba;refine hK.out _ _ (SC.out _ Lwa.out) (fun hHa=>?_);clear hK K hwa hBB;try refine nrm ?_
     refine rdy 6 (fun K hK=>?_);go_simp;refine (hm_ p a1 a2 a3 n1 c1 n2 c2 n3 c3 cur b1 b2 b3 m1 d1 m2 d2 m3 d3 ⟨kd,ka,kb,ky,bd⟩ _ ((HP.out.keep KR.out).keep Lwa.out) (HSR.out.keep Lwa.out) HNL.out.1 HNL.out.2.1 HNL.out.2.2.1 HNL.out.2.2.2).mono ?_;rintro e wd ⟨vd,rfl,hresd,kd⟩;rw [← HG.out] at hresd ⊢;obtain ⟨x1,x2,x3,q1,e1,q2,e2,q3,e3,i1,i2,i3,i4,i5,rfl⟩:=hresd.shape;have Lwd:Hid (Below wr.heap.size wr wd):=Lwa.out.trans (kd.mono Lwa.out.size);have HSd:=hidI (hresd.lower (n':=n) (by have:=Lwa.out.size;have:=HNW.out;omega));have bd:=pkp_ ba kd;refine hK.out _ _ (SC.out _ Lwd.out) (fun hHd=>?_);clear hK K hresd kd;try refine nrm ?_
     refine tk 7 ?_;refine tk 8 ?_;refine tk 9 ?_;refine rdy 11 (fun K hK=>?_);obtain ⟨c0,c1',c2',c3',c4,c5,c6,c7⟩:=aa_ bd;have g0:=foc_ bd 0;have g1:=foc_ bd 1;have g2:=foc_ bd 2;have g3:=foc_ bd 3;have g4:=foc_ bd 4;have g5:=foc_ bd 5;have g6:=foc_ bd 6;have g7:=foc_ bd 7;go_simp;generalize hWz:World.setCell (World.setCell (World.setCell (World.setCell (World.setCell (World.setCell (World.setCell (World.setCell wd _ _) _ _) _ _) _ _) _ _) _ _) _ _) _ _ = Wz;obtain ⟨bz,tz⟩:=store8 bd hWz;have lz:Below wr.heap.size wr Wz:=Lwd.out.trans (tz.below Lwd.out.size hBg);have rz:=HSd.out.turn bd tz;have RL:=hidI (And.intro bz (And.intro rz lz));refine hK.out _ _ (SC.out _ lz) (fun hHz=>?_);clear hK K;try refine nrm ?_
     refine tk 12 ?_;refine wpAnyH_done (by kernel_rfl) ?_ _;clear c0 c1' c2' c3' c4 c5 c6 c7 g0 g1 g2 g3 g4 g5 g6 g7 bz rz lz hHz tz hWz;go_wp2_with fail
     go_meet
     case rel=>exact ⟨BB,_,rfl,rfl,RL.out⟩
   case rest=>
    obtain ⟨BB,u,rfl,rfl,hbb,hrs,hBx⟩:=hcut;have HBBX:=hidI hbb;have HRX:=hidI hrs;have KX:=hidI hBx;have hsx:=hBx.size;clear hbb hrs hBx;by_cases hz:E = 0
    rotate_left
    ·have hz':(E == 0) = false:=by simpa using hz
     have HZN:=hidI hz;clear hz;go_wp2_with fail
     go_roundw
     case rel=>
      refine ⟨k+1,HLT.out,by have:=HLT.out;go_num,cur,HI.out.box.keep KX.out,HI.out.bel.trans (KX.out.mono HI.out.bel.size),by omega,?_⟩;rw [HI.out.done,HDR.out];conv=>lhs;unfold fZ_ mA_
      rw [if_neg (by rw [← HG.out];exact HZN.out)]
     case measure=>have:=HLT.out;simp [intOf];omega
    subst hz;obtain ⟨h1,h2,h3,o1,o2,o3,o4,o5,o6,hv,hown⟩:=HRX.out.1 rfl;obtain ⟨NS,hNS⟩:∃ NS,NS = doS p cur ⟨kd,ka,kb,ky,bd⟩:=⟨_,rfl⟩
    rw [← hNS] at hown hv;have HNS:=hidI hNS;cases hv;have HO9:=hidI hown;have bB:=pkp_ HBR.out KX.out;have BBH:=hidI bB;obtain ⟨c0,c1',c2',c3',c4,c5,c6,c7⟩:=aa_ HBBX.out;obtain ⟨y0,y1,y2,y3,y4,y5,y6,y7⟩:=aa_ bB;have f0:=foc_ bB 0;have f1:=foc_ bB 1;have f2:=foc_ bB 2;have f3:=foc_ bB 3;have f4:=foc_ bB 4;have f5:=foc_ bB 5;have f6:=foc_ bB 6;have f7:=foc_ bB 7;clear hNS hown bB;go_wp2_with fail
    generalize hWz:World.setCell (World.setCell (World.setCell (World.setCell (World.setCell (World.setCell (World.setCell (World.setCell wc _ _) _ _) _ _) _ _) _ _) _ _) _ _) _ _ = Wz;obtain ⟨bz,tz⟩:=store8 BBH.out hWz;have oz:=fi_ HO9.out (B:=B) (by rw [HNE.out];exact hsr) tz;go_roundw
    case rel=>
     refine ⟨k+1,HLT.out,by have:=HLT.out;go_num,NS,⟨_,_,_,_,_,_,_,_,_,bz,.inl (oz.lower (by rw [HNE.out];exact KR.out.size))⟩,(HI.out.bel.trans (KX.out.mono HI.out.bel.size)).trans (tz.below (Nat.le_trans HI.out.bel.size KX.out.size) (by rw [HBB.out];exact Nat.le_refl _)),by have:=tz.size;omega,?_⟩;rw [HI.out.done,HDR.out];conv=>lhs;unfold fZ_ mA_
     rw [if_pos HG.out.symm,HNS.out]
    case measure=>have:=HLT.out;simp [intOf];omega
  ·have hke:k = m:=by omega
   subst hke;clear hlt hk;have HCU:Hid (cur = fZ_ p A (bQ_ n2)):=by
    show cur = _;rw [HI.out.done,← HM.out,List.drop_length];rfl
   obtain ⟨y0,y1,y2,y3,y4,y5,y6,y7⟩:=aa_ HBR.out;have r4:=BX.out wr KR.out;obtain ⟨z0,z1,z2,z3,z4,z5,z6,z7⟩:=aa_ r4;have e0:=foc_ r4 0;have e1:=foc_ r4 1;have e2:=foc_ r4 2;have e3:=foc_ r4 3;have e4:=foc_ r4 4;have e5:=foc_ r4 5;have e6:=foc_ r4 6;have e7:=foc_ r4 7;have R4:=hidI r4;clear r4;have hBW1:w.heap.size+1 < B:=by have:=HZ.out;have:=HS5.out;rw [HBB.out];omega
   go_wp2_with fail
   generalize hW9:World.setCell (World.setCell (World.setCell (World.setCell (World.setCell (World.setCell (World.setCell (World.setCell wr _ _) _ _) _ _) _ _) _ _) _ _) _ _) _ _ = W9;obtain ⟨b9,t9⟩:=store8 R4.out hW9;obtain ⟨z0,z1,z2,z3,z4,z5,z6,z7⟩:=aa_ b9;have hrs9:=HRS.out.turn (by have:=HZ.out;omega) t9;exact bodyPost_ret (v:=.agg #[.slice b1 m1 d1,.slice b2 m2 d2,.slice b3 m3 d3,.int .i64 cur.nextSeq,.int .i64 cur.nextTag,.int .i64 cur.came,.int .i64 cur.acked,.int .i64 cur.dropped]) (by simp [results,Tryz.results59,go_sem,z0,z1,z2,z3,z4,z5,z6,z7]) rfl ⟨_,rfl,⟨b1,b2,b3,m1,d1,m2,d2,m3,d3,cur,HCU.out,rfl,hrs9.lower s0⟩,HBW.out.trans ((KR.out.mono s0).trans (t9.below (by have:=KR.out.size;have:=HZ.out;omega) (by omega)))⟩
def resV (E:Int) (s:ab_):ab_:=if E = 0 then s else bQ_ 0
end Go.Proofs.YtpoichgodamnkaaGreat
