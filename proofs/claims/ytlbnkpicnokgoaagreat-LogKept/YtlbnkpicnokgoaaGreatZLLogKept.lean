/- The walk of the law LogKept. -/
import Derived.OpenShut
import Derived.Test.YtlbnkpicnokgoaaGreatOux
import Derived.Test.YtlbnkpicnokgoaaGreatOxx
namespace Go.Proofs.YtlbnkpicnokgoaaGreat
open Go.RowKit Go.Maps
set_option linter.unusedVariables false
set_option maxRecDepth 100000
set_option maxHeartbeats 8000000
theorem Tryz.infoIntK:(Tryz.prog.info? 3).map (fun i=>(i.zero,i.size,i.bytes)) = some (some (.int .i64 0),1,8):=by kernel_rfl
theorem m6_:eG_ 32 3 1 8:=c5_ Tryz.underlying32 Tryz.infoIntK rfl (by omega)
def endC (l:List ActD) (k:Nat):List Value:=(List.range k).map (fun j=>.int .i64 ((encN l (j+1)).size:Nat))
theorem lx_ (l:List ActD) (k:Nat):endC l (k+1) = endC l k ++ [.int .i64 ((encN l (k+1)).size:Nat)]:=by unfold endC;rw [List.range_succ,List.map_append];rfl
theorem jS_ (l:List ActD) (k:Nat):(endC l k).length = k:=by unfold endC;simp
theorem mp_ {x:ActD} (h:putE (actT x) = 0):(putV (actT x)).size≤600:=by
 have h2:=gi_ h;obtain ⟨_,_,_,o4,o5⟩:=li_ h;have h4:(putV (actT x)).data.toList.length = (putV (actT x)).size:=bm_ _;rw [h2,iR_] at h4;have e1:=bm_ x.key;have e2:=bm_ x.body;simp [eF_] at h4 e1 e2;omega
theorem jR_ {l:List ActD}:∀ {k:Nat},k≤l.length→(∀ (j:Nat) (h:j < l.length),j < k→putE (actT (l[j]'h)) = 0)→(encN l k).size≤600 * k
 | 0,_,_=>Nat.le_refl _
 | k + 1, hk, h => by
   have ih:=jR_ (l:=l) (k:=k) (by omega) (fun j hj hjk=>h j hj (by omega));have h1:=mp_ (h k (by omega) (by omega));rw [dU_ (by omega),fI_];omega
theorem eo_.turnOld {W0 W W':World} {n B:Nat} {b1 b2 b3:Option Addr} {m1 d1 m2 d2 m3 d3:Nat} {s:ab_} {cur:Array Value} (h:eo_ W0 n b1 b2 b3 m1 d1 m2 d2 m3 d3 s) (hB:Below W0.heap.size W0 W) (ht:W.heap[B]? = some (.cells cur 31 (0,0))) (hb:W0.heap.size≤B) (k:aX_ B W W'):an_ W' b1 b2 b3 m1 m2 m3 s:=by
 rcases h with h | ⟨g,h1,h2,h3,h4,h5⟩
 ·exact ((h.keep hB).turn ht (by decide) k).state
 ·obtain ⟨q1,q2,q3,q4,q5,q6⟩:=h3;subst h4 h2 q1 q2;have hl:bW_ W' (some ⟨g,0,none⟩) (List.replicate m1 []):=fg_ (h5.q1.keep hB) k (fun hm=>by
   rcases h5.q1 with h | ⟨g',o,e,hg,_⟩
   ·exact absurd ((List.replicate_eq_nil_iff _).1 h) hm
   ·cases e;omega)
  exact ⟨h5.l1,h5.l2,h5.l3,h5.x1,h5.x2,h5.x3,hl,.inl rfl,.inl rfl⟩
theorem mz_ {W:World} {a:Option Addr} {l:List ActD} {n:Nat} (h:aJ_ W a (aH_ l)):aJ_ W a (aH_ (l.take n)):=by
 rcases h with h | ⟨g,o,h1,h2,h3⟩
 ·refine .inl ?_;have:l = []:=by
   cases l with
   | nil=>rfl
   | cons x r=>exact absurd h (by simp [aH_,ActD.cells])
  rw [this];simp [aH_]
 ·refine .inr ⟨g,o,h1,h2,fun j u hu=>h3 j u ?_⟩;have e:aH_ l = aH_ (l.take n) ++ aH_ (l.drop n):=by rw [← dQ_,List.take_append_drop]
  rw [e,List.getElem?_append_left (List.getElem?_eq_some_iff.1 hu).1];exact hu
theorem km_ {p:ad_} {n:Nat} (h:chkP p = 0) (hn:p.queues.length = n):stE p (co_ n) = 0:=by
 have hr:=a1_ h;have hs:ar_ (co_ n) = []:=by
  unfold ar_ co_;simp
 have hl:∀ q,af_ (co_ n) q = []:=fun q=>by
  unfold af_ co_;rw [List.getD_eq_getElem?_getD,List.getElem?_replicate];split <;> rfl
 refine aj_.ok ⟨h,Nat.zero_le _,by show (List.replicate n []).length = _;rw [List.length_replicate,hn],fun l hl=>by rw [List.eq_of_mem_replicate hl];rfl,fun t ht=>absurd ht (by simp [co_]),rfl,⟨Int.le_refl _,by show (0:Int)≤1048576;decide⟩,⟨Int.le_refl _,by show (0:Int)≤1048576;decide⟩,Int.le_refl _,Int.le_refl _,by rw [hs];exact List.nodup_nil,fun z hz=>absurd hz (by rw [hs];simp),fun q hq=>?_,fun k hk=>absurd hk (Nat.not_lt_zero _),by rw [hs];rfl,rfl⟩;rw [hl];have hq':q < p.queues.length:=by have:q < (List.replicate n ([]:List ae_)).length:=hq;rw [List.length_replicate] at this;omega
 have hm:qAt p q ∈ p.queues:=by unfold qAt;rw [List.getD_eq_getElem?_getD,List.getElem?_eq_getElem hq'];exact List.getElem_mem hq'
 have:=(hr.queues _ hm).1;show ((0:Nat):Int)≤_;omega
theorem f2_ {p:ad_}:∀ (l:List ActD) (s:ab_),aj_ p s 0→aj_ p (fE_ p l s) 0
 | [],s,h=>h
 | x :: r, s, h => by
   refine f2_ r (jz_ p s x) ?_;unfold jz_;split
   ·rename_i hz;exact (n6_ hz).right
   ·exact h
theorem iN_ (p:ad_) (a1 a2 a3:Option Addr) (n1 c1 n2 c2 n3 c3:Nat) (l:List ActD) (al:Option Addr) (m cl:Nat) (cut:Int) (w:World) (hp:ao_ w a1 a2 a3 n1 n2 n3 p) (hl:aJ_ w al (aH_ l)) (hll:l.length = m) (hmc:m≤cl) (hcm:cl≤maxLen) (hbn:al = none→cl = 0∧m = 0) (hcv:(Lit.int .i64 cut).wf = true) :
 Calls Tryz.prog 6 #[.agg #[.slice a1 n1 c1,.slice a2 n2 c2,.slice a3 n3 c3],.slice al m cl,.int .i64 cut] w fun e w'=>e = .returned (.bool true)∧Below w.heap.size w w':=by
 obtain ⟨W1,hW1⟩:∃ W1,W1 = w.alloc (.cells #[.slice a1 n1 c1,.slice a2 n2 c2,.slice a3 n3 c3] 26):=⟨_,rfl⟩
 have l1:Below w.heap.size w W1:=by rw [hW1];exact (Below.refl _ _).alloc (Nat.le_refl _) _
 have b1':W1.heap[w.heap.size]? = some (.cells #[.slice a1 n1 c1,.slice a2 n2 c2,.slice a3 n3 c3] 26 (0,0)):=by rw [hW1];exact World.alloc_heap_new w _
 have HW1:=hidI hW1;have HBW:=hidI l1;have PX:Hid (∀ W,Below W1.heap.size W1 W→W.heap[w.heap.size]? = some (.cells #[.slice a1 n1 c1,.slice a2 n2 c2,.slice a3 n3 c3] 26 (0,0))):=fun W h=>pkp_ b1' h
 have HP:=hidI (hp.keep l1);have HLR:=hidI (hl.keep l1);have HLL:=hidI hll;have HMC:Hid (m≤cl∧cl≤maxLen∧(al = none→cl = 0∧m = 0)):=⟨hmc,hcm,hbn⟩;have hcv':-9223372036854775808≤cut∧cut≤9223372036854775807:=bounds_i64 hcv;have HQ:=hidI hcv';have s0:=l1.size;obtain ⟨C,hC⟩:∃ C,C = chkP p:=⟨_,rfl⟩
 have HC:=hidI hC;have KK:Hid (Below W1.heap.size W1 W1):=Below.refl _ _;obtain ⟨x0,x1,x2⟩:=ag_ b1';clear hW1 l1 b1' hp hl hll hmc hcm hbn hcv hcv' hC;go_enter Tryz.func6,Tryz.ntmps6;by_cases hbig:24 < m
 ·have r1:decide ((24:Int) < (m:Int)) = true:=by rw [decide_eq_true_eq];omega
  have r1':decide (24 < m) = true:=by rw [decide_eq_true_eq];omega
  have r1'':(24:Int) < (m:Int):=by omega
  clear hbig;go_wp2_with fail
  rw [← HW1.out];refine (cE_ _).mono ?_;rintro e w7 ⟨rfl,k7⟩;go_wp2_with fail
  go_ret
  exact ⟨rfl,HBW.out.trans (k7.mono s0)⟩
 have r1:¬ (24:Int) < (m:Int):=by omega
 have hm24:m≤24:=by omega
 have HM24:=hidI hm24;clear hbig;go_wp2_with fail
 rw [← HW1.out];refine (dn_ p a1 a2 a3 n1 c1 n2 c2 n3 c3 W1 HP.out.l1 HP.out.l2 HP.out.l3 HP.out.sz HP.out.p1 HP.out.p2 HP.out.p3).mono ?_;rintro e w2 ⟨rfl,l2⟩;rw [← HC.out];clear KK;have KK:=hidI l2;clear l2 x0 x1 x2 r1;by_cases hc:C = 0
 rotate_left
 ·have hc':(C != 0) = true:=bne_iff_ne.2 hc;clear hc;go_wp2_with fail
  refine (cE_ _).mono ?_;rintro e w7 ⟨rfl,k7⟩;go_wp2_with fail
  go_ret
  exact ⟨rfl,HBW.out.trans ((KK.out.trans (k7.mono KK.out.size)).mono s0)⟩
 subst hc;have g0:((0:Int) != 0) = false:=rfl;have hlt2:W1.heap.size≤w2.heap.size:=KK.out.size;have HR2:=hidI (HLR.out.keep KK.out);go_wp2_with fail
 clear g0;go_loopw [7,8,9,10,11] (fun sv ev i _ _ wr=>∃ k:Nat,k≤m∧i = .int .i64 k∧sv = .string (encN l k)∧(∀ (j:Nat) (h:j < l.length),j < k→putE (actT (l[j]'h)) = 0)∧wr.ownsRow w2.heap.size 3 1 ev k (endC l k)∧Below w2.heap.size w2 wr) (fun _ _ i _ _ _=>m - (intOf i).toNat)
 case atStart=>exact ⟨0,Nat.zero_le _,rfl,rfl,fun j _ hj=>absurd hj (Nat.not_lt_zero _),World.ownsRow_nil _ _ _ _,Below.refl _ _⟩
 case round=>
  obtain ⟨k,hk,rfl,rfl,hok,hown,hbr⟩:=hrel;have HOK:=hidI hok;have HOWN:=hidI hown;have HBR:=hidI hbr;have hsz:=jR_ (l:=l) (k:=k) (by rw [HLL.out];exact hk) hok;obtain ⟨av,cv,hv,-,-,-,-⟩:=aD_ hown;subst hv;clear hok hown hbr;by_cases hlt:k < m
  ·have HLT:=hidI hlt;have hkl:k < l.length:=by rw [HLL.out];exact hlt
   obtain ⟨ga,oa,ha,hga,q0,q1,q2,q3,q4⟩:=hL_ (HR2.out.keep HBR.out) hkl;subst ha;obtain ⟨x,hx⟩:∃ x,x = l[k]:=⟨_,rfl⟩
   have HEN:Hid (encN l (k+1) = encN l k ++ putV (actT x)):=by show _ = _;rw [dU_ hkl,hx]
   have HXK:=hidI hx;rw [← hx] at q0 q1 q2 q3 q4;clear hx;obtain ⟨kd,ka,kb,ky,bd⟩:=x;dsimp only at q0 q1 q2 q3 q4;have j1:(0:Int)≤(k:Int):=by omega
   have j2:(k:Int) < (m:Int):=by omega
   obtain ⟨F,hF⟩:∃ F,F = putE (actT ⟨kd,ka,kb,ky,bd⟩):=⟨_,rfl⟩
   obtain ⟨b,hb⟩:∃ b,b = putV (actT ⟨kd,ka,kb,ky,bd⟩):=⟨_,rfl⟩
   have HF:=hidI hF;have Hb:=hidI hb;rw [← hb] at HEN;clear hF hb;obtain ⟨S,hS⟩:∃ S,S = encN l k:=⟨_,rfl⟩
   have HSE:=hidI hS;rw [← hS] at hsz HEN ⊢;clear hS;go_wp2_with fail
   refine (ee_ ⟨kd,ka,kb,ky,bd⟩ _).mono ?_;rintro e w3 ⟨rfl,l3⟩;rw [← HF.out,← Hb.out];have HB3:=hidI (HBR.out.trans (l3.mono HBR.out.size));have HO3:=hidI (cp2_ HOWN.out l3);clear l3 q0 q1 q2 q3 q4;by_cases hf:F = 0
   rotate_left
   ·have hf':(F != 0) = true:=bne_iff_ne.2 hf;clear hf;go_wp2_with fail
    refine (cE_ _).mono ?_;rintro e w7 ⟨rfl,k7⟩;go_wp2_with fail
    go_ret
    have kk:=HB3.out.trans (k7.mono HB3.out.size);exact ⟨rfl,HBW.out.trans ((KK.out.trans (kk.mono KK.out.size)).mono s0)⟩
   subst hf;have hbz:b.size≤600:=by rw [Hb.out];exact mp_ HF.out.symm
   have hSz:S.size+b.size≤100000:=by have:=HM24.out;omega
   have g0:((0:Int) != 0) = false:=rfl;go_upto_region 12 with fail
   obtain ⟨SB,hSB⟩:∃ SB,SB = S ++ b:=⟨_,rfl⟩
   rw [← hSB] at HEN ⊢;clear g0 hSB;obtain ⟨w4,hw4⟩:∃ w4,w4 = w3.alloc (.cells #[.int .i64 (SB.size:Nat)] 3):=⟨_,rfl⟩
   have l4:Below w3.heap.size w3 w4:=by rw [hw4];exact (Below.refl _ _).alloc (Nat.le_refl _) _
   have HRW:Hid (aJ_ w4 (some ⟨w3.heap.size,0,none⟩) [.int .i64 (SB.size:Nat)]):=by show aJ_ w4 _ _;rw [hw4];exact fo_ (w:=w3) (cs:=[.int .i64 (SB.size:Nat)])
   have HW4:=hidI hw4;have HO4:=hidI (cp2_ HO3.out l4);have HB4:=hidI (HB3.out.trans (l4.mono HB3.out.size));clear hw4 l4;have hm24:=HM24.out;go_wp2_with (at_builtin;rw [← HW4.out];refine aV_ m6_ (by kernel_rfl) _ _ rfl w2.heap.size _ k (endC l k) rfl HO4.out (some ⟨w3.heap.size,0,none⟩) 1 1 [.int .i64 (SB.size:Nat)] rfl rfl (fun h=>by cases h) HRW.out (fun u hu=>by cases List.mem_singleton.1 hu;rfl) (by unfold maxLen;omega) (by omega) HB4.out.size ?_;intro v5 w5 ho5 hg5 hblk;obtain ⟨a5,c5,rfl,-⟩:=aD_ ho5;have HO5:=hidI ho5;have K5:=hidI (HB4.out.grown hg5 HB4.out.size (fun j hj=>(HO4.out.lt j hj).1));clear ho5 hg5 hblk)
   go_roundw
   case rel=>
    refine ⟨k+1,HLT.out,by have:=HLT.out;go_num,by rw [HEN.out],fun j h hj=>?_,?_,K5.out⟩
    ·by_cases e:j = k
     ·subst e;rw [← HXK.out];exact HF.out.symm
     ·exact HOK.out j h (by omega)
    ·rw [lx_,HEN.out];exact HO5.out
   case measure=>have:=HLT.out;simp [intOf];omega
  ·have hke:k = m:=by omega
   subst hke;clear hlt hk;obtain ⟨S,hS⟩:∃ S,S = encN l k:=⟨_,rfl⟩
   have HSE:=hidI hS;rw [← hS] at hsz ⊢;clear hS;by_cases hbg:4096 < S.size
   ·have r1:decide ((4096:Int) < (S.size:Int)) = true:=by rw [decide_eq_true_eq];omega
    have r1':(4096:Int) < (S.size:Int):=by omega
    clear hbg;go_wp2_with fail
    refine (cE_ _).mono ?_;rintro e w7 ⟨rfl,k7⟩;go_wp2_with fail
    go_ret
    have kk:=HBR.out.trans (k7.mono HBR.out.size);exact ⟨rfl,HBW.out.trans ((KK.out.trans (kk.mono KK.out.size)).mono s0)⟩
   have r1:¬ (4096:Int) < (S.size:Int):=by omega
   have r2:IntKind.i64.wrap ((S.size:Int)+1) = ((S.size+1:Nat):Int):=by rw [IntKind.wrap_i64];omega
   go_wp2_with fail
   rw [show (S.size:Int)+1 = ((S.size+1:Nat):Int) from rfl];refine (kq_ cut (S.size+1) _ HQ.out.1 HQ.out.2 (by omega) (by omega)).mono ?_;rintro e w3 ⟨c,hcc,rfl,h3⟩;rw [h3];clear h3 r1 r2;have HCS:Hid (c≤S.size):=by show c≤S.size;omega
   obtain ⟨_,_,hv,-,-,-,hrw⟩:=aD_ HOWN.out;cases hv;have HRE:=hidI hrw;clear hrw;go_wp2_with fail
   go_loopw [13] (fun i wr2=>∃ n:Nat,n≤k∧i = .int .i64 n∧(∀ j,j < n→(encN l (j+1)).size≤c)∧wr2 = wr) (fun i _=>k - (intOf i).toNat)
   case atStart=>exact ⟨0,Nat.zero_le _,rfl,fun j hj=>absurd hj (Nat.not_lt_zero _),rfl⟩
   case round=>
    obtain ⟨n,hn,rfl,hle,rfl⟩:=hrel;have HLE:=hidI hle;clear hle;by_cases hgo:n < k∧(encN l (n+1)).size≤c
    ·obtain ⟨hnk,hec⟩:=hgo;have HNK:=hidI hnk;have HEC:=hidI hec;have hlen:=jS_ l k;rcases HRE.out with h0 | ⟨ge,oe,rfl,hge,hcell⟩
     ·rw [h0] at hlen;simp at hlen;omega
     have e1:=hcell n _ (by unfold endC;rw [List.getElem?_map,List.getElem?_range hnk];rfl);dsimp only at e1;obtain ⟨Z,hZ⟩:∃ Z,Z = (encN l (n+1)).size:=⟨_,rfl⟩
     rw [← hZ] at e1 hec;have r2:decide ((Z:Int)≤(c:Int)) = true:=by rw [decide_eq_true_eq];omega
     have r2':(Z:Int)≤(c:Int):=by omega
     have r3:(n:Int) < (k:Int):=by omega
     have r0:(0:Int)≤(n:Int):=by omega
     clear hlen hcell hZ;go_wp2_with fail
     go_roundw
     case rel=>exact ⟨n+1,HNK.out,by have:=HNK.out;go_num,fun j hj=>by
      by_cases e:j = n
      ·subst e;exact HEC.out
      ·exact HLE.out j (by omega),by first | trivial | rfl⟩
     case measure=>have:=HNK.out;simp [intOf];omega
    ·have HST:Hid (n < l.length→c < (encN l (n+1)).size):=fun h=>by
      have h2:=HLL.out;have h3:¬ (encN l (n+1)).size≤c:=fun h4=>hgo ⟨by omega,h4⟩
      omega
     go_upto_region 17 with fail
     go_cut [71] from 60 to 73 (fun s71 wx=>s71 = .bool false∧wx = wr)
     case first=>
      by_cases hnk:n < k
      ·have hec:¬ (encN l (n+1)).size≤c:=fun h=>hgo ⟨hnk,h⟩
       have hlen:=jS_ l k;rcases HRE.out with h0 | ⟨ge,oe,rfl,hge,hcell⟩
       ·rw [h0] at hlen;simp at hlen;omega
       have e1:=hcell n _ (by unfold endC;rw [List.getElem?_map,List.getElem?_range hnk];rfl);dsimp only at e1;obtain ⟨Z,hZ⟩:∃ Z,Z = (encN l (n+1)).size:=⟨_,rfl⟩
       rw [← hZ] at e1 hec;have r2:decide ((Z:Int)≤(c:Int)) = false:=by rw [decide_eq_false_iff_not];omega
       have r3:(n:Int) < (k:Int):=by omega
       have r3':decide ((n:Int) < (k:Int)) = true:=by rw [decide_eq_true_eq];omega
       have r0:(0:Int)≤(n:Int):=by omega
       clear hlen hcell hZ hgo;go_wp2_with fail
       go_meet
       case rel=>exact ⟨rfl,rfl⟩
      ·have r3:¬ (n:Int) < (k:Int):=by omega
       have r3':decide ((n:Int) < (k:Int)) = false:=by rw [decide_eq_false_iff_not];omega
       clear hgo;go_wp2_with fail
       go_meet
       case rel=>exact ⟨rfl,rfl⟩
     case rest=>
      obtain ⟨rfl,rfl⟩:=hcut;clear hgo;go_upto_region 19 with fail
      have KC:=hidI (KK.out.trans (HBR.out.mono KK.out.size));have hkS:c≤(encN l l.length).size:=by rw [HLL.out,← HSE.out];exact HCS.out
      have hrep:=lt_ (l:=l) (fun j h=>HOK.out j h (by have:=HLL.out;omega)) hkS (by have:=HLL.out;omega) HLE.out HST.out n 0 60 (by omega) (by have:=HM24.out;omega);rw [HLL.out,← HSE.out] at hrep;have hps:(S.extract 0 c).size = c:=fS_ HCS.out;have hrE:repE (S.extract 0 c) = 0:=by unfold repE;rw [if_neg (by rw [hps];have:=HCS.out;omega)]
      have HRE0:Hid (recE p (S.extract 0 c) = 0):=by show recE _ _ = 0;unfold recE;rw [if_neg (by rw [← HC.out];simp)];exact hrE
      have hrA:repA (S.extract 0 c) = l.take n:=by
       unfold repA;rw [if_pos hrE];have:(repL (S.extract 0 c) 60 (encN l 0).size).1 = _:=congrArg Prod.fst hrep;rw [show (encN l 0).size = 0 from rfl] at this;rw [this];simp
      have HRA:=hidI hrA;have HRN0:Hid (recN p (S.extract 0 c) = (n:Int)):=by
       show recN _ _ = _;unfold recN;rw [if_pos HRE0.out,hrA,List.length_take];have:=HLL.out;omega
      obtain ⟨R,hR⟩:∃ R,R = recS p (S.extract 0 c):=⟨_,rfl⟩
      have HR:=hidI hR;have SC:Hid (∀ W',Below wc.heap.size wc W'→(W'.cell? ⟨w.heap.size,0,none⟩ = some (.slice a1 n1 c1)∧W'.cell? ⟨w.heap.size,1,none⟩ = some (.slice a2 n2 c2)∧W'.cell? ⟨w.heap.size,2,none⟩ = some (.slice a3 n3 c3))∧Below wc.heap.size wc W'):=fun W' h=>⟨ag_ (PX.out W' (KC.out.trans (h.mono KC.out.size))),h⟩
      have r5:(c:Int)≤(S.size:Int):=by have:=HCS.out;omega
      have r5':c≤S.size:=HCS.out;have r6:(0:Int)≤(c:Int):=by omega
      clear hkS hrep hps hrE hrA hR;go_cut [14,15,16] (fun s14 s15 s16 wx=>∃ BB b1 b2 b3 k1 d1 k2 d2 k3 d3,s14 = .pointer (some ⟨BB,0,none⟩)∧s15 = .int .i64 n∧s16 = .int .i64 0∧wx.heap[BB]? = some (.cells #[.slice b1 k1 d1,.slice b2 k2 d2,.slice b3 k3 d3,.int .i64 R.nextSeq,.int .i64 R.nextTag,.int .i64 R.came,.int .i64 R.acked,.int .i64 R.dropped] 31 (0,0))∧an_ wx b1 b2 b3 k1 k2 k3 R∧Below wc.heap.size wc wx)
      case first=>
       refine wp_region_held_drew (S:=fun W'=>(W'.cell? ⟨w.heap.size,0,none⟩ = some (.slice a1 n1 c1)∧W'.cell? ⟨w.heap.size,1,none⟩ = some (.slice a2 n2 c2)∧W'.cell? ⟨w.heap.size,2,none⟩ = some (.slice a3 n3 c3))∧Below wc.heap.size wc W') (by kernel_rfl) (SC.out _ (Below.refl _ _).drew) (fun hHeld=>?_);obtain ⟨wq,hwq⟩:∃ wq,wq = wc.drew:=⟨_,rfl⟩
       rw [← hwq] at hHeld ⊢;clear hwq;refine tk 0 ?_;refine tk 1 ?_;refine tk 2 ?_;refine tk 3 ?_;refine wpAnyH_ready (rs:=[4,9]) (by kernel_rfl) (by simp) ?_;refine AllReadyH.cons rfl (fun K hK=>?_) (AllReadyH.cons rfl (fun K hK=>?_) AllReadyH.nil)
       ·go_simp;refine (eE_ p a1 a2 a3 n1 c1 n2 c2 n3 c3 (S.extract 0 c) _ ((HP.out.keep KC.out).keep hHeld.2)).mono ?_;rintro e wd ⟨vd,rfl,hres,kd⟩;rw [← HR.out] at hres;rw [HRE0.out,HRN0.out];obtain ⟨b1,b2,b3,k1,d1,k2,d2,k3,d3,rfl,hrs⟩:=hres.1 HRE0.out;have ld:Below wc.heap.size wc wd:=hHeld.2.trans (kd.mono hHeld.2.size);refine hK.out _ _ (SC.out _ ld) (fun hHd=>?_);clear hK K hres;try refine nrm ?_
        refine tk 5 ?_;refine tk 6 ?_;refine tk 7 ?_;refine tk 8 ?_;refine rdy 9 (fun K hK=>?_);go_simp;obtain ⟨wa,hwa⟩:∃ wa,wa = wd.alloc (.cells #[.slice none 0 0,.slice none 0 0,.slice none 0 0,.int .i64 0,.int .i64 0,.int .i64 0,.int .i64 0,.int .i64 0] 31):=⟨_,rfl⟩
        have la:Below wd.heap.size wd wa:=by rw [hwa];exact (Below.refl _ _).alloc (Nat.le_refl _) _
        have ba:wa.heap[wd.heap.size]? = some (.cells #[.slice none 0 0,.slice none 0 0,.slice none 0 0,.int .i64 0,.int .i64 0,.int .i64 0,.int .i64 0,.int .i64 0] 31 (0,0)):=by rw [hwa];exact World.alloc_heap_new wd _
        have lwa:Below wc.heap.size wc wa:=ld.trans (la.mono ld.size);obtain ⟨BB,hBB⟩:∃ BB,BB = wd.heap.size:=⟨_,rfl⟩
        have hBg:wc.heap.size≤BB:=by rw [hBB];exact ld.size
        rw [← hwa,← hBB];rw [← hBB] at ba;have hge:wd.heap.size≤BB:=by rw [hBB];exact Nat.le_refl _
        refine hK.out _ _ (SC.out _ lwa) (fun hHa=>?_);clear hK K hwa hBB;try refine nrm ?_
        refine rdy 10 (fun K hK=>?_);obtain ⟨c0,c1',c2',c3',c4,c5,c6,c7⟩:=aa_ ba;have g0:=foc_ ba 0;have g1:=foc_ ba 1;have g2:=foc_ ba 2;have g3:=foc_ ba 3;have g4:=foc_ ba 4;have g5:=foc_ ba 5;have g6:=foc_ ba 6;have g7:=foc_ ba 7;go_simp;generalize hWz:World.setCell (World.setCell (World.setCell (World.setCell (World.setCell (World.setCell (World.setCell (World.setCell wa _ _) _ _) _ _) _ _) _ _) _ _) _ _) _ _ = Wz;obtain ⟨bz,tz⟩:=store8 ba hWz;have lz:Below wc.heap.size wc Wz:=lwa.trans (tz.below lwa.size hBg);have rz:=hrs.turnOld la ba hge tz;have RL:=hidI (And.intro bz (And.intro rz lz));refine hK.out _ _ (SC.out _ lz) (fun hHz=>?_);clear hK K;try refine nrm ?_
        refine tk 11 ?_;refine tk 12 ?_;refine wpAnyH_done (by kernel_rfl) ?_ _;clear c0 c1' c2' c3' c4 c5 c6 c7 g0 g1 g2 g3 g4 g5 g6 g7 bz rz lz hHz tz hWz;go_wp2_with fail
        go_meet
        case rel=>exact ⟨BB,_,_,_,_,_,_,_,_,_,rfl,rfl,rfl,RL.out⟩
       ·go_simp;obtain ⟨wa,hwa⟩:∃ wa,wa = wq.alloc (.cells #[.slice none 0 0,.slice none 0 0,.slice none 0 0,.int .i64 0,.int .i64 0,.int .i64 0,.int .i64 0,.int .i64 0] 31):=⟨_,rfl⟩
        have la:Below wq.heap.size wq wa:=by rw [hwa];exact (Below.refl _ _).alloc (Nat.le_refl _) _
        have ba:wa.heap[wq.heap.size]? = some (.cells #[.slice none 0 0,.slice none 0 0,.slice none 0 0,.int .i64 0,.int .i64 0,.int .i64 0,.int .i64 0,.int .i64 0] 31 (0,0)):=by rw [hwa];exact World.alloc_heap_new wq _
        have lwa:Below wc.heap.size wc wa:=hHeld.2.trans (la.mono hHeld.2.size);obtain ⟨BB,hBB⟩:∃ BB,BB = wq.heap.size:=⟨_,rfl⟩
        have hBg:wc.heap.size≤BB:=by rw [hBB];exact hHeld.2.size
        rw [← hwa,← hBB];rw [← hBB] at ba;refine hK.out _ _ (SC.out _ lwa) (fun hHa=>?_);clear hK K hwa hBB;try refine nrm ?_
        refine rdy 4 (fun K hK=>?_);go_simp;refine (eE_ p a1 a2 a3 n1 c1 n2 c2 n3 c3 (S.extract 0 c) _ ((HP.out.keep KC.out).keep hHa.2)).mono ?_;rintro e wd ⟨vd,rfl,hres,kd⟩;rw [← HR.out] at hres;rw [HRE0.out,HRN0.out];obtain ⟨b1,b2,b3,k1,d1,k2,d2,k3,d3,rfl,hrs⟩:=hres.1 HRE0.out;have ld:Below wc.heap.size wc wd:=hHa.2.trans (kd.mono hHa.2.size);have bd:=pkp_ ba kd;refine hK.out _ _ (SC.out _ ld) (fun hHd=>?_);clear hK K hres;try refine nrm ?_
        refine tk 5 ?_;refine tk 6 ?_;refine tk 7 ?_;refine tk 8 ?_;refine rdy 10 (fun K hK=>?_);obtain ⟨c0,c1',c2',c3',c4,c5,c6,c7⟩:=aa_ bd;have g0:=foc_ bd 0;have g1:=foc_ bd 1;have g2:=foc_ bd 2;have g3:=foc_ bd 3;have g4:=foc_ bd 4;have g5:=foc_ bd 5;have g6:=foc_ bd 6;have g7:=foc_ bd 7;go_simp;generalize hWz:World.setCell (World.setCell (World.setCell (World.setCell (World.setCell (World.setCell (World.setCell (World.setCell wd _ _) _ _) _ _) _ _) _ _) _ _) _ _) _ _ = Wz;obtain ⟨bz,tz⟩:=store8 bd hWz;have lz:Below wc.heap.size wc Wz:=ld.trans (tz.below ld.size hBg);have rz:=(hrs.turn (lth_ ba) tz).state.1;have RL:=hidI (And.intro bz (And.intro rz lz));refine hK.out _ _ (SC.out _ lz) (fun hHz=>?_);clear hK K;try refine nrm ?_
        refine tk 11 ?_;refine tk 12 ?_;refine wpAnyH_done (by kernel_rfl) ?_ _;clear c0 c1' c2' c3' c4 c5 c6 c7 g0 g1 g2 g3 g4 g5 g6 g7 bz rz lz hHz tz hWz;go_wp2_with fail
        go_meet
        case rel=>exact ⟨BB,_,_,_,_,_,_,_,_,_,rfl,rfl,rfl,RL.out⟩
      case rest=>
       obtain ⟨BB,b1,b2,b3,k1,d1,k2,d2,k3,d3,rfl,rfl,rfl,hbz,hsz',lz⟩:=hcut;obtain ⟨w4,hw4⟩:∃ w4,w4 = wc:=⟨_,rfl⟩
       rw [← hw4] at hbz hsz' lz ⊢;have K4:=hidI (KC.out.trans (lz.mono KC.out.size));have L4:=hidI (HBR.out.trans (lz.mono HBR.out.size));have BZ:=hidI hbz;have SZ:=hidI hsz';have SD:Hid (∀ W',Below w4.heap.size w4 W'→(W'.cell? ⟨w.heap.size,0,none⟩ = some (.slice a1 n1 c1)∧W'.cell? ⟨w.heap.size,1,none⟩ = some (.slice a2 n2 c2)∧W'.cell? ⟨w.heap.size,2,none⟩ = some (.slice a3 n3 c3))∧(W'.cell? ⟨BB,0,none⟩ = some (.slice b1 k1 d1)∧W'.cell? ⟨BB,1,none⟩ = some (.slice b2 k2 d2)∧W'.cell? ⟨BB,2,none⟩ = some (.slice b3 k3 d3)∧W'.cell? ⟨BB,3,none⟩ = some (.int .i64 R.nextSeq)∧W'.cell? ⟨BB,4,none⟩ = some (.int .i64 R.nextTag)∧W'.cell? ⟨BB,5,none⟩ = some (.int .i64 R.came)∧W'.cell? ⟨BB,6,none⟩ = some (.int .i64 R.acked)∧W'.cell? ⟨BB,7,none⟩ = some (.int .i64 R.dropped))∧Below w4.heap.size w4 W'):=fun W' h=>⟨ag_ (PX.out W' (K4.out.trans (h.mono K4.out.size))),aa_ (pkp_ BZ.out h),h⟩
       have hn4:n2≤4:=by have h1:=(a1_ HC.out.symm).few.2.1;have h2:=HP.out.l2;omega
       have hRd:R = fE_ p (l.take n) (co_ n2):=by rw [HR.out];unfold recS;rw [HRA.out,HP.out.l2]
       have HRD:=hidI hRd;have HRR:Hid (stE p R = 0):=by
        show stE p R = 0;rw [HRD.out];exact (f2_ _ _ (aM_ (km_ (by rw [← HC.out]) HP.out.l2))).ok
       have HTL:Hid ((l.take n).length = n):=by show _ = n;rw [List.length_take];have:=HLL.out;omega
       have HLT2:Hid (∀ W',Below w4.heap.size w4 W'→aJ_ W' al (aH_ (l.take n))):=fun W' h=>mz_ ((HR2.out.keep L4.out).keep h)
       have t1:((0:Int) == 0) = true:=rfl;have t2:((n:Int) == (n:Int)) = true:=by simp
       have t3:(n:Int)≤(cl:Int):=by have:=HMC.out.1;omega
       have t4:(0:Int)≤(n:Int):=by omega
       clear hw4 hbz hsz' lz hRd SC;go_upto_region 20 with fail
       refine wp_region_held_drew (S:=fun W'=>(W'.cell? ⟨w.heap.size,0,none⟩ = some (.slice a1 n1 c1)∧W'.cell? ⟨w.heap.size,1,none⟩ = some (.slice a2 n2 c2)∧W'.cell? ⟨w.heap.size,2,none⟩ = some (.slice a3 n3 c3))∧(W'.cell? ⟨BB,0,none⟩ = some (.slice b1 k1 d1)∧W'.cell? ⟨BB,1,none⟩ = some (.slice b2 k2 d2)∧W'.cell? ⟨BB,2,none⟩ = some (.slice b3 k3 d3)∧W'.cell? ⟨BB,3,none⟩ = some (.int .i64 R.nextSeq)∧W'.cell? ⟨BB,4,none⟩ = some (.int .i64 R.nextTag)∧W'.cell? ⟨BB,5,none⟩ = some (.int .i64 R.came)∧W'.cell? ⟨BB,6,none⟩ = some (.int .i64 R.acked)∧W'.cell? ⟨BB,7,none⟩ = some (.int .i64 R.dropped))∧Below w4.heap.size w4 W') (by kernel_rfl) (SD.out _ (Below.refl _ _).drew) (fun hHeld=>?_);refine rdy 0 (fun K hK=>?_);go_simp;refine (cE_ _).mono ?_;rintro e w5 ⟨rfl,l5⟩;refine hK.out _ _ (SD.out _ (hHeld.2.2.trans (l5.mono hHeld.2.2.size))) (fun hHeld=>?_)
       clear hK K l5;try refine nrm ?_
       refine tk 1 ?_;refine tk 2 ?_;refine tk 3 ?_;refine tk 4 ?_;refine tk 5 ?_;refine tk 6 ?_;refine tk 7 ?_;refine tk 8 ?_;refine tk 9 ?_;refine tk 10 ?_;refine tk 11 ?_;refine tk 12 ?_;refine rdy 13 (fun K hK=>?_);go_simp;refine (el_ p a1 a2 a3 n1 c1 n2 c2 n3 c3 R b1 b2 b3 k1 d1 k2 d2 k3 d3 _ ((HP.out.keep K4.out).keep hHeld.2.2) (SZ.out.keep hHeld.2.2)).mono ?_;rintro e w6 ⟨rfl,l6⟩;rw [show stE p R = 0 from HRR.out];refine hK.out _ _ (SD.out _ (hHeld.2.2.trans (l6.mono hHeld.2.2.size))) (fun hHeld=>?_);clear hK K l6;try refine nrm ?_
       refine tk 14 ?_;refine tk 15 ?_;refine tk 16 ?_;refine tk 17 ?_;refine tk 18 ?_;refine tk 19 ?_;refine tk 20 ?_;refine tk 21 ?_;refine rdy 22 (fun K hK=>?_);go_simp;refine (kt_ p a1 a2 a3 n1 c1 n2 c2 n3 c3 (l.take n) al n cl _ ((HP.out.keep K4.out).keep hHeld.2.2) hn4 HTL.out (by omega) (HLT2.out _ hHeld.2.2)).mono ?_;rintro e w7 ⟨v7,rfl,⟨i1,i2,i3,o1,o2,o3,o4,o5,o6,Q,hQ,rfl,hrq⟩,l7⟩;have l7':=hHeld.2.2.trans (l7.mono hHeld.2.2.size);have hQR:Q = R:=by rw [hQ,HRD.out]
       subst hQR;have HSQ:=hidI hrq.state.1;refine hK.out _ _ (SD.out _ l7') (fun hHeld=>?_);clear hK K l7 hrq hQ;try refine nrm ?_
       refine rdy 23 (fun K hK=>?_);go_simp;have Y1:=SZ.out.keep hHeld.2.2;obtain rfl:o1 = k1:=by have h1:=Y1.l1;have h2:=HSQ.out.l1;omega
       obtain rfl:o3 = k2:=by have h1:=Y1.l2;have h2:=HSQ.out.l2;omega
       obtain rfl:o5 = k3:=by have h1:=Y1.l3;have h2:=HSQ.out.l3;omega
       refine (jx_ Q b1 b2 b3 i1 i2 i3 o1 d1 o3 d2 o5 d3 o2 o4 o6 _ Y1 HSQ.out).mono ?_;rintro e w8 ⟨rfl,l8⟩;have l8':=l7'.trans (l8.mono l7'.size);refine hK.out _ _ (SD.out _ l8') (fun hHeld=>?_);clear hK K;try refine nrm ?_
       refine tk 24 ?_;refine tk 25 ?_;refine wpAnyH_done (by kernel_rfl) ?_ _;go_wp2_with fail
       go_ret
       exact ⟨rfl,HBW.out.trans ((K4.out.trans (l8'.mono K4.out.size)).mono s0)⟩
end Go.Proofs.YtlbnkpicnokgoaaGreat
