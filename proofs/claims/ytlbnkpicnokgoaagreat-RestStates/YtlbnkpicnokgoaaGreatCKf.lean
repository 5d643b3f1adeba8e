import Derived.Test.YtlbnkpicnokgoaaGreatUox
namespace Go.Proofs.YtlbnkpicnokgoaaGreat
open Go.RowKit Go.Maps
set_option linter.unusedVariables false
set_option maxRecDepth 100000
set_option maxHeartbeats 8000000
def oq_ (p:ad_) (s:ab_) (x:ActD):ab_:=if doE p s x = 0 then doS p s x else s
def ki_ (p:ad_):List ActD→ab_→ab_
 | [],s=>s
 | x :: r,s=>ki_ p r (oq_ p s x)
def recE (p:ad_) (t:ByteArray):Int:=if chkP p≠0 then chkP p else repE t
def recS (p:ad_) (t:ByteArray):ab_:=ki_ p (repA t) (fp_ p.queues.length)
def recN (p:ad_) (t:ByteArray):Int:=if recE p t = 0 then ((repA t).length:Int) else 0
theorem g8_ {W W':World} {n B:Nat} {b1 b2 b3:Option Addr} {m1 d1 m2 d2 m3 d3:Nat} {s:ab_} (h:aM_ W n b1 b2 b3 m1 d1 m2 d2 m3 d3 s) (hB:B < n) (k:aZ_ B W W'):aM_ W' n b1 b2 b3 m1 d1 m2 d2 m3 d3 s:=by
 obtain ⟨vs,h1,h2⟩:=h.r1;have KR:∀ {T':TypeId} {size m:Nat} {v:Value} {cs:List Value},W.ownsRow n T' size v m cs→W'.ownsRow n T' size v m cs:=fun h=>ch_ h (fun j hj=>k.block j (h.lt j hj).2 (fun e=>by have:=(h.lt j hj).1;omega))
 exact ⟨h.l1,h.l2,h.l3,h.x2,⟨vs,KR h1,h2.keepT ⟨k.size,fun i cur' hn hi=>k.block i (lth_ hi) (by omega)⟩⟩,KR h.r2,KR h.r3⟩
def eZ_ (W:World) (n:Nat) (b1 b2 b3:Option Addr) (m1 d1 m2 d2 m3 d3:Nat) (s:ab_):Prop:=
 aM_ W n b1 b2 b3 m1 d1 m2 d2 m3 d3 s∨∃ g,n≤g∧b1 = some ⟨g,0,none⟩∧(b2 = none∧b3 = none∧m2 = 0∧m3 = 0∧d2 = 0∧d3 = 0)∧s = fp_ m1∧an_ W b1 b2 b3 m1 m2 m3 s
theorem eZ_.keep {W W':World} {n:Nat} {b1 b2 b3:Option Addr} {m1 d1 m2 d2 m3 d3:Nat} {s:ab_} (h:eZ_ W n b1 b2 b3 m1 d1 m2 d2 m3 d3 s) (hB:Below W.heap.size W W'):eZ_ W' n b1 b2 b3 m1 d1 m2 d2 m3 d3 s:=by
 rcases h with h | ⟨g,h1,h2,h3,h4,h5⟩
 ·exact .inl (h.keep hB)
 ·exact .inr ⟨g,h1,h2,h3,h4,h5.keep hB⟩
theorem eZ_.state {W:World} {n:Nat} {b1 b2 b3:Option Addr} {m1 d1 m2 d2 m3 d3:Nat} {s:ab_} (h:eZ_ W n b1 b2 b3 m1 d1 m2 d2 m3 d3 s):an_ W b1 b2 b3 m1 m2 m3 s∧(b2 = none→d2 = 0)∧(b3 = none→d3 = 0)∧m2≤d2∧d2≤maxLen:=by
 rcases h with h | ⟨g,h1,h2,h3,h4,h5⟩
 ·exact ⟨h.state,h.nils.1,h.nils.2,(eL_ h.r2).1,(eL_ h.r2).2.1⟩
 ·obtain ⟨_,_,q1,_,q2,q3⟩:=h3;exact ⟨h5,fun _=>q2,fun _=>q3,by omega,by rw [q2];exact Nat.zero_le _⟩
theorem eZ_.lower {W:World} {n n':Nat} {b1 b2 b3:Option Addr} {m1 d1 m2 d2 m3 d3:Nat} {s:ab_} (h:eZ_ W n b1 b2 b3 m1 d1 m2 d2 m3 d3 s) (hn:n'≤n):eZ_ W n' b1 b2 b3 m1 d1 m2 d2 m3 d3 s:=by
 rcases h with h | ⟨g,h1,h2⟩
 ·exact .inl (h.lower hn)
 ·exact .inr ⟨g,by omega,h2⟩
theorem eZ_.turn {W W':World} {n B:Nat} {b1 b2 b3:Option Addr} {m1 d1 m2 d2 m3 d3:Nat} {s:ab_} (h:eZ_ W n b1 b2 b3 m1 d1 m2 d2 m3 d3 s) (hB:B < n) (k:aZ_ B W W'):eZ_ W' n b1 b2 b3 m1 d1 m2 d2 m3 d3 s:=by
 rcases h with h | ⟨g,h1,h2,h3,h4,h5⟩
 ·exact .inl (g8_ h hB k)
 ·refine .inr ⟨g,h1,h2,h3,h4,?_⟩;obtain ⟨q1,q2,q3,q4,q5,q6⟩:=h3;subst h4 h2 q1 q2;have hl:b6_ W' (some ⟨g,0,none⟩) (List.replicate m1 []):=kD_ h5.q1 k (fun _=>by omega);exact ⟨h5.l1,h5.l2,h5.l3,h5.x1,h5.x2,h5.x3,hl,.inl rfl,.inl rfl⟩
def StIn (W:World) (n B:Nat) (s:ab_):Prop:=∃ b1 b2 b3 m1 d1 m2 d2 m3 d3,W.heap[B]? = some (.cells #[.slice b1 m1 d1,.slice b2 m2 d2,.slice b3 m3 d3,.int .i64 s.nextSeq,.int .i64 s.nextTag,.int .i64 s.came,.int .i64 s.acked,.int .i64 s.dropped] 31 (0,0))∧eZ_ W n b1 b2 b3 m1 d1 m2 d2 m3 d3 s
theorem StIn.keep {W W':World} {n B:Nat} {s:ab_} (h:StIn W n B s) (hB:Below W.heap.size W W'):StIn W' n B s:=by
 obtain ⟨b1,b2,b3,m1,d1,m2,d2,m3,d3,h1,h2⟩:=h;exact ⟨b1,b2,b3,m1,d1,m2,d2,m3,d3,pkp_ h1 hB,h2.keep hB⟩
def nN_ (W:World) (n:Nat) (v:Value) (E:Int) (s:ab_):Prop:=(E = 0→∃ b1 b2 b3 m1 d1 m2 d2 m3 d3,v = .agg #[.slice b1 m1 d1,.slice b2 m2 d2,.slice b3 m3 d3,.int .i64 s.nextSeq,.int .i64 s.nextTag,.int .i64 s.came,.int .i64 s.acked,.int .i64 s.dropped]∧eZ_ W n b1 b2 b3 m1 d1 m2 d2 m3 d3 s)∧(E≠0→v = zerS)
theorem j3_ (s:ByteArray):∀ (f i:Nat),(repL s f i).1.length≤f
 | 0,i=>Nat.le_refl _
 | f + 1, i => by
   unfold repL;cases rAct s i with
   | none=>exact Nat.zero_le _
   | some q=>obtain ⟨x,j⟩:=q;simp only [List.length_cons];have:=j3_ s f j;omega
structure oL_ (p:ad_) (acts:List ActD) (s0:ab_) (n:Nat) (wA wr:World) (B k:Nat) (cur:ab_):Prop where
 box:StIn wr n B cur
 bel:Below wA.heap.size wA wr
 size:B < wr.heap.size
 done:ki_ p acts s0 = ki_ p (acts.drop k) cur
theorem om_ {W:World} {a:Option Addr} {xs:List ActD} (h:aO_ W a (bC_ xs)) {k:Nat} (hk:k < xs.length):∃ g o,a = some ⟨g,o,none⟩∧g < W.heap.size∧W.cell? ⟨g,o+k * 5,none⟩ = some (.int .i64 xs[k].kind)∧W.cell? ⟨g,o+k * 5+1,none⟩ = some (.int .i64 xs[k].a)∧W.cell? ⟨g,o+k * 5+2,none⟩ = some (.int .i64 xs[k].b)∧W.cell? ⟨g,o+k * 5+3,none⟩ = some (.string xs[k].key)∧W.cell? ⟨g,o+k * 5+4,none⟩ = some (.string xs[k].body):=by
 rcases h with h | ⟨g,o,ha,hg,h⟩
 ·exfalso
  have:=congrArg List.length h;rw [hO_,List.length_nil] at this;omega
 ·have e:∀ j (hj:j < 5),(bC_ xs)[k * 5+j]? = (ActD.cells xs[k])[j]?:=fun j hj=>bJ_ (f:=ActD.cells) (k:=5) (fun _=>rfl) xs k hk j hj
  refine ⟨g,o,ha,hg,?_,?_,?_,?_,?_⟩
  ·have:=h _ _ (e 0 (by omega));rwa [Nat.add_zero] at this
  ·have:=h _ _ (e 1 (by omega));rwa [← Nat.add_assoc] at this
  ·have:=h _ _ (e 2 (by omega));rwa [← Nat.add_assoc] at this
  ·have:=h _ _ (e 3 (by omega));rwa [← Nat.add_assoc] at this
  ·have:=h _ _ (e 4 (by omega));rwa [← Nat.add_assoc] at this
theorem jq_ (p:ad_) (a1 a2 a3:Option Addr) (n1 c1 n2 c2 n3 c3:Nat) (t:ByteArray) (w:World) (hp:ap_ w a1 a2 a3 n1 n2 n3 p) :
 Calls Tryz.prog 24 #[.agg #[.slice a1 n1 c1,.slice a2 n2 c2,.slice a3 n3 c3],.string t] w fun e w'=>∃ v,e = .returned (.tuple #[v,.int .i64 (recN p t),.int .i64 (recE p t)])∧nN_ w' w.heap.size v (recE p t) (recS p t)∧Below w.heap.size w w':=by
 obtain ⟨E,hE⟩:∃ E,E = recE p t:=⟨_,rfl⟩
 obtain ⟨N,hN⟩:∃ N,N = recN p t:=⟨_,rfl⟩
 rw [← hE,← hN];obtain ⟨W2,hW2⟩:∃ W2,W2 = (w.alloc (.cells #[.slice a1 n1 c1,.slice a2 n2 c2,.slice a3 n3 c3] 26)).alloc (.cells #[.slice none 0 0,.slice none 0 0,.slice none 0 0,.int .i64 0,.int .i64 0,.int .i64 0,.int .i64 0,.int .i64 0] 31):=⟨_,rfl⟩
 obtain ⟨hz2,hb1,hb2,hBw⟩:=cz_ w _ _ _ hW2;have HW2:=hidI hW2;have PX:Hid (∀ W,Below W2.heap.size W2 W→W.heap[w.heap.size]? = some (.cells #[.slice a1 n1 c1,.slice a2 n2 c2,.slice a3 n3 c3] 26 (0,0))):=fun W h=>pkp_ hb1 h
 have BX:Hid (∀ W,Below W2.heap.size W2 W→W.heap[w.heap.size+1]? = some (.cells #[.slice none 0 0,.slice none 0 0,.slice none 0 0,.int .i64 0,.int .i64 0,.int .i64 0,.int .i64 0,.int .i64 0] 31 (0,0))):=fun W h=>pkp_ hb2 h
 have HE:=hidI hE;have HN:=hidI hN;have HP:=hidI (hp.keep hBw);have HBW:=hidI hBw;have HZ:=hidI hz2;have HNQ:Hid (p.queues.length = n2):=hp.l2;have s0:=hBw.size;have K0:Hid (Below W2.heap.size W2 W2):=Below.refl _ _;obtain ⟨x0,x1,x2⟩:=ag_ hb1;have HER:Hid (∀ (D:Int) (W W4:World),D≠0→E = D→Below W2.heap.size W2 W→aZ_ (w.heap.size+1) W W4→∃ v,Ending.returned (.tuple #[zerS,.int .i64 0,.int .i64 D]) = .returned (.tuple #[v,.int .i64 N,.int .i64 E])∧nN_ W4 w.heap.size v E (recS p t)∧Below w.heap.size w W4):=fun D W W4 hD hED hB hT=>by
  have hN0:N = 0:=by rw [HN.out];unfold recN;rw [if_neg (by rw [← HE.out,hED];exact hD)]
  refine ⟨zerS,by rw [hN0,hED],⟨fun h=>absurd (hED ▸ h) hD,fun _=>rfl⟩,HBW.out.trans ((hB.mono s0).trans (hT.below (by have:=hB.size;have:=HZ.out;omega) (by omega)))⟩
 clear hW2 hb1 hb2 hz2 hp hBw hE hN;go_enter Tryz.func24,Tryz.ntmps24;go_wp2_with fail
 rw [← HW2.out];refine (bW_ p a1 a2 a3 n1 c1 n2 c2 n3 c3 W2 HP.out.l1 HP.out.l2 HP.out.l3 HP.out.sz HP.out.p1 HP.out.p2 HP.out.p3).mono ?_;rintro e w3 ⟨rfl,k3⟩;have K3:=hidI k3;have s3:=k3.size;obtain ⟨C,hC⟩:∃ C,C = chkP p:=⟨_,rfl⟩
 rw [← hC];have HC:=hidI hC;clear k3 hC x0 x1 x2;by_cases hc:C = 0
 rotate_left
 ·have hc':(C != 0) = true:=bne_iff_ne.2 hc;have HCN:=hidI hc;clear hc;have r4:=BX.out w3 K3.out;obtain ⟨z0,z1,z2,z3,z4,z5,z6,z7⟩:=aa_ r4;have e0:=foc_ r4 0;have e1:=foc_ r4 1;have e2:=foc_ r4 2;have e3:=foc_ r4 3;have e4:=foc_ r4 4;have e5:=foc_ r4 5;have e6:=foc_ r4 6;have e7:=foc_ r4 7;have R4:=hidI r4;clear r4;go_wp2_with fail
  generalize hW4:World.setCell (World.setCell (World.setCell (World.setCell (World.setCell (World.setCell (World.setCell (World.setCell w3 _ _) _ _) _ _) _ _) _ _) _ _) _ _) _ _ = W4;obtain ⟨b4,t4⟩:=store8 R4.out hW4;obtain ⟨z0,z1,z2,z3,z4,z5,z6,z7⟩:=aa_ b4;exact bodyPost_ret (v:=.tuple #[zerS,.int .i64 0,.int .i64 C]) (by simp [results,Tryz.results24,go_sem,z0,z1,z2,z3,z4,z5,z6,z7,zerS]) rfl (HER.out C _ _ HCN.out (by rw [HE.out];unfold recE;rw [if_pos (by rw [← HC.out];exact HCN.out),HC.out]) K3.out t4)
 subst hc;have HE1:Hid (E = repE t):=by show E = _;rw [HE.out];unfold recE;rw [if_neg (by rw [← HC.out];simp)]
 go_wp2_with fail
 refine (g0_ t w3).mono ?_;rintro e w4 ⟨v4,rfl,ho4,k4⟩;obtain ⟨D,hD⟩:∃ D,D = repE t:=⟨_,rfl⟩
 rw [← hD];have HD:=hidI hD;obtain ⟨rn,hrn⟩:∃ rn,rn = repN t:=⟨_,rfl⟩
 rw [← hrn];obtain ⟨A,hA⟩:∃ A,A = repA t:=⟨_,rfl⟩
 rw [← hA] at ho4;have HA:=hidI hA;obtain ⟨aa,ca,hva,hca,hcm,hna,hrow⟩:=aH_ ho4;obtain ⟨m,hm⟩:∃ m,m = A.length:=⟨_,rfl⟩
 rw [← hm] at hva;subst hva;have HM:=hidI hm;have HROW:=hidI hrow;have K4:=hidI (K3.out.trans (k4.mono s3));clear hD hrn hA ho4 hm hrow k4 hca hcm hna;by_cases hd:D = 0
 rotate_left
 ·have hd':(D != 0) = true:=bne_iff_ne.2 hd;have HDN:=hidI hd;clear hd;have r4:=BX.out w4 K4.out;obtain ⟨z0,z1,z2,z3,z4,z5,z6,z7⟩:=aa_ r4;have e0:=foc_ r4 0;have e1:=foc_ r4 1;have e2:=foc_ r4 2;have e3:=foc_ r4 3;have e4:=foc_ r4 4;have e5:=foc_ r4 5;have e6:=foc_ r4 6;have e7:=foc_ r4 7;have R4:=hidI r4;clear r4;go_wp2_with fail
  generalize hW4:World.setCell (World.setCell (World.setCell (World.setCell (World.setCell (World.setCell (World.setCell (World.setCell w4 _ _) _ _) _ _) _ _) _ _) _ _) _ _) _ _ = W4;obtain ⟨b4,t4⟩:=store8 R4.out hW4;obtain ⟨z0,z1,z2,z3,z4,z5,z6,z7⟩:=aa_ b4;exact bodyPost_ret (v:=.tuple #[zerS,.int .i64 0,.int .i64 D]) (by simp [results,Tryz.results24,go_sem,z0,z1,z2,z3,z4,z5,z6,z7,zerS]) rfl (HER.out D _ _ HDN.out (by rw [HE1.out,HD.out]) K4.out t4)
 subst hd;have HEZ:Hid (E = 0):=by show E = 0;rw [HE1.out,← HD.out]
 have hm60:m≤60:=by
  have h1:=HM.out;rw [HA.out] at h1;have h2:repA t = (repL t 60 0).1:=by unfold repA;rw [if_pos HD.out.symm]
  rw [h2] at h1;have h3:=j3_ t 60 0;omega
 obtain ⟨x0,x1,x2⟩:=ag_ (PX.out w4 K4.out);go_wp2_with fail
 refine (lf_ p a1 a2 a3 n1 c1 n2 c2 n3 c3 w4 (HP.out.keep K4.out)).mono ?_;rintro e w5 ⟨hb0,-,k5⟩;obtain ⟨g,hgl,rfl,hst⟩:=hb0 HC.out.symm;have K5:=hidI (K4.out.trans (k5.mono K4.out.size));have HROW5:=hidI (HROW.out.keep k5);obtain ⟨w6,hw6⟩:∃ w6,w6 = w5.alloc (.cells #[.slice (some ⟨g,0,none⟩) n2 n2,.slice none 0 0,.slice none 0 0,.int .i64 0,.int .i64 0,.int .i64 0,.int .i64 0,.int .i64 0] 31):=⟨_,rfl⟩
 have l6:Below w5.heap.size w5 w6:=by rw [hw6];exact (Below.refl _ _).alloc (Nat.le_refl _) _
 have b6:w6.heap[w5.heap.size]? = some (.cells #[.slice (some ⟨g,0,none⟩) n2 n2,.slice none 0 0,.slice none 0 0,.int .i64 0,.int .i64 0,.int .i64 0,.int .i64 0,.int .i64 0] 31 (0,0)):=by rw [hw6];exact World.alloc_heap_new w5 _
 have HW6:=hidI hw6;obtain ⟨B,hB⟩:∃ B,B = w5.heap.size:=⟨_,rfl⟩
 have HBB:=hidI hB;rw [← hB] at b6;have HIN:Hid (StIn w6 W2.heap.size B (fp_ n2)):=⟨_,_,_,_,_,_,_,_,_,b6,.inr ⟨g,by have:=K4.out.size;omega,rfl,⟨rfl,rfl,rfl,rfl,rfl,rfl⟩,rfl,hst.keep l6⟩⟩;have L6:=hidI l6;have hlb:=lth_ b6;have HS5:Hid (W2.heap.size≤w5.heap.size):=K5.out.size;clear hst hw6 l6 b6 hB hb0 k5 x0 x1 x2 hgl;go_upto_region 8 with fail
 rw [← HW6.out,← HBB.out];go_wp2_with fail
 go_loopw [43] (fun i wr=>∃ (k:Nat),k≤m∧i = .int .i64 k∧∃ cur,oL_ p A (fp_ n2) W2.heap.size w5 wr B k cur) (fun i _=>m - (intOf i).toNat)
 case atStart=>exact ⟨0,Nat.zero_le _,rfl,_,HIN.out,L6.out,hlb,by simp⟩
 case round=>
  obtain ⟨k,hk,rfl,cur,hinv⟩:=hrel;have HI:=hidI hinv;have hsr:=hinv.size;obtain ⟨b1,b2,b3,m1,d1,m2,d2,m3,d3,hbr,hrs⟩:=hinv.box;have HRS:=hidI hrs;obtain ⟨hsr',hn2',hn3',hc2',hm2'⟩:=hrs.state;have HBR:=hidI hbr;have HSR:=hidI hsr';have HNL:=hidI (And.intro hn2' (And.intro hn3' (And.intro hc2' hm2')));have KR:Hid (Below W2.heap.size W2 wr):=K5.out.trans (hinv.bel.mono K5.out.size);clear hinv hbr hrs hsr' hn2' hn3' hc2' hm2';by_cases hlt:k < m
  ·have HLT:=hidI hlt;have hkl:k < A.length:=by rw [← HM.out];exact hlt
   obtain ⟨ga,oa,ha,hga,q0,q1,q2,q3,q4⟩:=om_ (HROW5.out.keep HI.out.bel) hkl;have HDR:Hid (A.drop k = A[k] :: A.drop (k+1)):=List.drop_eq_getElem_cons hkl;obtain ⟨x,hx⟩:∃ x,x = A[k]:=⟨_,rfl⟩
   rw [← hx] at q0 q1 q2 q3 q4 HDR;clear hx;obtain ⟨kd,ka,kb,ky,bd⟩:=x;dsimp only at q0 q1 q2 q3 q4;subst ha;have i1:(0:Int)≤(k:Int):=by omega
   have i2:(k:Int) < m:=by omega
   obtain ⟨w7,hw7⟩:∃ w7,w7 = wr.alloc (.cells #[.int .i64 kd,.int .i64 ka,.int .i64 kb,.string ky,.string bd] 53):=⟨_,rfl⟩
   have l7:Below wr.heap.size wr w7:=by rw [hw7];exact (Below.refl _ _).alloc (Nat.le_refl _) _
   have b7:w7.heap[wr.heap.size]? = some (.cells #[.int .i64 kd,.int .i64 ka,.int .i64 kb,.string ky,.string bd] 53 (0,0)):=by rw [hw7];exact World.alloc_heap_new wr _
   have HW7:=hidI hw7;have L7:=hidI l7;have K7:=hidI (KR.out.trans (l7.mono KR.out.size));obtain ⟨BA,hBA⟩:∃ BA,BA = wr.heap.size:=⟨_,rfl⟩
   have HBA:=hidI hBA;rw [← hBA] at b7;obtain ⟨v0,v1,v2,v3,v4⟩:=cells5 b7;obtain ⟨y0,y1,y2,y3,y4,y5,y6,y7⟩:=aa_ (pkp_ HBR.out l7);obtain ⟨x0,x1,x2⟩:=ag_ (PX.out w7 K7.out);clear hw7 l7 b7 hBA;go_upto_region 13 with fail
   rw [← HW7.out,← HBA.out];clear q0 q1 q2 q3 q4;go_wp2_with fail
   refine (jG_ p a1 a2 a3 n1 c1 n2 c2 n3 c3 cur b1 b2 b3 m1 d1 m2 d2 m3 d3 ⟨kd,ka,kb,ky,bd⟩ w7 (HP.out.keep K7.out) (HSR.out.keep L7.out) HNL.out.1 HNL.out.2.1).mono ?_;rintro e w8 ⟨v8,rfl,hres,k8⟩;obtain ⟨G,hG⟩:∃ G,G = doE p cur ⟨kd,ka,kb,ky,bd⟩:=⟨_,rfl⟩
   rw [← hG] at hres ⊢;have HG:=hidI hG;obtain ⟨z1,z2,z3,t1,e1,t2,e2,t3,e3,j1,j2,j3,j4,j5,rfl⟩:=hres.shape;have HRES:=hidI hres;have L8:=hidI k8;clear hres hG k8 v0 v1 v2 v3 v4 y0 y1 y2 y3 y4 y5 y6 y7 x0 x1 x2;by_cases hg:G = 0
   rotate_left
   ·have hg':(G == 0) = false:=by simpa using hg
    have HGN:=hidI hg;clear hg;go_wp2_with fail
    go_roundw
    case rel=>
     have kk:=L7.out.trans (L8.out.mono L7.out.size);have kz:=kk.alloc kk.size (.cells #[.slice z1 t1 e1,.slice z2 t2 e2,.slice z3 t3 e3,.int .i64 j1,.int .i64 j2,.int .i64 j3,.int .i64 j4,.int .i64 j5] 31);refine ⟨k+1,HLT.out,by have:=HLT.out;go_num,cur,HI.out.box.keep kz,HI.out.bel.trans (kz.mono HI.out.bel.size),by have:=kz.size;omega,?_⟩;rw [HI.out.done,HDR.out];conv=>lhs;unfold ki_ oq_
     rw [if_neg (by rw [← HG.out];exact HGN.out)]
    case measure=>have:=HLT.out;simp [intOf];omega
   subst hg;obtain ⟨h1,h2,h3,o1,o2,o3,o4,o5,o6,hv,hown⟩:=HRES.out.1 rfl;obtain ⟨NS,hNS⟩:∃ NS,NS = doS p cur ⟨kd,ka,kb,ky,bd⟩:=⟨_,rfl⟩
   rw [← hNS] at hown hv;have HNS:=hidI hNS;cases hv;obtain ⟨w9,hw9⟩:∃ w9,w9 = w8.alloc (.cells #[.slice z1 t1 e1,.slice z2 t2 e2,.slice z3 t3 e3,.int .i64 NS.nextSeq,.int .i64 NS.nextTag,.int .i64 NS.came,.int .i64 NS.acked,.int .i64 NS.dropped] 31):=⟨_,rfl⟩
   have l9:Below w8.heap.size w8 w9:=by rw [hw9];exact (Below.refl _ _).alloc (Nat.le_refl _) _
   have b9:w9.heap[w8.heap.size]? = some (.cells #[.slice z1 t1 e1,.slice z2 t2 e2,.slice z3 t3 e3,.int .i64 NS.nextSeq,.int .i64 NS.nextTag,.int .i64 NS.came,.int .i64 NS.acked,.int .i64 NS.dropped] 31 (0,0)):=by rw [hw9];exact World.alloc_heap_new w8 _
   have HW9:=hidI hw9;have kk:Below wr.heap.size wr w9:=(L7.out.trans (L8.out.mono L7.out.size)).trans (l9.mono (Nat.le_trans L7.out.size L8.out.size));have KK:=hidI kk;have HO9:=hidI (hown.keep l9);have bB:=pkp_ HBR.out kk;have BBH:=hidI bB;obtain ⟨B9,hB9⟩:∃ B9,B9 = w8.heap.size:=⟨_,rfl⟩
   have HB9:=hidI hB9;rw [← hB9] at b9;obtain ⟨c0,c1',c2',c3',c4,c5,c6,c7⟩:=aa_ b9;obtain ⟨y0,y1,y2,y3,y4,y5,y6,y7⟩:=aa_ bB;have f0:=foc_ bB 0;have f1:=foc_ bB 1;have f2:=foc_ bB 2;have f3:=foc_ bB 3;have f4:=foc_ bB 4;have f5:=foc_ bB 5;have f6:=foc_ bB 6;have f7:=foc_ bB 7;clear hNS hown hw9 l9 b9 kk bB hB9;go_upto_region 15 with fail
   rw [← HW9.out,← HB9.out];go_wp2_with fail
   generalize hWz:World.setCell (World.setCell (World.setCell (World.setCell (World.setCell (World.setCell (World.setCell (World.setCell w9 _ _) _ _) _ _) _ _) _ _) _ _) _ _) _ _ = Wz;obtain ⟨bz,tz⟩:=store8 BBH.out hWz;have oz:=g8_ HO9.out (B:=B) (by have:=L7.out.size;omega) tz;go_roundw
   case rel=>
    refine ⟨k+1,HLT.out,by have:=HLT.out;go_num,NS,⟨_,_,_,_,_,_,_,_,_,bz,.inl (oz.lower (by have:=KR.out.size;have:=L7.out.size;omega))⟩,(HI.out.bel.trans (KK.out.mono HI.out.bel.size)).trans (tz.below (Nat.le_trans HI.out.bel.size KK.out.size) (by rw [HBB.out];exact Nat.le_refl _)),by have:=tz.size;have:=KK.out.size;omega,?_⟩;rw [HI.out.done,HDR.out];conv=>lhs;unfold ki_ oq_
    rw [if_pos HG.out.symm,HNS.out]
   case measure=>have:=HLT.out;simp [intOf];omega
  ·have hke:k = m:=by omega
   subst hke;clear hlt hk;have HCU:Hid (recS p t = cur):=by
    show recS p t = cur;unfold recS;rw [← HA.out,HNQ.out,HI.out.done,HM.out,List.drop_length];rfl
   have HNN:Hid (N = (k:Int)):=by show N = _;rw [HN.out];unfold recN;rw [if_pos (by rw [← HE.out];exact HEZ.out),← HA.out,HM.out]
   obtain ⟨y0,y1,y2,y3,y4,y5,y6,y7⟩:=aa_ HBR.out;have r4:=BX.out wr KR.out;obtain ⟨z0,z1,z2,z3,z4,z5,z6,z7⟩:=aa_ r4;have e0:=foc_ r4 0;have e1:=foc_ r4 1;have e2:=foc_ r4 2;have e3:=foc_ r4 3;have e4:=foc_ r4 4;have e5:=foc_ r4 5;have e6:=foc_ r4 6;have e7:=foc_ r4 7;have R4:=hidI r4;clear r4;have hBW1:w.heap.size+1 < B:=by have:=HZ.out;have:=HS5.out;rw [HBB.out];omega
   go_wp2_with fail
   generalize hW9:World.setCell (World.setCell (World.setCell (World.setCell (World.setCell (World.setCell (World.setCell (World.setCell wr _ _) _ _) _ _) _ _) _ _) _ _) _ _) _ _ = W9;obtain ⟨b9,t9⟩:=store8 R4.out hW9;obtain ⟨z0,z1,z2,z3,z4,z5,z6,z7⟩:=aa_ b9;have hrs9:=HRS.out.turn (by have:=HZ.out;omega) t9;exact bodyPost_ret (v:=.tuple #[.agg #[.slice b1 m1 d1,.slice b2 m2 d2,.slice b3 m3 d3,.int .i64 cur.nextSeq,.int .i64 cur.nextTag,.int .i64 cur.came,.int .i64 cur.acked,.int .i64 cur.dropped],.int .i64 k,.int .i64 0]) (by simp [results,Tryz.results24,go_sem,z0,z1,z2,z3,z4,z5,z6,z7]) rfl ⟨_,by rw [HNN.out,HEZ.out],⟨fun _=>by rw [HCU.out];exact ⟨_,_,_,_,_,_,_,_,_,rfl,hrs9.lower s0⟩,fun h=>absurd HEZ.out h⟩,HBW.out.trans ((KR.out.mono s0).trans (t9.below (by have:=KR.out.size;have:=HZ.out;omega) (by omega)))⟩
end Go.Proofs.YtlbnkpicnokgoaaGreat
