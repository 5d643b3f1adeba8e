import Derived.Maps.OwnIn
import Derived.Test.YtlbnkpicnokgoaaGreatOdx
import Derived.Deep.RegionHeld3
import Derived.Test.YtlbnkpicnokgoaaGreatOcx
import Derived.Deep.RegionWith
import Derived.BigQuiet
namespace Go.Proofs.YtlbnkpicnokgoaaGreat
open Go.RowKit Go.Maps
set_option linter.unusedVariables false
set_option maxRecDepth 100000
set_option maxHeartbeats 1000000
theorem keyed3:Keyed Tryz.prog 3:=int_keyed Tryz.underlying3
theorem oT_ (w:World):(zeroValue 128).run Tryz.prog w = .ok (.agg #[]) w:=by kernel_rfl
def setI (zs:List Int) (k:Nat):DataW Unit:=setOf (.agg []) ((zs.take k).map (fun z=>Lit.int .i64 z))
theorem mD_ (zs:List Int):setI zs 0 = .map []:=by simp [setI,setOf]
theorem mC_ (zs:List Int) {k:Nat} (h:k < zs.length):setI zs (k+1) = (setI zs k).put (.int .i64 zs[k]) (.agg []):=by
 unfold setI;rw [List.take_succ_eq_append_getElem h,List.map_append,List.map_cons,List.map_nil,setOf_snoc]
theorem ne_ (zs:List Int) (k:Nat) (z:Int):Maps.has (setI zs k) (.int .i64 z) = decide (z ∈ zs.take k):=by
 unfold setI;rw [has_setOf _ _ _ (by intro y hy;obtain ⟨_,_,rfl⟩:=List.mem_map.1 hy;trivial),Bool.eq_iff_iff,List.any_eq_true,decide_eq_true_eq];constructor
 ·rintro ⟨y,hy,h⟩;obtain ⟨x,hx,rfl⟩:=List.mem_map.1 hy;simp [Lit.sameKey] at h;rw [← h];exact hx
 ·intro h;exact ⟨_,List.mem_map.2 ⟨z,h,rfl⟩,by simp [Lit.sameKey]⟩
theorem oN_ {z:Int} (h:0≤z∧z < 1048576):(Lit.int .i64 z).wf = true:=by simp [Lit.wf,IntKind.min,IntKind.max,IntKind.bits,IntKind.signed];omega
def eq_ (zs:List Int) (n:Int) (k:Nat):Prop:=(zs.take k).Nodup∧∀ z ∈ zs.take k,z < n
theorem eq_.succ {zs:List Int} {n:Int} {k:Nat} (h:eq_ zs n k) (hk:k < zs.length) (h1:zs[k] ∉ zs.take k) (h2:zs[k] < n):eq_ zs n (k+1):=by
 unfold eq_;rw [List.take_succ_eq_append_getElem hk];refine ⟨List.nodup_append.2 ⟨h.1,by simp,fun a ha b hb e=>?_⟩,fun z hz=>?_⟩
 ·simp at hb;subst hb;subst e;exact h1 ha
 ·rcases List.mem_append.1 hz with hz | hz
  ·exact h.2 z hz
  ·simp at hz;subst hz;exact h2
theorem g9_ {s:ab_} (h:eq_ (ar_ s) s.nextSeq (ar_ s).length):ck_ s = true:=by
 unfold eq_ at h;rw [List.take_length] at h;unfold ck_;rw [decide_eq_true h.1,Bool.true_and,List.all_eq_true];exact fun z hz=>decide_eq_true (h.2 z hz)
theorem iI_ {s:ab_} {k:Nat} (hk:k < (ar_ s).length) (h:(ar_ s)[k] ∈ (ar_ s).take k∨s.nextSeq≤(ar_ s)[k]):ck_ s = false:=by
 unfold ck_;rcases h with h | h
 ·have:¬ (ar_ s).Nodup:=fun hn=>by
   rw [← List.take_append_drop k (ar_ s),List.nodup_append] at hn;refine hn.2.2 _ h _ ?_ rfl;rw [List.drop_eq_getElem_cons hk];exact List.mem_cons_self
  rw [decide_eq_false this];rfl
 ·rw [Bool.and_eq_false_iff];refine .inr (List.all_eq_false.2 ⟨_,List.getElem_mem hk,?_⟩);simp;exact h
theorem iV_ (s:ab_) (b1 b2 b3:Option Addr) (m1 d1 m2 d2 m3 d3:Nat) (w:World) (hs:an_ w b1 b2 b3 m1 m2 m3 s) (hb:(ar_ s).length≤100000000) (hq:∀ z ∈ ar_ s,0≤z∧z < 1048576) :
 Calls Tryz.prog 53 #[.agg #[.slice b1 m1 d1,.slice b2 m2 d2,.slice b3 m3 d3,.int .i64 s.nextSeq,.int .i64 s.nextTag,.int .i64 s.came,.int .i64 s.acked,.int .i64 s.dropped]] w fun e w'=>e = askE (if ck_ s = true then 0 else 1)∧Below w.heap.size w w':=by
 obtain ⟨D,hD⟩:∃ D:Int,D = if ck_ s = true then 0 else 1:=⟨_,rfl⟩
 rw [← hD];have HD:=hidI hD;clear hD;have hmm:=@run_makeMap Tryz.prog;obtain ⟨W1,hW1,hBw,hs1,hbx⟩:=dz_ w #[.slice b1 m1 d1,.slice b2 m2 d2,.slice b3 m3 d3,.int .i64 s.nextSeq,.int .i64 s.nextTag,.int .i64 s.came,.int .i64 s.acked,.int .i64 s.dropped];have HW1:=hidI hW1;have s0:=hBw.size;obtain ⟨W2,hW2⟩:∃ W2,W2 = W1.alloc (.map #[] 0):=⟨_,rfl⟩
 have hB2:Below W1.heap.size W1 W2:=by rw [hW2];exact (Below.refl _ _).alloc (Nat.le_refl _) _
 have HW2:=hidI hW2;have HS:=hidI ((hs.keep hBw).keep hB2);have HQ:=hidI hq;have HBD:=hidI hb;have BX:=hidI hbx;have HS1:Hid (w.heap.size+1 = W1.heap.size):=hs1.symm;obtain ⟨y0,y1,y2,y3,y4,y5,y6,y7⟩:=aa_ (hbx W2 hB2);have k02:=hBw.trans (hB2.mono s0);have s02:=k02.size;have hown0:W2.ownsMap Tryz.prog 3 unitElem W1.heap.size 0 (.map []:DataW Unit):=by rw [hW2];exact World.ownsMap_made _ _ _ _
 have HO0:=hidI hown0;clear hW1 hbx hs1 hs hb hq hW2 hown0;go_enter Tryz.func53,Tryz.ntmps53;go_wp2_with fail
 rw [← HW1.out,← HW2.out,HS1.out];refine (ke_ s _ _ _ _ _ _ _ _ _ _ HS.out HBD.out).mono ?_;rintro e w3 ⟨a,c,rfl,hI,hge,hB3⟩;obtain ⟨Z,hZ⟩:∃ Z,Z = ar_ s:=⟨_,rfl⟩
 have HZ:=hidI hZ;rw [← hZ] at hI HBD HQ ⊢;obtain ⟨n,hn⟩:∃ n,n = Z.length:=⟨_,rfl⟩
 rw [← hn] at HBD ⊢;have HN:=hidI hn;have hn8:=HBD.out;have HI:=hidI hI;have hwm:W1.heap.size < W2.heap.size:=by rw [HW2.out];simp
 have hmap:w3.ownsMap Tryz.prog 3 unitElem W1.heap.size 0 (.map []:DataW Unit):=by
  obtain ⟨es,cl,h1,h2⟩:=HO0.out;exact ⟨es,cl,(hB3.block _ hwm).trans h1,h2⟩
 have k3:Below W1.heap.size W1 w3:=hB2.trans (hB3.mono hB2.size);have HM3:=hidI hmap;have HGN:Hid (∀ g,a = some ⟨g,0,none⟩→¬ some g = some W1.heap.size):=fun g e h=>by have:=hge g e;cases h;omega
 have hs3:=hB3.size;clear hI hZ hn hmap hB3 hge y0 y1 y2 y3 y4 y5 y6 y7;go_wp2_with fail
 go_loopw [4,5,6,11] (fun _ _ _ i wr=>∃ k:Nat,k≤n∧i = .int .i64 k∧wr.ownsMap Tryz.prog 3 unitElem W1.heap.size k (setI Z k)∧eq_ Z s.nextSeq k∧Below W1.heap.size W1 wr∧fq_ wr a Z∧w3.heap.size≤wr.heap.size) (fun _ _ _ i _=>n - (intOf i).toNat)
 case atStart=>exact ⟨0,Nat.zero_le _,rfl,by rw [mD_];exact HM3.out,⟨by simp,by simp⟩,k3,HI.out,Nat.le_refl _⟩
 case round=>
  obtain ⟨k,hk,rfl,hown,hst,hB,hnums,hws⟩:=hrel;have HST:=hidI hst;have hBs:=hB.size;have HNU:=hidI hnums;clear hst hnums;by_cases hlt:k < n
  ·have HLT:=hidI hlt;have hkl:k < Z.length:=by rw [← HN.out];exact hlt
   rcases HNU.out with h | ⟨g,hag,hg,hx⟩
   ·rw [h] at hkl;simp at hkl
   subst hag;have c1:=hx k hkl;have HSU:=hidI (mC_ Z hkl);have HSN:=hidI (fun h1 h2=>HST.out.succ hkl h1 h2);have HNO:=hidI (fun (h:Z[k] ∈ Z.take k∨s.nextSeq≤Z[k])=>iI_ (s:=s) (k:=k) (by rw [← HZ.out];exact hkl) (by simp only [← HZ.out];exact h));have hzr:=HQ.out _ (List.getElem_mem hkl);obtain ⟨z,hz⟩:∃ z,z = Z[k]:=⟨_,rfl⟩
   rw [← hz] at c1 HSU HSN HNO hzr;have hkey:keyOf Tryz.prog 3 (.int .i64 z) = some (.int .i64 z):=keyOf_int_mk Tryz.underlying3 (oN_ hzr);have HHAS:=hidI (ne_ Z k z);obtain ⟨Dk,hDk⟩:∃ Dk,Dk = setI Z k:=⟨_,rfl⟩
   rw [← hDk] at hown HSU HHAS;obtain ⟨y0,y1,y2,y3,y4,y5,y6,y7⟩:=aa_ (BX.out wr hB);have j1:(0:Int)≤(k:Int):=by omega
   have j2:(k:Int) < n:=by omega
   have sk:w.heap.size < wr.heap.size:=by have:=HS1.out;omega
   have hmb:W1.heap.size < wr.heap.size:=by omega
   obtain ⟨there,hth⟩:∃ there,there = decide (z ∈ Z.take k):=⟨_,rfl⟩
   have hh:Maps.has Dk (.int .i64 z) = there:=by rw [HHAS.out,hth]
   have HTH:=hidI hth;clear hx hz hDk hth;go_wp2_with (at_lookup;refine wpList_lookup_own_unit _ rfl _ _ 127 rfl 3 128 keyed3 Tryz.underlying127 (oT_ _) W1.heap.size k Dk rfl hown _ _ rfl hkey ?_)
   by_cases hbad:there = true∨s.nextSeq≤z
   ·have HN1:Hid (ck_ s = false):=HNO.out (hbad.imp (fun h=>of_decide_eq_true (by rw [← HTH.out];exact h)) id);refine (ax_ 1 [there,decide (s.nextSeq≤z)] _ _ (by simp) (bng_ _ _ (World.size_alloc _ _).symm) (by rcases hbad with h | h;exact h ▸ List.mem_cons_self;rw [decide_eq_true h];simp)).mono ?_;rintro e w4 ⟨rfl,hw4⟩;exact ⟨rfl,by rw [HD.out,HN1.out];rfl,by rw [hw4];exact hBw.trans (((hB.alloc hBs _).alloc (by simp;omega) _).mono s0)⟩
   ·have hth:there = false:=by cases there with | false=>rfl | true=>exact absurd (.inl rfl) hbad
    have HS2:Hid (eq_ Z s.nextSeq (k+1)):=HSN.out (of_decide_eq_false (by rw [← HTH.out];exact hth)) (by omega);subst hth;refine (aG_ 1 [false,decide (s.nextSeq≤z)] _ _ (by simp) (bng_ _ _ (World.size_alloc _ _).symm) (by simp;omega)).mono ?_;rintro e w4 ⟨rfl,hw4⟩;have hown4:w4.ownsMap Tryz.prog 3 unitElem W1.heap.size k Dk:=by rw [hw4];exact (hown.alloc _).alloc _
    have l4:Below wr.heap.size wr w4:=by rw [hw4];exact ((Below.refl _ _).alloc (Nat.le_refl _) _).alloc (by simp) _
    have k4:Below W1.heap.size W1 w4:=hB.trans (l4.mono hBs);have s4:=l4.size;have HN4:=hidI (HNU.out.keep l4);clear hw4 hbad y0 y1 y2 y3 y4 y5 y6 y7 c1 hown;go_wp2_with (at_mapUpdate;refine wpList_mapUpdate_own _ rfl _ _ _ 127 rfl 3 128 keyed3 Tryz.underlying127 (unitElem (H:=Unit)) W1.heap.size k _ rfl hown4 (by unfold maxLen;omega) _ _ _ rfl rfl hkey _ [] unitElem_mk ?_;intro w5 hown5 hgrow5)
    have s5:=hgrow5.size;go_roundw
    case rel=>exact ⟨k+1,HLT.out,by have:=HLT.out;go_num,by rw [HSU.out];exact hown5,HS2.out,k4.grown hgrow5 (by omega) (fun j hj=>by cases hj;exact Nat.le_refl _),kW_ HN4.out hgrow5 HGN.out,by omega⟩
    case measure=>have:=HLT.out;simp [intOf];omega
  ·have hke:k = n:=by omega
   subst hke;have HYES:Hid (ck_ s = true):=by
    have:=HST.out;rw [HN.out,HZ.out] at this;exact g9_ this
   clear hlt hk;go_wp2_with fail
   go_end0
   exact ⟨by rw [HD.out,HYES.out];rfl,hBw.trans (hB.mono s0)⟩
theorem iW_ (s:ab_) (b1 b2 b3:Option Addr) (m1 d1 m2 d2 m3 d3:Nat) (w:World) (hs:an_ w b1 b2 b3 m1 m2 m3 s) (hb:(ar_ s).length≤100000000) (hc:bh_ s = true) :
 Calls Tryz.prog 55 #[.agg #[.slice b1 m1 d1,.slice b2 m2 d2,.slice b3 m3 d3,.int .i64 s.nextSeq,.int .i64 s.nextTag,.int .i64 s.came,.int .i64 s.acked,.int .i64 s.dropped]] w fun e w'=>e = askE (if cl_ s = true then 0 else 10)∧Below w.heap.size w w':=by
 obtain ⟨D,hD⟩:∃ D:Int,D = if cl_ s = true then 0 else 10:=⟨_,rfl⟩
 rw [← hD];have HD:=hidI hD;obtain ⟨W1,hW1,hBw,hs1,hbx⟩:=dz_ w #[.slice b1 m1 d1,.slice b2 m2 d2,.slice b3 m3 d3,.int .i64 s.nextSeq,.int .i64 s.nextTag,.int .i64 s.came,.int .i64 s.acked,.int .i64 s.dropped];have HW1:=hidI hW1;have BX:=hidI hbx;have HS:=hidI (hs.keep hBw);have HBD:=hidI hb;have s0:=hBw.size;obtain ⟨y0,y1,y2,y3,y4,y5,y6,y7⟩:=aa_ (hbx W1 (Below.refl _ _));unfold bh_ a3_ at hc;simp only [Bool.and_eq_true,decide_eq_true_eq] at hc;have HC:=hidI hc;clear hW1 hbx hs1 hs hb hD hc;go_enter Tryz.func55,Tryz.ntmps55;go_wp2_with fail
 rw [← HW1.out];refine (ke_ s _ _ _ _ _ _ _ _ _ _ HS.out HBD.out).mono ?_;rintro e w3 ⟨a,c,rfl,-,-,hB3⟩;obtain ⟨n,hn⟩:∃ n,n = (ar_ s).length:=⟨_,rfl⟩
 rw [← hn] at HBD ⊢;have hw1:IntKind.i64.wrap ((n:Int)+s.acked) = (n:Int)+s.acked:=by have h1:=HBD.out;have h2:=HC.out;rw [IntKind.wrap_i64];omega
 have hw2:IntKind.i64.wrap ((n:Int)+s.acked+s.dropped) = (n:Int)+s.acked+s.dropped:=by have h1:=HBD.out;have h2:=HC.out;rw [IntKind.wrap_i64];omega
 have HSM:Hid (cl_ s = (decide (s.came = (n:Int)+s.acked+s.dropped) && decide (s.came = s.nextSeq))):=by show cl_ s = _;unfold cl_;rw [hn]
 have s3:=hB3.size;clear y0 y1 y2 y3 y4 y5 y6 y7 hn;obtain ⟨y0,y1,y2,y3,y4,y5,y6,y7⟩:=aa_ (BX.out w3 hB3);go_wp2_with fail
 by_cases hbad:s.came≠(n:Int)+s.acked+s.dropped∨s.came≠s.nextSeq
 ·refine (ax_ 10 [(s.came != (n:Int)+s.acked+s.dropped),(s.came != s.nextSeq)] _ _ (by simp) (bng_ w3 _ rfl) (by simp;omega)).mono ?_;rintro e w4 ⟨rfl,hw4⟩;refine ⟨rfl,?_,by rw [hw4];exact hBw.trans ((hB3.alloc s3 _).mono s0)⟩;rw [HD.out,HSM.out,show (decide (s.came = (n:Int)+s.acked+s.dropped) && decide (s.came = s.nextSeq)) = false by simp;omega];rfl
 ·refine (aG_ 10 [(s.came != (n:Int)+s.acked+s.dropped),(s.came != s.nextSeq)] _ _ (by simp) (bng_ w3 _ rfl) (by simp;omega)).mono ?_;rintro e w4 ⟨rfl,hw4⟩;have k4:Below W1.heap.size W1 w4:=by rw [hw4];exact hB3.alloc s3 _
  clear hw4;go_wp2_with fail
  go_end0
  refine ⟨?_,hBw.trans (k4.mono s0)⟩;rw [HD.out,HSM.out,show (decide (s.came = (n:Int)+s.acked+s.dropped) && decide (s.came = s.nextSeq)) = true by simp;omega];rfl
theorem a9_.get {W:World} {a:Option Addr} {xs:List bd_} (h:a9_ W a xs) {k:Nat} (hk:k < xs.length):∃ g o,a = some ⟨g,o,none⟩∧g < W.heap.size∧W.cell? ⟨g,o+k * 3,none⟩ = some (.string xs[k].name)∧W.cell? ⟨g,o+k * 3+1,none⟩ = some (.int .i64 xs[k].limit)∧W.cell? ⟨g,o+k * 3+2,none⟩ = some (.int .i64 xs[k].dead):=by
 rcases h with h | ⟨g,o,ha,hg,h⟩
 ·rw [h] at hk;simp at hk
 ·exact ⟨g,o,ha,hg,h k hk⟩
def cM_ (p:ad_) (s:ab_) (q:Nat):Bool:=decide (((s.ready.getD q []).length:Int)≤(p.queues.getD q ⟨⟨#[]⟩,0,0⟩).limit)
def cN_ (s:ab_) (k:Nat):Bool:=decide ((heldN s k:Int)≤(s.takers.getD k ⟨0,0⟩).most)
theorem cT_ {f:Nat→Bool} {n:Nat} (h:∀ i,i < n→f i = true):(List.range n).all f = true:=by
 rw [List.all_eq_true];intro i hi;exact h i (List.mem_range.1 hi)
theorem dd_ {f:Nat→Bool} {n k:Nat} (hk:k < n) (h:f k = false):(List.range n).all f = false:=
 List.all_eq_false.2 ⟨k,List.mem_range.2 hk,by simp [h]⟩
theorem iU_ (p:ad_) (a1 a2 a3:Option Addr) (n1 c1 n2 c2 n3 c3:Nat) (s:ab_) (b1 b2 b3:Option Addr) (m1 d1 m2 d2 m3 d3:Nat) (w:World) (hp:ao_ w a1 a2 a3 n1 n2 n3 p) (hs:an_ w b1 b2 b3 m1 m2 m3 s) (hm:m1 = n2) :
 Calls Tryz.prog 54 #[.agg #[.slice a1 n1 c1,.slice a2 n2 c2,.slice a3 n3 c3],.agg #[.slice b1 m1 d1,.slice b2 m2 d2,.slice b3 m3 d3,.int .i64 s.nextSeq,.int .i64 s.nextTag,.int .i64 s.came,.int .i64 s.acked,.int .i64 s.dropped]] w fun e w'=>e = askE (if (dI_ p s && dJ_ s) = true then 0 else 3)∧Below w.heap.size w w':=by
 obtain ⟨D,hD⟩:∃ D:Int,D = if (dI_ p s && dJ_ s) = true then 0 else 3:=⟨_,rfl⟩
 rw [← hD];have HD:=hidI hD;obtain ⟨W2,hW2,hBw,hs2,hbx⟩:=bQ_ w #[.slice a1 n1 c1,.slice a2 n2 c2,.slice a3 n3 c3] #[.slice b1 m1 d1,.slice b2 m2 d2,.slice b3 m3 d3,.int .i64 s.nextSeq,.int .i64 s.nextTag,.int .i64 s.came,.int .i64 s.acked,.int .i64 s.dropped];have HW2:=hidI hW2;have BX:=hidI hbx;have HS:=hidI (hs.keep hBw);have HP:=hidI (hp.keep hBw);have HM1:Hid (s.ready.length = m1):=hs.l1;have HM3:Hid (s.takers.length = m3):=hs.l3;have HN2:Hid (p.queues.length = n2):=hp.l2;have hx1:=hs.x1;have hx3:=hs.x3;have HMN:=hidI hm;have s0:=hBw.size;have hs2':w.heap.size+1 < W2.heap.size:=by omega
 unfold maxLen at hx1 hx3;clear hW2 hbx hs hp hs2 hD hm;obtain ⟨p0,q0⟩:=BX.out W2 (Below.refl _ _);obtain ⟨x0,x1,x2⟩:=ag_ p0;obtain ⟨y0,y1,y2,y3,y4,y5,y6,y7⟩:=aa_ q0;clear p0 q0;go_enter Tryz.func54,Tryz.ntmps54;go_wp2_with fail
 rw [← HW2.out];go_loopw [4,5,11] (fun _ _ i wr=>∃ k:Nat,k≤m1∧i = .int .i64 k∧(∀ q,q < k→cM_ p s q = true)∧Below W2.heap.size W2 wr) (fun _ _ i _=>m1 - (intOf i).toNat)
 case atStart=>exact ⟨0,Nat.zero_le _,rfl,fun q hq=>absurd hq (Nat.not_lt_zero _),Below.refl _ _⟩
 case round=>
  obtain ⟨k,hk,rfl,ha,hB⟩:=hrel;have HA:=hidI ha;have hBs:=hB.size;clear ha x0 x1 x2 y0 y1 y2 y3 y4 y5 y6 y7;obtain ⟨p0,q0⟩:=BX.out wr hB;obtain ⟨x0,x1,x2⟩:=ag_ p0;obtain ⟨y0,y1,y2,y3,y4,y5,y6,y7⟩:=aa_ q0;clear p0 q0;by_cases hlt:k < m1
  ·have HLT:=hidI hlt;have hkl:k < s.ready.length:=by rw [HM1.out];exact hlt
   have hkq:k < p.queues.length:=by rw [HN2.out,← HMN.out];exact hlt
   obtain ⟨g,o,b,c,ha,hg,hl⟩:=(HS.out.q1.keep hB).get hkl;obtain ⟨g',o',ha',hg',e1,e2,e3⟩:=(HP.out.p2.keep hB).get hkq;subst ha ha';have c1:=hl.cell;have HRK:Hid (cM_ p s k = decide ((s.ready[k].length:Int)≤p.queues[k].limit)):=by
    show cM_ p s k = _;unfold cM_;rw [List.getD_eq_getElem?_getD,List.getD_eq_getElem?_getD,List.getElem?_eq_getElem hkl,List.getElem?_eq_getElem hkq];rfl
   obtain ⟨n,hn⟩:∃ n,n = s.ready[k].length:=⟨_,rfl⟩
   obtain ⟨lim,hlim⟩:∃ lim,lim = p.queues[k].limit:=⟨_,rfl⟩
   rw [← hn] at c1 HRK;rw [← hlim] at e2 HRK;have j1:(0:Int)≤(k:Int):=by omega
   have j2:(k:Int) < m1:=by omega
   have j3:(k:Int) < n2:=by have:=HMN.out;omega
   clear hl hn hlim e1 e3 hkl hkq;go_wp2_with fail
   by_cases hbad:lim < (n:Int)
   ·have HNO:Hid ((dI_ p s && dJ_ s) = false):=by
     show (dI_ p s && dJ_ s) = false;rw [show dI_ p s = false from dd_ (f:=cM_ p s) (by rw [HM1.out];exact hlt) (by rw [HRK.out];exact decide_eq_false (by omega))];rfl
    refine (ax_ 3 [decide (lim < (n:Int))] _ _ (by simp) (bng_ wr _ rfl) (by simp;omega)).mono ?_;rintro e w5 ⟨rfl,hw5⟩;exact ⟨rfl,by rw [HD.out,HNO.out];rfl,by rw [hw5];exact hBw.trans ((hB.alloc hBs _).mono s0)⟩
   ·refine (aG_ 3 [decide (lim < (n:Int))] _ _ (by simp) (bng_ wr _ rfl) (by simp;omega)).mono ?_;rintro e w5 ⟨rfl,hw5⟩;have k5:Below W2.heap.size W2 w5:=by rw [hw5];exact hB.alloc hBs _
    have HYK:Hid (cM_ p s k = true):=by show cM_ p s k = true;rw [HRK.out];exact decide_eq_true (by omega)
    clear hw5;go_wp2_with fail
    go_roundw
    case rel=>exact ⟨k+1,HLT.out,by have:=HLT.out;go_num,fun q hq=>by
     by_cases e:q = k
     ·rw [e];exact HYK.out
     ·exact HA.out q (by omega),k5⟩
    case measure=>have:=HLT.out;simp [intOf];omega
  ·have hke:k = m1:=by omega
   subst hke;have HRL:Hid (dI_ p s = true):=by
    show (List.range s.ready.length).all (cM_ p s) = true;exact cT_ (fun i hi=>HA.out i (by rw [HM1.out] at hi;exact hi))
   clear hlt hk HA;go_wp2_with fail
   go_loopw [6,7,31] (fun _ _ i wr=>∃ k:Nat,k≤m3∧i = .int .i64 k∧(∀ q,q < k→cN_ s q = true)∧Below W2.heap.size W2 wr) (fun _ _ i _=>m3 - (intOf i).toNat)
   case atStart=>exact ⟨0,Nat.zero_le _,rfl,fun q hq=>absurd hq (Nat.not_lt_zero _),hB⟩
   case round=>
    clear x0 x1 x2 y0 y1 y2 y3 y4 y5 y6 y7 hB hBs;obtain ⟨j,hj,rfl,ha,hB⟩:=hrel;have HA:=hidI ha;have hBs:=hB.size;clear ha;by_cases hlt:j < m3
    ·have HLT:=hidI hlt;have hkl:j < s.takers.length:=by rw [HM3.out];exact hlt
     obtain ⟨g,o,ha,hg,e1,e2⟩:=(HS.out.q3.keep hB).get hkl;subst ha;have HRK:Hid (cN_ s j = decide ((heldN s j:Int)≤s.takers[j].most)):=by
      show cN_ s j = _;unfold cN_;rw [List.getD_eq_getElem?_getD,List.getElem?_eq_getElem hkl];rfl
     obtain ⟨t,ht⟩:∃ t,t = s.takers[j]:=⟨_,rfl⟩
     rw [← ht] at e1 e2 HRK;obtain ⟨tq,tm⟩:=t;dsimp only at e1 e2 HRK;obtain ⟨p0,q0⟩:=BX.out wr hB;obtain ⟨y0,y1,y2,y3,y4,y5,y6,y7⟩:=aa_ q0;have j1:(0:Int)≤(j:Int):=by omega
     have j2:(j:Int) < m3:=by omega
     have sk:w.heap.size+1 < wr.heap.size:=by omega
     obtain ⟨W3,hW3⟩:∃ W3,W3 = wr.alloc (.cells #[.int .i64 tq,.int .i64 tm] 69):=⟨_,rfl⟩
     have HW3:=hidI hW3;have k3:Below W2.heap.size W2 W3:=by rw [hW3];exact hB.alloc hBs _
     have b3':W3.heap[wr.heap.size]? = some (.cells #[.int .i64 tq,.int .i64 tm] 69 (0,0)):=by rw [hW3];exact World.alloc_heap_new wr _
     have HB3:=hidI b3';have s3:=k3.size;clear ht p0 q0 hW3 b3';go_wp2_with fail
     rw [← HW3.out];have SS:Hid (∀ W,Below W3.heap.size W3 W→W.cell? ⟨w.heap.size+1,0,none⟩ = some (.slice b1 k d1)∧W.cell? ⟨w.heap.size+1,1,none⟩ = some (.slice b2 m2 d2)∧W.cell? ⟨w.heap.size+1,2,none⟩ = some (.slice (some ⟨g,o,none⟩) m3 d3)∧W.cell? ⟨w.heap.size+1,3,none⟩ = some (.int .i64 s.nextSeq)∧W.cell? ⟨w.heap.size+1,4,none⟩ = some (.int .i64 s.nextTag)∧W.cell? ⟨w.heap.size+1,5,none⟩ = some (.int .i64 s.came)∧W.cell? ⟨w.heap.size+1,6,none⟩ = some (.int .i64 s.acked)∧W.cell? ⟨w.heap.size+1,7,none⟩ = some (.int .i64 s.dropped)∧W.cell? ⟨wr.heap.size,1,none⟩ = some (.int .i64 tm)):=fun W hW=>by
      have x:=aa_ (BX.out W (k3.trans (hW.mono s3))).2;exact ⟨x.1,x.2.1,x.2.2.1,x.2.2.2.1,x.2.2.2.2.1,x.2.2.2.2.2.1,x.2.2.2.2.2.2.1,x.2.2.2.2.2.2.2,coc_ (pkp_ HB3.out hW) 1⟩
     refine wp_region_held_drew (S:=fun W=>W.cell? ⟨w.heap.size+1,0,none⟩ = some (.slice b1 k d1)∧W.cell? ⟨w.heap.size+1,1,none⟩ = some (.slice b2 m2 d2)∧W.cell? ⟨w.heap.size+1,2,none⟩ = some (.slice (some ⟨g,o,none⟩) m3 d3)∧W.cell? ⟨w.heap.size+1,3,none⟩ = some (.int .i64 s.nextSeq)∧W.cell? ⟨w.heap.size+1,4,none⟩ = some (.int .i64 s.nextTag)∧W.cell? ⟨w.heap.size+1,5,none⟩ = some (.int .i64 s.came)∧W.cell? ⟨w.heap.size+1,6,none⟩ = some (.int .i64 s.acked)∧W.cell? ⟨w.heap.size+1,7,none⟩ = some (.int .i64 s.dropped)∧W.cell? ⟨wr.heap.size,1,none⟩ = some (.int .i64 tm)) (by kernel_rfl) (SS.out _ (Below.refl _ _).drew) (fun hHeld=>?_);obtain ⟨W4,hW4⟩:∃ W4,W4 = W3.drew:=⟨_,rfl⟩
     have KK:Hid (∀ W,Below W4.heap.size W4 W→Below W3.heap.size W3 W):=fun W hW=>by rw [hW4] at hW;exact ⟨hW.os,hW.tape,hW.output,hW.size,hW.block⟩
     rw [← hW4] at hHeld ⊢;clear hW4 y0 y1 y2 y3 y4 y5 y6 y7 e1 e2;refine tk 0 ?_;refine tk 1 ?_;refine tk 3 ?_;refine tk 4 ?_;refine rdy 2 (fun K hK=>?_);go_simp;refine (jZ_ s _ _ _ _ _ _ _ _ _ (j:Int) _ (HS.out.keep (k3.trans ((KK.out _ (Below.refl _ _)).mono s3)))).mono ?_;rintro e w5 ⟨rfl,hB5⟩;obtain ⟨hn,hhn⟩:∃ hn,hn = heldN s j:=⟨_,rfl⟩
     rw [← hhn] at HRK ⊢;refine hK.out _ _ (SS.out _ (KK.out _ hB5)) (fun hH5=>?_);clear hK K hhn;try refine nrm ?_
     refine tk 5 ?_;refine rdy 6 (fun K hK=>?_);go_simp;have HIS:=hidI (bl_ w5 [decide (tm < (hn:Int))]);obtain ⟨w6,hw6⟩:∃ w6,w6 = w5.alloc (.cells #[.bool (decide (tm < (hn:Int)))] 4):=⟨_,rfl⟩
     have l6:Below W3.heap.size W3 w6:=by rw [hw6];exact (KK.out _ hB5).alloc (KK.out _ hB5).size _
     have HI6:Hid (bg_ w6 w5.heap.size 0 [decide (tm < (hn:Int))]):=by show bg_ w6 _ _ _;rw [hw6];exact HIS.out
     rw [← hw6];refine hK.out _ _ (SS.out _ l6) (fun hH6=>?_);clear hK K hw6;try refine nrm ?_
     have k6:Below W2.heap.size W2 w6:=k3.trans (l6.mono s3);refine rdy 7 (fun K hK=>?_);go_simp;by_cases hbad:tm < (hn:Int)
     ·have HNO:Hid ((dI_ p s && dJ_ s) = false):=by
       show (dI_ p s && dJ_ s) = false;rw [show dJ_ s = false from dd_ (f:=cN_ s) (by rw [HM3.out];exact hlt) (by rw [HRK.out];exact decide_eq_false (by omega))];simp
      refine (ax_ 3 [decide (tm < (hn:Int))] _ _ (by simp) HI6.out (by simp;omega)).mono ?_;rintro e w7 ⟨rfl,hw7⟩;have k7:Below W2.heap.size W2 w7:=by rw [hw7];exact k6
      exact ⟨rfl,by rw [HD.out,HNO.out];rfl,hBw.trans (k7.mono s0)⟩
     ·have HYK:Hid (cN_ s j = true):=by show cN_ s j = true;rw [HRK.out];exact decide_eq_true (by omega)
      refine (aG_ 3 [decide (tm < (hn:Int))] _ _ (by simp) HI6.out (by simp;omega)).mono ?_;rintro e w7 ⟨rfl,hw7⟩;have k7:Below W2.heap.size W2 w7:=by rw [hw7];exact k6
      refine hK.out _ _ (SS.out _ (by rw [hw7];exact l6)) (fun hH7=>?_);clear hK K hw7;refine wpAnyH_done (by kernel_rfl) ?_ _;go_wp2_with fail
      go_roundw
      case rel=>exact ⟨j+1,HLT.out,by have:=HLT.out;go_num,fun q hq=>by
       by_cases e:q = j
       ·rw [e];exact HYK.out
       ·exact HA.out q (by omega),k7⟩
      case measure=>have:=HLT.out;simp [intOf];omega
    ·have hke:j = m3:=by omega
     subst hke;have HRT:Hid (dJ_ s = true):=by
      show (List.range s.takers.length).all (cN_ s) = true;exact cT_ (fun i hi=>HA.out i (by rw [HM3.out] at hi;exact hi))
     clear hlt hj;go_wp2_with fail
     go_end0
     exact ⟨by rw [HD.out,HRL.out,HRT.out];rfl,hBw.trans (hB.mono s0)⟩
theorem fc_ {x:ae_} (h:am_ x = true):0≤x.seq∧x.seq < 1048576:=by
 unfold am_ bN_ at h;simp at h;omega
theorem d3_:∀ {xs:List ae_} {l:Int},aK_ l xs = true→l < 1048576→(xs.length:Int)+l+1≤1048576∧∀ x ∈ xs,am_ x = true
 | [],l,_,hl=>⟨by simp;omega,by simp⟩
 | x :: r, l, h, hl => by
   unfold aK_ at h;simp only [Bool.and_eq_true,decide_eq_true_eq] at h;have hq:=fc_ h.1.1;obtain ⟨i1,i2⟩:=d3_ h.2 hq.2;refine ⟨by simp;omega,fun y hy=>?_⟩;rcases List.mem_cons.1 hy with rfl | hy
   ·exact h.1.1
   ·exact i2 y hy
theorem fz_ {ts:List ak_} {nt:Int}:∀ {xs:List OutD} {l:Int},ap_ ts nt l xs = true→l < nt→(xs.length:Int)+l+1≤nt∧∀ x ∈ xs,am_ x.item = true
 | [],l,_,hl=>⟨by simp;omega,by simp⟩
 | x :: r, l, h, hl => by
   unfold ap_ cL_ at h;simp only [Bool.and_eq_true,decide_eq_true_eq] at h;obtain ⟨i1,i2⟩:=fz_ h.2 h.1.1.1.1.2;refine ⟨by simp;have:=h.1.1.1.1.1;omega,fun y hy=>?_⟩;rcases List.mem_cons.1 hy with rfl | hy
   ·exact h.1.2
   ·exact i2 y hy
theorem hu_:∀ {xss:List (List ae_)},(∀ l ∈ xss,at_ l = true)→(xss.flatMap (fun l=>l.map ae_.seq)).length≤xss.length * 1048576∧∀ z ∈ xss.flatMap (fun l=>l.map ae_.seq),0≤z∧z < 1048576
 | [],_=>by simp
 | l :: r, h => by
   obtain ⟨i1,i2⟩:=hu_ (xss:=r) (fun x hx=>h x (List.mem_cons_of_mem _ hx));obtain ⟨j1,j2⟩:=d3_ (l:=-1) (h l List.mem_cons_self) (by omega);rw [List.flatMap_cons];refine ⟨by rw [List.length_append,List.length_map,List.length_cons];omega,fun z hz=>?_⟩;rcases List.mem_append.1 hz with hz | hz
   ·obtain ⟨x,hx,rfl⟩:=List.mem_map.1 hz;exact fc_ (j2 x hx)
   ·exact i2 z hz
theorem ha_ {p:ad_} {s:ab_} (hr:by_ p) (h1:a0_ p.queues.length s.ready = true) (h2:ap_ s.takers s.nextTag (-1) s.outs = true) (h3:bh_ s = true):(ar_ s).length≤100000000∧(∀ z ∈ ar_ s,0≤z∧z < 1048576)∧(s.outs.length:Int)≤1048576:=by
 unfold a0_ at h1;simp only [Bool.and_eq_true,decide_eq_true_eq,List.all_eq_true] at h1;obtain ⟨i1,i2⟩:=hu_ h1.2;unfold bh_ a3_ at h3;simp only [Bool.and_eq_true,decide_eq_true_eq] at h3;obtain ⟨j1,j2⟩:=fz_ h2 (by omega);have h4:=hr.few.2.1;refine ⟨?_,fun z hz=>?_,by omega⟩
 ·unfold ar_;rw [List.length_append,List.length_map];rw [h1.1] at i1;omega
 ·unfold ar_ at hz;rcases List.mem_append.1 hz with hz | hz
  ·exact i2 z hz
  ·obtain ⟨x,hx,rfl⟩:=List.mem_map.1 hz;exact fc_ (j2 x hx)
theorem kf_ {p:ad_} {s:ab_} (h:chkP p≠0):stE p s = chkP p:=if_pos h
theorem ko_ (p:ad_) (a1 a2 a3:Option Addr) (n1 c1 n2 c2 n3 c3:Nat) (s:ab_) (b1 b2 b3:Option Addr) (m1 d1 m2 d2 m3 d3:Nat) (B1 B2:Nat) (w:World) (hp:ao_ w a1 a2 a3 n1 n2 n3 p) (hs:an_ w b1 b2 b3 m1 m2 m3 s) (h1:w.heap[B1]? = some (.cells #[.slice a1 n1 c1,.slice a2 n2 c2,.slice a3 n3 c3] 26 (0,0))) (h2:w.heap[B2]? = some (.cells #[.slice b1 m1 d1,.slice b2 m2 d2,.slice b3 m3 d3,.int .i64 s.nextSeq,.int .i64 s.nextTag,.int .i64 s.came,.int .i64 s.acked,.int .i64 s.dropped] 31 (0,0))) :
 Calls Tryz.prog 46 #[.pointer (some ⟨B1,0,none⟩),.pointer (some ⟨B2,0,none⟩)] w fun e w'=>e = askE (stE p s)∧Below w.heap.size w w':=by
 obtain ⟨D,hD⟩:∃ D:Int,D = stE p s:=⟨_,rfl⟩
 rw [← hD];have HD:=hidI hD;have HP:=hidI hp;have HS:=hidI hs;have BX:Hid (∀ W,Below w.heap.size w W→W.heap[B1]? = some (.cells #[.slice a1 n1 c1,.slice a2 n2 c2,.slice a3 n3 c3] 26 (0,0))∧W.heap[B2]? = some (.cells #[.slice b1 m1 d1,.slice b2 m2 d2,.slice b3 m3 d3,.int .i64 s.nextSeq,.int .i64 s.nextTag,.int .i64 s.came,.int .i64 s.acked,.int .i64 s.dropped] 31 (0,0))):=fun W hW=>⟨pkp_ h1 hW,pkp_ h2 hW⟩
 have HM3:Hid (s.takers.length = m3):=hs.l3;have HN2:Hid (p.queues.length = n2):=hp.l2;have HM1:Hid (s.ready.length = m1):=hs.l1;clear hD hp hs h1 h2;obtain ⟨x0,x1,x2⟩:=ag_ (BX.out w (Below.refl _ _)).1;go_enter Tryz.func46,Tryz.ntmps46;go_wp2_with fail
 refine (bY_ p _ _ _ _ _ _ _ _ _ _ HP.out.l1 HP.out.l2 HP.out.l3 HP.out.sz HP.out.p1 HP.out.p2 HP.out.p3).mono ?_;rintro e w1 ⟨rfl,k1⟩;have s1:=k1.size;obtain ⟨d0,hd0⟩:∃ d0,d0 = chkP p:=⟨_,rfl⟩
 rw [← hd0];have HD0:=hidI hd0;have k1':=k1.alloc s1 (.cells #[.int .i64 d0] 33);have s1':=k1'.size;clear hd0 x0 x1 x2;by_cases hz0:d0 = 0
 ·subst hz0;have HR:Hid (by_ p):=a1_ HD0.out.symm;go_wp2_with (go_at_call 47;refine (d5_ _ _ (aQ_ _ _ _) (by simp)).mono ?_;rintro e w2 ⟨rfl,hB2⟩;have k2:=k1'.trans (hB2.mono s1');obtain ⟨y0,y1,y2,y3,y4,y5,y6,y7⟩:=aa_ (BX.out w2 k2).2)
  have s2:=k2.size;clear hB2;by_cases hm:4 < m3
  ·refine (ax_ 2 [decide ((4:Int) < (m3:Int))] _ _ (by simp) (bng_ w2 _ rfl) (by simp;omega)).mono ?_;rintro e w3 ⟨rfl,hw3⟩;refine ⟨rfl,?_,by rw [hw3];exact k2.alloc s2 _⟩;rw [HD.out];unfold stE;rw [if_neg (by rw [← HD0.out];simp),if_pos (by rw [HM3.out];exact hm)];rfl
  ·refine (aG_ 2 [decide ((4:Int) < (m3:Int))] _ _ (by simp) (bng_ w2 _ rfl) (by simp;omega)).mono ?_;rintro e w3 ⟨rfl,hw3⟩;have HST:Hid (stE p s = if bs_ p s = false then 1 else if (dI_ p s && dJ_ s) = false then 3 else if cl_ s = false then 10 else 0):=by
    show stE p s = _;unfold stE;rw [if_neg (by rw [← HD0.out];simp),if_neg (by rw [HM3.out];exact hm)]
   have HFO:Hid (bs_ p s = (a0_ n2 s.ready && s.takers.all (aI_ n2) && ap_ s.takers s.nextTag (-1) s.outs && bh_ s && ck_ s)):=by show bs_ p s = _;unfold bs_;rw [HN2.out]
   have HF1:Hid (bs_ p s = false→askE D = .panicked [{ v:=.iface 33 (.int .i64 1),recovered:=false }]):=fun h=>by
    show askE D = _;rw [HD.out,HST.out,if_pos h];rfl
   have k3:Below w.heap.size w w3:=by rw [hw3];exact k2.alloc s2 _
   have s3:=k3.size;clear hw3 hm y0 y1 y2 y3 y4 y5 y6 y7;obtain ⟨x0,x1,x2⟩:=ag_ (BX.out w3 k3).1;obtain ⟨y0,y1,y2,y3,y4,y5,y6,y7⟩:=aa_ (BX.out w3 k3).2;go_wp2_with fail
   refine (hZ_ p _ _ _ _ _ _ _ _ _ s _ _ _ _ _ _ _ _ _ _ (HP.out.keep k3) (HS.out.keep k3)).mono ?_;rintro e w4 ⟨he4,hB4⟩;have k4:=k3.trans (hB4.mono s3);have s4:=k4.size;clear hB4 x0 x1 x2 y0 y1 y2 y3 y4 y5 y6 y7;by_cases g1:a0_ n2 s.ready = true
   ·rw [if_pos g1,b9_] at he4;subst he4;unfold okE;have G1:=hidI g1;clear g1;obtain ⟨x0,x1,x2⟩:=ag_ (BX.out w4 k4).1;obtain ⟨y0,y1,y2,y3,y4,y5,y6,y7⟩:=aa_ (BX.out w4 k4).2;go_wp2_with fail
    refine (hk_ p _ _ _ _ _ _ _ _ _ s _ _ _ _ _ _ _ _ _ _ (HS.out.keep k4)).mono ?_;rintro e w5 ⟨he5,hB5⟩;have k5:=k4.trans (hB5.mono s4);have s5:=k5.size;clear hB5 x0 x1 x2 y0 y1 y2 y3 y4 y5 y6 y7;by_cases g2:s.takers.all (aI_ n2) = true
    ·rw [if_pos g2,b9_] at he5;subst he5;unfold okE;have G2:=hidI g2;clear g2;obtain ⟨y0,y1,y2,y3,y4,y5,y6,y7⟩:=aa_ (BX.out w5 k5).2;go_wp2_with fail
     refine (iT_ s _ _ _ _ _ _ _ _ _ _ (HS.out.keep k5)).mono ?_;rintro e w6 ⟨he6,hB6⟩;have k6:=k5.trans (hB6.mono s5);have s6:=k6.size;clear hB6 y0 y1 y2 y3 y4 y5 y6 y7;by_cases g3:ap_ s.takers s.nextTag (-1) s.outs = true
     ·rw [if_pos g3,b9_] at he6;subst he6;unfold okE;have G3:=hidI g3;clear g3;obtain ⟨y0,y1,y2,y3,y4,y5,y6,y7⟩:=aa_ (BX.out w6 k6).2;go_wp2_with fail
      refine (hj_ s _ _ _ _ _ _ _ _ _ _).mono ?_;rintro e w7 ⟨he7,hB7⟩;have k7:=k6.trans (hB7.mono s6);have s7:=k7.size;clear hB7 y0 y1 y2 y3 y4 y5 y6 y7;by_cases g4:bh_ s = true
      ·rw [if_pos g4,b9_] at he7;subst he7;unfold okE;have G4:=hidI g4;have HBD:=hidI (ha_ HR.out (by rw [HN2.out];exact G1.out) G3.out g4);clear g4;obtain ⟨y0,y1,y2,y3,y4,y5,y6,y7⟩:=aa_ (BX.out w7 k7).2;go_wp2_with fail
       refine (iV_ s _ _ _ _ _ _ _ _ _ _ (HS.out.keep k7) HBD.out.1 HBD.out.2.1).mono ?_;rintro e w8 ⟨he8,hB8⟩;have k8:=k7.trans (hB8.mono s7);have s8:=k8.size;clear hB8 y0 y1 y2 y3 y4 y5 y6 y7;by_cases g5:ck_ s = true
       ·rw [if_pos g5,b9_] at he8;subst he8;unfold okE;have HF2:Hid (bs_ p s = true):=by show bs_ p s = true;rw [HFO.out,G1.out,G2.out,G3.out,G4.out,g5];rfl
        clear g5;obtain ⟨x0,x1,x2⟩:=ag_ (BX.out w8 k8).1;obtain ⟨y0,y1,y2,y3,y4,y5,y6,y7⟩:=aa_ (BX.out w8 k8).2;have HMN:Hid (m1 = n2):=by
         have:=G1.out;unfold a0_ at this;simp only [Bool.and_eq_true,decide_eq_true_eq] at this;exact HM1.out.symm.trans this.1
        go_wp2_with fail
        refine (iU_ p _ _ _ _ _ _ _ _ _ s _ _ _ _ _ _ _ _ _ _ (HP.out.keep k8) (HS.out.keep k8) HMN.out).mono ?_;rintro e w9 ⟨he9,hB9⟩;have k9:=k8.trans (hB9.mono s8);have s9:=k9.size;clear hB9 x0 x1 x2 y0 y1 y2 y3 y4 y5 y6 y7;by_cases g6:(dI_ p s && dJ_ s) = true
        ·rw [if_pos g6,b9_] at he9;subst he9;unfold okE;have G6:=hidI g6;clear g6;obtain ⟨y0,y1,y2,y3,y4,y5,y6,y7⟩:=aa_ (BX.out w9 k9).2;go_wp2_with fail
         refine (iW_ s _ _ _ _ _ _ _ _ _ _ (HS.out.keep k9) HBD.out.1 G4.out).mono ?_;rintro e w10 ⟨he10,hB10⟩;have k10:=k9.trans (hB10.mono s9);clear hB10 y0 y1 y2 y3 y4 y5 y6 y7;by_cases g7:cl_ s = true
         ·rw [if_pos g7,b9_] at he10;subst he10;unfold okE;have HDZ:Hid (D = 0):=by show D = 0;rw [HD.out,HST.out,HF2.out,G6.out,g7];rfl
          clear g7;go_wp2_with fail
          go_end0
          exact ⟨by rw [HDZ.out];rfl,k10⟩
         ·rw [if_neg g7] at he10;subst he10;refine ⟨rfl,?_,k10⟩;rw [HD.out,HST.out,HF2.out,G6.out,if_neg (by decide),if_neg (by decide),if_pos (by simpa using g7)];rfl
        ·rw [if_neg g6] at he9;subst he9;refine ⟨rfl,?_,k9⟩;rw [HD.out,HST.out,HF2.out,if_neg (by decide),if_pos (by simpa using g6)];rfl
       ·rw [if_neg g5] at he8;subst he8;exact ⟨rfl,(HF1.out (by rw [HFO.out,show ck_ s = false by simpa using g5];simp)).symm,k8⟩
      ·rw [if_neg g4] at he7;subst he7;exact ⟨rfl,(HF1.out (by rw [HFO.out,show bh_ s = false by simpa using g4];simp)).symm,k7⟩
     ·rw [if_neg g3] at he6;subst he6;exact ⟨rfl,(HF1.out (by rw [HFO.out,show ap_ s.takers s.nextTag (-1) s.outs = false by simpa using g3];simp)).symm,k6⟩
    ·rw [if_neg g2] at he5;subst he5;exact ⟨rfl,(HF1.out (by rw [HFO.out,show s.takers.all (aI_ n2) = false by simpa using g2];simp)).symm,k5⟩
   ·rw [if_neg g1] at he4;subst he4;exact ⟨rfl,(HF1.out (by rw [HFO.out,show a0_ n2 s.ready = false by simpa using g1];simp)).symm,k4⟩
 ·have HZ0:=hidI hz0;go_wp2_with (go_at_call 47;refine (dB_ d0 _ _ (aQ_ _ _ _) (by simp) HZ0.out).mono ?_;rintro e w2 ⟨rfl,hB2⟩)
  refine ⟨rfl,?_,k1'.trans (hB2.mono s1')⟩;rw [HD.out,kf_ (by rw [← HD0.out];exact HZ0.out),← HD0.out,cS_ HZ0.out];rfl
theorem el_ (p:ad_) (a1 a2 a3:Option Addr) (n1 c1 n2 c2 n3 c3:Nat) (s:ab_) (b1 b2 b3:Option Addr) (m1 d1 m2 d2 m3 d3:Nat) (w:World) (hp:ao_ w a1 a2 a3 n1 n2 n3 p) (hs:an_ w b1 b2 b3 m1 m2 m3 s) :
 Calls Tryz.prog 18 #[.agg #[.slice a1 n1 c1,.slice a2 n2 c2,.slice a3 n3 c3],.agg #[.slice b1 m1 d1,.slice b2 m2 d2,.slice b3 m3 d3,.int .i64 s.nextSeq,.int .i64 s.nextTag,.int .i64 s.came,.int .i64 s.acked,.int .i64 s.dropped]] w fun e w'=>e = .returned (.int .i64 (stE p s))∧Below w.heap.size w w':=by
 obtain ⟨D,hD⟩:∃ D:Int,D = stE p s:=⟨_,rfl⟩
 rw [← hD];have HD:=hidI hD;obtain ⟨W2,hW2,hBw,hs2,hbx⟩:=bQ_ w #[.slice a1 n1 c1,.slice a2 n2 c2,.slice a3 n3 c3] #[.slice b1 m1 d1,.slice b2 m2 d2,.slice b3 m3 d3,.int .i64 s.nextSeq,.int .i64 s.nextTag,.int .i64 s.came,.int .i64 s.acked,.int .i64 s.dropped];have HW2:=hidI hW2;have s0:=hBw.size;have hmf:∀ (fn:Fn) (first cap:Array Value) (w:World),(Instr.makeFunc fn first cap).run Tryz.prog w = .ok (.func fn first cap) w:=fun _ _ _ _=>rfl
 have l3:Below W2.heap.size W2 (W2.alloc (.cells #[.int .i64 0] 33)):=(Below.refl _ _).alloc (Nat.le_refl _) _;have HDO:=hidI (ko_ p a1 a2 a3 n1 c1 n2 c2 n3 c3 s b1 b2 b3 m1 d1 m2 d2 m3 d3 w.heap.size (w.heap.size+1) (W2.alloc (.cells #[.int .i64 0] 33)) ((hp.keep hBw).keep l3) ((hs.keep hBw).keep l3) (hbx _ l3).1 (hbx _ l3).2);rw [← hD,World.size_alloc] at HDO;clear hW2 hbx hs2 hp hs hD;go_enter Tryz.func18,Tryz.ntmps18;go_wp2_with fail
 rw [← HW2.out];refine (jB_ w.heap.size (w.heap.size+1) D W2 HDO.out).mono ?_;rintro e w3 ⟨rfl,hB3⟩;go_wp2_with fail
 go_ret
 exact ⟨rfl,hBw.trans (hB3.mono s0)⟩
theorem fC_ {a b c d:Int} (h1:a = b) (h2:c = d):Ending.returned (.tuple #[.int .i64 a,.int .i64 c]) = .returned (.tuple #[.int .i64 b,.int .i64 d]):=by rw [h1,h2]
def hdE (p:ad_) (s:ab_) (t:Int):Int:=if stE p s = 0 then (if as_ t s.takers.length = true then 0 else 5) else stE p s
def hdN (p:ad_) (s:ab_) (t:Int):Int:=if hdE p s t = 0 then (heldN s t:Int) else 0
theorem mJ_ (p:ad_) (a1 a2 a3:Option Addr) (n1 c1 n2 c2 n3 c3:Nat) (s:ab_) (b1 b2 b3:Option Addr) (m1 d1 m2 d2 m3 d3:Nat) (t:Int) (w:World) (hp:ao_ w a1 a2 a3 n1 n2 n3 p) (hs:an_ w b1 b2 b3 m1 m2 m3 s) :
 Calls Tryz.prog 170 #[.agg #[.slice a1 n1 c1,.slice a2 n2 c2,.slice a3 n3 c3],.agg #[.slice b1 m1 d1,.slice b2 m2 d2,.slice b3 m3 d3,.int .i64 s.nextSeq,.int .i64 s.nextTag,.int .i64 s.came,.int .i64 s.acked,.int .i64 s.dropped],.int .i64 t] w fun e w'=>e = .returned (.tuple #[.int .i64 (hdN p s t),.int .i64 (hdE p s t)])∧Below w.heap.size w w':=by
 obtain ⟨D,hD⟩:∃ D:Int,D = hdE p s t:=⟨_,rfl⟩
 obtain ⟨N,hN⟩:∃ N:Int,N = hdN p s t:=⟨_,rfl⟩
 rw [← hD,← hN];have HD:=hidI hD;have HN:=hidI hN;have HM3:Hid (s.takers.length = m3):=hs.l3;obtain ⟨W2,hW2,hBw,hs2,hbx⟩:=bQ_ w #[.slice a1 n1 c1,.slice a2 n2 c2,.slice a3 n3 c3] #[.slice b1 m1 d1,.slice b2 m2 d2,.slice b3 m3 d3,.int .i64 s.nextSeq,.int .i64 s.nextTag,.int .i64 s.came,.int .i64 s.acked,.int .i64 s.dropped];have HW2:=hidI hW2;have BX:=hidI hbx;have HS:=hidI (hs.keep hBw);have HP:=hidI (hp.keep hBw);have s0:=hBw.size;obtain ⟨x0,x1,x2⟩:=ag_ (hbx W2 (Below.refl _ _)).1;obtain ⟨y0,y1,y2,y3,y4,y5,y6,y7⟩:=aa_ (hbx W2 (Below.refl _ _)).2;clear hW2 hbx hs2 hp hs hD hN;go_enter Tryz.func170,Tryz.ntmps170;go_wp2_with fail
 rw [← HW2.out];refine (el_ p _ _ _ _ _ _ _ _ _ s _ _ _ _ _ _ _ _ _ _ HP.out HS.out).mono ?_;rintro e w3 ⟨rfl,hB3⟩;obtain ⟨E,hE⟩:∃ E:Int,E = stE p s:=⟨_,rfl⟩
 rw [← hE];have HE:=hidI hE;have s3:=hB3.size;clear hE x0 x1 x2 y0 y1 y2 y3 y4 y5 y6 y7;obtain ⟨y0,y1,y2,y3,y4,y5,y6,y7⟩:=aa_ (BX.out w3 hB3).2;by_cases h0:E = 0
 ·subst h0;have HDE:Hid (D = if as_ t m3 = true then 0 else 5):=by show D = _;rw [HD.out];unfold hdE;rw [if_pos HE.out.symm,HM3.out]
  by_cases ht:0≤t∧t < m3
  ·have HD0:Hid (D = 0):=by show D = 0;rw [HDE.out,if_pos (aB_.2 ht)]
   have HN0:Hid (N = heldN s t):=by show N = _;rw [HN.out];unfold hdN;rw [if_pos (by rw [← HD.out];exact HD0.out)]
   have t1:¬ t < 0:=by omega
   have t2:¬ (m3:Int)≤t:=by omega
   clear ht;go_wp2_with fail
   refine (jZ_ s _ _ _ _ _ _ _ _ _ t _ (HS.out.keep hB3)).mono ?_;rintro e w4 ⟨rfl,hB4⟩;rw [← HN0.out];go_wp2_with fail
   go_ret2
   exact ⟨fC_ rfl HD0.out.symm,hBw.trans ((hB3.trans (hB4.mono s3)).mono s0)⟩
  ·have HD0:Hid (D = 5):=by show D = 5;rw [HDE.out,if_neg (fun h=>ht (aB_.1 h))]
   have HN0:Hid (N = 0):=by show N = _;rw [HN.out];unfold hdN;rw [if_neg (by rw [← HD.out,HD0.out];decide)]
   have hor:t < 0∨(¬ t < 0∧(m3:Int)≤t):=by omega
   clear ht;rcases hor with g1 | ⟨g1,g2⟩
   all_goals
    go_wp2_with fail
    go_ret2
    exact ⟨fC_ HN0.out.symm HD0.out.symm,hBw.trans (hB3.mono s0)⟩
 ·have h0':(E != 0) = true:=bne_iff_ne.2 h0;have HD0:Hid (D = E):=by show D = E;rw [HD.out];unfold hdE;rw [if_neg (by rw [← HE.out];exact h0),← HE.out]
  have HN0:Hid (N = 0):=by show N = _;rw [HN.out];unfold hdN;rw [if_neg (by rw [← HD.out,HD0.out];exact h0)]
  clear h0;go_wp2_with fail
  go_ret2
  exact ⟨fC_ HN0.out.symm HD0.out.symm,hBw.trans (hB3.mono s0)⟩
structure aX_ (B:Nat) (W W':World):Prop where
 os:W'.os = W.os
 tape:W'.tape = W.tape
 output:W'.output = W.output
 size:W.heap.size≤W'.heap.size
 block:∀ k,k < W.heap.size→k≠B→W'.heap[k]? = W.heap[k]?
theorem aX_.below {B n:Nat} {W W':World} (h:aX_ B W W') (hn:n≤W.heap.size) (hB:n≤B):Below n W W':=⟨h.os,h.tape,h.output,h.size,fun k hk=>h.block k (by omega) (by omega)⟩
theorem sct_ (W:World) (B i:Nat) (v:Value):aX_ B W (W.setCell ⟨B,i,none⟩ v):=by
 have h:Below 0 W (W.setCell ⟨B,i,none⟩ v):=(Below.refl 0 W).setCell (p:=⟨B,i,none⟩) (Nat.zero_le _) v;exact ⟨h.os,h.tape,h.output,h.size,fun k hk hne=>heap_setCell_other W ⟨B,i,none⟩ k v hne⟩
theorem aX_.trans {B:Nat} {A C E:World} (h:aX_ B A C) (k:aX_ B C E):aX_ B A E:=
 ⟨k.os.trans h.os,k.tape.trans h.tape,k.output.trans h.output,Nat.le_trans h.size k.size,fun i hi hne=>(k.block i (Nat.lt_of_lt_of_le hi h.size) hne).trans (h.block i hi hne)⟩
theorem store8 {W W':World} {B:Nat} {v0 v1 v2 v3 v4 v5 v6 v7 u0 u1 u2 u3 u4 u5 u6 u7:Value} {t:TypeId} (h:W.heap[B]? = some (.cells #[v0,v1,v2,v3,v4,v5,v6,v7] t (0,0)))
 (hW:((((((((W.setCell ⟨B,0,none⟩ u0).setCell ⟨B,1,none⟩ u1).setCell ⟨B,2,none⟩ u2).setCell ⟨B,3,none⟩ u3).setCell ⟨B,4,none⟩ u4).setCell ⟨B,5,none⟩ u5).setCell ⟨B,6,none⟩ u6).setCell ⟨B,7,none⟩ u7) = W') :
 W'.heap[B]? = some (.cells #[u0,u1,u2,u3,u4,u5,u6,u7] t (0,0))∧aX_ B W W':=by
 subst hW;have h0:(W.setCell ⟨B,0,none⟩ u0).heap[B]? = some (.cells #[u0,v1,v2,v3,v4,v5,v6,v7] t (0,0)):=scb_ h u0;have h1:((W.setCell ⟨B,0,none⟩ u0).setCell ⟨B,1,none⟩ u1).heap[B]? = some (.cells #[u0,u1,v2,v3,v4,v5,v6,v7] t (0,0)):=scb_ h0 u1;have h2:(((W.setCell ⟨B,0,none⟩ u0).setCell ⟨B,1,none⟩ u1).setCell ⟨B,2,none⟩ u2).heap[B]? = some (.cells #[u0,u1,u2,v3,v4,v5,v6,v7] t (0,0)):=scb_ h1 u2;have h3:((((W.setCell ⟨B,0,none⟩ u0).setCell ⟨B,1,none⟩ u1).setCell ⟨B,2,none⟩ u2).setCell ⟨B,3,none⟩ u3).heap[B]? = some (.cells #[u0,u1,u2,u3,v4,v5,v6,v7] t (0,0)):=scb_ h2 u3;have h4:(((((W.setCell ⟨B,0,none⟩ u0).setCell ⟨B,1,none⟩ u1).setCell ⟨B,2,none⟩ u2).setCell ⟨B,3,none⟩ u3).setCell ⟨B,4,none⟩ u4).heap[B]? = some (.cells #[u0,u1,u2,u3,u4,v5,v6,v7] t (0,0)):=scb_ h3 u4;have h5:((((((W.setCell ⟨B,0,none⟩ u0).setCell ⟨B,1,none⟩ u1).setCell ⟨B,2,none⟩ u2).setCell ⟨B,3,none⟩ u3).setCell ⟨B,4,none⟩ u4).setCell ⟨B,5,none⟩ u5).heap[B]? = some (.cells #[u0,u1,u2,u3,u4,u5,v6,v7] t (0,0)):=scb_ h4 u5
 have h6:(((((((W.setCell ⟨B,0,none⟩ u0).setCell ⟨B,1,none⟩ u1).setCell ⟨B,2,none⟩ u2).setCell ⟨B,3,none⟩ u3).setCell ⟨B,4,none⟩ u4).setCell ⟨B,5,none⟩ u5).setCell ⟨B,6,none⟩ u6).heap[B]? = some (.cells #[u0,u1,u2,u3,u4,u5,u6,v7] t (0,0)):=scb_ h5 u6;have h7:((((((((W.setCell ⟨B,0,none⟩ u0).setCell ⟨B,1,none⟩ u1).setCell ⟨B,2,none⟩ u2).setCell ⟨B,3,none⟩ u3).setCell ⟨B,4,none⟩ u4).setCell ⟨B,5,none⟩ u5).setCell ⟨B,6,none⟩ u6).setCell ⟨B,7,none⟩ u7).heap[B]? = some (.cells #[u0,u1,u2,u3,u4,u5,u6,u7] t (0,0)):=scb_ h6 u7;refine ⟨h7,?_⟩;exact (((((((sct_ _ _ _ _).trans (sct_ _ _ _ _)).trans (sct_ _ _ _ _)).trans (sct_ _ _ _ _)).trans (sct_ _ _ _ _)).trans (sct_ _ _ _ _)).trans (sct_ _ _ _ _)).trans (sct_ _ _ _ _)
def co_ (n:Nat):ab_:=⟨List.replicate n [],[],[],0,0,0,0,0⟩
theorem Tryz.infoLine:(Tryz.prog.info? 46).map (fun i=>(i.zero,i.size,i.bytes)) = some (some (.slice none 0 0),1,24):=by kernel_rfl
theorem ef_ (n:Nat):(madeCells (Value.slice none 0 0).cells (n * 1)).toList = List.replicate n (.slice none 0 0):=by
 apply List.ext_getElem
 ·simp [madeCells]
 ·intro i h1 h2;simp [madeCells,Value.cells,Nat.mod_one]
theorem fY_ {W:World} {base g n:Nat} (h:W.ownsRow base 46 1 (.slice (some ⟨g,0,none⟩) n n) n (List.replicate n (.slice none 0 0))) (hg:g < W.heap.size):bW_ W (some ⟨g,0,none⟩) (List.replicate n []):=by
 refine .inr ⟨g,0,rfl,hg,fun i hi=>⟨none,0,?_,?_,Nat.zero_le _,fun _=>rfl,.inl ?_⟩⟩
 ·have hi':i < n:=by simpa using hi
  rw [Nat.zero_add,h.cellAt i (by omega),List.getElem?_replicate,if_pos hi'];simp
 ·simp
 ·simp
end Go.Proofs.YtlbnkpicnokgoaaGreat
namespace Go.Proofs.YtlbnkpicnokgoaaGreat
open Go.RowKit
set_option linter.unusedVariables false
set_option maxRecDepth 100000
set_option maxHeartbeats 1000000
def Goes (f:FuncId):Prop:=∀ (args:Array Value) (w:World),Sem.run Tryz.prog (callFunc f args) w = .ok (.enter f args) w
theorem e6_ (f:FuncId) (hf:Goes f) (cap:Array Value) (R:Int→World→Prop) (w:World)
 (hdo:Calls Tryz.prog f cap (w.alloc (.cells #[.int .i64 0] 33)) fun e w'=>∃ D,e = askE D∧R D w'∧w'.heap[w.heap.size]? = some (.cells #[.int .i64 0] 33 (0,0))) :
 Calls Tryz.prog 45 #[.func (.func f) #[] cap] w fun e w'=>∃ D w1,e = .returned (.int .i64 D)∧R D w1∧w1.heap[w.heap.size]? = some (.cells #[.int .i64 0] 33 (0,0))∧w' = w1.setCell ⟨w.heap.size,0,none⟩ (.int .i64 D):=by
 have hmf:∀ (fn:Fn) (first cap:Array Value) (w:World),(Instr.makeFunc fn first cap).run Tryz.prog w = .ok (.func fn first cap) w:=fun _ _ _ _=>rfl
 have HDO:=hidI hdo;have hf':∀ (args:Array Value) (w:World),Sem.run Tryz.prog (callFunc f args) w = .ok (.enter f args) w:=hf
 clear hdo hf;go_enter_defers Tryz.func45,Tryz.ntmps45
 go_wp2_with fail
 refine HDO.out.mono ?_;rintro e w2 ⟨D,rfl,hR,hb⟩;have HR:=hidI hR;have HB:=hidI hb;have c0:=coc_ hb 0;have f0:=foc_ hb 0;simp at c0;clear hR hb;by_cases hD:D = 0
 ·subst hD;rw [b9_];unfold okE;go_wp2_with fail
  refine leaves_cons (f:=83) (args:=#[.pointer (some ⟨w.heap.size,0,none⟩)]) (by simp) (by simp [go_sem]) ?_;refine (gv_ w.heap.size _).mono ?_;rintro e u' w'' ⟨rfl,rfl,rfl⟩;have c1:=coc_ (scb_ HB.out (j:=0) (.int .i64 0)) 0;simp at c1;simp [Leaves,settle,results,Tryz.results45,go_sem,c1];exact ⟨w2,HR.out,HB.out,rfl⟩
 ·rw [cS_ hD];unfold panE;go_wp2_with fail
  refine leaves_cons (f:=83) (args:=#[.pointer (some ⟨w.heap.size,0,none⟩)]) (by simp) (by simp [go_sem]) ?_;refine (hd_ w.heap.size D 0 [] _ c0 f0).mono ?_;rintro e u' w'' ⟨rfl,rfl,rfl⟩;have c1:=coc_ (scb_ HB.out (j:=0) (.int .i64 D)) 0;simp at c1;simp [Leaves,settle,results,Tryz.results45,go_sem,c1];exact ⟨w2,HR.out,HB.out,rfl⟩
end Go.Proofs.YtlbnkpicnokgoaaGreat
namespace Go.Proofs.YtlbnkpicnokgoaaGreat
open Go.RowKit Go.Maps
set_option linter.unusedVariables false
set_option maxRecDepth 100000
theorem nJ_ {p:ad_} {s:ab_} (h:stE p s = 0):chkP p = 0∧s.takers.length≤4∧a0_ p.queues.length s.ready = true∧s.takers.all (aI_ p.queues.length) = true∧ap_ s.takers s.nextTag (-1) s.outs = true∧bh_ s = true∧ck_ s = true∧dI_ p s = true∧dJ_ s = true∧cl_ s = true:=by
 unfold stE at h;by_cases h1:chkP p = 0
 ·rw [if_neg (by simp [h1])] at h;by_cases h2:4 < s.takers.length
  ·rw [if_pos h2] at h;cases h
  ·rw [if_neg h2] at h;by_cases h3:bs_ p s = false
   ·rw [if_pos h3] at h;cases h
   ·rw [if_neg h3] at h;by_cases h4:(dI_ p s && dJ_ s) = false
    ·rw [if_pos h4] at h;cases h
    ·rw [if_neg h4] at h;by_cases h5:cl_ s = false
     ·rw [if_pos h5] at h;cases h
     ·simp only [Bool.not_eq_false,Bool.and_eq_true] at h3 h4 h5;unfold bs_ at h3;simp only [Bool.and_eq_true] at h3;exact ⟨h1,by omega,h3.1.1.1.1,h3.1.1.1.2,h3.1.1.2,h3.1.2,h3.2,h4.1,h4.2,h5⟩
 ·rw [if_pos h1] at h;exact absurd h h1
theorem j6_ {ts:List ak_} {nt:Int}:∀ {xs:List OutD} {l:Int},ap_ ts nt l xs = true→∀ o ∈ xs,(0≤o.taker∧o.taker < ts.length)∧∃ t,ts[o.taker.toNat]? = some t∧t.queue≠-1
 | [],_,_,o,ho=>by simp at ho
 | x :: r, l, h, o, ho => by
   unfold ap_ at h;rw [Bool.and_eq_true] at h;rcases List.mem_cons.1 ho with rfl | ho
   ·have h1:=h.1;unfold cL_ as_ at h1;simp only [Bool.and_eq_true,decide_eq_true_eq] at h1;refine ⟨h1.1.1.2,?_⟩;have h2:=h1.1.2;cases ht:ts[o.taker.toNat]? with
    | none=>rw [ht] at h2;cases h2
    | some t=>rw [ht] at h2;simp at h2;exact ⟨t,rfl,h2.1⟩
   ·exact j6_ h.2 o ho
def sumH (s:ab_):Nat→Nat
 | 0=>0
 | k+1=>sumH s k+heldN s (k:Int)
theorem ie_ (k:Nat):∀ xs:List OutD,(xs.filter (fun o=>decide (0≤o.taker∧o.taker < ((k+1:Nat):Int)))).length = (xs.filter (fun o=>decide (0≤o.taker∧o.taker < (k:Int)))).length+(xs.filter (fun o=>decide (o.taker = (k:Int)))).length
 | []=>rfl
 | x :: r => by
   have ih:=ie_ k r;simp only [List.filter_cons];by_cases h1:0≤x.taker∧x.taker < (k:Int)
   ·have h2:0≤x.taker∧x.taker < ((k+1:Nat):Int):=by omega
    have h3:¬ x.taker = (k:Int):=by omega
    simp only [h1,h2,h3,decide_true,decide_false,if_true,Bool.false_eq_true,if_false,List.length_cons,and_self];omega
   ·by_cases h3:x.taker = (k:Int)
    ·have h2:0≤x.taker∧x.taker < ((k+1:Nat):Int):=by omega
     rw [if_pos (decide_eq_true h2),if_neg (by simpa using h1),if_pos (decide_eq_true h3)];simp only [List.length_cons];omega
    ·have h2:¬ (0≤x.taker∧x.taker < ((k+1:Nat):Int)):=by omega
     rw [if_neg (by simpa using h2),if_neg (by simpa using h1),if_neg (by simpa using h3)];exact ih
theorem mO_ (s:ab_):∀ k,sumH s k = (s.outs.filter (fun o=>decide (0≤o.taker∧o.taker < (k:Int)))).length
 | 0 => by
   have:s.outs.filter (fun o=>decide (0≤o.taker∧o.taker < ((0:Nat):Int))) = []:=by
    rw [List.filter_eq_nil_iff];intro o _;simp
   rw [this];rfl
 | k + 1 => by
   rw [ie_];show sumH s k+heldN s k = _;rw [mO_ s k];rfl
theorem nK_ {s:ab_} (h:ap_ s.takers s.nextTag (-1) s.outs = true):sumH s s.takers.length = s.outs.length:=by
 rw [mO_,List.filter_eq_self.2];intro o ho;exact decide_eq_true (j6_ h o ho).1
theorem ob_ (s:ab_) (t:Int):heldN s t≤s.outs.length:=List.length_filter_le _ _
end Go.Proofs.YtlbnkpicnokgoaaGreat
namespace Go.Proofs.YtlbnkpicnokgoaaGreat
set_option linter.unusedVariables false
set_option maxRecDepth 100000
theorem ga_:∀ {xs:List ae_} {last:Int},(∀ x ∈ xs,am_ x = true∧last < x.seq)→xs.Pairwise (fun x y=>x.seq < y.seq)→aK_ last xs = true
 | [],last,_,_=>rfl
 | x :: r, last, h, hp => by
   obtain ⟨h1,h2⟩:=h x (by simp);obtain ⟨h3,h4⟩:=List.pairwise_cons.1 hp;rw [c9_ h1 (by omega)];exact ga_ (fun y hy=>⟨(h y (by simp [hy])).1,h3 y hy⟩) h4
theorem es_:∀ {xs:List ae_} {last:Int},aK_ last xs = true→∀ x ∈ xs,am_ x = true
 | [],last,_,x,hx=>by simp at hx
 | y :: r, last, h, x, hx => by
   unfold aK_ at h;simp only [Bool.and_eq_true,decide_eq_true_eq] at h;rcases List.mem_cons.1 hx with rfl | hx
   ·exact h.1.1
   ·exact es_ h.2 x hx
theorem bv_ {xs:List ae_}:at_ xs = true↔(∀ x ∈ xs,am_ x = true)∧xs.Pairwise (fun x y=>x.seq < y.seq):=
 ⟨fun h=>⟨es_ h,(dv_ h).1⟩,fun h=>ga_ (fun x hx=>⟨h.1 x hx,by have:=gW_ (h.1 x hx);omega⟩) h.2⟩
theorem mk_ {xs:List ae_} {x z:ae_}:z ∈ ay_ xs x↔z = x∨z ∈ xs:=by
 unfold ay_;simp only [List.mem_append,List.mem_singleton];have:z ∈ xs↔z ∈ xs.take (idxSeq x.seq xs)∨z ∈ xs.drop (idxSeq x.seq xs):=by
  conv=>lhs;rw [← List.take_append_drop (idxSeq x.seq xs) xs]
  exact List.mem_append
 rw [this];constructor
 ·rintro ((h | h) | h)
  ·exact .inr (.inl h)
  ·exact .inl h
  ·exact .inr (.inr h)
 ·rintro (h | h | h)
  ·exact .inl (.inr h)
  ·exact .inl (.inl h)
  ·exact .inr h
theorem lb_ {xs:List ae_} {s:Int}:∀ z ∈ xs.take (idxSeq s xs),z.seq < s:=by
 intro z hz;obtain ⟨j,hj,rfl⟩:=List.mem_iff_getElem.1 hz;have hj':j < idxSeq s xs:=by rw [List.length_take] at hj;omega
 obtain ⟨h1,h2⟩:=eP_ hj';rw [List.getElem_take];exact h2
theorem gM_ {xs:List ae_} {s:Int} (hl:at_ xs = true) (hh:bM_ s xs = false):∀ z ∈ xs.drop (idxSeq s xs),s < z.seq:=by
 intro z hz;obtain ⟨j,hj,rfl⟩:=List.mem_iff_getElem.1 hz;rw [List.length_drop] at hj;rw [List.getElem_drop];have h1:idxSeq s xs < xs.length:=by omega
 have h2:=j0_ (s:=s) h1;have h3:xs[idxSeq s xs].seq≠s:=by
  intro e;have:=lB_ hl h1 e;rw [hh] at this;cases this
 rcases Nat.eq_zero_or_pos j with rfl | hj0
 ·simp only [Nat.add_zero];omega
 ·have:=gb_ hl (i:=idxSeq s xs) (j:=idxSeq s xs+j) (by omega) (by omega);omega
theorem dx_ {xs:List ae_} {x:ae_} (hl:at_ xs = true) (hx:am_ x = true) (hh:bM_ x.seq xs = false):at_ (ay_ xs x) = true:=by
 obtain ⟨h1,h2⟩:=bv_.1 hl;refine bv_.2 ⟨fun z hz=>?_,?_⟩
 ·rcases mk_.1 hz with rfl | hz
  ·exact hx
  ·exact h1 z hz
 ·unfold ay_;rw [List.append_assoc,List.pairwise_append];refine ⟨h2.sublist (List.take_sublist _ _),?_,?_⟩
  ·rw [List.singleton_append,List.pairwise_cons];exact ⟨gM_ hl hh,h2.sublist (List.drop_sublist _ _)⟩
  ·intro a ha b hb;have h3:=lb_ a ha;rcases List.mem_append.1 hb with hb | hb
   ·simp at hb;subst hb;exact h3
   ·have:=gM_ hl hh b hb;omega
theorem oa_ {xs:List ae_} {s:Int} (hl:at_ xs = true):bM_ s xs = true↔∃ z ∈ xs,z.seq = s:=by
 constructor
 ·intro h;unfold bM_ at h;cases he:xs[idxSeq s xs]? with
  | none=>rw [he] at h;simp at h
  | some z=>rw [he] at h;exact ⟨z,List.mem_of_getElem? he,by simpa using h⟩
 ·rintro ⟨z,hz,hs⟩;obtain ⟨j,hj,rfl⟩:=List.mem_iff_getElem.1 hz;exact lB_ hl hj hs
end Go.Proofs.YtlbnkpicnokgoaaGreat
namespace Go.Proofs.YtlbnkpicnokgoaaGreat
open Go.RowKit Go.Maps
set_option linter.unusedVariables false
set_option maxRecDepth 100000
def af_ (s:ab_) (q:Nat):List ae_:=s.ready.getD q []
def qAt (p:ad_) (q:Nat):bd_:=p.queues.getD q ⟨⟨#[]⟩,0,0⟩
structure aj_ (p:ad_) (s:ab_) (n:Int):Prop where
 pl:chkP p = 0
 tk:s.takers.length≤4
 len:s.ready.length = p.queues.length
 line:∀ l ∈ s.ready,at_ l = true
 tok:∀ t ∈ s.takers,aI_ p.queues.length t = true
 outs:ap_ s.takers s.nextTag (-1) s.outs = true
 ns:0≤s.nextSeq∧s.nextSeq≤1048576
 nt:0≤s.nextTag∧s.nextTag≤1048576
 ak:0≤s.acked
 dr:0≤s.dropped
 nodup:(ar_ s).Nodup
 lt:∀ z ∈ ar_ s,z < s.nextSeq
 room:∀ q,q < s.ready.length→((af_ s q).length:Int)≤(qAt p q).limit
 hold:∀ k,k < s.takers.length→(heldN s k:Int)≤(s.takers.getD k ⟨0,0⟩).most
 sum:s.came = (ar_ s).length+n+s.acked+s.dropped
 cs:s.came = s.nextSeq
theorem aM_ {p:ad_} {s:ab_} (h:stE p s = 0):aj_ p s 0:=by
 obtain ⟨g1,g2,g3,g4,g5,g6,g7,g8,g9,g10⟩:=nJ_ h;unfold a0_ at g3;simp only [Bool.and_eq_true,decide_eq_true_eq,List.all_eq_true] at g3;unfold bh_ a3_ at g6;simp only [Bool.and_eq_true,decide_eq_true_eq] at g6;unfold ck_ at g7;simp only [Bool.and_eq_true,decide_eq_true_eq,List.all_eq_true] at g7;unfold cl_ at g10;simp only [Bool.and_eq_true,decide_eq_true_eq] at g10;refine ⟨g1,g2,g3.1,g3.2,List.all_eq_true.1 g4,g5,g6.1.1.1.1,g6.1.1.1.2,g6.1.2.1,g6.2.1,g7.1,g7.2,fun q hq=>?_,fun k hk=>?_,by omega,g10.2⟩
 ·have:=List.all_eq_true.1 g8 q (List.mem_range.2 hq);rw [decide_eq_true_eq] at this;exact this
 ·have:=List.all_eq_true.1 g9 k (List.mem_range.2 hk);rw [decide_eq_true_eq] at this;exact this
theorem aj_.ok {p:ad_} {s:ab_} (h:aj_ p s 0):stE p s = 0:=by
 have hcnt:bh_ s = true:=by
  unfold bh_ a3_;simp only [Bool.and_eq_true,decide_eq_true_eq];have h1:=h.ns;have h2:=h.nt;have h3:=h.ak;have h4:=h.dr;have h5:=h.sum;have h6:=h.cs;refine ⟨⟨⟨⟨h1,h2⟩,?_⟩,?_⟩,?_⟩ <;> omega
 have hf:bs_ p s = true:=by
  unfold bs_;simp only [Bool.and_eq_true];refine ⟨⟨⟨⟨?_,?_⟩,h.outs⟩,hcnt⟩,?_⟩
  ·unfold a0_;simp only [Bool.and_eq_true,decide_eq_true_eq,List.all_eq_true];exact ⟨h.len,h.line⟩
  ·exact List.all_eq_true.2 h.tok
  ·unfold ck_;simp only [Bool.and_eq_true,decide_eq_true_eq,List.all_eq_true];exact ⟨h.nodup,h.lt⟩
 have h1:dI_ p s = true:=List.all_eq_true.2 (fun q hq=>decide_eq_true (h.room q (List.mem_range.1 hq)));have h2:dJ_ s = true:=List.all_eq_true.2 (fun k hk=>decide_eq_true (h.hold k (List.mem_range.1 hk)));have h3:cl_ s = true:=by
  unfold cl_;simp only [Bool.and_eq_true,decide_eq_true_eq];exact ⟨by have:=h.sum;omega,h.cs⟩
 unfold stE;rw [if_neg (by simp [h.pl]),if_neg (by have:=h.tk;omega),hf,h1,h2,h3];rfl
theorem aj_.rp {p:ad_} {s:ab_} {n:Int} (h:aj_ p s n):by_ p:=a1_ h.pl
theorem iJ_ {α:Type} {xs:List α} {q:Nat} (h:q < xs.length) (y:α):xs = xs.take q ++ xs[q] :: xs.drop (q+1)∧xs.set q y = xs.take q ++ y :: xs.drop (q+1):=by
 refine ⟨?_,List.set_eq_take_append_cons_drop.trans (if_pos h)⟩;conv=>lhs;rw [← List.take_append_drop q xs]
 rw [List.drop_eq_getElem_cons h]
theorem hv_ {β:Type} (f:List ae_→List β) {xs:List (List ae_)} {q:Nat} (h:q < xs.length) (y:List ae_):∃ A B,xs.flatMap f = A ++ f xs[q] ++ B∧(xs.set q y).flatMap f = A ++ f y ++ B:=by
 obtain ⟨h1,h2⟩:=iJ_ h y;refine ⟨(xs.take q).flatMap f,(xs.drop (q+1)).flatMap f,?_,?_⟩
 ·have e:=congrArg (List.flatMap f) h1;rw [List.flatMap_append,List.flatMap_cons,← List.append_assoc] at e;exact e
 ·rw [h2,List.flatMap_append,List.flatMap_cons,← List.append_assoc]
theorem a4_ {s:ab_} {q:Nat} (h:q < s.ready.length):af_ s q = s.ready[q]:=by unfold af_;rw [List.getD_eq_getElem?_getD,List.getElem?_eq_getElem h];rfl
theorem ba_ {s:ab_} {q:Nat} (h:q < s.ready.length):af_ s q ∈ s.ready:=by rw [a4_ h];exact List.getElem_mem h
theorem k7_ (s:ab_) {q:Nat} (h:q < s.ready.length) (y:List ae_):∃ A B,ar_ s = A ++ (af_ s q).map ae_.seq ++ B∧ar_ { s with ready:=s.ready.set q y } = A ++ y.map ae_.seq ++ B:=by
 obtain ⟨A,B,h1,h2⟩:=hv_ (fun l=>l.map ae_.seq) h y;refine ⟨A,B ++ s.outs.map (fun o=>o.item.seq),?_,?_⟩
 ·unfold ar_;rw [h1,a4_ h];simp
 ·unfold ar_;simp only;rw [h2];simp
theorem gZ_ {s:ab_} {q r:Nat} (h:q < s.ready.length) (y:List ae_) (d:Int):af_ { s with ready:=s.ready.set q y,dropped:=d } r = if r = q then y else af_ s r:=by
 unfold af_;simp only;rw [List.getD_eq_getElem?_getD,List.getElem?_set,List.getD_eq_getElem?_getD];by_cases e:q = r
 ·subst e;rw [if_pos rfl,if_pos h,if_pos rfl];rfl
 ·rw [if_neg e,if_neg (fun h=>e h.symm)]
theorem bz_ {x:ae_} (h:am_ x = true):0≤x.seq∧x.seq < 1048576∧kerr x.key.data.toList = 0∧x.body.size≤12∧0≤x.deaths∧x.deaths≤2:=by
 unfold am_ bN_ at h;simp at h;omega
theorem f8_ {x:ae_} (h1:0≤x.seq) (h2:x.seq < 1048576) (h3:kerr x.key.data.toList = 0) (h4:x.body.size≤12) (h5:0≤x.deaths) (h6:x.deaths≤2):am_ x = true:=by
 unfold am_ bN_;simp;omega
theorem eC_ {p:ad_} {q:Nat} (h:q < p.queues.length):qAt p q = p.queues[q]:=by unfold qAt;rw [List.getD_eq_getElem?_getD,List.getElem?_eq_getElem h];rfl
theorem aj_.line6 {p:ad_} {s:ab_} {n:Int} (h:aj_ p s n) {l:List ae_} (hl:l ∈ s.ready):l.length≤6:=by
 obtain ⟨q,hq,rfl⟩:=List.mem_iff_getElem.1 hl;have h1:=h.room q hq;rw [a4_ hq] at h1;have hq':q < p.queues.length:=by rw [← h.len];exact hq
 have h2:=h.rp.queues _ (List.getElem_mem hq');rw [eC_ hq'] at h1;omega
end Go.Proofs.YtlbnkpicnokgoaaGreat
namespace Go.Proofs.YtlbnkpicnokgoaaGreat
open Go.RowKit
set_option linter.unusedVariables false
set_option maxRecDepth 100000
def ev_ (W:World) (n:Nat) (b:Option Addr):Prop:=b = none∨∃ g o cur,b = some ⟨g,o,none⟩∧n≤g∧W.heap[g]? = some (.cells cur 48 (0,0))
structure cJ_ (W:World) (n:Nat) (xs:List ae_) (v:Value) (b:Option Addr) (c:Nat):Prop where
 v:v = .slice b xs.length c
 le:xs.length≤c
 cm:c≤maxLen
 nil:b = none→c = 0
 it:ai_ W b xs
 own:ev_ W n b
structure cB_ (W:World) (n:Nat) (xss:List (List ae_)) (vs:List Value):Prop where
 len:vs.length = xss.length
 get:∀ i (h:i < xss.length),∃ v b c,vs[i]? = some v∧cJ_ W n xss[i] v b c
structure aP_ (W:World) (n:Nat) (b1 b2 b3:Option Addr) (m1 d1 m2 d2 m3 d3:Nat) (s:ab_):Prop where
 l1:s.ready.length = m1
 l2:s.outs.length = m2
 l3:s.takers.length = m3
 x2:m2≤100000000
 r1:∃ vs,W.ownsRow n 46 1 (.slice b1 m1 d1) m1 vs∧cB_ W n s.ready vs
 r2:W.ownsRow n 67 8 (.slice b2 m2 d2) m2 (ah_ s.outs)
 r3:W.ownsRow n 69 2 (.slice b3 m3 d3) m3 (tkC_ s.takers)
structure ac_ (n t:Nat) (W W':World):Prop where
 os:W'.os = W.os
 tape:W'.tape = W.tape
 output:W'.output = W.output
 size:W.heap.size≤W'.heap.size
 block:∀ k,k < n→k≠t→W'.heap[k]? = W.heap[k]?
theorem ac_.refl (n t:Nat) (W:World):ac_ n t W W:=⟨rfl,rfl,rfl,Nat.le_refl _,fun _ _ _=>rfl⟩
theorem ac_.trans {n t:Nat} {A B C:World} (h:ac_ n t A B) (k:ac_ n t B C):ac_ n t A C:=
 ⟨k.os.trans h.os,k.tape.trans h.tape,k.output.trans h.output,Nat.le_trans h.size k.size,fun i h1 h2=>(k.block i h1 h2).trans (h.block i h1 h2)⟩
theorem ac_.of_below {n m t:Nat} {A B:World} (h:Below m A B) (hn:n≤m):ac_ n t A B:=⟨h.os,h.tape,h.output,h.size,fun k h1 _=>h.block k (by omega)⟩
theorem ac_.below {n m t:Nat} {A B:World} (h:ac_ n t A B) (hn:m≤n) (ht:m≤t):Below m A B:=⟨h.os,h.tape,h.output,h.size,fun k h1=>h.block k (by omega) (by omega)⟩
theorem ac_.setCell {n t:Nat} {A B:World} (h:ac_ n t A B) {p:Addr} (hp:n≤p.block∨p.block = t) (u:Value):ac_ n t A (B.setCell p u):=
 h.trans ⟨rfl,rfl,rfl,by simp [World.setCell],fun k h1 h2=>Below.heap_setCell _ _ _ _ (by omega)⟩
theorem ac_.grown {n t:Nat} {A B C:World} {row:Option Nat} (h:ac_ n t A B) (hg:B.grownBy C row) (hn:n≤B.heap.size) (hr:∀ k,row = some k→n≤k):ac_ n t A C:=
 h.trans ⟨hg.os,hg.tape,hg.output,hg.size,fun k h1 h2=>hg.block k (by omega) (fun e=>by have:=hr k e.symm;omega)⟩
theorem ev_.keep {W W':World} {n:Nat} {b:Option Addr} (h:ev_ W n b) (hB:Below W.heap.size W W'):ev_ W' n b:=by
 rcases h with h | ⟨g,o,cur,h1,h2,h3⟩
 ·exact .inl h
 ·exact .inr ⟨g,o,cur,h1,h2,pkp_ h3 hB⟩
theorem cJ_.keep {W W':World} {n:Nat} {xs:List ae_} {v:Value} {b:Option Addr} {c:Nat} (h:cJ_ W n xs v b c) (hB:Below W.heap.size W W'):cJ_ W' n xs v b c:=⟨h.v,h.le,h.cm,h.nil,h.it.keep hB,h.own.keep hB⟩
theorem cB_.keep {W W':World} {n:Nat} {xss:List (List ae_)} {vs:List Value} (h:cB_ W n xss vs) (hB:Below W.heap.size W W'):cB_ W' n xss vs:=
 ⟨h.len,fun i hi=>by obtain ⟨v,b,c,h1,h2⟩:=h.get i hi;exact ⟨v,b,c,h1,h2.keep hB⟩⟩
theorem aP_.keep {W W':World} {n:Nat} {b1 b2 b3:Option Addr} {m1 d1 m2 d2 m3 d3:Nat} {s:ab_} (h:aP_ W n b1 b2 b3 m1 d1 m2 d2 m3 d3 s) (hB:Below W.heap.size W W'):aP_ W' n b1 b2 b3 m1 d1 m2 d2 m3 d3 s:=by
 obtain ⟨vs,h1,h2⟩:=h.r1;exact ⟨h.l1,h.l2,h.l3,h.x2,⟨vs,cp2_ h1 hB,h2.keep hB⟩,cp2_ h.r2 hB,cp2_ h.r3 hB⟩
theorem ev_.lower {W:World} {n n':Nat} {b:Option Addr} (h:ev_ W n b) (hn:n'≤n):ev_ W n' b:=by
 rcases h with h | ⟨g,o,cur,h1,h2,h3⟩
 ·exact .inl h
 ·exact .inr ⟨g,o,cur,h1,by omega,h3⟩
theorem cB_.lower {W:World} {n n':Nat} {xss:List (List ae_)} {vs:List Value} (h:cB_ W n xss vs) (hn:n'≤n):cB_ W n' xss vs:=
 ⟨h.len,fun i hi=>by obtain ⟨v,b,c,h1,h2⟩:=h.get i hi;exact ⟨v,b,c,h1,h2.v,h2.le,h2.cm,h2.nil,h2.it,h2.own.lower hn⟩⟩
theorem aP_.lower {W:World} {n n':Nat} {b1 b2 b3:Option Addr} {m1 d1 m2 d2 m3 d3:Nat} {s:ab_} (h:aP_ W n b1 b2 b3 m1 d1 m2 d2 m3 d3 s) (hn:n'≤n):aP_ W n' b1 b2 b3 m1 d1 m2 d2 m3 d3 s:=by
 obtain ⟨vs,h1,h2⟩:=h.r1;exact ⟨h.l1,h.l2,h.l3,h.x2,⟨vs,bn_ h1 hn,h2.lower hn⟩,bn_ h.r2 hn,bn_ h.r3 hn⟩
theorem dC_ {W:World} {base:Nat} {T:TypeId} {size:Nat} {a:Option Addr} {n c:Nat} {cs:List Value} (h:W.ownsRow base T size (.slice a n c) n cs):aJ_ W a cs:=by
 obtain ⟨a',c',e,_,_,_,hr⟩:=aD_ h;cases e;exact hr
theorem eW_ {W:World} {base:Nat} {T:TypeId} {size:Nat} {a:Option Addr} {n c:Nat} {cs:List Value} (h:W.ownsRow base T size (.slice a n c) n cs):n≤c∧c≤maxLen∧(a = none→c = 0∧n = 0):=by
 obtain ⟨a',c',e,h1,h2,h3,hr⟩:=aD_ h;cases e;exact ⟨h1,h2,h3⟩
theorem cB_.at {W:World} {n:Nat} {xss:List (List ae_)} {vs:List Value} (h:cB_ W n xss vs) {a:Option Addr} (hr:aJ_ W a vs):bW_ W a xss:=by
 rcases hr with hr | ⟨g,o,ha,hg,hr⟩
 ·refine .inl (List.length_eq_zero_iff.1 ?_);have:=h.len;rw [hr] at this;simpa using this.symm
 ·refine .inr ⟨g,o,ha,hg,fun i hi=>?_⟩;obtain ⟨v,b,c,h1,h2⟩:=h.get i hi;exact ⟨b,c,by rw [hr _ _ h1,h2.v],h2.le,h2.cm,h2.nil,h2.it⟩
theorem aP_.state {W:World} {n:Nat} {b1 b2 b3:Option Addr} {m1 d1 m2 d2 m3 d3:Nat} {s:ab_} (h:aP_ W n b1 b2 b3 m1 d1 m2 d2 m3 d3 s):an_ W b1 b2 b3 m1 m2 m3 s:=by
 obtain ⟨vs,h1,h2⟩:=h.r1;have g1:=eW_ h1;have g3:=eW_ h.r3;have:=h.x2;exact ⟨h.l1,h.l2,h.l3,by omega,by omega,by omega,h2.at (dC_ h1),da_.2 (dC_ h.r2),b6_.2 (dC_ h.r3)⟩
theorem e0_ {W:World} {base:Nat} {T T':TypeId} {size:Nat} {v:Value} {n:Nat} {cs:List Value} (h:W.ownsRow base T size v n cs) {B:Nat} {cur:Array Value} (hB:W.heap[B]? = some (.cells cur T' (0,0))) (hT:T≠T'):v.ownBlock≠some B:=by
 intro e;rcases h.2 with ⟨rfl,_⟩ | ⟨g,cap,cur',rfl,_,hg,_⟩
 ·cases e
 ·have:g = B:=by simpa [Value.ownBlock] using e
  subst this;rw [hg] at hB;cases hB;exact hT rfl
theorem cj_ {W W':World} {base:Nat} {T:TypeId} {size:Nat} {v:Value} {n:Nat} {cs:List Value} (h:W.ownsRow base T size v n cs) (hk:∀ k,v.ownBlock = some k→W'.heap[k]? = W.heap[k]?):W'.ownsRow base T size v n cs:=by
 refine ⟨h.1,?_⟩;rcases h.2 with h | ⟨g,cap,cur,h1,h2,h3,h4⟩
 ·exact .inl h
 ·exact .inr ⟨g,cap,cur,h1,h2,(hk g (by rw [h1];rfl)).trans h3,h4⟩
theorem aJ_.keepBut {W W':World} {a:Option Addr} {cs:List Value} (h:aJ_ W a cs) (hs:W.heap.size≤W'.heap.size) (hk:∀ g o,a = some ⟨g,o,none⟩→W'.heap[g]? = W.heap[g]?):aJ_ W' a cs:=by
 rcases h with h | ⟨g,o,ha,hg,h⟩
 ·exact .inl h
 ·exact .inr ⟨g,o,ha,Nat.lt_of_lt_of_le hg hs,fun j u hj=>(World.cell?_of_block (w:=W) (a:=⟨g,o+j,none⟩) (hk g o ha)).trans (h j u hj)⟩
structure dN_ (n:Nat) (W W':World):Prop where
 size:W.heap.size≤W'.heap.size
 block:∀ g cur,n≤g→W.heap[g]? = some (.cells cur 48 (0,0))→W'.heap[g]? = W.heap[g]?
theorem dN_.of_below {n:Nat} {W W':World} (h:Below W.heap.size W W'):dN_ n W W':=⟨h.size,fun g cur _ hg=>h.block g (lth_ hg)⟩
theorem dN_.setCell {n:Nat} {W:World} {B i:Nat} {cur:Array Value} {T:TypeId} (hB:W.heap[B]? = some (.cells cur T (0,0))) (hT:T≠48) (u:Value):dN_ n W (W.setCell ⟨B,i,none⟩ u):=
 ⟨by simp [World.setCell],fun g cur' _ hg=>heap_setCell_other _ _ _ _ (fun e=>by
  have e':g = B:=e;rw [e',hB] at hg;cases hg;exact hT rfl)⟩
theorem cJ_.keepT {W W':World} {n:Nat} {xs:List ae_} {v:Value} {b:Option Addr} {c:Nat} (h2:cJ_ W n xs v b c) (hk:dN_ n W W'):cJ_ W' n xs v b c:=by
 refine ⟨h2.v,h2.le,h2.cm,h2.nil,?_,?_⟩
 ·refine cd_.2 ((cd_.1 h2.it).keepBut hk.size fun g o ha=>?_);rcases h2.own with e | ⟨g',o',cur,e,e2,e3⟩
  ·rw [e] at ha;cases ha
  ·rw [e] at ha;cases ha;exact hk.block g cur e2 e3
 ·rcases h2.own with e | ⟨g',o',cur,e,e2,e3⟩
  ·exact .inl e
  ·exact .inr ⟨g',o',cur,e,e2,(hk.block g' cur e2 e3).trans e3⟩
theorem cB_.keepT {W W':World} {n:Nat} {xss:List (List ae_)} {vs:List Value} (h:cB_ W n xss vs) (hk:dN_ n W W'):cB_ W' n xss vs:=by
 refine ⟨h.len,fun i hi=>?_⟩;obtain ⟨v,b,c,h1,h2⟩:=h.get i hi;exact ⟨v,b,c,h1,h2.keepT hk⟩
theorem a7_ {W:World} {base:Nat} {T:TypeId} {size g n c:Nat} {cs:List Value} (h:W.ownsRow base T size (.slice (some ⟨g,0,none⟩) n c) n cs):base≤g∧∃ cur,W.heap[g]? = some (.cells cur T (0,0)):=by
 rcases h.2 with ⟨e,_⟩ | ⟨g2,cap,cur,e,hb,hg,_⟩
 ·cases e
 ·cases e;exact ⟨hb,cur,hg⟩
theorem dN_.row {W:World} {base n:Nat} {T:TypeId} {size g m c:Nat} {cs:List Value} (h:W.ownsRow base T size (.slice (some ⟨g,0,none⟩) m c) m cs) (hT:T≠48) (i:Nat) (u:Value):dN_ n W (W.setCell ⟨g,i,none⟩ u):=by
 obtain ⟨_,cur,hg⟩:=a7_ h;exact dN_.setCell hg hT u
end Go.Proofs.YtlbnkpicnokgoaaGreat
namespace Go.Proofs.YtlbnkpicnokgoaaGreat
open Go.RowKit Go.Maps
set_option linter.unusedVariables false
set_option maxRecDepth 100000
set_option maxHeartbeats 4000000
def OwV (W:World) (n:Nat) (v:Value) (s:ab_):Prop:=∃ b1 b2 b3 m1 d1 m2 d2 m3 d3,v = .agg #[.slice b1 m1 d1,.slice b2 m2 d2,.slice b3 m3 d3,.int .i64 s.nextSeq,.int .i64 s.nextTag,.int .i64 s.came,.int .i64 s.acked,.int .i64 s.dropped]∧aP_ W n b1 b2 b3 m1 d1 m2 d2 m3 d3 s
theorem OwV.keep {W W':World} {n:Nat} {v:Value} {s:ab_} (h:OwV W n v s) (hB:Below W.heap.size W W'):OwV W' n v s:=by
 obtain ⟨b1,b2,b3,m1,d1,m2,d2,m3,d3,h1,h2⟩:=h;exact ⟨b1,b2,b3,m1,d1,m2,d2,m3,d3,h1,h2.keep hB⟩
theorem OwV.lower {W:World} {n n':Nat} {v:Value} {s:ab_} (h:OwV W n v s) (hn:n'≤n):OwV W n' v s:=by
 obtain ⟨b1,b2,b3,m1,d1,m2,d2,m3,d3,h1,h2⟩:=h;exact ⟨b1,b2,b3,m1,d1,m2,d2,m3,d3,h1,h2.lower hn⟩
theorem aP_.nils {W:World} {n:Nat} {b1 b2 b3:Option Addr} {m1 d1 m2 d2 m3 d3:Nat} {s:ab_} (h:aP_ W n b1 b2 b3 m1 d1 m2 d2 m3 d3 s):(b2 = none→d2 = 0)∧(b3 = none→d3 = 0):=
 ⟨fun e=>((eW_ h.r2).2.2 e).1,fun e=>((eW_ h.r3).2.2 e).1⟩
theorem h6_ (xs:List ae_) (a:Option Addr) (n c:Nat) (w:World) (hn:(al_ xs).length = n * 5) (hb:n≤100000000) (hz:a = none→c = 0∧n = 0) (hp:aJ_ w a (al_ xs)) :
 Calls Tryz.prog 158 #[.slice a n c] w fun e w'=>∃ v,e = .returned v∧w'.ownsRow w.heap.size 48 5 v n (al_ xs)∧Below w.heap.size w w':=by
 have HN:=hidI hn;have HP:=hidI hp;have HZ:=hidI hz;clear hn hp hz;go_enter Tryz.func158,Tryz.ntmps158;go_wp2_with (at_builtin;refine aV_ fK_ (by kernel_rfl) _ _ rfl w.heap.size (.slice none 0 0) 0 [] rfl (World.ownsRow_nil _ _ _ _) a n c (al_ xs) rfl HN.out HZ.out HP.out (cc_ xs) (by unfold maxLen;omega) (by omega) (Nat.le_refl _) ?_;intro v' w3 hown3 hgrow3 hblk)
 go_ret
 exact ⟨v',rfl,by simpa using hown3,(Below.refl _ _).grown hgrow3 (Nat.le_refl _) (by simp [Value.ownBlock])⟩
theorem i1_ (xs:List OutD) (a:Option Addr) (n c:Nat) (w:World) (hn:(ah_ xs).length = n * 8) (hb:n≤100000000) (hz:a = none→c = 0∧n = 0) (hp:aJ_ w a (ah_ xs)) :
 Calls Tryz.prog 159 #[.slice a n c] w fun e w'=>∃ v,e = .returned v∧w'.ownsRow w.heap.size 67 8 v n (ah_ xs)∧Below w.heap.size w w':=by
 have HN:=hidI hn;have HP:=hidI hp;have HZ:=hidI hz;clear hn hp hz;go_enter Tryz.func159,Tryz.ntmps159;go_wp2_with (at_builtin;refine aV_ ez_ (by kernel_rfl) _ _ rfl w.heap.size (.slice none 0 0) 0 [] rfl (World.ownsRow_nil _ _ _ _) a n c (ah_ xs) rfl HN.out HZ.out HP.out (bB_ xs) (by unfold maxLen;omega) (by omega) (Nat.le_refl _) ?_;intro v' w3 hown3 hgrow3 hblk)
 go_ret
 exact ⟨v',rfl,by simpa using hown3,(Below.refl _ _).grown hgrow3 (Nat.le_refl _) (by simp [Value.ownBlock])⟩
theorem ho_ (xs:List ak_) (a:Option Addr) (n c:Nat) (w:World) (hn:(tkC_ xs).length = n * 2) (hb:n≤100000000) (hz:a = none→c = 0∧n = 0) (hp:aJ_ w a (tkC_ xs)) :
 Calls Tryz.prog 160 #[.slice a n c] w fun e w'=>∃ v,e = .returned v∧w'.ownsRow w.heap.size 69 2 v n (tkC_ xs)∧Below w.heap.size w w':=by
 have HN:=hidI hn;have HP:=hidI hp;have HZ:=hidI hz;clear hn hp hz;go_enter Tryz.func160,Tryz.ntmps160;go_wp2_with (at_builtin;refine aV_ eM_ (by kernel_rfl) _ _ rfl w.heap.size (.slice none 0 0) 0 [] rfl (World.ownsRow_nil _ _ _ _) a n c (tkC_ xs) rfl HN.out HZ.out HP.out (cA_ xs) (by unfold maxLen;omega) (by omega) (Nat.le_refl _) ?_;intro v' w3 hown3 hgrow3 hblk)
 go_ret
 exact ⟨v',rfl,by simpa using hown3,(Below.refl _ _).grown hgrow3 (Nat.le_refl _) (by simp [Value.ownBlock])⟩
theorem eA_ (q:Int) (b:ByteArray) (w:World) :
 Calls Tryz.prog 81 #[.int .i64 q,.string b] w fun e w'=>e = .returned (.agg #[.int .i64 q,.string ⟨#[120,46,121]⟩,.string b,.bool false,.int .i64 0])∧Below w.heap.size w w':=by
 go_enter Tryz.func81,Tryz.ntmps81;go_wp2
 exact bodyPost_ret (v:=.agg #[.int .i64 q,.string ⟨#[120,46,121]⟩,.string b,.bool false,.int .i64 0]) (by simp [results,Tryz.results81,go_sem]) rfl ⟨rfl,(by repeat (first | exact Below.refl _ _ | assumption | refine Below.drew ?_ | refine Below.alloc ?_ (by first | (simp;done) | (simp;omega) | omega) _ | refine Below.setCell ?_ (by first | (simp;done) | (simp;omega) | omega) _))⟩
theorem cm_ (w W:World) (A B:Obj) (h:W = (w.alloc A).alloc B):W.heap.size = w.heap.size+2∧W.heap[w.heap.size]? = some A∧W.heap[w.heap.size+1]? = some B∧Below w.heap.size w W:=by
 subst h;have hB:=World.alloc_heap_new (w.alloc A) B;simp only [World.size_alloc] at hB;refine ⟨by simp only [World.size_alloc],?_,hB,((Below.refl _ _).alloc (Nat.le_refl _) _).alloc (by simp) _⟩;rw [Below.heap_alloc _ _ _ (by simp only [World.size_alloc];omega)];exact World.alloc_heap_new w A
def oC_:List ae_:=[⟨2,⟨#[120,46,121]⟩,⟨#[116,119,111]⟩,false,0⟩,⟨3,⟨#[120,46,121]⟩,⟨#[116,104,114,101,101]⟩,false,0⟩]
def oD_ (o:OutD) (t0 t1:ak_) (ak:Int):ab_:=⟨[oC_,[],[]],[o],[t0,t1],4,6,4,ak,0⟩
def bOut (q:Int):OutD:=⟨5,1,0,⟨q,⟨#[120,46,121]⟩,⟨#[111,110,101]⟩,false,0⟩⟩
structure le_ (W:World) (gI gR gO gT:Nat) (o:OutD) (t0 t1:ak_):Prop where
 i:W.heap[gI]? = some (.cells #[.int .i64 2,.string ⟨#[120,46,121]⟩,.string ⟨#[116,119,111]⟩,.bool false,.int .i64 0,.int .i64 3,.string ⟨#[120,46,121]⟩,.string ⟨#[116,104,114,101,101]⟩,.bool false,.int .i64 0] 48 (0,0))
 r:W.heap[gR]? = some (.cells #[.slice (some ⟨gI,0,none⟩) 2 2,.slice none 0 0,.slice none 0 0] 46 (0,0))
 o:W.heap[gO]? = some (.cells #[.int .i64 o.tag,.int .i64 o.taker,.int .i64 o.queue,.int .i64 o.item.seq,.string o.item.key,.string o.item.body,.bool o.item.again,.int .i64 o.item.deaths] 67 (0,0))
 t:W.heap[gT]? = some (.cells #[.int .i64 t0.queue,.int .i64 t0.most,.int .i64 t1.queue,.int .i64 t1.most] 69 (0,0))
theorem le_.state {W:World} {gI gR gO gT:Nat} {o:OutD} {t0 t1:ak_} (h:le_ W gI gR gO gT o t0 t1) (ak:Int):an_ W (some ⟨gR,0,none⟩) (some ⟨gO,0,none⟩) (some ⟨gT,0,none⟩) 3 1 2 (oD_ o t0 t1 ak):=by
 refine ⟨rfl,rfl,rfl,by unfold maxLen;omega,by omega,by unfold maxLen;omega,?_,?_,?_⟩
 ·refine .inr ⟨gR,0,rfl,lth_ h.r,fun i hi=>?_⟩;have hi3:i < 3:=hi;have hit:ai_ W (some ⟨gI,0,none⟩) oC_:=by
   refine .inr ⟨gI,0,rfl,lth_ h.i,fun j hj=>?_⟩;have hj2:j < 2:=hj;match j,hj2 with
   | 0,_=>exact ⟨coc_ h.i 0,coc_ h.i 1,coc_ h.i 2,coc_ h.i 3,coc_ h.i 4⟩
   | 1,_=>exact ⟨coc_ h.i 5,coc_ h.i 6,coc_ h.i 7,coc_ h.i 8,coc_ h.i 9⟩
  match i,hi3 with
  | 0,_=>exact ⟨some ⟨gI,0,none⟩,2,coc_ h.r 0,Nat.le_refl _,by unfold maxLen;omega,(fun e=>by cases e),hit⟩
  | 1,_=>exact ⟨none,0,coc_ h.r 1,Nat.le_refl _,by unfold maxLen;omega,fun _=>rfl,.inl rfl⟩
  | 2,_=>exact ⟨none,0,coc_ h.r 2,Nat.le_refl _,by unfold maxLen;omega,fun _=>rfl,.inl rfl⟩
 ·refine .inr ⟨gO,0,rfl,lth_ h.o,fun i hi=>?_⟩;have hi1:i < 1:=hi;match i,hi1 with
  | 0,_=>exact ⟨coc_ h.o 0,coc_ h.o 1,coc_ h.o 2,coc_ h.o 3,coc_ h.o 4,coc_ h.o 5,coc_ h.o 6,coc_ h.o 7⟩
 ·refine .inr ⟨gT,0,rfl,lth_ h.t,fun i hi=>?_⟩;have hi2:i < 2:=hi;match i,hi2 with
  | 0,_=>exact ⟨coc_ h.t 0,coc_ h.t 1⟩
  | 1,_=>exact ⟨coc_ h.t 2,coc_ h.t 3⟩
theorem m0_ (w:World):Calls Tryz.prog 43 #[] w fun e w'=>∃ gI gR gO gT,e = .returned (.agg #[.slice (some ⟨gR,0,none⟩) 3 3,.slice (some ⟨gO,0,none⟩) 1 1,.slice (some ⟨gT,0,none⟩) 2 2,.int .i64 4,.int .i64 6,.int .i64 4,.int .i64 1,.int .i64 0])∧le_ w' gI gR gO gT (bOut 1) ⟨-1,1⟩ ⟨0,2⟩∧(w.heap.size≤gI∧w.heap.size≤gR∧w.heap.size≤gO∧w.heap.size≤gT)∧(gI≠gO∧gR≠gO∧gT≠gO∧gI≠gT∧gR≠gT)∧Below w.heap.size w w':=by
 obtain ⟨W0,hW0,hB0,hs0,hbx⟩:=dz_ w #[.slice none 0 0,.slice none 0 0,.slice none 0 0,.int .i64 0,.int .i64 0,.int .i64 0,.int .i64 0,.int .i64 0];have HW0:=hidI hW0;have BX:=hidI hbx;have s0:=hB0.size;have hs0':w.heap.size < W0.heap.size:=by omega
 clear hW0 hbx hs0;go_enter Tryz.func43,Tryz.ntmps43;go_wp2_with fail
 rw [← HW0.out];refine (eA_ _ _ _).mono ?_;rintro e w1 ⟨rfl,k1⟩;go_wp2_with fail
 refine (eA_ _ _ _).mono ?_;rintro e w2 ⟨rfl,k2'⟩;have k2:=k1.trans (k2'.mono k1.size);have s2:=k2.size;obtain ⟨W4,hW4⟩:∃ W4,W4 = (w2.alloc (.cells #[.int .i64 2,.string ⟨#[120,46,121]⟩,.string ⟨#[116,119,111]⟩,.bool false,.int .i64 0,.int .i64 3,.string ⟨#[120,46,121]⟩,.string ⟨#[116,104,114,101,101]⟩,.bool false,.int .i64 0] 48)).alloc (.cells #[.slice (some ⟨w2.heap.size,0,none⟩) 2 2,.slice none 0 0,.slice none 0 0] 46):=⟨_,rfl⟩
 obtain ⟨z4,hi4,hr4,k4'⟩:=cm_ w2 W4 _ _ hW4;have HI4:=hidI hi4;have HR4:=hidI hr4;have HW4:=hidI hW4;have k4:=k2.trans (k4'.mono s2);have HZ4:=hidI z4;clear hW4 z4 k1 k2' hi4 hr4;go_wp2_with fail
 rw [← HW4.out];refine (eA_ _ _ _).mono ?_;rintro e w5 ⟨rfl,k5'⟩;have k5:=k4.trans (k5'.mono k4.size);have s5:=k5.size;have s45:=k5'.size;have q5:=BX.out w5 k5;obtain ⟨y0,y1,y2,y3,y4,y5,y6,y7⟩:=aa_ q5;have f0:=foc_ q5 0;have f1:=foc_ q5 1;have f2:=foc_ q5 2;have f3:=foc_ q5 3;have f4:=foc_ q5 4;have f5:=foc_ q5 5;have f6:=foc_ q5 6;have f7:=foc_ q5 7;have hlt5:w.heap.size < w5.heap.size:=by omega
 have HQ5:=hidI q5;have HI5:=hidI (pkp_ HI4.out k5');have HR5:=hidI (pkp_ HR4.out k5');clear q5;go_wp2_with fail
 generalize hW6:World.setCell (World.setCell (World.setCell (World.setCell (World.setCell (World.setCell (World.setCell (World.setCell w5 _ _) _ _) _ _) _ _) _ _) _ _) _ _) _ _ = W6;obtain ⟨b6,t6⟩:=store8 HQ5.out hW6;have z6:W6.heap.size = w5.heap.size:=by rw [← hW6];simp
 generalize hW7:World.alloc (World.alloc W6 _) _ = W7;obtain ⟨z7,ho7,ht7,k7'⟩:=cm_ W6 W7 _ _ hW7.symm;rw [z6] at ho7 ht7;have s6:=t6.size;obtain ⟨x0,x1,x2,x3,x4,x5,x6,x7⟩:=aa_ (pkp_ b6 k7');have hz4:=HZ4.out;have l8:Below w.heap.size w W7:=((hB0.trans (k5.mono s0)).trans (t6.below (by omega) (Nat.le_refl _))).trans (k7'.mono (by omega));have tb:∀ k o,w5.heap[k]? = some o→k≠w.heap.size→W7.heap[k]? = some o:=fun k o h hne=>(k7'.block k (by have:=lth_ h;omega)).trans ((t6.block k (lth_ h) hne).trans h)
 refine bodyPost_ret (v:=.agg #[.slice (some ⟨w2.heap.size+1,0,none⟩) 3 3,.slice (some ⟨w5.heap.size,0,none⟩) 1 1,.slice (some ⟨w5.heap.size+1,0,none⟩) 2 2,.int .i64 4,.int .i64 6,.int .i64 4,.int .i64 1,.int .i64 0]) (by simp [results,Tryz.results43,go_sem,x0,x1,x2,x3,x4,x5,x6,x7]) rfl ⟨w2.heap.size,w2.heap.size+1,w5.heap.size,w5.heap.size+1,rfl,⟨?_,?_,?_,?_⟩,by omega,by omega,l8⟩
 ·exact tb _ _ HI5.out (by omega)
 ·exact tb _ _ HR5.out (by omega)
 ·exact ho7
 ·exact ht7
structure df_ (W:World) (n:Nat) (xss:List (List ae_)) (k:Nat) (vs:List Value):Prop where
 len:vs.length = xss.length
 get:∀ i (h:i < xss.length),i < k→∃ v b c,vs[i]? = some v∧cJ_ W n xss[i] v b c
theorem df_.keepT {W W':World} {n k:Nat} {xss:List (List ae_)} {vs:List Value} (h:df_ W n xss k vs) (hk:dN_ n W W'):df_ W' n xss k vs:=by
 refine ⟨h.len,fun i hi hik=>?_⟩;obtain ⟨v,b,c,h1,h2⟩:=h.get i hi hik;exact ⟨v,b,c,h1,h2.keepT hk⟩
theorem df_.set {W:World} {n k:Nat} {xss:List (List ae_)} {vs:List Value} (h:df_ W n xss k vs) (hk:k < xss.length) {v:Value} {b:Option Addr} {c:Nat} (hv:cJ_ W n xss[k] v b c):df_ W n xss (k+1) (vs.set k v):=by
 refine ⟨by rw [List.length_set];exact h.len,fun i hi hik=>?_⟩;by_cases e:i = k
 ·subst e;exact ⟨v,b,c,by rw [List.getElem?_set,if_pos rfl,if_pos (by rw [h.len];exact hi)],hv⟩
 ·obtain ⟨u,b',c',h1,h2⟩:=h.get i hi (by omega);exact ⟨u,b',c',by rw [List.getElem?_set,if_neg (fun e'=>e e'.symm)];exact h1,h2⟩
theorem df_.all {W:World} {n k:Nat} {xss:List (List ae_)} {vs:List Value} (h:df_ W n xss k vs) (hk:xss.length≤k):cB_ W n xss vs:=⟨h.len,fun i hi=>h.get i hi (by omega)⟩
theorem bD_ {W:World} {base n:Nat} {v:Value} {xs:List ae_} {m:Nat} (h:W.ownsRow base 48 5 v m (al_ xs)) (hn:n≤base):∃ b c,cJ_ W n xs v b c∧m = xs.length:=by
 obtain ⟨e,a,c,h1,h2,h3,h4,h5⟩:=iy_ h;refine ⟨a,c,⟨by rw [h1,e],by omega,h3,fun z=>(h4 z).1,h5,?_⟩,e⟩;rcases h.2 with ⟨rfl,_⟩ | ⟨g,cap,cur,rfl,hb,hg,_⟩
 ·cases h1;exact .inl rfl
 ·cases h1;exact .inr ⟨g,0,cur,rfl,by omega,hg⟩
theorem i0_ (s:ab_) (b1 b2 b3:Option Addr) (m1 d1 m2 d2 m3 d3:Nat) (w:World) (hs:an_ w b1 b2 b3 m1 m2 m3 s) (hn2:b2 = none→d2 = 0) (hn3:b3 = none→d3 = 0) (h1:m1≤100) (hl:∀ l ∈ s.ready,l.length≤100) (h2:m2≤1000) (h3:m3≤100) :
 Calls Tryz.prog 126 #[.agg #[.slice b1 m1 d1,.slice b2 m2 d2,.slice b3 m3 d3,.int .i64 s.nextSeq,.int .i64 s.nextTag,.int .i64 s.came,.int .i64 s.acked,.int .i64 s.dropped]] w fun e w'=>∃ v,e = .returned v∧OwV w' w.heap.size v s∧Below w.heap.size w w':=by
 obtain ⟨i0,hi,hz0,hz1,hz2⟩:=info_parts Tryz.infoLine;obtain ⟨W2,hW2,hs2,hb0,hb1,hBw⟩:∃ W2,W2 = (w.alloc (.cells #[.slice b1 m1 d1,.slice b2 m2 d2,.slice b3 m3 d3,.int .i64 s.nextSeq,.int .i64 s.nextTag,.int .i64 s.came,.int .i64 s.acked,.int .i64 s.dropped] 31)).alloc (.cells #[.slice none 0 0,.slice none 0 0,.slice none 0 0,.int .i64 0,.int .i64 0,.int .i64 0,.int .i64 0,.int .i64 0] 31)∧W2.heap.size = w.heap.size+2∧W2.heap[w.heap.size]? = some (.cells #[.slice b1 m1 d1,.slice b2 m2 d2,.slice b3 m3 d3,.int .i64 s.nextSeq,.int .i64 s.nextTag,.int .i64 s.came,.int .i64 s.acked,.int .i64 s.dropped] 31 (0,0))∧W2.heap[w.heap.size+1]? = some (.cells #[.slice none 0 0,.slice none 0 0,.slice none 0 0,.int .i64 0,.int .i64 0,.int .i64 0,.int .i64 0,.int .i64 0] 31 (0,0))∧Below w.heap.size w W2:=by
  obtain ⟨h1,h2,h3,h4⟩:=cm_ w _ _ _ rfl;exact ⟨_,rfl,h1,h2,h3,h4⟩
 have HW2:=hidI hW2;have HB0:=hidI hb0;have HB1:=hidI hb1;have HBW:=hidI hBw;have HS:=hidI (hs.keep hBw);have HM1:Hid (s.ready.length = m1):=hs.l1;have HM2:Hid (s.outs.length = m2):=hs.l2;have HM3:Hid (s.takers.length = m3):=hs.l3;have HS2:Hid (W2.heap.size = w.heap.size+2):=hs2;have HN2:=hidI hn2;have HN3:=hidI hn3;have HL:=hidI hl;have s0:=hBw.size;obtain ⟨y0,y1,y2,y3,y4,y5,y6,y7⟩:=aa_ hb0;clear hW2 hb0 hb1 hs hs2 hn2 hn3 hl hBw;go_enter Tryz.func126,Tryz.ntmps126;go_wp2_with (at_make;rw [← HW2.out];refine wpList_make_full _ rfl _ _ 27 rfl W2.heap.size 46 i0 (.slice none 0 0) 1 Tryz.underlying27 hi hz0 hz1 _ _ _ _ m1 rfl rfl rfl rfl (by rw [hz2];omega) (by unfold maxLen;omega) (Nat.le_refl _) ?_;intro w3 hown3 hgrow3;have q3:=(hgrow3.block w.heap.size (by have:=HS2.out;omega) (by simp)).trans HB0.out;clear y0 y1 y2 y3 y4 y5 y6 y7;obtain ⟨y0,y1,y2,y3,y4,y5,y6,y7⟩:=aa_ q3)
 clear q3;have HB3:Hid (Below W2.heap.size W2 w3):=(Below.refl _ _).grown hgrow3 (Nat.le_refl _) (by simp);have HO3:=hidI hown3;clear hown3 hgrow3 y0 y1 y2 y3 y4 y5 y6 y7;go_loopw [4,5,13] (fun _ _ i wr=>∃ (k:Nat) (vs:List Value),k≤m1∧i = .int .i64 k∧wr.ownsRow W2.heap.size 46 1 (.slice (some ⟨W2.heap.size,0,none⟩) m1 m1) m1 vs∧df_ wr W2.heap.size s.ready k vs∧Below W2.heap.size W2 wr) (fun _ _ i _=>m1 - (intOf i).toNat)
 case atStart=>exact ⟨0,_,Nat.zero_le _,rfl,HO3.out,⟨by rw [ef_,List.length_replicate];exact HM1.out.symm,fun i hi h=>absurd h (Nat.not_lt_zero _)⟩,HB3.out⟩
 case round=>
  obtain ⟨k,vs,hk,rfl,hown,hlt0,hB⟩:=hrel;have HO:=hidI hown;have HLT0:=hidI hlt0;have HB:=hidI hB;have hBs:=hB.size;obtain ⟨y0,y1,y2,y3,y4,y5,y6,y7⟩:=aa_ ((hB.block _ (by have:=HS2.out;omega)).trans HB0.out);clear hown hlt0;by_cases hlt:k < m1
  ·have HLT:=hidI hlt;have hkl:k < s.ready.length:=by rw [HM1.out];exact hlt
   obtain ⟨g,o,b,c,ha,hg,hl⟩:=(HS.out.q1.keep hB).get hkl;subst ha;have c1:=hl.cell;have HLC:=hidI hl;have HKL:=hidI hkl;obtain ⟨n,hn⟩:∃ n,n = (s.ready[k]'hkl).length:=⟨_,rfl⟩
   have HNN:=hidI hn;rw [← hn] at c1;have hn100:n≤100:=by rw [hn];exact HL.out _ (List.getElem_mem hkl)
   have j1:(0:Int)≤(k:Int):=by omega
   have j2:(k:Int) < m1:=by omega
   clear hl hn;go_wp2_with fail
   refine (h6_ (s.ready[k]'HKL.out) b n c wr (by rw [cb_,HNN.out]) (by omega) (fun e=>⟨HLC.out.nil e,by have:=HLC.out.nil e;have:=HLC.out.le;have:=HNN.out;omega⟩) (cd_.1 HLC.out.it)).mono ?_;rintro e w5 ⟨v,rfl,hown5,hB5⟩;obtain ⟨b5,c5,hv5,hn5⟩:=bD_ hown5 (Nat.le_trans hBs (Nat.le_refl _));have hve:=hv5.v;have HV5:=hidI hv5;have hO5:=cp2_ HO.out hB5;have hf5:=hO5.frozenAt k;have hc5:=hO5.cellAt k (by omega);have HO5:=hidI hO5;have HB5:=hidI hB5;have s5:=hB5.size;have hvs:vs[k]? = some (vs[k]'(by rw [HLT0.out.len];exact HKL.out)):=List.getElem?_eq_getElem _;rw [hvs] at hc5;subst hve;clear hv5 hO5 hB5 hown5 hn5 hvs;go_wp2_with fail
   go_roundw
   case rel=>
    have hst:=HO5.out.stored k (.slice b5 (s.ready[k]'HKL.out).length c5);refine ⟨k+1,vs.set k (.slice b5 (s.ready[k]'HKL.out).length c5),HLT.out,by have:=HLT.out;go_num,hst.1,?_,?_⟩
    ·have hki:=dN_.row (n:=W2.heap.size) HO5.out (by decide) k (.slice b5 (s.ready[k]'HKL.out).length c5);exact df_.set ((HLT0.out.keepT (dN_.of_below HB5.out)).keepT hki) HKL.out (HV5.out.keepT hki)
    ·exact (HB.out.trans (HB5.out.mono hBs)).setCell (p:=⟨W2.heap.size,k,none⟩) (Nat.le_refl _) _
   case measure=>have:=HLT.out;simp [intOf];omega
  ·have hke:m1 = k:=by omega
   subst hke;clear hlt hk;have hO0:=(hB.block _ (by have:=HS2.out;omega)).trans HB0.out;have HOD:Hid (∀ W,Below wr.heap.size wr.drew W→W.heap[w.heap.size]? = some (.cells #[.slice b1 m1 d1,.slice b2 m2 d2,.slice b3 m3 d3,.int .i64 s.nextSeq,.int .i64 s.nextTag,.int .i64 s.came,.int .i64 s.acked,.int .i64 s.dropped] 31 (0,0))):=fun W hW=>(hW.block _ (by have:=HS2.out;omega)).trans hO0
   have HRD:Hid (∀ W,Below wr.heap.size wr.drew W→W.heap[w.heap.size+1]? = some (.cells #[.slice none 0 0,.slice none 0 0,.slice none 0 0,.int .i64 0,.int .i64 0,.int .i64 0,.int .i64 0,.int .i64 0] 31 (0,0))):=fun W hW=>(hW.block _ (by have:=HS2.out;omega)).trans ((hB.block _ (by have:=HS2.out;omega)).trans HB1.out)
   have HST:=hidI (HS.out.keep hB);have hm2:b2 = none→d2 = 0∧m2 = 0:=fun e=>⟨HN2.out e,by
    rcases HST.out.q2 with h | ⟨_,_,h,_⟩
    ·rw [← HM2.out,h];rfl
    ·rw [e] at h;cases h⟩
   have hm3:b3 = none→d3 = 0∧m3 = 0:=fun e=>⟨HN3.out e,by
    rcases HST.out.q3 with h | ⟨_,_,h,_⟩
    ·rw [← HM3.out,h];rfl
    ·rw [e] at h;cases h⟩
   have CO:=hidI (i1_ s.outs b2 m2 d2 wr.drew (by rw [ah_,bL_ (k:=8) (fun _=>rfl),HM2.out]) (by omega) hm2 (da_.1 HST.out.q2));have CT:Hid (∀ W,Below wr.heap.size wr.drew W→Calls Tryz.prog 160 #[.slice b3 m3 d3] W fun e w'=>∃ v,e = .returned v∧w'.ownsRow W.heap.size 69 2 v m3 (tkC_ s.takers)∧Below W.heap.size W w'):=fun W hW=>ho_ s.takers b3 m3 d3 W (by rw [tkC_,bL_ (k:=2) (fun _=>rfl),HM3.out]) (by omega) hm3 ((b6_.1 HST.out.q3).keep (bud_ hW))
   clear hm2 hm3 hO0;go_wp2_with fail
   go_region_with (first
    | (go_at_call 159;refine CO.out.mono ?_;rintro e w6 ⟨v6,rfl,hown6,hB6⟩;obtain ⟨a6,c6,rfl,l6,l6',l6n,r6⟩:=aD_ hown6;have HO6:=hidI hown6;have HB6:=hidI hB6;obtain ⟨z0,z1,z2,z3,z4,z5,z6,z7⟩:=aa_ (HOD.out _ hB6);clear hown6 hB6 l6 l6' l6n r6)
    | (go_at_call 160;refine (CT.out _ HB6.out).mono ?_;rintro e w7 ⟨v7,rfl,hown7,hB7⟩;obtain ⟨a7,c7,rfl,l7,l7',l7n,r7⟩:=aD_ hown7;have HO7:=hidI hown7;have HB7:=hidI hB7;have k7:=HB6.out.trans (hB7.mono HB6.out.size);have q7:=HOD.out _ k7;have K7:=hidI k7;obtain ⟨u0,u1,u2,u3,u4,u5,u6,u7⟩:=aa_ q7;have f0:=foc_ q7 0;have f1:=foc_ q7 1;have f2:=foc_ q7 2;have Q7:=hidI q7;have r7b:=HRD.out _ K7.out;have R7:=hidI r7b;obtain ⟨x0,x1,x2,x3,x4,x5,x6,x7⟩:=aa_ r7b;have e0:=foc_ r7b 0;have e1:=foc_ r7b 1;have e2:=foc_ r7b 2;have e3:=foc_ r7b 3;have e4:=foc_ r7b 4;have e5:=foc_ r7b 5;have e6:=foc_ r7b 6;have e7:=foc_ r7b 7;clear r7b hown7 hB7 l7 l7' l7n r7 q7 k7))
   all_goals
    go_wp2_with fail
    generalize hX:World.setCell (World.setCell (World.setCell w7 _ _) _ _) _ _ = X;generalize hW4:World.setCell (World.setCell (World.setCell (World.setCell (World.setCell (World.setCell (World.setCell (World.setCell X _ _) _ _) _ _) _ _) _ _) _ _) _ _) _ _ = W4;have tX:aX_ w.heap.size w7 X:=by rw [← hX];exact ((sct_ _ _ _ _).trans (sct_ _ _ _ _)).trans (sct_ _ _ _ _)
    have hRX:X.heap[w.heap.size+1]? = _:=(tX.block _ (lth_ R7.out) (by omega)).trans R7.out;obtain ⟨b4,t4⟩:=store8 hRX hW4;obtain ⟨z0,z1,z2,z3,z4,z5,z6,z7⟩:=aa_ b4;exact bodyPost_ret (v:=.agg #[.slice (some ⟨W2.heap.size,0,none⟩) m1 m1,.slice a6 m2 c6,.slice a7 m3 c7,.int .i64 s.nextSeq,.int .i64 s.nextTag,.int .i64 s.came,.int .i64 s.acked,.int .i64 s.dropped]) (by simp [results,Tryz.results126,go_sem,z0,z1,z2,z3,z4,z5,z6,z7]) rfl (by
     have T4:∀ k,W2.heap.size≤k→k < w7.heap.size→W4.heap[k]? = w7.heap[k]?:=fun k h1 h2=>(t4.block k (Nat.lt_of_lt_of_le h2 tX.size) (by have:=HS2.out;omega)).trans (tX.block k h2 (by have:=HS2.out;omega))
     have hsz:w7.heap.size≤W4.heap.size:=Nat.le_trans tX.size t4.size;have g6:W2.heap.size≤wr.heap.size:=hBs;have g7:wr.heap.size≤w6.heap.size:=HB6.out.size;have B7:Below wr.heap.size wr w7:=bud_ K7.out;have r1:=cp2_ HO.out B7;have KI:dN_ w.heap.size w7 W4:=⟨hsz,fun g cur hn hg=>by
      by_cases hge:W2.heap.size≤g
      ·exact T4 g hge (lth_ hg)
      ·exfalso
       have:g = w.heap.size∨g = w.heap.size+1:=by have:=HS2.out;omega
       rcases this with rfl | rfl
       ·rw [Q7.out] at hg;cases hg
       ·rw [R7.out] at hg;cases hg⟩
     have KR:∀ {T:TypeId} {size n:Nat} {v:Value} {cs:List Value} {base:Nat},w7.ownsRow base T size v n cs→W2.heap.size≤base→W4.ownsRow w.heap.size T size v n cs:=fun h hb=>bn_ (cj_ h (fun k hk=>by have:=h.lt k hk;exact T4 k (by omega) this.2)) (by omega)
     refine ⟨_,rfl,⟨_,_,_,_,_,_,_,_,_,rfl,HM1.out,HM2.out,HM3.out,by omega,⟨vs,KR r1 (Nat.le_refl _),?_⟩,KR (cp2_ HO6.out HB7.out) g6,KR HO7.out (by omega)⟩,?_⟩
     ·exact (((HLT0.out.all (by rw [HM1.out];exact Nat.le_refl _)).lower (by omega)).keepT (dN_.of_below B7)).keepT KI
     ·exact HBW.out.trans (((hB.trans (B7.mono hBs)).mono s0).trans ((tX.below (by have:=B7.size;omega) (Nat.le_refl _)).trans (t4.below (by have:=tX.size;have:=B7.size;omega) (by omega)))))
def StBox (W:World) (n t:Nat) (s:ab_):Prop:=∃ b1 b2 b3 m1 d1 m2 d2 m3 d3,W.heap[t]? = some (.cells #[.slice b1 m1 d1,.slice b2 m2 d2,.slice b3 m3 d3,.int .i64 s.nextSeq,.int .i64 s.nextTag,.int .i64 s.came,.int .i64 s.acked,.int .i64 s.dropped] 31 (0,0))∧aP_ W n b1 b2 b3 m1 d1 m2 d2 m3 d3 s
def zerS:Value:=.agg #[.slice none 0 0,.slice none 0 0,.slice none 0 0,.int .i64 0,.int .i64 0,.int .i64 0,.int .i64 0,.int .i64 0]
theorem aP_.turn {W W':World} {n t:Nat} {b1 b2 b3:Option Addr} {m1 d1 m2 d2 m3 d3:Nat} {s:ab_} {cur:Array Value} {T:TypeId} (h:aP_ W n b1 b2 b3 m1 d1 m2 d2 m3 d3 s) (ht:W.heap[t]? = some (.cells cur T (0,0))) (hT:T≠48∧T≠67∧T≠69∧T≠46) (k:aX_ t W W'):aP_ W' n b1 b2 b3 m1 d1 m2 d2 m3 d3 s:=by
 obtain ⟨vs,h1,h2⟩:=h.r1;have KR:∀ {T':TypeId} {size m:Nat} {v:Value} {cs:List Value},W.ownsRow n T' size v m cs→T'≠T→W'.ownsRow n T' size v m cs:=fun h hne=>cj_ h (fun j hj=>k.block j (h.lt j hj).2 (fun e=>e0_ h ht hne (by rw [hj,e])))
 refine ⟨h.l1,h.l2,h.l3,h.x2,⟨vs,KR h1 (fun e=>hT.2.2.2 e.symm),h2.keepT ⟨k.size,fun g cur' _ hg=>k.block g (lth_ hg) (fun e=>?_)⟩⟩,KR h.r2 (fun e=>hT.2.1 e.symm),KR h.r3 (fun e=>hT.2.2.1 e.symm)⟩;rw [e,ht] at hg;cases hg;exact hT.1 rfl
def bq_ (W:World) (n:Nat) (v:Value) (E:Int) (s:ab_):Prop:=(E = 0→OwV W n v s)∧(E≠0→v = zerS)
theorem bq_.keep {W W':World} {n:Nat} {v:Value} {E:Int} {s:ab_} (h:bq_ W n v E s) (hB:Below W.heap.size W W'):bq_ W' n v E s:=⟨fun e=>(h.1 e).keep hB,h.2⟩
theorem bq_.lower {W:World} {n n':Nat} {v:Value} {E:Int} {s:ab_} (h:bq_ W n v E s) (hn:n'≤n):bq_ W n' v E s:=⟨fun e=>(h.1 e).lower hn,h.2⟩
def Does (f:FuncId) (cap:Array Value) (w:World) (s:ab_) (E N:Int) (S':ab_):Prop:=
 ∀ (W : World) (n t : Nat), Below w.heap.size w W → w.heap.size ≤ t → t < n → n ≤ W.heap.size → StBox W n t s →
   Calls Tryz.prog f (#[.pointer (some ⟨t,0,none⟩)] ++ cap) W fun e W'=>ac_ n t W W'∧((E≠0∧e = panE E)∨(E = 0∧e = .returned (.int .i64 N)∧StBox W' n t S'))
theorem b2_ {p:ad_} {s:ab_} (h:aj_ p s 0):s.ready.length≤100∧(∀ l ∈ s.ready,l.length≤100)∧s.outs.length≤1000∧s.takers.length≤100:=by
 have h1:=h.rp.few.2.1;have h2:=h.len;have h3:=h.tk;refine ⟨by omega,fun l hl=>by have:=h.line6 hl;omega,?_,by omega⟩;have hall:sumH s s.takers.length = s.outs.length:=nK_ h.outs;have hk:∀ k,k≤s.takers.length→sumH s k≤k * 4:=by
  intro k;induction k with
  | zero=>intro _;exact Nat.le_refl _
  | succ k ih =>
    intro hk;have a:=ih (by omega);have b:=h.hold k (by omega);have hm:(s.takers.getD k ⟨0,0⟩).most≤4:=by
     rw [List.getD_eq_getElem?_getD,List.getElem?_eq_getElem (by omega)];have:=h.tok _ (List.getElem_mem (show k < s.takers.length by omega));unfold aI_ at this;simp only [Bool.and_eq_true,decide_eq_true_eq] at this;exact this.2.2
    show sumH s k+heldN s k≤(k+1) * 4;omega
 have:=hk s.takers.length (Nat.le_refl _);omega
theorem an_.small {W:World} {b1 b2 b3:Option Addr} {m1 m2 m3:Nat} {s:ab_} {p:ad_} (h:an_ W b1 b2 b3 m1 m2 m3 s) (hr:aj_ p s 0):m1≤100∧(∀ l ∈ s.ready,l.length≤100)∧m2≤1000∧m3≤100:=by
 have:=b2_ hr;rw [h.l1,h.l2,h.l3] at this;exact this
theorem mR_ (p:ad_) (a1 a2 a3:Option Addr) (n1 c1 n2 c2 n3 c3:Nat) (s:ab_) (b1 b2 b3:Option Addr) (m1 d1 m2 d2 m3 d3:Nat) (f:FuncId) (hf:Goes f) (cap:Array Value) (w0:World) (E N:Int) (S':ab_) (hE0:stE p s≠0→E = stE p s) (hdo:stE p s = 0→Does f cap w0 s E N S')
 (B:Nat) (hB0:w0.heap.size≤B) (w:World) (h0:Below w0.heap.size w0 w) (hw:B+6 < w.heap.size) (hp:ao_ w a1 a2 a3 n1 n2 n3 p) (hs:an_ w b1 b2 b3 m1 m2 m3 s) (hn2:b2 = none→d2 = 0) (hn3:b3 = none→d3 = 0)
 (x0:w.heap[B]? = some (.cells #[.slice a1 n1 c1,.slice a2 n2 c2,.slice a3 n3 c3] 26 (0,0))) (x1:w.heap[B+1]? = some (.cells #[.slice b1 m1 d1,.slice b2 m2 d2,.slice b3 m3 d3,.int .i64 s.nextSeq,.int .i64 s.nextTag,.int .i64 s.came,.int .i64 s.acked,.int .i64 s.dropped] 31 (0,0))) (x2:w.heap[B+2]? = some (.cells #[.func (.func f) #[] cap] 108 (0,0))) (x4:w.heap[B+4]? = some (.cells #[.slice none 0 0,.slice none 0 0,.slice none 0 0,.int .i64 0,.int .i64 0,.int .i64 0,.int .i64 0,.int .i64 0] 31 (0,0))) (x5:w.heap[B+5]? = some (.cells #[.int .i64 0] 3 (0,0))) :
 Calls Tryz.prog 125 #[.pointer (some ⟨B,0,none⟩),.pointer (some ⟨B+1,0,none⟩),.pointer (some ⟨B+4,0,none⟩),.pointer (some ⟨B+2,0,none⟩),.pointer (some ⟨B+5,0,none⟩)] w fun e w'=>
  e = askE E∧w.heap.size≤w'.heap.size∧(∀ k,k < w.heap.size→k≠B+4→k≠B+5→w'.heap[k]? = w.heap[k]?)∧w'.os = w.os∧w'.tape = w.tape∧w'.output = w.output∧(E = 0→(∃ n,w.heap.size≤n∧StBox w' n (B+4) S')∧w'.heap[B+5]? = some (.cells #[.int .i64 N] 3 (0,0))):=by
 obtain ⟨E0,hE0'⟩:∃ E0,E0 = stE p s:=⟨_,rfl⟩
 have HE0:=hidI hE0';have HEE:=hidI hE0;have HDO:=hidI hdo;have HP:=hidI hp;have HS:=hidI hs;have HN2:=hidI hn2;have HN3:=hidI hn3;have H0:=hidI h0;have X0:=hidI x0;have X1:=hidI x1;have X2:=hidI x2;have X4:=hidI x4;have X5:=hidI x5;have hf':∀ (args:Array Value) (w:World),Sem.run Tryz.prog (callFunc f args) w = .ok (.enter f args) w:=hf
 obtain ⟨p0,p1,p2⟩:=ag_ x0;obtain ⟨y0,y1,y2,y3,y4,y5,y6,y7⟩:=aa_ x1;clear hE0' hE0 hdo hp hs hn2 hn3 h0 x0 x1 x2 x4 x5 hf;go_enter Tryz.func125,Tryz.ntmps125;go_wp2_with fail
 refine (el_ p _ _ _ _ _ _ _ _ _ s _ _ _ _ _ _ _ _ _ _ HP.out HS.out).mono ?_;rintro e w1 ⟨rfl,k1⟩;rw [← HE0.out];have s1:=k1.size;have k1':=k1.alloc s1 (.cells #[.int .i64 E0] 33);have s1':=k1'.size;clear p0 p1 p2 y0 y1 y2 y3 y4 y5 y6 y7;by_cases hz:E0 = 0
 ·subst hz;go_wp2_with (go_at_call 47;refine (d5_ _ _ (aQ_ _ _ _) (by simp)).mono ?_;rintro e w2 ⟨rfl,hB2⟩;have k2:=k1'.trans (hB2.mono s1');have K2:=hidI k2;obtain ⟨y0,y1,y2,y3,y4,y5,y6,y7⟩:=aa_ (pkp_ X1.out k2);clear hB2)
  have hR:=aM_ HE0.out.symm;obtain ⟨q1,q2,q3,q4⟩:=HS.out.small hR;refine (i0_ s _ _ _ _ _ _ _ _ _ w2 (HS.out.keep K2.out) HN2.out HN3.out q1 q2 q3 q4).mono ?_;rintro e w3 ⟨v3,rfl,hv3,k3'⟩;have k3:=K2.out.trans (k3'.mono K2.out.size);obtain ⟨g1,g2,g3,l1,r1,l2,r2,l3,r3,rfl,ho⟩:=hv3;have HO:=hidI ho;have K3:=hidI k3;have K3':=hidI k3';have q4b:=pkp_ X4.out k3;have Q4:=hidI q4b;obtain ⟨z0,z1,z2,z3,z4,z5,z6,z7⟩:=aa_ q4b;have f0:=foc_ q4b 0;have f1:=foc_ q4b 1;have f2:=foc_ q4b 2;have f3:=foc_ q4b 3;have f4:=foc_ q4b 4;have f5:=foc_ q4b 5;have f6:=foc_ q4b 6;have f7:=foc_ q4b 7;have c2:=coc_ (pkp_ X2.out k3) 0;simp at c2;clear y0 y1 y2 y3 y4 y5 y6 y7 q4b k3 k3' ho k2;go_wp2_with fail
  generalize hW4:World.setCell (World.setCell (World.setCell (World.setCell (World.setCell (World.setCell (World.setCell (World.setCell w3 _ _) _ _) _ _) _ _) _ _) _ _) _ _) _ _ = W4;obtain ⟨b4,t4⟩:=store8 Q4.out hW4;have kW4:ac_ w.heap.size (B+4) w W4:=(ac_.of_below K3.out (Nat.le_refl _)).trans ⟨t4.os,t4.tape,t4.output,t4.size,fun k h1 h2=>t4.block k (by have:=K3.out.size;omega) h2⟩;have hdo:=HDO.out HE0.out.symm W4 w2.heap.size (B+4) (H0.out.trans (kW4.below H0.out.size (by omega))) (by omega) (by have:=K2.out.size;omega) (by have:=K3'.out.size;have:=t4.size;omega) ⟨_,_,_,_,_,_,_,_,_,b4,HO.out.turn Q4.out (by decide) t4⟩;refine hdo.mono ?_;rintro e w5 ⟨hF,hc⟩;have hF':ac_ w.heap.size (B+4) w w5:=kW4.trans ⟨hF.os,hF.tape,hF.output,hF.size,fun k h1 h2=>hF.block k (by have:=K2.out.size;omega) h2⟩;have HF:=hidI hF';clear z0 z1 z2 z3 z4 z5 z6 z7 f0 f1 f2 f3 f4 f5 f6 f7 c2
  rcases hc with ⟨hne,rfl⟩ | ⟨rfl,rfl,hbx⟩
  ·unfold panE;exact ⟨rfl,by rw [cS_ hne];rfl,HF.out.size,fun k h1 h2 _=>HF.out.block k h1 h2,HF.out.os,HF.out.tape,HF.out.output,fun h=>absurd h hne⟩
  ·have q5:w5.heap[B+5]? = _:=(HF.out.block (B+5) (by omega) (by omega)).trans X5.out;have Q5:=hidI q5;have HBX:=hidI hbx;have c0:=coc_ q5 0;simp at c0;have f0:=foc_ q5 0;clear q5 hbx hF hF' hdo;go_wp2_with fail
   go_end0
   have hT5:=sct_ w5 (B+5) 0 (.int .i64 N);refine ⟨by rw [b9_];rfl,Nat.le_trans HF.out.size hT5.size,fun k h1 h2 h3=>(hT5.block k (by have:=HF.out.size;omega) h3).trans (HF.out.block k h1 h2),HF.out.os,HF.out.tape,HF.out.output,⟨w2.heap.size,K2.out.size,?_⟩,?_⟩
   ·obtain ⟨e1,e2,e3,i1,j1,i2,j2,i3,j3,hh,ho⟩:=HBX.out;exact ⟨e1,e2,e3,i1,j1,i2,j2,i3,j3,(hT5.block _ (lth_ hh) (by omega)).trans hh,ho.turn Q5.out (by decide) hT5⟩
   ·exact scb_ Q5.out (j:=0) (.int .i64 N)
 ·have HZ:=hidI hz;have hE:E = E0:=by rw [HEE.out (by rw [← HE0.out];exact hz),HE0.out]
  go_wp2_with (go_at_call 47;refine (dB_ E0 _ _ (aQ_ _ _ _) (by simp) HZ.out).mono ?_;rintro e w2 ⟨rfl,hB2⟩)
  have k2:=k1'.trans (hB2.mono s1');subst hE;exact ⟨rfl,by rw [cS_ HZ.out];rfl,k2.size,fun k h1 _ _=>k2.block k h1,k2.os,k2.tape,k2.output,fun h=>absurd h HZ.out⟩
theorem aF_:∀ (os:List Obj) (w:World),(os.foldl World.alloc w).heap.size = w.heap.size+os.length∧(∀ i o,os[i]? = some o→(os.foldl World.alloc w).heap[w.heap.size+i]? = some o)∧Below w.heap.size w (os.foldl World.alloc w)
 | [],w=>⟨by simp,fun i o h=>by simp at h,Below.refl _ _⟩
 | x :: r, w => by
   obtain ⟨h1,h2,h3⟩:=aF_ r (w.alloc x);rw [List.foldl_cons];have hb:Below w.heap.size w (w.alloc x):=(Below.refl _ _).alloc (Nat.le_refl _) _;refine ⟨by rw [h1,World.size_alloc,List.length_cons];omega,fun i o ho=>?_,hb.trans (h3.mono (by simp))⟩;cases i with
   | zero =>
     simp at ho;subst ho;rw [Nat.add_zero,h3.block _ (by simp)];exact World.alloc_heap_new w _
   | succ i =>
     have:=h2 i o (by simpa using ho);rw [World.size_alloc] at this;rw [show w.heap.size+(i+1) = w.heap.size+1+i by omega];exact this
theorem e5_ (p:ad_) (a1 a2 a3:Option Addr) (n1 c1 n2 c2 n3 c3:Nat) (s:ab_) (b1 b2 b3:Option Addr) (m1 d1 m2 d2 m3 d3:Nat) (f:FuncId) (hf:Goes f) (cap:Array Value) (E N:Int) (S':ab_) (w:World) (hp:ao_ w a1 a2 a3 n1 n2 n3 p) (hs:an_ w b1 b2 b3 m1 m2 m3 s) (hn2:b2 = none→d2 = 0) (hn3:b3 = none→d3 = 0) (hE0:stE p s≠0→E = stE p s) (hdo:stE p s = 0→Does f cap w s E N S') :
 Calls Tryz.prog 72 #[.agg #[.slice a1 n1 c1,.slice a2 n2 c2,.slice a3 n3 c3],.agg #[.slice b1 m1 d1,.slice b2 m2 d2,.slice b3 m3 d3,.int .i64 s.nextSeq,.int .i64 s.nextTag,.int .i64 s.came,.int .i64 s.acked,.int .i64 s.dropped],.func (.func f) #[] cap] w fun e w'=>∃ v,e = .returned (.tuple #[v,.int .i64 (if E = 0 then N else 0),.int .i64 E])∧bq_ w' w.heap.size v E S'∧Below w.heap.size w w':=by
 obtain ⟨hz6,hg6,hB6⟩:=aF_ [.cells #[.slice a1 n1 c1,.slice a2 n2 c2,.slice a3 n3 c3] 26,.cells #[.slice b1 m1 d1,.slice b2 m2 d2,.slice b3 m3 d3,.int .i64 s.nextSeq,.int .i64 s.nextTag,.int .i64 s.came,.int .i64 s.acked,.int .i64 s.dropped] 31,.cells #[.func (.func f) #[] cap] 108,.cells #[.slice none 0 0,.slice none 0 0,.slice none 0 0,.int .i64 0,.int .i64 0,.int .i64 0,.int .i64 0,.int .i64 0] 31,.cells #[.slice none 0 0,.slice none 0 0,.slice none 0 0,.int .i64 0,.int .i64 0,.int .i64 0,.int .i64 0,.int .i64 0] 31,.cells #[.int .i64 0] 3] w;obtain ⟨W6,hW6⟩:∃ W6,W6 = List.foldl World.alloc w [.cells #[.slice a1 n1 c1,.slice a2 n2 c2,.slice a3 n3 c3] 26,.cells #[.slice b1 m1 d1,.slice b2 m2 d2,.slice b3 m3 d3,.int .i64 s.nextSeq,.int .i64 s.nextTag,.int .i64 s.came,.int .i64 s.acked,.int .i64 s.dropped] 31,.cells #[.func (.func f) #[] cap] 108,.cells #[.slice none 0 0,.slice none 0 0,.slice none 0 0,.int .i64 0,.int .i64 0,.int .i64 0,.int .i64 0,.int .i64 0] 31,.cells #[.slice none 0 0,.slice none 0 0,.slice none 0 0,.int .i64 0,.int .i64 0,.int .i64 0,.int .i64 0,.int .i64 0] 31,.cells #[.int .i64 0] 3]:=⟨_,rfl⟩
 rw [← hW6] at hz6 hg6 hB6;have x0:=hg6 0 _ rfl;have x1:=hg6 1 _ rfl;have x2:=hg6 2 _ rfl;have x3:=hg6 3 _ rfl;have x4:=hg6 4 _ rfl;have x5:=hg6 5 _ rfl;have hz6':W6.heap.size = w.heap.size+6:=by rw [hz6];rfl
 have l7:Below W6.heap.size W6 (W6.alloc (.cells #[.int .i64 0] 33)):=(Below.refl _ _).alloc (Nat.le_refl _) _;have x6:=World.alloc_heap_new W6 (.cells #[.int .i64 0] 33);have T1:=mR_ p a1 a2 a3 n1 c1 n2 c2 n3 c3 s b1 b2 b3 m1 d1 m2 d2 m3 d3 f hf cap w E N S' hE0 hdo w.heap.size (Nat.le_refl _) (W6.alloc (.cells #[.int .i64 0] 33)) (hB6.trans (l7.mono hB6.size)) (by rw [World.size_alloc];omega) ((hp.keep hB6).keep l7) ((hs.keep hB6).keep l7) hn2 hn3 (pkp_ x0 l7) (pkp_ x1 l7) (pkp_ x2 l7) (pkp_ x4 l7) (pkp_ x5 l7);have TR:=e6_ 125 (fun _ _=>rfl) #[.pointer (some ⟨w.heap.size,0,none⟩),.pointer (some ⟨w.heap.size+1,0,none⟩),.pointer (some ⟨w.heap.size+4,0,none⟩),.pointer (some ⟨w.heap.size+2,0,none⟩),.pointer (some ⟨w.heap.size+5,0,none⟩)]
  (fun D w1=>D = E∧W6.heap.size+1≤w1.heap.size∧(∀ k,k < W6.heap.size+1→k≠w.heap.size+4→k≠w.heap.size+5→w1.heap[k]? = (W6.alloc (.cells #[.int .i64 0] 33)).heap[k]?)∧w1.os = w.os∧w1.tape = w.tape∧w1.output = w.output∧(E = 0→(∃ n,W6.heap.size+1≤n∧StBox w1 n (w.heap.size+4) S')∧w1.heap[w.heap.size+5]? = some (.cells #[.int .i64 N] 3 (0,0)))) W6
  (T1.mono (by
   rintro e w' ⟨rfl,g1,g2,g3,g4,g5,g6⟩;rw [World.size_alloc] at g1 g2 g6;exact ⟨E,rfl,⟨rfl,g1,g2,g3.trans hB6.os,g4.trans hB6.tape,g5.trans hB6.output,g6⟩,(g2 _ (Nat.lt_succ_self _) (by omega) (by omega)).trans x6⟩))
 have HW6:Hid (W6 = ((((((w.alloc (.cells #[.slice a1 n1 c1,.slice a2 n2 c2,.slice a3 n3 c3] 26)).alloc (.cells #[.slice b1 m1 d1,.slice b2 m2 d2,.slice b3 m3 d3,.int .i64 s.nextSeq,.int .i64 s.nextTag,.int .i64 s.came,.int .i64 s.acked,.int .i64 s.dropped] 31)).alloc (.cells #[.func (.func f) #[] cap] 108)).alloc (.cells #[.slice none 0 0,.slice none 0 0,.slice none 0 0,.int .i64 0,.int .i64 0,.int .i64 0,.int .i64 0,.int .i64 0] 31)).alloc (.cells #[.slice none 0 0,.slice none 0 0,.slice none 0 0,.int .i64 0,.int .i64 0,.int .i64 0,.int .i64 0,.int .i64 0] 31)).alloc (.cells #[.int .i64 0] 3))):=hW6;have HTR:=hidI TR;have HB6:=hidI hB6;have X3:=hidI x3;have HZ6:=hidI hz6';have hmf:∀ (fn:Fn) (first cap:Array Value) (w:World),(Instr.makeFunc fn first cap).run Tryz.prog w = .ok (.func fn first cap) w:=fun _ _ _ _=>rfl
 clear T1 TR hW6 hz6 hz6' hg6 hB6 x0 x1 x2 x3 x4 x5 x6 l7 hE0 hdo hf hp hs hn2 hn3;go_enter Tryz.func72,Tryz.ntmps72;go_wp2_with fail
 rw [← HW6.out];refine HTR.out.mono ?_;rintro e w7 ⟨D,w1,rfl,⟨rfl,g1,g2,g3,g4,g5,g6⟩,hb,rfl⟩;have r1:w1.heap[w.heap.size+3]? = _:=(g2 _ (by have:=HZ6.out;omega) (by omega) (by omega)).trans (((Below.refl W6.heap.size W6).alloc (Nat.le_refl _) (.cells #[.int .i64 0] 33)).block _ (by have:=HZ6.out;omega) |>.trans X3.out);have t7:=sct_ w1 W6.heap.size 0 (.int .i64 D);have r7:=(t7.block _ (lth_ r1) (by have:=HZ6.out;omega)).trans r1;generalize hw7:w1.setCell ⟨W6.heap.size,0,none⟩ (.int .i64 D) = w7 at t7 r7;have hB7:Below w.heap.size w w7:=by
  refine ⟨t7.os.trans g3,t7.tape.trans g4,t7.output.trans g5,?_,fun k hk=>?_⟩
  ·have:=t7.size;have:=HZ6.out;omega
  ·rw [t7.block k (by have:=HZ6.out;omega) (by have:=HZ6.out;omega),g2 k (by have:=HZ6.out;omega) (by omega) (by omega),Below.heap_alloc _ _ _ (by have:=HZ6.out;omega),HB6.out.block k hk]
 have HB7:=hidI hB7;have R7:=hidI r7;obtain ⟨x0,x1,x2,x3,x4,x5,x6,x7⟩:=aa_ r7;have e0:=foc_ r7 0;have e1:=foc_ r7 1;have e2:=foc_ r7 2;have e3:=foc_ r7 3;have e4:=foc_ r7 4;have e5:=foc_ r7 5;have e6:=foc_ r7 6;have e7:=foc_ r7 7;by_cases hD:D = 0
 ·subst hD;obtain ⟨⟨n,hn,g1',g2',g3',l1,r1',l2,r2,l3,r3,hbx,ho⟩,hnb⟩:=g6 rfl;have hbx7:=(t7.block _ (lth_ hbx) (by have:=HZ6.out;omega)).trans hbx;have hnb7:=(t7.block _ (lth_ hnb) (by have:=HZ6.out;omega)).trans hnb;have ho7:=ho.turn hb (by decide) t7;have HO7:=hidI ho7;obtain ⟨y0,y1,y2,y3,y4,y5,y6,y7⟩:=aa_ hbx7;have cn:=coc_ hnb7 0;simp at cn;have HN:=hidI hn;clear g1 g2 g3 g4 g5 g6 hb r1 t7 r7 hw7 hB7 hbx hnb ho hbx7 hnb7 ho7 hn;go_wp2_with fail
  go_region
  generalize hW4:World.setCell (World.setCell (World.setCell (World.setCell (World.setCell (World.setCell (World.setCell (World.setCell _ _ _) _ _) _ _) _ _) _ _) _ _) _ _) _ _ = W4;obtain ⟨b4,t4⟩:=store8 R7.out hW4;obtain ⟨z0,z1,z2,z3,z4,z5,z6,z7⟩:=aa_ b4;go_wp2_with fail
  exact bodyPost_ret (v:=.tuple #[.agg #[.slice g1' l1 r1',.slice g2' l2 r2,.slice g3' l3 r3,.int .i64 S'.nextSeq,.int .i64 S'.nextTag,.int .i64 S'.came,.int .i64 S'.acked,.int .i64 S'.dropped],.int .i64 N,.int .i64 0]) (by simp [results,Tryz.results72,go_sem,z0,z1,z2,z3,z4,z5,z6,z7]) rfl ⟨_,by first | rfl | rw [if_pos rfl],⟨fun _=>⟨_,_,_,_,_,_,_,_,_,rfl,((HO7.out.turn R7.out (by decide) t4).lower (by have:=HN.out;have:=HZ6.out;omega)).keep (Below.refl _ _).drew⟩,fun h=>absurd rfl h⟩,HB7.out.trans (t4.below (by have:=HB7.out.size;omega) (by omega)).drew⟩
 ·have hD':(D != 0) = true:=bne_iff_ne.2 hD;have HDN:=hidI hD;clear g1 g2 g3 g4 g5 g6 hb r1 t7 r7 hw7 hB7 hD;go_wp2_with fail
  generalize hW4:World.setCell (World.setCell (World.setCell (World.setCell (World.setCell (World.setCell (World.setCell (World.setCell w7 _ _) _ _) _ _) _ _) _ _) _ _) _ _) _ _ = W4;obtain ⟨b4,t4⟩:=store8 R7.out hW4;obtain ⟨z0,z1,z2,z3,z4,z5,z6,z7⟩:=aa_ b4;exact bodyPost_ret (v:=.tuple #[zerS,.int .i64 0,.int .i64 D]) (by simp [results,Tryz.results72,go_sem,z0,z1,z2,z3,z4,z5,z6,z7,zerS]) rfl ⟨zerS,by first | rfl | rw [if_neg HDN.out],⟨fun h=>absurd h HDN.out,fun _=>rfl⟩,HB7.out.trans (t4.below (by have:=HB7.out.size;omega) (by omega))⟩
def cV_ (W:World) (R:Nat) (s:ByteArray) (i:Nat):Prop:=W.heap[R]? = some (.cells #[.string s,.int .i64 i] 181 (0,0))
theorem cV_.cells {W:World} {R:Nat} {s:ByteArray} {i:Nat} (h:cV_ W R s i):W.cell? ⟨R,0,none⟩ = some (.string s)∧W.cell? ⟨R,1,none⟩ = some (.int .i64 i):=⟨coc_ h 0,coc_ h 1⟩
theorem cV_.keep {W W':World} {R:Nat} {s:ByteArray} {i:Nat} (h:cV_ W R s i) (hB:Below W.heap.size W W'):cV_ W' R s i:=pkp_ h hB
theorem cV_.set {W:World} {R:Nat} {s:ByteArray} {i:Nat} (h:cV_ W R s i) (j:Nat):cV_ (W.setCell ⟨R,1,none⟩ (.int .i64 j)) R s j:=scb_ h (j:=1) (.int .i64 j)
def kk_ {α:Type} (R:Nat) (s:ByteArray) (val:α→Value) (res:Option (α × Nat)) (e:Ending) (W:World):Prop:=
 match res with
 | none=>e = panE 1
 | some (x,j)=>e = .returned (val x)∧cV_ W R s j∧j≤s.size
def k4_ (s:ByteArray) (i n:Nat):Option (ByteArray × Nat):=if n≤s.size - i then some (s.extract i (i+n),i+n) else none
theorem kg_ (s:ByteArray) (i n R:Nat) (w:World) (hs:s.size≤1000000) (hi:i≤s.size) (hn:n≤1000000) (hR:cV_ w R s i) :
 Calls Tryz.prog 194 #[.pointer (some ⟨R,0,none⟩),.int .i64 n] w fun e w'=>ac_ w.heap.size R w w'∧kk_ R s Value.string (k4_ s i n) e w':=by
 have HR:=hidI hR;have hlt:=lth_ hR;obtain ⟨c0,c1⟩:=hR.cells;have j0:IntKind.i64.wrap ((s.size:Int) - (i:Int)) = ((s.size - i:Nat):Int):=by rw [IntKind.wrap_i64];omega
 obtain ⟨L,hL⟩:∃ L,L = s.size:=⟨_,rfl⟩
 have HL:=hidI hL;rw [← hL] at hs hi j0;obtain ⟨D,hD⟩:∃ D,D = L - i:=⟨_,rfl⟩
 rw [← hD] at j0;have HD:=hidI hD;have HC:Hid (∀ W',Below w.heap.size w W'→(W'.cell? ⟨R,0,none⟩ = some (.string s)∧W'.cell? ⟨R,1,none⟩ = some (.int .i64 i))):=fun W' h=>(HR.out.keep h).cells
 clear hR hL hD c0 c1;go_enter Tryz.func194,Tryz.ntmps194;go_wp2_with fail
 refine wp_region_held_drew (S:=fun W'=>W'.cell? ⟨R,0,none⟩ = some (.string s)∧W'.cell? ⟨R,1,none⟩ = some (.int .i64 i)) (by kernel_rfl) (HC.out _ (Below.refl _ _).drew) (fun hHeld=>?_);refine tk 0 ?_;refine tk 1 ?_;refine tk 2 ?_;refine tk 3 ?_;refine tk 4 ?_;refine tk 5 ?_;refine tk 6 ?_;refine tk 7 ?_;refine tk 8 ?_;refine tk 9 ?_;rw [← HL.out];refine tk 10 ?_;refine tk 11 ?_;refine rdy 12 (fun K hK=>?_);go_simp;refine hK.out _ _ (HC.out _ (by repeat (first | exact Below.refl _ _ | assumption | refine Below.drew ?_ | refine Below.alloc ?_ (by first | (simp;done) | (simp;omega) | omega) _ | refine Below.setCell ?_ (by first | (simp;done) | (simp;omega) | omega) _))) (fun hH1=>?_);clear hK K hHeld;try refine nrm ?_
 refine rdy 13 (fun K hK=>?_);go_simp;have hk0:Below w.heap.size w (w.alloc (Obj.cells #[Value.bool (decide (D < n))] 4)).drew:=(by repeat (first | exact Below.refl _ _ | assumption | refine Below.drew ?_ | refine Below.alloc ?_ (by first | (simp;done) | (simp;omega) | omega) _ | refine Below.setCell ?_ (by first | (simp;done) | (simp;omega) | omega) _));have hbn:bg_ (w.alloc (Obj.cells #[Value.bool (decide (D < n))] 4)).drew w.heap.size 0 [decide (D < n)]:=bl_ w [decide (D < n)];by_cases hc:D < n
 ·refine (ax_ 1 [decide (D < n)] _ _ (by simp) hbn (by simp [hc])).mono ?_;rintro e w3 ⟨rfl,rfl⟩;refine ⟨rfl,ac_.of_below hk0 (Nat.le_refl _),?_⟩;unfold kk_ k4_;rw [if_neg (by have:=HD.out;have:=HL.out;omega)];rfl
 ·refine (aG_ 1 [decide (D < n)] _ _ (by simp) hbn (by simp;omega)).mono ?_;rintro e w3 ⟨rfl,hw3⟩;have k3:Below w.heap.size w w3:=by rw [hw3];exact hk0
  refine hK.out _ _ (HC.out _ k3) (fun hH2=>?_);clear hK K hH1;try refine nrm ?_
  refine wpAnyH_done (by kernel_rfl) ?_ _;have hR3:=HR.out.keep k3;have HR3:=hidI hR3;have K3:=hidI k3;obtain ⟨c0,c1⟩:=hR3.cells;have f1:=foc_ hR3 1;obtain ⟨M,hM⟩:∃ M,M = i+n:=⟨_,rfl⟩
  have HM:=hidI hM;have j1:IntKind.i64.wrap ((i:Int)+(n:Int)) = (M:Int):=by have:=HD.out;rw [IntKind.wrap_i64];omega
  have hle:M≤L:=by have:=HD.out;omega
  have HLE:=hidI hle;clear hw3 hbn hH2 hk0 hR3 k3;have i1:(i:Int)≤(M:Int):=by omega
  have i2:(M:Int)≤(s.size:Int):=by have:=HL.out;omega
  clear hM;go_wp2_with fail
  have hR4:=HR3.out.set M;obtain ⟨w4,hw4⟩:∃ w4,w4 = w3.setCell ⟨R,1,none⟩ (.int .i64 (M:Int)):=⟨_,rfl⟩
  rw [← hw4] at hR4;have HR4:=hidI hR4;have HF:Hid (ac_ w.heap.size R w w4):=by show ac_ w.heap.size R w w4;rw [hw4];exact (ac_.of_below K3.out (Nat.le_refl _)).setCell (p:=⟨R,1,none⟩) (.inr rfl) _
  rw [← hw4];clear c0 c1 f1 j0 j1;obtain ⟨c0,c1⟩:=hR4.cells;have i0:(0:Int)≤(i:Int):=by omega
  clear hR4 hw4 hle;go_quiet (fail)
  go_wp2_with fail
  go_ret
  refine ⟨HF.out.trans ⟨rfl,rfl,rfl,Nat.le_refl _,fun _ _ _=>rfl⟩,?_⟩;unfold kk_ k4_;rw [if_pos (by have:=HLE.out;have:=HL.out;have:=HM.out;omega),← HM.out];exact ⟨rfl,HR4.out,by have:=HLE.out;have:=HL.out;omega⟩
end Go.Proofs.YtlbnkpicnokgoaaGreat
