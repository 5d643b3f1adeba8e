import Derived.Test.YtlbnkpicnokgoaaGreatUix
import Derived.Maps.OwnOps
import Derived.Test.YtlbnkpicnokgoaaGreatUdx
import Derived.Test.YtlbnkpicnokgoaaGreatUex
import Derived.Test.YtlbnkpicnokgoaaGreatUfx
namespace Go.Proofs.YtlbnkpicnokgoaaGreat
open Go.RowKit Go.Shelf Go.Maps
set_option linter.unusedVariables false
set_option maxRecDepth 100000
set_option maxHeartbeats 2000000
attribute [local go_sem] Oper.semAt_some
theorem mm_ (p:ad_) (a1 a2 a3:Option Addr) (n1 c1 n2 c2 n3 c3:Nat) (v:Nat) (key:ByteArray) (w:World) (hc:chkP p = 0) (hk:kerr key.data.toList = 0) (hv:v < n1) (hp:ap_ w a1 a2 a3 n1 n2 n3 p) :
 CallsIn Fence.wide 8 Tryz.prog 98 #[.agg #[.slice a1 n1 c1,.slice a2 n2 c2,.slice a3 n3 c3],.int .i64 (v:Nat),.string key] w fun e w'=>∃ zs a c,e = .returned (.tuple #[.slice a zs.length c,.int .i64 0])∧cu_ p key v zs∧zs.length≤12∧dH_ w' a zs∧Below w.heap.size w w':=by
 have hr:=bc_ hc;have h4:n1≤4:=by have:=hr.few.1;rw [hp.l1] at this;exact this
 have HRE:Hid (rtE p (v:Nat) key = 0):=by
  show rtE p (v:Nat) key = 0;unfold rtE;rw [if_pos hc,if_pos (aB_.2 ⟨by omega,by rw [hp.l1];omega⟩),hk]
 have HR:Hid (∀ (L:Trails) (i:Nat),Reached (bE_ p key) p.binds.length v L i→(∀ x ∈ L,x.1 < n1)∧L.length≤n1∧i≤L.length):=fun L i h=>by
  have:=ea_ hr (by rw [hp.l1];exact hv) h;rw [hp.l1] at this;exact this
 have HRP:Hid (bx_ p):=hr;have HP:Hid (ap_ w a1 a2 a3 n1 n2 n3 p):=hp;have HCK:Hid (chkP p = 0∧kerr key.data.toList = 0):=⟨hc,hk⟩;obtain ⟨W1,hW1,hBw,hs1,hbx⟩:=cr_ w (.slice a1 n1 c1) (.slice a2 n2 c2) (.slice a3 n3 c3) 26;have HW1:Hid (W1 = _):=hW1;have hpb1:W1.heap[w.heap.size]? = some (.cells #[.slice a1 n1 c1,.slice a2 n2 c2,.slice a3 n3 c3] 26 (0,0)):=by rw [hW1];exact World.alloc_heap_new w _
 have HP1:Hid (ap_ W1 a1 a2 a3 n1 n2 n3 p):=hp.keep hBw;have BX:Hid (∀ W,Below W1.heap.size W1 W→W.cell? ⟨w.heap.size,0,none⟩ = some (.slice a1 n1 c1)∧W.cell? ⟨w.heap.size,1,none⟩ = some (.slice a2 n2 c2)∧W.cell? ⟨w.heap.size,2,none⟩ = some (.slice a3 n3 c3)):=hbx;have s1:=hBw.size;clear hW1 hp hbx hc hk hr;refine callsIn_of_wp_marks Tryz.func98 rfl trivial (Go.wpIn_mono ?_ gD_) rfl;simp only [Tryz.ntmps98,List.size_toArray,List.length_cons,List.length_nil,Nat.reduceAdd,Nat.reduceSub,Array.replicate_succ,Array.replicate_zero,List.push_toArray,List.append_toArray,List.nil_append,List.cons_append];gi_wp2_with fail
 refine ⟨trivial,?_⟩;rw [← HW1.out];refine (callsIn_wide.2 (gh_ p _ _ _ _ _ _ _ _ _ _ _ _ HP1.out)).mono ?_;rintro e w2 ⟨rfl,hB2⟩;rw [HRE.out];have s2:=hB2.size;obtain ⟨d0,d1,d2⟩:=BX.out w2 hB2;obtain ⟨W3,hW3⟩:∃ W3,W3 = w2.alloc (.cells #[.slice none 0 0] 32):=⟨_,rfl⟩
 have HW3:Hid (W3 = _):=hW3;have hlb3:Boxed W3 w2.heap.size 32 (.slice none 0 0):=by rw [hW3];exact Boxed.new w2 _ _
 have hB3:Below w2.heap.size w2 W3:=by rw [hW3];exact (Below.refl _ _).alloc (Nat.le_refl _) _
 have hs3:w2.heap.size+1≤W3.heap.size:=by rw [hW3];simp
 have hB13:Below W1.heap.size W1 W3:=hB2.trans (hB3.mono s2);clear hW3;have hww:w.heap.size < w2.heap.size:=by omega
 gi_wp2_with fail
 refine ⟨trivial,?_⟩;rw [← HW3.out];clear d0 d1 d2;refine (ns_ p _ _ _ _ _ _ _ _ _ v key W3 HCK.out.1 HCK.out.2 hv (HP1.out.keep hB13)).more (by omega) |>.mono ?_
 rintro e w4 ⟨up,bm,L,iL,rfl,hre,hiL,hrow,_,_,hB4⟩;have hne:eF_ L≠[]:=fun e=>by
  have:=((hre.came fn_).1).first
  have h0:L = []:=by unfold eF_ at e;exact List.map_eq_nil_iff.1 e
  rw [h0] at this;simp at this
 rw [n8_] at hrow;obtain ⟨gp,cp,rfl,hgb,hgc,hgm,hir⟩:=hE_ hrow hne;have hll:(eF_ L).length = L.length:=by unfold eF_;rw [List.length_map]
 have HLL:Hid ((eF_ L).length = L.length):=hll;have s4:=hB4.size;have hB14:Below W1.heap.size W1 w4:=hB13.trans (hB4.mono hB13.size);have hst:QSt w4 w2.heap.size (.slice none 0 0) (qL p (aW_ p key (L.take 0))) [] w4:=⟨Turn.refl _ _,(hB4.block _ (by omega)).trans hlb3,World.ownsRow_nil _ _ _ _,⟨List.nodup_nil,fun D hD=>by simp at hD⟩⟩;have hpb4:w4.heap[w.heap.size]? = some (.cells #[.slice a1 n1 c1,.slice a2 n2 c2,.slice a3 n3 c3] 26 (0,0)):=(hB14.block _ (by omega)).trans hpb1;have hB04:Below w.heap.size w w4:=hBw.trans (hB14.mono s1);have HK:=aN_ (And.intro hpb4 (And.intro hir hB04));have hgp:=hir.lt;have hLn:=(HR.out L iL hre).2.1;have HND:Hid ((L.map Prod.fst).Nodup):=((hre.came fn_).1).once;clear hrow hlb3 hB3 hB4 hB13 hB14 hpb1 hpb4 hir hB04 hll hne hB2;gi_wp2_with fail
 refine wpIn_loop (fun a W=>∃ (i:Nat) (Ds:List Nat) (u u0 u1 u4 u5 u6 u7 u8 u10 u11 u12 u13 u14 u15 u16 u17 u18 u19 u20 u21 u22 u23 u24 u25 u26 u27 u28 u29 u33 u34 u35 u36 u37 u38 u39 u40 u41 u42 u43 u44 u45 u46 u47 u48 u49 u50 u51 u52 u53 u54:Value),a = { tmps:=#[u0,u1,.string key,.pointer (some ⟨w.heap.size,0,none⟩),u4,u5,u6,u7,u8,.pointer (some ⟨w2.heap.size,0,none⟩),u10,u11,u12,u13,u14,u15,u16,u17,u18,u19,u20,u21,u22,u23,u24,u25,u26,u27,u28,u29,.slice (some ⟨gp,0,none⟩) (eF_ L).length cp,.int .i64 ((eF_ L).length:Nat),.int .i64 (i:Nat),u33,u34,u35,u36,u37,u38,u39,u40,u41,u42,u43,u44,u45,u46,u47,u48,u49,u50,u51,u52,u53,u54],defers:=Ds.map lN_ }∧i≤L.length∧QSt w4 w2.heap.size u (qL p (aW_ p key (L.take i))) Ds W) (fun a _=>5 - (intOf (a.tmps.getD 32 undef)).toNat) ⟨0,[],_,_,_,_,_,_,_,_,_,_,_,_,_,_,_,_,_,_,_,_,_,_,_,_,_,_,_,_,_,_,_,_,_,_,_,_,_,_,_,_,_,_,_,_,_,_,_,_,_,_,rfl,Nat.zero_le _,hst⟩ ?_;rintro a W ⟨i,Ds,u,u0,u1,u4,u5,u6,u7,u8,u10,u11,u12,u13,u14,u15,u16,u17,u18,u19,u20,u21,u22,u23,u24,u25,u26,u27,u28,u29,u33,u34,u35,u36,u37,u38,u39,u40,u41,u42,u43,u44,u45,u46,u47,u48,u49,u50,u51,u52,u53,u54,rfl,hi,hs⟩
 have hW4:=hs.keep.size;by_cases hlt':i < (eF_ L).length
 ·have hlt:i < L.length:=by have:=HLL.out;omega
  obtain ⟨x,t,hxt⟩:∃ x t,L[i] = (x,t):=⟨_,_,rfl⟩
  have e3:W.cell? ⟨gp,i,none⟩ = some (.int .i64 (x:Nat)):=by
   have h1:=(HK.out.2.1.keep (hs.keep.block gp hgp (by omega))).cell (i:=i) (by rw [HLL.out];exact hlt);rw [h1];simp [eF_,hxt]
  have hpb:=(hs.keep.block w.heap.size (by omega) (by omega)).trans HK.out.1;have e0:=aX_ hpb 0;have e1:=aX_ hpb 1;have e2:=aX_ hpb 2;simp at e0 e1 e2;have j1:(0:Int)≤(i:Int):=by omega
  have j2:(i:Int) < ((eF_ L).length:Int):=by have:=HLL.out;omega
  obtain ⟨Wf,hWf,fb,hBW,hsW⟩:=eD_ W a1 a2 a3 n1 c1 n2 c2 n3 c3 (x:Nat) key;have HWF:Hid (Wf = _):=hWf;have hsF:=hs.below hBW;have hDW:=hs.marks.lt;have hgu:∀ g,u.ownBlock = some g→g < W.heap.size:=fun g e=>(hs.row.lt g e).2
  have HX:Hid (L[i] = (x,t)):=hxt;have h0F:Below w.heap.size w Wf:=HK.out.2.2.trans ((hs.keep.below (by omega) (fun k e=>by omega)).trans (hBW.mono (by omega)));have hJ10:(aW_ p key (L.take i)).length≤10:=by
   have hnd:((L.take i).map Prod.fst).Nodup:=(HND.out).sublist ((List.take_sublist i L).map _);have:=fQ_ (p:=p) (key:=key) hnd;have:=HRP.out.few.2.2;omega
  clear hWf hxt hpb;gi_wp2_with fail
  refine ⟨trivial,?_⟩;refine (gK_ _ _ _ _ _ _ _).mono ?_;rintro e w' ⟨rfl,rfl⟩;rw [← HWF.out];clear e0 e1 e2 e3;gi_wp2_with fail
  refine wpIn_rangeFunc_ownH rfl (by omega) (gf:=165) (lb:=#[.pointer (some ⟨W.heap.size,0,none⟩),.pointer (some ⟨W.heap.size+1,0,none⟩),.pointer (some ⟨W.heap.size+1+1,0,none⟩)]) rfl trivial (enters_of Tryz.func165 (by kernel_rfl) rfl)
   (h5_ 7 (by omega) W.heap.size p a1 a2 a3 n1 c1 n2 c2 n3 c3 (x:Nat) key w Wf HCK.out.1 HCK.out.2 HP.out (by omega) (by omega) h0F fb) (fun h k=>h.trans k) (fun W' l o o' hl ho _ _=>lC_ (by omega) (by omega) W' l o o' hl ho) (Below.refl _ _) (fun _=>rfl)
   (fun pre W'=>∃ u',QSt w4 w2.heap.size u' (qL p (aW_ p key (L.take i) ++ pre)) Ds W'∧(∀ g',u'.ownBlock = some g'→g' < W.heap.size∨W.heap.size+3≤g')∧Wf.heap.size≤W'.heap.size)
   (fun _ _ _=>False)
   (fun pre W' W'' row hI hg hr=>by
    obtain ⟨u',h1,h2,h3⟩:=hI;exact ⟨u',h1.other hg hr (by omega) (by omega) (fun D hD=>by have:=hDW D hD;omega),h2,Nat.le_trans h3 hg.size⟩)
   (fun _ _ _ _ _ h _ _=>h)
   ⟨u,by rw [List.append_nil];exact hsF,fun g' e=>.inl (hgu g' e),Nat.le_refl _⟩
   (fun y a' W'=>∃ Bx,W.heap.size+3≤Bx∧W'.heap[Bx]? = some (.cells #[.int .i64 (bAt p y).src,.bool (bAt p y).toPost,.int .i64 (bAt p y).dst,.string (bAt p y).pat] 100 (0,0))∧a' = { tmps:=#[u0,u1,.string key,.pointer (some ⟨w.heap.size,0,none⟩),u4,u5,u6,u7,u8,.pointer (some ⟨w2.heap.size,0,none⟩),u10,u11,u12,.int .i64 (x:Nat),u14,.pointer (some ⟨Bx,0,none⟩),u16,u17,u18,u19,u20,u21,u22,u23,u24,u25,u26,u27,u28,u29,.slice (some ⟨gp,0,none⟩) (eF_ L).length cp,.int .i64 ((eF_ L).length:Nat),.int .i64 (i:Nat),.bool true,.pointer (some ⟨gp,i,none⟩),.int .i64 (x:Nat),.agg #[.slice a1 n1 c1,.slice a2 n2 c2,.slice a3 n3 c3],.int .i64 (x:Nat),.string key,.func (.func 165) #[] #[.pointer (some ⟨W.heap.size,0,none⟩),.pointer (some ⟨W.heap.size+1,0,none⟩),.pointer (some ⟨W.heap.size+1+1,0,none⟩)],.int .i64 (y:Nat),(bAt p y).val,u42,u43,u44,u45,u46,u47,u48,u49,u50,u51,u52,u53,u54],defers:=[] })
   (fun y a' _ W' W'' row hA hg hr=>by
    obtain ⟨Bx,h1,h2,h3⟩:=hA;refine ⟨Bx,h1,(hg.block Bx (Array.getElem?_eq_some_iff.1 h2).1 (fun e=>?_)).trans h2,h3⟩;obtain ⟨_,o,h4,h5⟩:=hr Bx e.symm;rw [h2] at h4;cases h4;cases h5)
   ?assign ?body ?done ?stop
  case stop=>rintro D c pre W' _ _ h _;exact h.elim
  case assign=>
   rintro l pre y W' K ⟨u',h1,h2,h3⟩ hK;dsimp only [dA_.val];gi_wp2
   have hBa:Below W'.heap.size W' (W'.alloc (.cells #[.int .i64 (bAt p y).src,.bool (bAt p y).toPost,.int .i64 (bAt p y).dst,.string (bAt p y).pat] 100)):=(Below.refl _ _).alloc (Nat.le_refl _) _;exact hK _ _ ((KeepsOthers.alloc _ _).from _) (cF_.of_below hBa (by omega) (by omega)) ⟨u',h1.below hBa,h2,Nat.le_trans h3 hBa.size⟩ ⟨W'.heap.size,by omega,World.alloc_heap_new W' _,rfl⟩
  case body=>
   rintro l pre y a' W' hl _ ⟨u',h1,h2,h3⟩ ⟨Bx,hBx,hcell,rfl⟩ hlen;have h10:=gI_ (p:=p) (key:=key) (v:=(x:Nat)) HRP.out.few.2.2;have hql:=nT_ p (aW_ p key (L.take i) ++ pre);rw [List.length_append] at hql;have hql':(qL p (aW_ p key (L.take i) ++ pre)).length≤100:=by omega
   have m0:=aX_ hcell 0;have m1:=aX_ hcell 1;have m2:=aX_ hcell 2;have m3:=aX_ hcell 3;simp at m0 m1 m2 m3;have lc':=h1.lbox.cell;cases htp:(bAt p y).toPost with
   | true =>
     have HC:Hid (qL p (aW_ p key (L.take i) ++ (pre ++ [y])) = qL p (aW_ p key (L.take i) ++ pre)):=by show qL p _ = _;rw [← List.append_assoc];exact mj_ htp
     rw [htp] at m1;gi_wp2
     exact ⟨KeepsFrom.refl _ _,cF_.refl _ _ _,u',by rw [HC.out];exact h1,h2,h3⟩
   | false =>
     have HC:Hid (qL p (aW_ p key (L.take i) ++ (pre ++ [y])) = qL p (aW_ p key (L.take i) ++ pre) ++ [(bAt p y).dst]):=by show qL p _ = _;rw [← List.append_assoc];exact mk_ htp
     rw [htp] at m1;obtain ⟨i0,hi0,hz0,hz1,hz2⟩:=info_parts Tryz.infoInt;have hW'4:=h1.keep.size;obtain ⟨z,hz⟩:∃ z,z = (bAt p y).dst:=⟨_,rfl⟩
     rw [← hz] at m2 HC;obtain ⟨ql,hqe⟩:∃ ql,ql = qL p (aW_ p key (L.take i) ++ pre):=⟨_,rfl⟩
     rw [← hqe] at h1 hql' HC;clear htp hz hql hqe;gi_wp2_with (gi_at_builtin;refine wpListIn_append_own_at _ rfl _ _ 32 rfl w4.heap.size 3 i0 (.int .i64 0) 1 8 Tryz.underlying32 hi0 hz0 hz1 hz2 rfl (by decide) _ _ _ rfl (h1.row.alloc _) ⟨W'.heap.size,0,none⟩ 1 1 [.int .i64 z] rfl rfl (cell_one_new _ _ _) (by simp [Value.oneCell']) (by unfold maxLen;omega) (by omega) (by simp;omega) ?_;intro v' wc hown' hgrow _ hat';obtain ⟨gn,capn,rfl⟩:=ownsRow_succ hown';obtain ⟨hbx',hst',hturn⟩:=h1.push (by omega) hgrow (by simpa using hown');have hc1:=hbx'.cell;have hf1:=hbx'.frozen)
     exact ⟨h1.keepsFrom hturn (by omega),h1.keepF hturn (by omega) (by omega) (by omega) (by omega) (by omega) h2,_,by rw [HC.out];exact hst',fun g' e=>by
      rcases (show Value.ownBlock (.slice (some ⟨gn,0,none⟩) (ql.length+1) capn) = u'.ownBlock∨Value.ownBlock (.slice (some ⟨gn,0,none⟩) (ql.length+1) capn) = some (W'.alloc _).heap.size from hat') with e2 | e2
      ·exact h2 g' (e2.symm.trans e)
      ·rw [e2] at e;simp only [Option.some.injEq,World.size_alloc] at e;omega,Nat.le_trans h3 hturn.size⟩
  case done=>
   rintro D ys W' hD hys ⟨u',h1,h2,h3⟩ hmark;have hbt:=hU_ (p:=p) (key:=key) hlt;rw [HX.out] at hbt;rw [hys,← hbt] at h1;have h1':QSt w4 w2.heap.size u' (qL p (aW_ p key (L.take (i+1)))) (D :: Ds) W':=⟨h1.keep,h1.lbox,h1.row,h1.marks.cons (fun h=>by have:=hDW D h;omega) (by omega) hmark⟩;clear h1 hys hbt;gi_wp2_with fail
   exact ⟨⟨i+1,D :: Ds,u',_,_,_,_,_,_,_,_,_,_,_,_,_,_,_,_,_,_,_,_,_,_,_,_,_,_,_,_,_,_,_,_,_,_,_,_,_,_,_,_,_,_,_,_,_,_,_,_,_,rfl,by omega,h1'⟩,by simp [intOf];omega⟩
 ·have lc:=hs.lbox.cell;have hiL':i = L.length:=by have:=HLL.out;omega
  subst hiL';rw [List.take_length] at hs;have hJ10:(qL p (aW_ p key L)).length≤10:=by
   have h1:=nT_ p (aW_ p key L);have h2:=fQ_ (p:=p) (key:=key) HND.out;have:=HRP.out.few.2.2;omega
  have hB0W:Below w.heap.size w W:=HK.out.2.2.trans (hs.keep.below (by omega) (fun k e=>by omega));obtain ⟨ql,hqe⟩:∃ ql,ql = qL p (aW_ p key L):=⟨_,rfl⟩
  have HQ:Hid (ql = qL p (aW_ p key L)):=hqe;rw [← hqe] at hs hJ10;clear hqe;by_cases hq0:ql = []
  ·obtain ⟨au,cu,rfl⟩:∃ au cu,u = .slice au 0 cu:=by
    rcases hs.row.2 with ⟨rfl,_⟩ | ⟨g,cap,cur,rfl,_⟩
    ·exact ⟨none,0,rfl⟩
    ·exact ⟨_,cap,by rw [hq0];rfl⟩
   gi_wp2_with fail
   refine ⟨trivial,?_⟩;refine (callsIn_wide.2 (mD_ _ _ _)).mono ?_;rintro e w5 ⟨⟨q,rfl⟩,rfl⟩;gi_wp2_with fail
   refine ⟨trivial,?_⟩;refine (callsIn_wide.2 (hZ_ _ _ _)).mono ?_;rintro e w6 ⟨rfl,rfl⟩;gi_wp2_with fail
   refine c3_ (n0:=w4.heap.size) (Ds:=Ds) hs.marks (fun W' hW'=>?_);exact ⟨_,results_tmp2 rfl _ _ _,[],au,cu,rfl,ix_ HRP.out hre hiL List.Pairwise.nil (fun z=>by rw [← HQ.out,hq0]),by simp,.inl rfl,hB0W.trans (hW'.below hB0W.size (fun k h=>by have:=(hs.marks.there k h).1;omega))⟩
  ·obtain ⟨g,cg,rfl,hgb,hgc,hgm,hir⟩:=hE_ hs.row hq0;have hgne:=hs.row_ne (g:=g) rfl;gi_wp2_with fail
   refine ⟨trivial,?_⟩;refine (callsIn_wide.2 (nF_ ql g _ cg _ rfl (by omega) hir)).mono ?_;rintro e w5 ⟨⟨q,rfl⟩,ys,hpm,hso,hir5,ht5⟩;have lc5:=(ht5.boxed hs.lbox (fun e=>hgne.1 e.symm)).cell;have hm5:=hs.marks.turn ht5 (fun D hD e=>hgne.2 (by rw [← e];exact hD));have hyl:ys.length = ql.length:=hpm.length_eq;have HYL:Hid (ys.length = ql.length):=hyl;have HPM:=aN_ (And.intro hpm hso);clear lc hyl hpm hso;gi_wp2_with fail
   refine ⟨trivial,?_⟩;refine (callsIn_wide.2 (iR_ ys g _ cg _ HYL.out (by omega) hgc HPM.out.2 hir5)).mono ?_;rintro e w6 ⟨zs,cz,rfl,hz12,hzr,hzm,hir6,ht6⟩;have hm6:=hm5.turn ht6 (fun D hD e=>hgne.2 (by rw [← e];exact hD));clear lc5;gi_wp2_with fail
   refine c3_ (n0:=w4.heap.size) (Ds:=Ds) hm6 (fun W' hW'=>?_);have ht:Turn (fun k=>w4.heap.size≤k) W W':=((ht5.mono (fun k _ e=>by rw [e];exact hgb)).trans ht6 (fun k _ e=>by rw [e];exact hgb)).trans hW' (fun k _ h=>(hm6.there k h).1);exact ⟨_,results_tmp2 rfl _ _ _,zs,_,cz,rfl,ix_ HRP.out hre hiL hzr (fun z=>by rw [hzm,HPM.out.1.mem_iff,HQ.out]),hz12,(hir6.keep (hW'.block g hir6.lt hgne.2)).ints,hB0W.trans (ht.below hB0W.size (fun k h=>by omega))⟩
theorem gZ_ (p:ad_) (a1 a2 a3:Option Addr) (n1 c1 n2 c2 n3 c3:Nat) (v:Int) (key:ByteArray) (w:World) (hp:ap_ w a1 a2 a3 n1 n2 n3 p) :
 Calls Tryz.prog 98 #[.agg #[.slice a1 n1 c1,.slice a2 n2 c2,.slice a3 n3 c3],.int .i64 v,.string key] w fun e w'=>∃ zs a c,e = .returned (.tuple #[.slice a zs.length c,.int .i64 (rtE p v key)])∧(rtE p v key = 0→cu_ p key v.toNat zs)∧(rtE p v key≠0→zs = [])∧zs.length≤12∧dH_ w' a zs∧Below w.heap.size w w':=by
 obtain ⟨d,hd⟩:∃ d,d = rtE p v key:=⟨_,rfl⟩
 rw [← hd];by_cases h0:d = 0
 ·obtain ⟨z1,z2,z3,z4⟩:=on_ (hd.symm.trans h0);obtain ⟨x,rfl⟩:=Int.eq_ofNat_of_zero_le z3;refine (callsIn_wide.1 (mm_ p a1 a2 a3 n1 c1 n2 c2 n3 c3 x key w z1 z2 (by have:=hp.l1;omega) hp)).mono ?_;rintro e w' ⟨zs,a,c,rfl,h1,h2,h3,h4⟩;exact ⟨zs,a,c,by rw [h0],fun _=>h1,fun h=>absurd h0 h,h2,h3,h4⟩
 ·obtain ⟨W1,hW1,hBw,hs1,hbx⟩:=cr_ w (.slice a1 n1 c1) (.slice a2 n2 c2) (.slice a3 n3 c3) 26;have HW1:Hid (W1 = _):=hW1;have HP1:Hid (ap_ W1 a1 a2 a3 n1 n2 n3 p):=hp.keep hBw;have HD:Hid (d = rtE p v key):=hd;have s1:=hBw.size;have h0':(d != 0) = true:=bne_iff_ne.2 h0;have H0:Hid (¬ d = 0):=h0;clear h0 hd hW1 hp hbx hs1;go_enter Tryz.func98,Tryz.ntmps98;go_wp2_with fail
  rw [← HW1.out];refine (gh_ p _ _ _ _ _ _ _ _ _ _ _ _ HP1.out).mono ?_;rintro e w2 ⟨rfl,hB2⟩;rw [← HD.out];go_wp2_with fail
  go_ret2
  exact ⟨[],none,0,rfl,fun h=>absurd h H0.out,fun _=>rfl,by simp,.inl rfl,hBw.trans (hB2.mono s1)⟩
end Go.Proofs.YtlbnkpicnokgoaaGreat
namespace Go.Proofs.YtlbnkpicnokgoaaGreat
open Go.RowKit Go.Maps
set_option linter.unusedVariables false
set_option maxRecDepth 100000
end Go.Proofs.YtlbnkpicnokgoaaGreat
namespace Go.Proofs.YtlbnkpicnokgoaaGreat
open Go.RowKit Go.Shelf Go.Maps
set_option linter.unusedVariables false
set_option maxRecDepth 100000
attribute [local go_sem] Oper.semAt_some
end Go.Proofs.YtlbnkpicnokgoaaGreat
namespace Go.Proofs.YtlbnkpicnokgoaaGreat
open Go.RowKit Go.Maps
set_option linter.unusedVariables false
set_option maxRecDepth 100000
set_option maxHeartbeats 2000000
theorem arc_some {p:ad_} {key:ByteArray} {n u x:Nat} (hr:bx_ p) (h:bE_ p key n = some (u,x)):n < p.binds.length∧fitP p n key = true∧(bAt p n).toPost = true∧(bAt p n).src = u∧(bAt p n).dst = x:=by
 unfold bE_ at h;split at h
 ·rename_i hh;obtain ⟨h1,h2,h3⟩:=hh;simp at h;have e1:=(hr.src _ (List.getElem_mem h1)).1;have e2:=(hr.dst _ (List.getElem_mem h1)).1;rw [← db_ h1] at e1 e2;exact ⟨h1,h2,h3,by omega,by omega⟩
 ·cases h
structure Marked (A:Nat→Option (Nat × Nat)) (v:Nat) (bs:List Bool) (r k:Nat):Prop where
 sound:∀ i,bs.getD i false = true→∃ s,Path A v s i
 full:∀ s i,Path A v s i→(s.length≤r∨∃ s' m,s = s' ++ [m]∧s'.length≤r∧m < k)→bs.getD i false = true
theorem fE_ {bs:List Bool} {x i:Nat} (hx:x < bs.length):(bs.set x true).getD i false = (decide (i = x) || bs.getD i false):=by
 rw [List.getD_eq_getElem?_getD,List.getD_eq_getElem?_getD,List.getElem?_set];by_cases h:x = i
 ·subst h;rw [if_pos rfl,if_pos hx];simp
 ·rw [if_neg h];have:¬ i = x:=fun e=>h e.symm;simp [this]
theorem h6_ {n i:Nat}:(List.replicate n false).getD i false = false:=by
 rw [List.getD_eq_getElem?_getD,List.getElem?_replicate];split <;> rfl
theorem Marked.start {A:Nat→Option (Nat × Nat)} {v n:Nat} (hv:v < n):Marked A v ((List.replicate n false).set v true) 0 0 where
 sound:=by
  intro i h;rw [fE_ (by simpa using hv),h6_] at h;simp at h;subst h;exact ⟨[],.nil⟩
 full:=by
  intro s i hp h;rw [fE_ (by simpa using hv)];rcases h with h | ⟨s',m,_,_,h⟩
  ·have e:s = []:=List.length_eq_zero_iff.1 (by omega);subst e;rcases hp.inv with ⟨_,rfl⟩ | ⟨s',u,m,e,_,_⟩
   ·simp
   ·simp at e
  ·omega
theorem Marked.stay {A:Nat→Option (Nat × Nat)} {v:Nat} {bs:List Bool} {r k:Nat} (h:Marked A v bs r k) (hA:∀ u x,A k = some (u,x)→bs.getD u false = false):Marked A v bs r (k+1):=by
 refine ⟨h.sound,fun s i hp hl=>?_⟩;rcases hl with hl | ⟨s',m,rfl,h1,h2⟩
 ·exact h.full s i hp (.inl hl)
 ·by_cases e:m < k
  ·exact h.full _ i hp (.inr ⟨s',m,rfl,h1,e⟩)
  ·have e2:m = k:=by omega
   subst e2;obtain ⟨u,hu,ha⟩:=hp.inv_snoc;have:=h.full s' u hu (.inl h1);rw [hA u i ha] at this;cases this
theorem Marked.mark {A:Nat→Option (Nat × Nat)} {v:Nat} {bs:List Bool} {r k u x:Nat} (h:Marked A v bs r k) (hA:A k = some (u,x)) (hu:bs.getD u false = true) (hx:x < bs.length):Marked A v (bs.set x true) r (k+1):=by
 obtain ⟨s0,hs0⟩:=h.sound u hu;refine ⟨fun i hi=>?_,fun s i hp hl=>?_⟩
 ·rw [fE_ hx] at hi;by_cases e:i = x
  ·subst e;exact ⟨_,.snoc hs0 hA⟩
  ·simp [e] at hi;exact h.sound i (by rw [List.getD_eq_getElem?_getD];exact hi)
 ·rw [fE_ hx];rcases hl with hl | ⟨s',m,rfl,h1,h2⟩
  ·rw [h.full s i hp (.inl hl)];simp
  ·by_cases e:m < k
   ·rw [h.full _ i hp (.inr ⟨s',m,rfl,h1,e⟩)];simp
   ·have e2:m = k:=by omega
    subst e2;obtain ⟨u',hu',ha⟩:=hp.inv_snoc;rw [hA] at ha;simp at ha;rw [ha.2];simp
theorem Marked.next {A:Nat→Option (Nat × Nat)} {v:Nat} {bs:List Bool} {r nb:Nat} (h:Marked A v bs r nb) (hnb:∀ m q,A m = some q→m < nb):Marked A v bs (r+1) 0:=by
 refine ⟨h.sound,fun s i hp hl=>?_⟩;rcases hl with hl | ⟨_,_,_,_,h2⟩
 ·rcases hp.inv with ⟨rfl,rfl⟩ | ⟨s',u,m,rfl,h1,h2⟩
  ·exact h.full [] _ .nil (.inl (by simp))
  ·exact h.full _ i hp (.inr ⟨s',m,rfl,by simp at hl;omega,hnb m _ h2⟩)
 ·omega
theorem gc_ {A:Nat→Option (Nat × Nat)} {nb r N:Nat} (hN:∀ L i,Reached A nb r L i→L.length≤N):∀ (k:Nat) {L:Trails} {i:Nat},Reached A nb r L i→N≤i+k→∃ L' i',Reached A nb r L' i'∧¬ i' < L'.length
 | 0,L,i,h,hk=>⟨L,i,h,by have:=hN L i h;omega⟩
 | k + 1, L, i, h, hk => by
   by_cases hi:i < L.length
   ·exact gc_ hN k (Reached.next h hi) (by omega)
   ·exact ⟨L,i,h,hi⟩
theorem k0_ {p:ad_} {key:ByteArray} (hr:bx_ p) {v:Nat} (hv:v < p.posts.length) {s:List Nat} {x:Nat} (h:Path (bE_ p key) v s x):∃ s',Path (bE_ p key) v s' x∧s'.length≤p.posts.length:=by
 obtain ⟨L,i,hL,hi⟩:=gc_ (A:=bE_ p key) (nb:=p.binds.length) (r:=v) (N:=p.posts.length) (fun L i h=>(ea_ hr hv h).2.1) p.posts.length Reached.start (by omega);have hc:=(hL.came fn_).1;have hx:=(hL.found fn_ hi).all h;obtain ⟨y,hy,rfl⟩:=List.mem_map.1 hx;obtain ⟨j,hj,rfl⟩:=hz_ hy;have h1:=hc.short (j+1) j hj (by omega);have h2:=(ea_ hr hv hL).2.1;exact ⟨_,hc.path _ hy,by omega⟩
theorem Marked.done {p:ad_} {key:ByteArray} (hr:bx_ p) {v:Nat} (hv:v < p.posts.length) {bs:List Bool} {r:Nat} (h:Marked (bE_ p key) v bs r 0) (hle:p.posts.length≤r) (x:Nat):bs.getD x false = true↔∃ s,Path (bE_ p key) v s x:=by
 refine ⟨h.sound x,?_⟩;rintro ⟨s,hs⟩;obtain ⟨s',h1,h2⟩:=k0_ hr hv hs;exact h.full s' x h1 (.inl (by omega))
def bz_ (f:Nat→Bool) (k:Nat):List Int:=((List.range k).filter f).map (fun i:Nat=>(i:Int))
theorem jW_ {f:Nat→Bool} {k:Nat} (h:f k = true):bz_ f (k+1) = bz_ f k ++ [(k:Int)]:=by unfold bz_;rw [List.range_succ,List.filter_append];simp [h]
theorem lV_ {f:Nat→Bool} {k:Nat} (h:f k = false):bz_ f (k+1) = bz_ f k:=by unfold bz_;rw [List.range_succ,List.filter_append];simp [h]
theorem eI_ (f:Nat→Bool) (k:Nat):(bz_ f k).length≤k:=by
 unfold bz_;rw [List.length_map];have:=List.length_filter_le f (List.range k);simpa using this
theorem hA_ {f:Nat→Bool} {k:Nat} {z:Int}:z ∈ bz_ f k↔∃ x:Nat,z = x∧x < k∧f x = true:=by
 unfold bz_;simp only [List.mem_map,List.mem_filter,List.mem_range];constructor
 ·rintro ⟨x,⟨h1,h2⟩,rfl⟩;exact ⟨x,rfl,h1,h2⟩
 ·rintro ⟨x,rfl,h1,h2⟩;exact ⟨x,⟨h1,h2⟩,rfl⟩
theorem ip_ (f:Nat→Bool) (k:Nat):(bz_ f k).Pairwise (· < ·):=by
 unfold bz_;rw [List.pairwise_map];exact (List.Pairwise.filter f List.pairwise_lt_range).imp (fun h=>by omega)
theorem od_ {p:ad_} {key:ByteArray} (hr:bx_ p) {v:Nat} (hv:v < p.posts.length) {s:List Nat} {x:Nat} (h:Path (bE_ p key) v s x):x < p.posts.length:=by
 rcases h.inv with ⟨_,e⟩ | ⟨s,u,n,_,_,e⟩
 ·omega
 ·obtain ⟨h1,h2,h3,h4,h5⟩:=arc_some hr e;have:=jI_ hr n h3;omega
theorem ft_ {p:ad_} {key:ByteArray} (hr:bx_ p) {v:Nat} (hv:v < p.posts.length) {bs:List Bool} {r:Nat} (h:Marked (bE_ p key) v bs r 0) (hle:p.posts.length≤r):g9_ p key v (bz_ (fun i=>bs.getD i false) p.posts.length):=by
 refine ⟨ip_ _ _,fun z=>?_⟩;rw [hA_];constructor
 ·rintro ⟨x,rfl,h1,h2⟩;exact ⟨x,rfl,(h.done hr hv hle x).1 h2⟩
 ·rintro ⟨x,rfl,s,hs⟩;exact ⟨x,rfl,od_ hr hv hs,(h.done hr hv hle x).2 ⟨s,hs⟩⟩
def dP_ (p:ad_) (key:ByteArray) (ps:List Int) (q:Int) (k:Nat):Bool:=(List.range k).any (fun n=>!(bAt p n).toPost && (decide ((bAt p n).dst = q) && (decide ((bAt p n).src ∈ ps) && fitP p n key)))
theorem i2_ {p:ad_} {key:ByteArray} {ps:List Int} {q:Int} {k:Nat}:dP_ p key ps q (k+1) = (dP_ p key ps q k || (!(bAt p k).toPost && (decide ((bAt p k).dst = q) && (decide ((bAt p k).src ∈ ps) && fitP p k key)))):=by
 unfold dP_;rw [List.range_succ,List.any_append];simp
theorem gb_ {p:ad_} {key:ByteArray} (hr:bx_ p) {v:Nat} {ps:List Int} (hp:g9_ p key v ps):cu_ p key v (bz_ (fun q=>dP_ p key ps (q:Int) p.binds.length) p.queues.length):=by
 refine ⟨ip_ _ _,fun z=>?_⟩;rw [hA_];constructor
 ·rintro ⟨x,rfl,h1,h2⟩;unfold dP_ at h2;simp only [List.any_eq_true,List.mem_range,Bool.and_eq_true,Bool.not_eq_true',decide_eq_true_eq] at h2;obtain ⟨n,hn,a1,a2,a3,a4⟩:=h2;obtain ⟨y,hy,hs⟩:=(hp.mem _).1 a3;exact ⟨n,hn,a4,a1,a2,by rw [hy,Int.toNat_natCast];exact hs⟩
 ·rintro ⟨n,hn,a4,a1,rfl,hs⟩;have hd:=hr.dst _ (List.getElem_mem hn);have hsr:=hr.src _ (List.getElem_mem hn);rw [← db_ hn] at hd hsr;rw [a1] at hd;simp only [Bool.false_eq_true,if_false] at hd;refine ⟨(bAt p n).dst.toNat,by omega,by omega,?_⟩;unfold dP_;simp only [List.any_eq_true,List.mem_range,Bool.and_eq_true,Bool.not_eq_true',decide_eq_true_eq];exact ⟨n,hn,a1,by omega,(hp.mem _).2 ⟨(bAt p n).src.toNat,by omega,hs⟩,a4⟩
def fG_ (A:Nat→Option (Nat × Nat)) (bs:List Bool) (k:Nat):List Bool:=
 match A k with
 | none=>bs
 | some (u,x)=>if bs.getD u false = true then bs.set x true else bs
def gU_ (A:Nat→Option (Nat × Nat)) (bs:List Bool):Nat→List Bool
 | 0=>bs
 | k+1=>fG_ A (gU_ A bs k) k
def kG_ (A:Nat→Option (Nat × Nat)) (nb:Nat) (bs:List Bool):Nat→List Bool
 | 0=>bs
 | r+1=>gU_ A (kG_ A nb bs r) nb
theorem im_ (A:Nat→Option (Nat × Nat)) (bs:List Bool) (k:Nat):(fG_ A bs k).length = bs.length:=by
 unfold fG_;split
 ·rfl
 ·split
  ·simp
  ·rfl
theorem fb_ (A:Nat→Option (Nat × Nat)) (bs:List Bool):∀ k,(gU_ A bs k).length = bs.length
 | 0=>rfl
 | k+1=>by unfold gU_;rw [im_,fb_ A bs k]
theorem il_ (A:Nat→Option (Nat × Nat)) (nb:Nat) (bs:List Bool):∀ r,(kG_ A nb bs r).length = bs.length
 | 0=>rfl
 | r+1=>by unfold kG_;rw [fb_,il_ A nb bs r]
theorem Marked.onw {A:Nat→Option (Nat × Nat)} {v:Nat} {bs:List Bool} {r:Nat} (hA:∀ k u x,A k = some (u,x)→x < bs.length) (h:Marked A v bs r 0):∀ k,Marked A v (gU_ A bs k) r k
 | 0=>h
 | k + 1 => by
   have ih:=Marked.onw hA h k;unfold gU_ fG_;split
   ·rename_i e;exact ih.stay (fun u x hx=>by rw [e] at hx;cases hx)
   ·rename_i u x e;split
    ·rename_i hu;exact ih.mark e hu (by rw [fb_];exact hA _ _ _ e)
    ·rename_i hu;exact ih.stay (fun u' x' hx=>by rw [e] at hx;cases hx;simpa using hu)
def jd_ (p:ad_) (key:ByteArray) (v:Nat):List Bool:=kG_ (bE_ p key) p.binds.length ((List.replicate p.posts.length false).set v true) p.posts.length
theorem kH_ {p:ad_} {key:ByteArray} (hr:bx_ p) {v:Nat} (hv:v < p.posts.length):Marked (bE_ p key) v (jd_ p key v) p.posts.length 0:=by
 unfold jd_;have:∀ r,Marked (bE_ p key) v (kG_ (bE_ p key) p.binds.length ((List.replicate p.posts.length false).set v true) r) r 0:=by
  intro r;induction r with
  | zero=>exact Marked.start hv
  | succ r ih =>
    unfold kG_;refine (Marked.onw (fun k u x e=>?_) ih p.binds.length).next fn_;obtain ⟨h1,h2,h3,h4,h5⟩:=arc_some hr e;have:=jI_ hr k h3;rw [il_];simp;omega
 exact this _
def qsC (p:ad_) (key:ByteArray) (v:Nat):List Int:=bz_ (fun q=>dP_ p key (bz_ (fun i=>(jd_ p key v).getD i false) p.posts.length) (q:Int) p.binds.length) p.queues.length
theorem j0_ {p:ad_} {key:ByteArray} (hr:bx_ p) {v:Nat} (hv:v < p.posts.length):cu_ p key v (qsC p key v):=gb_ hr (ft_ hr hv (kH_ hr hv) (Nat.le_refl _))
theorem ml_ (p:ad_) (key:ByteArray) (v:Nat):(qsC p key v).length≤p.queues.length:=eI_ _ _
theorem oi_ {p:ad_} {key:ByteArray} {v:Nat} {z:Int} (h:z ∈ qsC p key v):0≤z∧z < p.queues.length:=by
 obtain ⟨x,rfl,hx,_⟩:=hA_.1 h;omega
structure ArrD where
 queue:Int
 key:ByteArray
 body:ByteArray
 deaths:Int
def bb_ (zs:List Int) (key body:ByteArray) (d:Int):List ArrD:=zs.map (fun z=>⟨z,key,body,d⟩)
def dieL (p:ad_) (q:Nat) (x:ae_):List ArrD:=if (qAt p q).dead = -1∨2≤x.deaths then [] else bb_ (qsC p x.key (qAt p q).dead.toNat) x.key x.body (x.deaths+1)
def putL (p:ad_) (q:Nat) (line:List ae_):List ae_:=if (line.length:Int)≤(qAt p q).limit then line else line.tail
def putD (p:ad_) (q:Nat) (line:List ae_):Int:=if (line.length:Int)≤(qAt p q).limit then 0 else 1
def putA (p:ad_) (q:Nat) (line:List ae_):List ArrD:=if (line.length:Int)≤(qAt p q).limit then [] else match line with | []=>[] | y :: _=>dieL p q y
def putS (p:ad_) (s:ab_) (q:Nat) (x:ae_):ab_:={ s with ready:=s.ready.set q (putL p q (ay_ (af_ s q) x)),dropped:=s.dropped+putD p q (ay_ (af_ s q) x) }
def putB (p:ad_) (s:ab_) (q:Nat) (x:ae_):List ArrD:=putA p q (ay_ (af_ s q) x)
def az_ (s:ab_) (a:ArrD):ae_:=⟨s.nextSeq,a.key,a.body,false,a.deaths⟩
def upS (s:ab_):ab_:={ s with nextSeq:=s.nextSeq+1,came:=s.came+1 }
def dC_ (p:ad_) (s:ab_) (a:ArrD):ab_:=putS p (upS s) a.queue.toNat (az_ s a)
def df_ (p:ad_) (s:ab_) (a:ArrD):List ArrD:=putB p (upS s) a.queue.toNat (az_ s a)
def arrS (p:ad_):Nat→ab_→List ArrD→ab_
 | 0,s,_=>s
 | _ + 1,s,[]=>s
 | f+1,s,a :: l=>arrS p f (dC_ p s a) (l ++ df_ p s a)
def arrN (p:ad_):Nat→ab_→List ArrD→Nat
 | 0,_,_=>0
 | _ + 1,_,[]=>0
 | f+1,s,a :: l=>arrN p f (dC_ p s a) (l ++ df_ p s a)+1
theorem fd_ (xs:List ae_) (x:ae_):(ay_ xs x).Perm (x :: xs):=by
 unfold ay_;have:(xs.take (idxSeq x.seq xs) ++ [x] ++ xs.drop (idxSeq x.seq xs)).Perm (x :: (xs.take (idxSeq x.seq xs) ++ xs.drop (idxSeq x.seq xs))):=by
  rw [List.append_assoc];exact List.perm_middle
 rwa [List.take_append_drop] at this
theorem c6_ (xs:List ae_) (x:ae_):(ay_ xs x).length = xs.length+1:=by simpa using (fd_ xs x).length_eq
theorem nA_ (p:ad_) (s:ab_) {q:Nat} (x:ae_) (h:q < s.ready.length) :
 ((putD p q (ay_ (af_ s q) x) = 0 ∧ (as_ (putS p s q x)).Perm (x.seq :: as_ s)) ∨
  (putD p q (ay_ (af_ s q) x) = 1∧∃ y r,ay_ (af_ s q) x = y :: r∧(y.seq :: as_ (putS p s q x)).Perm (x.seq :: as_ s))):=by
 obtain ⟨A,B,h1,h2⟩:=kZ_ s h (putL p q (ay_ (af_ s q) x));have e2:as_ (putS p s q x) = A ++ (putL p q (ay_ (af_ s q) x)).map ae_.seq ++ B:=by unfold putS;rw [← h2];rfl
 have hp:((ay_ (af_ s q) x).map ae_.seq).Perm (x.seq :: (af_ s q).map ae_.seq):=by simpa using (fd_ (af_ s q) x).map ae_.seq
 have key:(A ++ (ay_ (af_ s q) x).map ae_.seq ++ B).Perm (x.seq :: as_ s):=by
  rw [h1];have e:(A ++ (ay_ (af_ s q) x).map ae_.seq ++ B).Perm (A ++ (x.seq :: (af_ s q).map ae_.seq) ++ B):=(hp.append_left A).append_right B;refine e.trans ?_;rw [List.append_assoc,List.append_assoc];exact List.perm_middle
 by_cases hc:((ay_ (af_ s q) x).length:Int)≤(qAt p q).limit
 ·left
  have e1:putL p q (ay_ (af_ s q) x) = ay_ (af_ s q) x:=if_pos hc;exact ⟨if_pos hc,by rw [e2,e1];exact key⟩
 ·right
  have e1:putL p q (ay_ (af_ s q) x) = (ay_ (af_ s q) x).tail:=if_neg hc;refine ⟨if_neg hc,?_⟩;cases hl:ay_ (af_ s q) x with
  | nil=>have:=c6_ (af_ s q) x;rw [hl] at this;simp at this
  | cons y r =>
    refine ⟨y,r,rfl,?_⟩;rw [e2,e1,hl,List.tail_cons];rw [hl] at key;refine List.Perm.trans ?_ key;rw [List.map_cons,List.append_assoc,List.append_assoc,List.cons_append];exact List.perm_middle.symm
theorem gS_ (p:ad_) {s:ab_} {q r:Nat} (h:q < s.ready.length) (x:ae_):af_ (putS p s q x) r = if r = q then putL p q (ay_ (af_ s q) x) else af_ s r:=gT_ h _ _
theorem og_ {p:ad_} {q:Nat} {l:List ae_} (h:at_ l = true):at_ (putL p q l) = true:=by
 unfold putL;split
 ·exact h
 ·obtain ⟨h1,h2⟩:=bv_.1 h;exact bv_.2 ⟨fun z hz=>h1 z (List.mem_of_mem_tail hz),h2.tail⟩
theorem cD_ {s:ab_} {q:Nat} {x:ae_} (hq:q < s.ready.length) (hl:at_ (af_ s q) = true) (hx:x.seq ∉ as_ s):bL_ x.seq (af_ s q) = false:=by
 rw [Bool.eq_false_iff];intro h;obtain ⟨z,hz,e⟩:=(n5_ hl).1 h;apply hx
 unfold as_;refine List.mem_append_left _ (List.mem_flatMap.2 ⟨af_ s q,a7_ hq,?_⟩);rw [← e];exact List.mem_map_of_mem hz
theorem ak_.put {p:ad_} {s:ab_} {q:Nat} {x:ae_} (h:ak_ p s 1) (hq:q < s.ready.length) (hx:am_ x = true) (hn:x.seq ∉ as_ s) (hlt:x.seq < s.nextSeq):ak_ p (putS p s q x) 0:=by
 have hl:=h.line _ (a7_ hq);have hh:=cD_ hq hl hn;have hpl:at_ (ay_ (af_ s q) x) = true:=ds_ hl hx hh;have hsq:=nA_ p s x hq;have hnx:(x.seq :: as_ s).Nodup:=List.nodup_cons.2 ⟨hn,h.nodup⟩;have hd:putD p q (ay_ (af_ s q) x) = 0∨putD p q (ay_ (af_ s q) x) = 1:=by unfold putD;split <;> simp
 refine ⟨h.pl,h.tk,by simpa [putS] using h.len,?_,h.tok,h.outs,h.ns,h.nt,h.ak,?_,?_,?_,?_,h.hold,?_,h.cs⟩
 ·intro l hl';rcases List.mem_or_eq_of_mem_set hl' with h' | h'
  ·exact h.line l h'
  ·rw [h'];exact og_ hpl
 ·show 0≤s.dropped + _;have:=h.dr;omega
 ·rcases hsq with ⟨_,h1⟩ | ⟨_,y,r,_,h1⟩
  ·exact h1.nodup_iff.2 hnx
  ·exact (List.nodup_cons.1 (h1.nodup_iff.2 hnx)).2
 ·intro z hz;show z < s.nextSeq;have:z ∈ x.seq :: as_ s:=by
   rcases hsq with ⟨_,h1⟩ | ⟨_,y,r,_,h1⟩
   ·exact h1.mem_iff.1 hz
   ·exact h1.mem_iff.1 (List.mem_cons_of_mem _ hz)
  rcases List.mem_cons.1 this with rfl | h'
  ·exact hlt
  ·exact h.lt z h'
 ·intro r hr;have hr':r < s.ready.length:=by simpa [putS] using hr
  rw [gS_ p hq];split
  ·rename_i e;subst e;unfold putL;split
   ·assumption
   ·have:=h.room r hr';rw [List.length_tail,c6_];omega
  ·exact h.room r hr'
 ·show s.came = ((as_ (putS p s q x)).length:Int)+0+s.acked+(s.dropped + _);have:=h.sum;rcases hsq with ⟨e,h1⟩ | ⟨e,y,r,_,h1⟩
  ·have:=h1.length_eq;rw [e];simp at this;omega
  ·have:=h1.length_eq;rw [e];simp at this;omega
structure c9_ (p:ad_) (a:ArrD):Prop where
 q:0≤a.queue∧a.queue < p.queues.length
 k:kerr a.key.data.toList = 0
 b:a.body.size≤12
 d:0≤a.deaths∧a.deaths≤2
theorem iY_ {p:ad_} {q:Nat} {x:ae_} (hx:am_ x = true):(∀ a ∈ dieL p q x,c9_ p a)∧(dieL p q x).length≤p.queues.length:=by
 unfold dieL;split
 ·simp
 ·rename_i hc;obtain ⟨h1,h2,h3,h4,h5,h6⟩:=by_ hx;refine ⟨fun a ha=>?_,by unfold bb_;rw [List.length_map];exact ml_ _ _ _⟩;obtain ⟨z,hz,rfl⟩:=List.mem_map.1 ha;exact ⟨oi_ hz,h3,h4,by simp only;omega⟩
theorem mh_ {p:ad_} {q:Nat} {l:List ae_} (h:at_ l = true):(∀ a ∈ putA p q l,c9_ p a)∧(putA p q l).length≤p.queues.length:=by
 unfold putA;split
 ·simp
 ·cases l with
  | nil=>simp
  | cons y r=>exact iY_ ((bv_.1 h).1 y List.mem_cons_self)
theorem ak_.up {p:ad_} {s:ab_} (h:ak_ p s 0) (hs:s.nextSeq < 1048576):ak_ p (upS s) 1:=
 ⟨h.pl,h.tk,h.len,h.line,h.tok,h.outs,by show 0≤s.nextSeq+1∧s.nextSeq+1≤1048576;have:=h.ns;omega,h.nt,h.ak,h.dr,h.nodup,fun z hz=>by show z < s.nextSeq+1;have:=h.lt z hz;omega,h.room,h.hold,by show s.came+1 = ((as_ s).length:Int)+1+s.acked+s.dropped;have:=h.sum;omega,by show s.came+1 = s.nextSeq+1;have:=h.cs;omega⟩
theorem d0_ {p:ad_} {s:ab_} {a:ArrD} (h:ak_ p s 0) (ha:c9_ p a) (hs:s.nextSeq < 1048576):am_ (az_ s a) = true:=f1_ h.ns.1 hs ha.k ha.b ha.d.1 ha.d.2
theorem eN_ {p:ad_} {s:ab_} {a:ArrD} (h:ak_ p s 0):(az_ s a).seq ∉ as_ (upS s):=fun hm=>by
 have:=h.lt _ hm;simp [az_] at this
theorem ak_.recv {p:ad_} {s:ab_} {a:ArrD} (h:ak_ p s 0) (ha:c9_ p a) (hs:s.nextSeq < 1048576):ak_ p (dC_ p s a) 0:=
 (h.up hs).put (by show a.queue.toNat < s.ready.length;rw [h.len];have:=ha.q;omega) (d0_ h ha hs) (eN_ h) (by show s.nextSeq < s.nextSeq+1;omega)
theorem eM_ {p:ad_} {s:ab_} {a:ArrD} (h:ak_ p s 0) (ha:c9_ p a) (hs:s.nextSeq < 1048576):(∀ b ∈ df_ p s a,c9_ p b)∧(df_ p s a).length≤p.queues.length:=by
 have hq:a.queue.toNat < (upS s).ready.length:=by show a.queue.toNat < s.ready.length;rw [h.len];have:=ha.q;omega
 have hl:at_ (af_ (upS s) a.queue.toNat) = true:=h.line _ (a7_ hq);exact mh_ (ds_ hl (d0_ h ha hs) (cD_ hq hl (eN_ h)))
def lw (d:Int):Nat:=if d≤0 then 20 else if d = 1 then 4 else 0
def wts (l:List ae_):List Nat:=l.map (fun x=>lw x.deaths)
def gd_ (s:ab_):Nat:=(s.ready.flatMap wts).sum
def arrW (l:List ArrD):Nat:=(l.map (fun a=>lw a.deaths+1)).sum
def phi (s:ab_) (l:List ArrD):Nat:=gd_ s+arrW l
theorem oF_ (d:Int):lw d≤20:=by unfold lw;split <;> (try split) <;> omega
theorem mI_ {l:List Nat} {c:Nat} (h:∀ x ∈ l,x≤c):l.sum≤l.length * c:=by
 induction l with
 | nil=>simp
 | cons x r ih =>
   have h1:=h x List.mem_cons_self;have h2:=ih (fun y hy=>h y (List.mem_cons_of_mem _ hy));rw [List.sum_cons,List.length_cons,Nat.add_mul];omega
theorem iK_ (a b:List ArrD):arrW (a ++ b) = arrW a+arrW b:=by unfold arrW;rw [List.map_append,List.sum_append]
theorem mT_ {p:ad_} {q:Nat} {y:ae_} (hr:bx_ p) (hy:am_ y = true):arrW (dieL p q y)≤lw y.deaths:=by
 unfold dieL;split
 ·simp [arrW]
 ·rename_i hc;obtain ⟨_,_,_,_,h5,h6⟩:=by_ hy;have hlen:(bb_ (qsC p y.key (qAt p q).dead.toNat) y.key y.body (y.deaths+1)).length≤4:=by
   unfold bb_;rw [List.length_map];exact Nat.le_trans (ml_ _ _ _) hr.few.2.1
  have hs:arrW (bb_ (qsC p y.key (qAt p q).dead.toNat) y.key y.body (y.deaths+1))≤(bb_ (qsC p y.key (qAt p q).dead.toNat) y.key y.body (y.deaths+1)).length * (lw (y.deaths+1)+1):=by
   unfold arrW;refine Nat.le_trans (mI_ (c:=lw (y.deaths+1)+1) ?_) (by simp);intro n hn;obtain ⟨a,ha,rfl⟩:=List.mem_map.1 hn;obtain ⟨z,_,rfl⟩:=List.mem_map.1 ha;exact Nat.le_refl _
  have hd:y.deaths = 0∨y.deaths = 1:=by omega
  rcases hd with e | e
  ·rw [e] at hs hlen ⊢;have:lw (0+1)+1 = 5:=rfl;have e2:lw 0 = 20:=rfl;rw [this] at hs;rw [e2];omega
  ·rw [e] at hs hlen ⊢;have:lw (1+1)+1 = 1:=rfl;have e2:lw 1 = 4:=rfl;rw [this] at hs;rw [e2];omega
theorem nM_ {a b:List ae_} (h:a.Perm b):(wts a).sum = (wts b).sum:=(h.map _).sum_nat
theorem jY_ {p:ad_} {s:ab_} {a:ArrD} {l:List ArrD} (h:ak_ p s 0) (ha:c9_ p a) (hs:s.nextSeq < 1048576):phi (dC_ p s a) (l ++ df_ p s a)+1≤phi s (a :: l):=by
 have hq:a.queue.toNat < (upS s).ready.length:=by show a.queue.toNat < s.ready.length;rw [h.len];have:=ha.q;omega
 obtain ⟨A,B,h1,h2⟩:=hp_ wts hq (putL p a.queue.toNat (ay_ (af_ (upS s) a.queue.toNat) (az_ s a)));have e1:gd_ s = A.sum+(wts (af_ (upS s) a.queue.toNat)).sum+B.sum:=by
  unfold gd_;show ((upS s).ready.flatMap wts).sum = _;rw [h1,a3_ hq,List.sum_append,List.sum_append]
 have e2:gd_ (dC_ p s a) = A.sum+(wts (putL p a.queue.toNat (ay_ (af_ (upS s) a.queue.toNat) (az_ s a)))).sum+B.sum:=by
  unfold gd_;show (((upS s).ready.set a.queue.toNat _).flatMap wts).sum = _;rw [h2,List.sum_append,List.sum_append]
 have e3:(wts (ay_ (af_ (upS s) a.queue.toNat) (az_ s a))).sum = lw a.deaths+(wts (af_ (upS s) a.queue.toNat)).sum:=by
  rw [nM_ (fd_ _ _)];simp [wts,az_]
 have hl:at_ (af_ (upS s) a.queue.toNat) = true:=h.line _ (a7_ hq);have hpl:=ds_ hl (d0_ h ha hs) (cD_ hq hl (eN_ h));unfold phi;rw [e1,e2,iK_];have e4:arrW (a :: l) = lw a.deaths+1+arrW l:=by simp [arrW]
 rw [e4];unfold df_ putB putA putL;by_cases hc:((ay_ (af_ (upS s) a.queue.toNat) (az_ s a)).length:Int)≤(qAt p a.queue.toNat).limit
 ·rw [if_pos hc,if_pos hc,e3];have:arrW [] = 0:=rfl;omega
 ·rw [if_neg hc,if_neg hc];cases hL:ay_ (af_ (upS s) a.queue.toNat) (az_ s a) with
  | nil=>have:=c6_ (af_ (upS s) a.queue.toNat) (az_ s a);rw [hL] at this;simp at this
  | cons y r =>
    rw [hL] at e3 hpl;have hy:=(bv_.1 hpl).1 y List.mem_cons_self;have hd:=mT_ (q:=a.queue.toNat) h.rp hy;have e5:(wts (y :: r)).sum = lw y.deaths+(wts r).sum:=by simp [wts]
    rw [e5] at e3;simp only [List.tail_cons];omega
theorem l8_ {s:ab_} {a:ArrD} {l:List ArrD}:1≤phi s (a :: l):=by unfold phi;simp [arrW];omega
theorem i1_ {xss:List (List ae_)} {c:Nat} (h:∀ l ∈ xss,l.length≤c):(xss.flatMap wts).length≤xss.length * c:=by
 induction xss with
 | nil=>simp
 | cons x r ih =>
   have h1:=h x List.mem_cons_self;have h2:=ih (fun y hy=>h y (List.mem_cons_of_mem _ hy));rw [List.flatMap_cons,List.length_append,List.length_cons,Nat.add_mul];have:(wts x).length = x.length:=by simp [wts]
   omega
theorem l7_ {p:ad_} {s:ab_} {l:List ArrD} (h:ak_ p s 0) (hl:l.length≤4):phi s l≤564:=by
 have h1:gd_ s≤480:=by
  have a1:=i1_ (fun l hl=>h.line6 hl);have a2:(s.ready.flatMap wts).sum≤(s.ready.flatMap wts).length * 20:=mI_ (fun x hx=>by
   obtain ⟨l,_,hx⟩:=List.mem_flatMap.1 hx;obtain ⟨y,_,rfl⟩:=List.mem_map.1 hx;exact oF_ _)
  have a3:=h.len;have a4:=h.rp.few.2.1;unfold gd_;have a5:s.ready.length * 6≤24:=by omega
  have a6:(s.ready.flatMap wts).length * 20≤24 * 20:=Nat.mul_le_mul_right _ (by omega);omega
 have h2:arrW l≤84:=by
  have a2:arrW l≤l.length * 21:=by
   unfold arrW;refine Nat.le_trans (mI_ (c:=21) ?_) (by simp);intro n hn;obtain ⟨a,_,rfl⟩:=List.mem_map.1 hn;have:=oF_ a.deaths;omega
  omega
 unfold phi;omega
theorem j1_ (p:ad_) (s:ab_) (a:ArrD):(dC_ p s a).nextSeq = s.nextSeq+1:=rfl
theorem jB_ (p:ad_) (f:Nat) (s:ab_):arrS p f s [] = s:=by cases f <;> rfl
theorem jA_ (p:ad_) (f:Nat) (s:ab_):arrN p f s [] = 0:=by cases f <;> rfl
structure Arrived (p:ad_) (s t:ab_) (n:Nat):Prop where
 right:ak_ p t 0
 outs:t.outs = s.outs
 takers:t.takers = s.takers
 tag:t.nextTag = s.nextTag
 acked:t.acked = s.acked
 came:t.came = s.came+n
 seq:t.nextSeq = s.nextSeq+n
 dropped:s.dropped≤t.dropped
 len:t.ready.length = s.ready.length
 old:∀ q,q < s.ready.length→∃ k new,k≤(af_ s q).length∧af_ t q = (af_ s q).drop k ++ new∧∀ z ∈ new,s.nextSeq≤z.seq
theorem Arrived.refl {p:ad_} {s:ab_} (h:ak_ p s 0):Arrived p s s 0:=⟨h,rfl,rfl,rfl,rfl,by simp,by simp,Int.le_refl _,rfl,fun q _=>⟨0,[],Nat.zero_le _,by simp,by simp⟩⟩
theorem gM_ {q:Int}:∀ {xs:List ae_},(∀ z ∈ xs,z.seq < q)→idxSeq q xs = xs.length
 | [],_=>rfl
 | x :: r, h => by
   have h1:=h x List.mem_cons_self;have ih:=gM_ (xs:=r) (fun z hz=>h z (List.mem_cons_of_mem _ hz));unfold idxSeq;rw [if_neg (by omega),ih];rfl
theorem kT_ {xs:List ae_} {x:ae_} (h:∀ z ∈ xs,z.seq < x.seq):ay_ xs x = xs ++ [x]:=by
 unfold ay_;rw [gM_ h];simp
theorem lJ_ {p:ad_} {s:ab_} {n:Int} (h:ak_ p s n) {q:Nat} (hq:q < s.ready.length):∀ z ∈ af_ s q,z.seq < s.nextSeq:=fun z hz=>h.lt _ (by
 unfold as_;exact List.mem_append_left _ (List.mem_flatMap.2 ⟨af_ s q,a7_ hq,List.mem_map_of_mem hz⟩))
theorem mo_ {p:ad_} {s:ab_} {a:ArrD} (h:ak_ p s 0) (ha:c9_ p a) {r:Nat}:af_ (dC_ p s a) r = if r = a.queue.toNat then putL p r (af_ s r ++ [az_ s a]) else af_ s r:=by
 have hq:a.queue.toNat < (upS s).ready.length:=by show a.queue.toNat < s.ready.length;rw [h.len];have:=ha.q;omega
 unfold dC_;rw [gS_ p hq];split
 ·rename_i e;subst e;have e:=kT_ (xs:=af_ (upS s) a.queue.toNat) (x:=az_ s a) (fun z hz=>lJ_ h hq z hz);rw [e];rfl
 ·rfl
theorem Arrived.recv {p:ad_} {s:ab_} {a:ArrD} (h:ak_ p s 0) (ha:c9_ p a) (hs:s.nextSeq < 1048576):Arrived p s (dC_ p s a) 1:=by
 refine ⟨h.recv ha hs,rfl,rfl,rfl,rfl,rfl,rfl,?_,?_,fun q hq=>?_⟩
 ·show s.dropped≤s.dropped + _;have:∀ l,0≤putD p a.queue.toNat l:=fun l=>by unfold putD;split <;> omega
  have:=this (ay_ (af_ (upS s) a.queue.toNat) (az_ s a));omega
 ·show (s.ready.set _ _).length = _;simp
 ·rw [mo_ h ha];split
  ·rename_i e;unfold putL;split
   ·exact ⟨0,[az_ s a],Nat.zero_le _,by simp,by simp [az_]⟩
   ·cases hl:af_ s q with
    | nil=>exact ⟨0,[],Nat.zero_le _,by simp,by simp⟩
    | cons y r=>exact ⟨1,[az_ s a],by simp,by simp,by simp [az_]⟩
  ·exact ⟨0,[],Nat.zero_le _,by simp,by simp⟩
theorem Arrived.trans {p:ad_} {s t u:ab_} {n m:Nat} (h:Arrived p s t n) (k:Arrived p t u m):Arrived p s u (n+m):=by
 refine ⟨k.right,k.outs.trans h.outs,k.takers.trans h.takers,k.tag.trans h.tag,k.acked.trans h.acked,by rw [k.came,h.came];omega,by rw [k.seq,h.seq];omega,Int.le_trans h.dropped k.dropped,k.len.trans h.len,fun q hq=>?_⟩;obtain ⟨k1,n1,l1,e1,g1⟩:=h.old q hq;obtain ⟨k2,n2,l2,e2,g2⟩:=k.old q (by rw [h.len];exact hq);rw [e1] at e2 l2;have hsq:=h.seq;rw [List.length_append,List.length_drop] at l2;by_cases hc:k1+k2≤(af_ s q).length
 ·refine ⟨k1+k2,n1 ++ n2,hc,?_,fun z hz=>?_⟩
  ·rw [e2,List.drop_append_of_le_length (by rw [List.length_drop];omega),List.drop_drop,List.append_assoc]
  ·rcases List.mem_append.1 hz with hz | hz
   ·exact g1 z hz
   ·have:=g2 z hz;omega
 ·refine ⟨(af_ s q).length,n1.drop (k2 - ((af_ s q).length - k1)) ++ n2,Nat.le_refl _,?_,fun z hz=>?_⟩
  ·rw [e2,List.drop_append,List.length_drop,List.drop_drop,List.drop_eq_nil_of_le (by omega),List.drop_length];simp
  ·rcases List.mem_append.1 hz with hz | hz
   ·exact g1 z (List.mem_of_mem_drop hz)
   ·have:=g2 z hz;omega
theorem hd_ {p:ad_}:∀ (f:Nat) {s:ab_} {l:List ArrD},ak_ p s 0→(∀ a ∈ l,c9_ p a)→phi s l≤f→s.nextSeq+f≤1048576→Arrived p s (arrS p f s l) (arrN p f s l)∧l.length≤arrN p f s l∧arrN p f s l≤f
 | f,s,[],h,_,_,_=>by rw [jB_,jA_];exact ⟨Arrived.refl h,by simp,Nat.zero_le _⟩
 | 0,s,a :: l,h,_,hf,_=>by have:=l8_ (s:=s) (a:=a) (l:=l);omega
 | f + 1, s, a :: l, h, ha, hf, hs => by
   have hs1:s.nextSeq < 1048576:=by omega
   have ha1:=ha a List.mem_cons_self;have hph:=jY_ (l:=l) h ha1 hs1;obtain ⟨i1,i2,i3⟩:=hd_ f (s:=dC_ p s a) (l:=l ++ df_ p s a) (h.recv ha1 hs1) (fun b hb=>by
    rcases List.mem_append.1 hb with hb | hb
    ·exact ha b (List.mem_cons_of_mem _ hb)
    ·exact (eM_ h ha1 hs1).1 b hb) (by omega) (by rw [j1_];omega)
   refine ⟨?_,?_,?_⟩
   ·have:=(Arrived.recv h ha1 hs1).trans i1;unfold arrS arrN;rw [Nat.add_comm];exact this
   ·unfold arrN;rw [List.length_append] at i2;rw [List.length_cons];omega
   ·unfold arrN;omega
def ArrD.cells (a:ArrD):List Value:=[.int .i64 a.queue,.string a.key,.string a.body,.int .i64 a.deaths]
def aw_ (xs:List ArrD):List Value:=xs.flatMap ArrD.cells
def bh_ (W:World) (a:Option Addr) (xs:List ArrD):Prop:=aO_ W a (aw_ xs)
theorem aV_ (xs:List ArrD):(aw_ xs).length = xs.length * 4:=bK_ (f:=ArrD.cells) (fun _=>rfl) xs
theorem br_ (xs ys:List ArrD):aw_ (xs ++ ys) = aw_ xs ++ aw_ ys:=by unfold aw_;rw [List.flatMap_append]
theorem bI_ (xs:List ArrD):∀ u ∈ aw_ xs,u.oneCell' = true:=by
 intro u hu;obtain ⟨x,_,hx⟩:=List.mem_flatMap.1 hu;simp [ArrD.cells] at hx;rcases hx with rfl | rfl | rfl | rfl <;> rfl
theorem bh_.get {W:World} {a:Option Addr} {xs:List ArrD} (h:bh_ W a xs) {k:Nat} (hk:k < xs.length):∃ g o,a = some ⟨g,o,none⟩∧g < W.heap.size∧W.cell? ⟨g,o+k * 4,none⟩ = some (.int .i64 xs[k].queue)∧W.cell? ⟨g,o+k * 4+1,none⟩ = some (.string xs[k].key)∧W.cell? ⟨g,o+k * 4+2,none⟩ = some (.string xs[k].body)∧W.cell? ⟨g,o+k * 4+3,none⟩ = some (.int .i64 xs[k].deaths):=by
 rcases aO_.get (k:=4) (f:=ArrD.cells) (fun _=>rfl) h (by omega) with h | ⟨g,o,ha,hg,h⟩
 ·subst h;simp at hk
 ·exact ⟨g,o,ha,hg,h k hk 0 (by omega),h k hk 1 (by omega),h k hk 2 (by omega),h k hk 3 (by omega)⟩
theorem bh_.keep {W W':World} {a:Option Addr} {xs:List ArrD} (h:bh_ W a xs) (hB:Below W.heap.size W W'):bh_ W' a xs:=aO_.keep h hB
theorem gf_ {w:World} {cs:List Value} {T:TypeId}:aO_ (w.alloc (.cells cs.toArray T)) (some ⟨w.heap.size,0,none⟩) cs:=.inr ⟨_,0,rfl,by simp,fun j u hj=>by
 rw [coc_ (World.alloc_heap_new w _),Nat.zero_add];simpa using hj⟩
theorem Tryz.infoArr:(Tryz.prog.info? 150).map (fun i=>(i.zero,i.size,i.bytes)) = some (some (.agg #[.int .i64 0,.string ⟨#[]⟩,.string ⟨#[]⟩,.int .i64 0]),4,48):=by kernel_rfl
theorem eq_:eY_ 132 150 4 48:=dl_ Tryz.underlying132 Tryz.infoArr rfl (by omega)
theorem dM_ (zs:List Int) (a:Option Addr) (n c:Nat) (key body:ByteArray) (d:Int) (w:World) (hn:zs.length = n) (hm:n≤1000) (hz:dH_ w a zs) :
 Calls Tryz.prog 100 #[.slice a n c,.string key,.string body,.int .i64 d] w fun e w'=>∃ v,e = .returned v∧w'.ownsRow w.heap.size 150 4 v n (aw_ (bb_ zs key body d))∧Below w.heap.size w w':=by
 have HN:=hidI hn;have HZ:=hidI hz;clear hn hz;go_enter Tryz.func100,Tryz.ntmps100;go_wp2_with fail
 go_loopw [9,14] (fun l i wr=>∃ (k:Nat),k≤n∧i = .int .i64 k∧wr.ownsRow w.heap.size 150 4 l k (aw_ (bb_ (zs.take k) key body d))∧Below w.heap.size w wr) (fun _ i _=>n - (intOf i).toNat)
 case atStart=>exact ⟨0,Nat.zero_le _,rfl,World.ownsRow_nil _ _ _ _,Below.refl _ _⟩
 case round=>
  obtain ⟨k,hk,rfl,hown,hB⟩:=hrel;have HO:=hidI hown;have HB:=hidI hB;have hBs:=hB.size;clear hown;by_cases hlt:k < n
  ·have HLT:=hidI hlt;have hkl:k < zs.length:=by rw [HN.out];exact hlt
   obtain ⟨g,ha,hg,hc⟩:∃ g,a = some ⟨g,0,none⟩∧g < wr.heap.size∧wr.cell? ⟨g,k,none⟩ = some (.int .i64 (zs[k]'hkl)):=by
    rcases HZ.out.keep hB with e | ⟨g,ha,hg,h⟩
    ·exfalso;rw [e] at hkl;simp at hkl
    ·exact ⟨g,ha,hg,h k hkl⟩
   have HNX:Hid (bb_ (zs.take (k+1)) key body d = bb_ (zs.take k) key body d ++ [⟨zs[k]'hkl,key,body,d⟩]):=by show bb_ _ _ _ _ = _;unfold bb_;rw [List.take_succ_eq_append_getElem hkl,List.map_append];rfl
   obtain ⟨z,hzz⟩:∃ z,z = zs[k]'hkl:=⟨_,rfl⟩
   rw [← hzz] at hc HNX;subst ha;obtain ⟨W4,hW4⟩:∃ W4,W4 = wr.alloc (.cells #[.int .i64 z,.string key,.string body,.int .i64 d] 150):=⟨_,rfl⟩
   have k4:Below wr.heap.size wr W4:=by rw [hW4];exact (Below.refl _ _).alloc (Nat.le_refl _) _
   have HO4:=hidI (cp2_ HO.out k4);have HRW:Hid (aO_ W4 (some ⟨wr.heap.size,0,none⟩) (aw_ [⟨z,key,body,d⟩])):=by show aO_ W4 _ _;rw [hW4];exact gf_ (cs:=[.int .i64 z,.string key,.string body,.int .i64 d])
   have K4:=hidI (hB.trans (k4.mono hBs));have HW4:=hidI hW4;have hs4:=K4.out.size;have j1:(0:Int)≤(k:Int):=by omega
   have j2:(k:Int) < n:=by omega
   clear hW4 k4 hzz;go_wp2_with (at_builtin;rw [← HW4.out];refine a1_ eq_ (by kernel_rfl) _ _ rfl w.heap.size _ k (aw_ (bb_ (zs.take k) key body d)) rfl HO4.out (some ⟨wr.heap.size,0,none⟩) 1 1 (aw_ [⟨z,key,body,d⟩]) rfl rfl (fun h=>by cases h) HRW.out (bI_ _) (by unfold maxLen;omega) (by omega) hs4 ?_;intro v6 w6 hown6 hgrow6 hblk6)
   go_roundw
   case rel=>exact ⟨k+1,HLT.out,by have:=HLT.out;go_num,by rw [HNX.out,br_];exact hown6,K4.out.grown hgrow6 hs4 (fun j hj=>(HO4.out.lt j hj).1)⟩
   case measure=>have:=HLT.out;simp [intOf];omega
  ·have hke:k = n:=by omega
   obtain rfl:=hke.symm;clear hlt hk;go_wp2_with fail
   go_ret
   refine ⟨_,rfl,?_,hB⟩;have:=HO.out;rw [List.take_of_length_le (by rw [HN.out];exact Nat.le_refl _)] at this;exact this
end Go.Proofs.YtlbnkpicnokgoaaGreat
