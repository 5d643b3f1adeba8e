import Derived.Deep.RegionHeld3
import Derived.Deep.DeepCutAuto
import Derived.Test.YtlbnkpicnokgoaaGreatUqx
import Derived.Test.YtlbnkpicnokgoaaGreatUax
namespace Go.Proofs.YtlbnkpicnokgoaaGreat
open Go.RowKit Go.Maps
set_option linter.unusedVariables false
set_option maxRecDepth 100000
set_option maxHeartbeats 20000000
theorem tkT:type_of% @tk:=@tk
theorem skT:type_of% @sk:=@sk
theorem ly_ (q:Int) (n:Nat):inR q (-1) ((n:Int) - 1) = (decide (q = -1) || ar_ q n):=by unfold inR ar_;rw [Bool.eq_iff_iff];simp;omega
theorem nc_ (m:Int):inR m 1 4 = decide (1≤m∧m≤4):=rfl
theorem lx_ (n:Int):inR n 0 1048576 = a2_ n:=rfl
theorem ia_ (q:Int) (n:Nat):inR q 0 ((n:Int) - 1) = ar_ q n:=i6_ q n
theorem lW_ {ts:List aj_} {nt l tg tk qu:Int} {it:ae_} (h:tg≤l):cI_ ts nt l ⟨tg,tk,qu,it⟩ = false:=by unfold cI_;dsimp only;rw [show decide (l < tg) = false from decide_eq_false (by omega)];simp
theorem l1_ {ts:List aj_} {nt l tg tk qu:Int} {it:ae_} (h:nt≤tg):cI_ ts nt l ⟨tg,tk,qu,it⟩ = false:=by unfold cI_;dsimp only;rw [show decide (tg < nt) = false from decide_eq_false (by omega)];simp
theorem lX_ {ts:List aj_} {nt l tg tk qu:Int} {it:ae_} (h:ar_ tk ts.length = false):cI_ ts nt l ⟨tg,tk,qu,it⟩ = false:=by unfold cI_;dsimp only;rw [h];simp
theorem lY_ {ts:List aj_} {nt l tg qu:Int} {tn:Nat} {it:ae_} {t:aj_} (h:ts[tn]? = some t) (h2:t.queue = -1):cI_ ts nt l ⟨tg,(tn:Int),qu,it⟩ = false:=by unfold cI_;dsimp only;rw [Int.toNat_natCast,h];simp [h2]
theorem lZ_ {ts:List aj_} {nt l tg qu:Int} {tn:Nat} {it:ae_} {t:aj_} (h:ts[tn]? = some t) (h2:t.queue≠qu):cI_ ts nt l ⟨tg,(tn:Int),qu,it⟩ = false:=by unfold cI_;dsimp only;rw [Int.toNat_natCast,h];simp [h2]
theorem l0_ {ts:List aj_} {nt l tg tk qu:Int} {it:ae_} (h:am_ it = false):cI_ ts nt l ⟨tg,tk,qu,it⟩ = false:=by unfold cI_;dsimp only;rw [h];simp
theorem is_ {ts:List aj_} {nt l tg qu:Int} {tn:Nat} {it:ae_} {t:aj_} (h1:l < tg) (h7:tg < nt) (h3:ar_ (tn:Int) ts.length = true) (h:ts[tn]? = some t) (h4:t.queue≠-1) (h5:t.queue = qu) (h6:am_ it = true):cI_ ts nt l ⟨tg,(tn:Int),qu,it⟩ = true:=by
 unfold cI_;dsimp only;rw [Int.toNat_natCast,h,h3,h6,decide_eq_true h1,decide_eq_true h7];dsimp only;rw [decide_eq_true h4,decide_eq_true h5];rfl
theorem ny_ {Z:List Int} {i j:Nat} (hi:i < Z.length) (hj:j < i) (h:Z[j]'(by omega) = Z[i]):Z[i] ∈ Z.take i:=by
 rw [← h];exact List.mem_take_iff_getElem.2 ⟨j,by omega,rfl⟩
theorem nz_ {Z:List Int} {i:Nat} (hi:i < Z.length) (h:∀ j (hj:j < i),Z[j]'(by omega)≠Z[i]):Z[i] ∉ Z.take i:=by
 intro hm;obtain ⟨j,hj,e⟩:=List.mem_take_iff_getElem.1 hm;exact h j (by omega) e
theorem g2_ {w1 w2:World} {base:Nat} {v:Value} {n:Nat} {xs:List Value} {e:TypeId} {size:Nat} (h:w1.ownsRow base e size v n xs) (hB:Below w1.heap.size w1 w2):w2.ownsRow base e size v n xs:=by
 refine ⟨h.1,?_⟩;rcases h.2 with h1 | ⟨g,cap,cur,rfl,h2,h3,h4⟩
 ·exact .inl h1
 ·exact .inr ⟨g,cap,cur,rfl,h2,(hB.block g (lth_ h3)).trans h3,h4⟩
theorem km_ (p:ad_) (a1 a2 a3:Option Addr) (n1 c1 n2 c2 n3 c3:Nat) (s:ab_) (b1 b2 b3:Option Addr) (m1 d1 m2 d2 m3 d3:Nat) (w:World) (hp:ap_ w a1 a2 a3 n1 n2 n3 p) (hs:an_ w b1 b2 b3 m1 m2 m3 s) (hr:bx_ p) (hm3:m3≤4) :
 Calls Tryz.prog 36 #[.agg #[.slice a1 n1 c1,.slice a2 n2 c2,.slice a3 n3 c3],.agg #[.slice b1 m1 d1,.slice b2 m2 d2,.slice b3 m3 d3,.int .i64 s.nextSeq,.int .i64 s.nextTag,.int .i64 s.came,.int .i64 s.acked,.int .i64 s.dropped]] w fun e w'=>e = .returned (.bool (bs_ p s))∧Below w.heap.size w w':=by
 obtain ⟨i3,hi3,hy0,hy1,hy2⟩:=info_parts Tryz.infoNum;obtain ⟨D,hD⟩:∃ D:Bool,D = bs_ p s:=⟨_,rfl⟩
 rw [← hD];have HFO:Hid (D = (aY_ n2 s.ready && s.takers.all (aI_ n2) && ao_ s.takers s.nextTag (-1) s.outs && bf_ s && ci_ s)):=by show D = _;rw [hD];unfold bs_;rw [hp.l2]
 obtain ⟨W2,hW2,hBw,hs2,hbx⟩:=bZ_ w #[.slice a1 n1 c1,.slice a2 n2 c2,.slice a3 n3 c3] #[.slice b1 m1 d1,.slice b2 m2 d2,.slice b3 m3 d3,.int .i64 s.nextSeq,.int .i64 s.nextTag,.int .i64 s.came,.int .i64 s.acked,.int .i64 s.dropped];have HW2:=hidI hW2;have BX:=hidI hbx;have HS:=hidI (hs.keep hBw);have HM1:Hid (s.ready.length = m1):=hs.l1;have HM2:Hid (s.outs.length = m2):=hs.l2;have HM3:Hid (s.takers.length = m3):=hs.l3;have hx1:=hs.x1;have hx2:=hs.x2;have hn4:n2≤4:=by have:=hr.few.2.1;rw [hp.l2] at this;exact this
 unfold maxLen at hx1;have s0:=hBw.size;have hs2':w.heap.size+1 < W2.heap.size:=by omega
 obtain ⟨x0,x1,x2⟩:=ag_ (hbx W2 (Below.refl _ _)).1;obtain ⟨y0,y1,y2,y3,y4,y5,y6,y7⟩:=aa_ (hbx W2 (Below.refl _ _)).2;clear hW2 hbx hs2 hp hs hD hr;by_cases hm:m1 = n2
 ·have hmb:((m1:Int) != (n2:Int)) = false:=by simp [hm]
  have HME:=hidI hm;have hm14:m1≤4:=by omega
  clear hm;go_enter Tryz.func36,Tryz.ntmps36;go_wp2_with fail
  rw [← HW2.out];go_loopw [5,6,7] (fun u i _ wr=>∃ (k:Nat) (L:List Int),k≤m1∧i = .int .i64 k∧wr.ownsRow W2.heap.size 3 1 u L.length (L.map (Value.int .i64))∧L = (s.ready.take k).flatMap (fun l=>l.map ae_.seq)∧(∀ x ∈ s.ready.take k,at_ x = true)∧Below W2.heap.size W2 wr) (fun _ i _ _=>m1 - (intOf i).toNat)
  case atStart=>exact ⟨0,[],Nat.zero_le _,rfl,World.ownsRow_nil _ _ _ _,rfl,by simp,Below.refl _ _⟩
  case round=>
   obtain ⟨k,L,hk,rfl,hrow,hL,ha,hB⟩:=hrel;have HA:=hidI ha;have HL:=hidI hL;have hBs:=hB.size;have hLb:L.length≤4194304:=by
    have h1:=(ho_ ha).1;rw [← hL,List.length_take] at h1;have:min k s.ready.length≤4:=by omega
    omega
   clear ha hL x0 x1 x2 y0 y1 y2 y3 y4 y5 y6 y7;obtain ⟨y0,y1,y2,y3,y4,y5,y6,y7⟩:=aa_ (BX.out wr hB).2;by_cases hlt:k < m1
   ·have HLT:=hidI hlt;have hkl:k < s.ready.length:=by rw [HM1.out];exact hlt
    obtain ⟨g,o,b,c,ha,hg,hl⟩:=HS.out.q1.get hkl;subst ha;have e1:=(hl.keep hg hB).cell;have HLI:=hidI hl;have HTK:=hidI (fun h1 h2=>aA_ (p:=at_) (xs:=s.ready) (k:=k) hkl h1 h2);have HNOT:=hidI (fun h2=>afg_ (p:=at_) (xs:=s.ready) (k:=k) hkl h2);have HFL:Hid ((s.ready.take (k+1)).flatMap (fun l=>l.map ae_.seq) = L ++ s.ready[k].map ae_.seq):=by
     show (s.ready.take (k+1)).flatMap _ = _;rw [List.take_succ_eq_append_getElem hkl,List.flatMap_append,← HL.out];simp
    obtain ⟨xs,hxs⟩:∃ xs,xs = s.ready[k]:=⟨_,rfl⟩
    rw [← hxs] at HLI e1 HTK HNOT HFL;obtain ⟨n,hn⟩:∃ n,n = xs.length:=⟨_,rfl⟩
    rw [← hn] at e1;have HN:=hidI hn;have HCE:Hid (∀ W,Below W2.heap.size W2 W→W.cell? ⟨g,o+k,none⟩ = some (.slice b n c)):=fun W hW=>by rw [HN.out];exact (HLI.out.keep hg hW).cell
    have j1:(0:Int)≤(k:Int):=by omega
    have j2:(k:Int) < m1:=by omega
    clear hl hxs hn;go_wp2_with fail
    refine (ij_ xs b _ c _ HN.out.symm (Nat.le_trans (by rw [HN.out];exact HLI.out.le) HLI.out.cm) (HLI.out.it.keep hB)).mono ?_;rintro e w4 ⟨rfl,hB4⟩;have k4:Below W2.heap.size W2 w4:=hB.trans (hB4.mono hBs);have s4:=k4.size;have hrow4:=g2_ hrow hB4;obtain ⟨ok,hok⟩:∃ ok,ok = at_ xs:=⟨_,rfl⟩
    rw [← hok];have HOK:=hidI hok;clear y0 y1 y2 y3 y4 y5 y6 y7 e1 hok hB4 hrow;obtain ⟨y0,y1,y2,y3,y4,y5,y6,y7⟩:=aa_ (BX.out w4 k4).2;have e1:=HCE.out w4 k4;cases ok with
    | false =>
      have HDF:Hid (D = false):=by show D = false;rw [HFO.out];unfold aY_;rw [HNOT.out HOK.out.symm];simp
      go_wp2_with fail
      go_ret
      exact ⟨by rw [HDF.out];rfl,hBw.trans (k4.mono s0)⟩
    | true =>
      have hnb:n≤1048576:=by
       have:=(dW_ (l:=-1) (xs:=xs) HOK.out.symm (by omega)).1;rw [HN.out];omega
      go_wp2_with fail
      go_loopw [5,7] (fun u i wr=>∃ (j:Nat) (M:List Int),j≤n∧i = .int .i64 j∧wr.ownsRow W2.heap.size 3 1 u M.length (M.map (Value.int .i64))∧M = L ++ (xs.take j).map ae_.seq∧Below W2.heap.size W2 wr) (fun _ i _=>n - (intOf i).toNat)
      case atStart=>exact ⟨0,L,Nat.zero_le _,rfl,hrow4,by simp,k4⟩
      case round=>
       clear hrow4 y0 y1 y2 y3 y4 y5 y6 y7 e1;obtain ⟨j,M,hj,rfl,hrow,hM,hBj⟩:=hrel;have HMM:=hidI hM;have s7:=hBj.size;have hMb:M.length≤5242880:=by rw [hM,List.length_append,List.length_map,List.length_take];omega
       clear hM;obtain ⟨y0,y1,y2,y3,y4,y5,y6,y7⟩:=aa_ (BX.out wr hBj).2;have e1:=HCE.out wr hBj;by_cases hjl:j < n
       ·have HJL:=hidI hjl;have hjx:j < xs.length:=by rw [← HN.out];exact hjl
        rcases HLI.out.it.keep hBj with h | ⟨gx,ox,hax,hgx,hxx⟩
        ·rw [h] at hjx;simp at hjx
        obtain ⟨f0,-,-,-,-⟩:=hxx j hjx;have HNX:Hid (L ++ (xs.take (j+1)).map ae_.seq = M ++ [xs[j].seq]):=by
         show L ++ _ = _;rw [List.take_succ_eq_append_getElem hjx,List.map_append,← List.append_assoc,← HMM.out];rfl
        subst hax;obtain ⟨sq,hsq⟩:∃ sq,sq = xs[j].seq:=⟨_,rfl⟩
        rw [← hsq] at f0 HNX;obtain ⟨m,hm⟩:∃ m,m = M.length:=⟨_,rfl⟩
        rw [← hm] at hrow hMb;have HM:=hidI hm;have i1:(0:Int)≤(j:Int):=by omega
        have i2:(j:Int) < n:=by omega
        clear hxx hm hsq;go_wp2_with (at_builtin;refine wpList_append_own _ rfl _ _ 32 rfl W2.heap.size 3 i3 (.int .i64 0) 1 8 Tryz.underlying32 hi3 hy0 hy1 hy2 rfl (by decide) _ _ _ rfl (hrow.alloc _) ⟨wr.heap.size,0,none⟩ 1 1 [.int .i64 sq] rfl rfl (fB_ _ _ _) (by simp [Value.oneCell']) (by unfold maxLen;omega) (by omega) (by simp;omega) ?_;intro v' w9 hown' hgrow _;have hB9:Below W2.heap.size W2 w9:=(hBj.alloc s7 _).grown hgrow (by simp;omega) (cg_ hrow))
        go_roundw
        case rel=>exact ⟨j+1,M ++ [sq],HJL.out,by have:=HJL.out;go_num,by rw [List.length_append,List.map_append,← HM.out];exact hown',HNX.out.symm,hB9⟩
        case measure=>have:=HJL.out;simp [intOf];omega
       ·have hje:j = n:=by omega
        subst hje;have HMX:Hid (M = (s.ready.take (k+1)).flatMap (fun l=>l.map ae_.seq)):=by
         show M = _;rw [HFL.out,HMM.out,List.take_of_length_le (by rw [← HN.out];exact Nat.le_refl _)]
        clear hjl hj;go_wp2_with fail
        go_roundw
        case rel=>exact ⟨k+1,M,HLT.out,by have:=HLT.out;go_num,hrow,HMX.out,HTK.out HA.out HOK.out.symm,hBj⟩
        case measure=>have:=HLT.out;simp [intOf];omega
   ·have hke:k = m1:=by omega
    subst hke;have HLO:Hid (aY_ n2 s.ready = true):=by
     show aY_ n2 s.ready = true;unfold aY_;rw [a0_ HM1.out (Nat.lt_irrefl _) HA.out,decide_eq_true (by rw [HM1.out];exact HME.out)];rfl
    have HL1:Hid (L = s.ready.flatMap (fun l=>l.map ae_.seq)):=by
     show L = _;rw [HL.out,List.take_of_length_le (by rw [HM1.out];exact Nat.le_refl _)]
    have HROW:=hidI hrow;clear hlt hk HA HL;obtain ⟨wq,hwq⟩:∃ wq,wq = wr:=⟨_,rfl⟩
    subst hwq;have kq:=hB;have sq:=hBs;have KQ:Hid (∀ W,Below wq.heap.size wq W→Below W2.heap.size W2 W):=fun W hW=>kq.trans (hW.mono sq)
    have hwn:IntKind.i64.wrap ((n2:Int) - 1) = (n2:Int) - 1:=by rw [IntKind.wrap_i64];omega
    clear hB hBs hrow;go_wp2_with fail
    go_loopw [8] (fun i wr=>∃ (j:Nat),j≤m3∧i = .int .i64 j∧(∀ x ∈ s.takers.take j,aI_ n2 x = true)∧Below wq.heap.size wq wr) (fun i _=>m3 - (intOf i).toNat)
    case atStart=>exact ⟨0,Nat.zero_le _,rfl,by simp,Below.refl _ _⟩
    case round=>
     clear y0 y1 y2 y3 y4 y5 y6 y7;obtain ⟨j,hj,rfl,ha,hB⟩:=hrel;have HA:=hidI ha;have kj:=KQ.out _ hB;clear ha;obtain ⟨y0,y1,y2,y3,y4,y5,y6,y7⟩:=aa_ (BX.out wr kj).2;by_cases hjl:j < m3
     ·have HJL:=hidI hjl;have hkl:j < s.takers.length:=by rw [HM3.out];exact hjl
      obtain ⟨g,o,ha,hg,e1,e2⟩:=HS.out.q3.get hkl;subst ha;have HTK:=hidI (fun h1 h2=>aA_ (p:=aI_ n2) (xs:=s.takers) (k:=j) hkl h1 h2);have HNOT:=hidI (fun h2=>afg_ (p:=aI_ n2) (xs:=s.takers) (k:=j) hkl h2);obtain ⟨x,hx⟩:∃ x,x = s.takers[j]:=⟨_,rfl⟩
      rw [← hx] at HTK HNOT e1 e2;obtain ⟨tq,tm⟩:=x;dsimp only at e1 e2;have HE:=hidI (And.intro e1 e2);have j1:(0:Int)≤(j:Int):=by omega
      have j2:(j:Int) < m3:=by omega
      have SS:Hid (∀ W,Below wq.heap.size wq W→W.cell? ⟨w.heap.size+1,2,none⟩ = some (.slice (some ⟨g,o,none⟩) m3 d3)∧W.cell? ⟨w.heap.size,1,none⟩ = some (.slice a2 n2 c2)∧W.cell? ⟨g,o+j * 2,none⟩ = some (.int .i64 tq)∧W.cell? ⟨g,o+j * 2+1,none⟩ = some (.int .i64 tm)):=fun W hW=>by
       have x:=aa_ (BX.out W (KQ.out _ hW)).2;have y:=ag_ (BX.out W (KQ.out _ hW)).1;exact ⟨x.2.2.1,y.2.1,((KQ.out _ hW).cell (p:=⟨g,_,none⟩) hg).trans HE.out.1,((KQ.out _ hW).cell (p:=⟨g,_,none⟩) hg).trans HE.out.2⟩
      clear hx e1 e2;go_wp2_with fail
      refine wp_region_held_drew (S:=fun W=>W.cell? ⟨w.heap.size+1,2,none⟩ = some (.slice (some ⟨g,o,none⟩) m3 d3)∧W.cell? ⟨w.heap.size,1,none⟩ = some (.slice a2 n2 c2)∧W.cell? ⟨g,o+j * 2,none⟩ = some (.int .i64 tq)∧W.cell? ⟨g,o+j * 2+1,none⟩ = some (.int .i64 tm)) (by kernel_rfl) (SS.out _ hB.drew) (fun hHeld=>?_);obtain ⟨v0,hv0⟩:∃ v0,v0 = wr.drew:=⟨_,rfl⟩
      have k0:Below wq.heap.size wq v0:=by rw [hv0];exact hB.drew
      rw [← hv0] at hHeld ⊢;clear hv0 y0 y1 y2 y3 y4 y5 y6 y7;refine tkT 0 ?_;refine tkT 1 ?_;refine tkT 2 ?_;refine tkT 3 ?_;refine tkT 4 ?_;refine tkT 5 ?_;refine tkT 6 ?_;refine tkT 7 ?_;refine tkT 8 ?_;refine tkT 9 ?_;refine rdy 10 (fun K hK=>?_);go_simp;refine (aC_ _ _ _ _).mono ?_;rintro e v1 ⟨rfl,hv1⟩;subst hv1;rw [ly_];obtain ⟨c1,hc1⟩:∃ c1,c1 = (decide (tq = -1) || ar_ tq n2):=⟨_,rfl⟩
      rw [← hc1];have HC1:=hidI hc1;refine hK.out _ _ (SS.out _ k0) (fun hH1=>?_);clear hK K hc1;try refine nrm ?_
      cases c1 with
      | false =>
        refine tkT 11 ?_;refine tkT 12 ?_;refine skT 13 ?_;refine skT 14 ?_;refine skT 15 ?_;refine skT 16 ?_;refine skT 17 ?_;refine skT 18 ?_;refine skT 19 ?_;refine skT 20 ?_;refine tkT 21 ?_;refine wpAnyH_done (by kernel_rfl) ?_ _;have HDF:Hid (D = false):=by show D = false;rw [HFO.out,HNOT.out (by unfold aI_;dsimp only;rw [← HC1.out];rfl)];simp
        go_wp2_with fail
        go_ret
        exact ⟨by rw [HDF.out];rfl,hBw.trans ((KQ.out _ k0).mono s0)⟩
      | true =>
        refine tkT 11 ?_;refine tkT 12 ?_;refine tkT 13 ?_;refine tkT 14 ?_;refine tkT 15 ?_;refine tkT 16 ?_;refine tkT 17 ?_;refine tkT 18 ?_;refine rdy 19 (fun K hK=>?_);go_simp;refine (aC_ _ _ _ _).mono ?_;rintro e v1 ⟨rfl,hv1⟩;subst hv1;rw [nc_];obtain ⟨c2,hc2⟩:∃ c2,c2 = decide (1≤tm∧tm≤4):=⟨_,rfl⟩
        rw [← hc2];have HC2:=hidI hc2;refine hK.out _ _ (SS.out _ k0) (fun hH2=>?_);clear hK K hc2;try refine nrm ?_
        cases c2 with
        | false =>
          refine tkT 20 ?_;refine tkT 21 ?_;refine wpAnyH_done (by kernel_rfl) ?_ _;have HDF:Hid (D = false):=by show D = false;rw [HFO.out,HNOT.out (by unfold aI_;dsimp only;rw [← HC2.out,← HC1.out];rfl)];simp
          go_wp2_with fail
          go_ret
          exact ⟨by rw [HDF.out];rfl,hBw.trans ((KQ.out _ k0).mono s0)⟩
        | true =>
          refine tkT 20 ?_;refine tkT 21 ?_;refine wpAnyH_done (by kernel_rfl) ?_ _;go_wp2_with fail
          go_roundw
          case rel=>exact ⟨j+1,HJL.out,by have:=HJL.out;go_num,HTK.out HA.out (by unfold aI_;dsimp only;rw [← HC2.out,← HC1.out];rfl),k0⟩
          case measure=>have:=HJL.out;simp [intOf];omega
     ·have hje:j = m3:=by omega
      subst hje;have HTO:Hid (s.takers.all (aI_ n2) = true):=a0_ HM3.out (Nat.lt_irrefl _) HA.out;clear hjl hj HA;have HLB:=hidI hLb;obtain ⟨wt,hwt⟩:∃ wt,wt = wr:=⟨_,rfl⟩
      subst hwt;have kt:=kj;have st:=kt.size;have HROWT:=hidI (g2_ HROW.out hB);have hwm:IntKind.i64.wrap ((j:Int) - 1) = (j:Int) - 1:=by rw [IntKind.wrap_i64];omega
      clear kj hB HROW KQ kq sq;go_wp2_with fail
      go_loopw [5,9,10] (fun u i _ wr=>∃ (k:Nat) (l:Int) (M:List Int),k≤m2∧i = .int .i64 k∧ao_ s.takers s.nextTag (-1) s.outs = ao_ s.takers s.nextTag l (s.outs.drop k)∧((k = 0∧l = -1)∨(0 < k∧0≤l∧s.outs[k - 1]?.map OutD.tag = some l))∧wr.ownsRow W2.heap.size 3 1 u M.length (M.map (Value.int .i64))∧M = L ++ (s.outs.take k).map (fun o=>o.item.seq)∧Below W2.heap.size W2 wr) (fun _ i _ _=>m2 - (intOf i).toNat)
      case atStart=>exact ⟨0,-1,L,Nat.zero_le _,rfl,by simp,.inl ⟨rfl,rfl⟩,HROWT.out,by simp,kt⟩
      case round=>
       clear y0 y1 y2 y3 y4 y5 y6 y7 HROWT;obtain ⟨k,l,M,hk,rfl,hof,hl,hrow,hM,hB⟩:=hrel;have HOF:=hidI hof;have HLL:=hidI hl;have HMM:=hidI hM;have hBs:=hB.size;have hMb:M.length≤4194304+m2:=by rw [hM,List.length_append,List.length_map,List.length_take];omega
       clear hof hl hM;obtain ⟨y0,y1,y2,y3,y4,y5,y6,y7⟩:=aa_ (BX.out wr hB).2;by_cases hkl:k < m2
       ·have HKL:=hidI hkl;have hko:k < s.outs.length:=by rw [HM2.out];exact hkl
        have hdr:s.outs.drop k = s.outs[k] :: s.outs.drop (k+1):=List.drop_eq_getElem_cons hko;obtain ⟨g,o,ha,hg,e1,e2,e3,e4⟩:=(HS.out.q2.keep hB).get hko;subst ha;have HTS:Hid ((s.outs.take (k+1)).map (fun o=>o.item.seq) = (s.outs.take k).map (fun o=>o.item.seq) ++ [s.outs[k].item.seq]):=by
         show (s.outs.take (k+1)).map _ = _;rw [List.take_succ_eq_append_getElem hko,List.map_append];rfl
        have HLN:Hid (s.outs[k]?.map OutD.tag = some s.outs[k].tag):=by show s.outs[k]?.map OutD.tag = _;rw [List.getElem?_eq_getElem hko];rfl
        obtain ⟨x,hx⟩:∃ x,x = s.outs[k]:=⟨_,rfl⟩
        rw [← hx] at e1 e2 e3 e4 hdr HTS HLN;have HST:Hid (ao_ s.takers s.nextTag (-1) s.outs = (cI_ s.takers s.nextTag l x && ao_ s.takers s.nextTag x.tag (s.outs.drop (k+1)))):=by
         show ao_ s.takers s.nextTag (-1) s.outs = _;rw [HOF.out,hdr];rfl
        obtain ⟨tg,tk,qu,it⟩:=x;obtain ⟨sq,ky,bo,ag,de⟩:=it;obtain ⟨f0,f1,f2,f3,f4⟩:=e4;dsimp only at e1 e2 e3 f0 f1 f2 f3 f4 HST HTS HLN;have j1:(0:Int)≤(k:Int):=by omega
        have j2:(k:Int) < m2:=by omega
        have sk:w.heap.size+1 < wr.heap.size:=by omega
        obtain ⟨W3,hW3⟩:∃ W3,W3 = wr.alloc (.cells #[.int .i64 tg,.int .i64 tk,.int .i64 qu,.int .i64 sq,.string ky,.string bo,.bool ag,.int .i64 de] 67):=⟨_,rfl⟩
        have HW3:=hidI hW3;have k3:Below W2.heap.size W2 W3:=by rw [hW3];exact hB.alloc hBs _
        have s3:=k3.size;have b3':W3.heap[wr.heap.size]? = some (.cells #[.int .i64 tg,.int .i64 tk,.int .i64 qu,.int .i64 sq,.string ky,.string bo,.bool ag,.int .i64 de] 67 (0,0)):=by rw [hW3];exact World.alloc_heap_new wr _
        have HB3:=hidI b3';have hrow3:=hrow.alloc (.cells #[.int .i64 tg,.int .i64 tk,.int .i64 qu,.int .i64 sq,.string ky,.string bo,.bool ag,.int .i64 de] 67);rw [← hW3] at hrow3;have HR3:=hidI hrow3;obtain ⟨BO,hBO⟩:∃ BO,BO = wr.heap.size:=⟨_,rfl⟩
        rw [← hBO] at HB3;have HBO:=hidI hBO;clear hx hdr hW3 b3' hrow3 hrow hBO hko;have HPREV:Hid (∃ (A:Addr) (va:Value),(∀ W,Below W2.heap.size W2 W→W.cell? A = some va)∧(0 < k→A = ⟨g,o+(k - 1) * 8,none⟩∧va = .int .i64 l)):=by
         by_cases h0:0 < k
         ·rcases HLL.out with ⟨h1,_⟩ | ⟨_,_,h2⟩
          ·omega
          ·have hk1:k - 1 < s.outs.length:=by rw [HM2.out];have:=HKL.out;omega
           obtain ⟨g',o',ha',hg',e1',_⟩:=HS.out.q2.get hk1;cases ha';rw [List.getElem?_eq_getElem hk1] at h2;simp at h2;rw [h2] at e1';exact ⟨_,_,fun W hW=>(hW.cell (p:=⟨g,_,none⟩) hg').trans e1',fun _=>⟨rfl,rfl⟩⟩
         ·exact ⟨⟨w.heap.size+1,4,none⟩,_,fun W hW=>(aa_ (BX.out W hW).2).2.2.2.2.1,fun h=>absurd h h0⟩
        have HTAK:Hid (∃ (B:Addr) (vb:Value),(∀ W,Below W2.heap.size W2 W→W.cell? B = some vb)∧(ar_ tk j = true→∃ (tn:Nat) (gt ot:Nat) (t:aj_),tk = (tn:Int)∧tn < j∧b3 = some ⟨gt,ot,none⟩∧s.takers[tn]? = some t∧B = ⟨gt,ot+tn * 2,none⟩∧vb = .int .i64 t.queue)):=by
         by_cases h0:ar_ tk j = true
         ·have h1:=aB_.1 h0;obtain ⟨tn,htn⟩:=Int.eq_ofNat_of_zero_le h1.1;have htl:tn < s.takers.length:=by rw [HM3.out];omega
          obtain ⟨gt,ot,hat,hgt,u1,u2⟩:=HS.out.q3.get htl;exact ⟨_,_,fun W hW=>(hW.cell (p:=⟨gt,_,none⟩) hgt).trans u1,fun _=>⟨tn,gt,ot,s.takers[tn],htn,by omega,hat,List.getElem?_eq_getElem htl,rfl,rfl⟩⟩
         ·exact ⟨⟨w.heap.size+1,4,none⟩,_,fun W hW=>(aa_ (BX.out W hW).2).2.2.2.2.1,fun h=>absurd h h0⟩
        obtain ⟨PA,va,hpa,hpv⟩:=HPREV.out;obtain ⟨TB,vb,htb,htv⟩:=HTAK.out;have HPA:=hidI hpa;have HPV:=hidI hpv;have HTB:=hidI htb;have HTV:=hidI htv;have SS:Hid (∀ W,Below W3.heap.size W3 W→W.cell? ⟨w.heap.size+1,1,none⟩ = some (.slice (some ⟨g,o,none⟩) m2 d2)∧W.cell? ⟨w.heap.size+1,2,none⟩ = some (.slice b3 j d3)∧W.cell? ⟨w.heap.size+1,4,none⟩ = some (.int .i64 s.nextTag)∧W.cell? ⟨BO,0,none⟩ = some (.int .i64 tg)∧W.cell? ⟨BO,1,none⟩ = some (.int .i64 tk)∧W.cell? ⟨BO,2,none⟩ = some (.int .i64 qu)∧W.cell? ⟨BO,3,none⟩ = some (.int .i64 sq)∧W.cell? ⟨BO,4,none⟩ = some (.string ky)∧W.cell? ⟨BO,5,none⟩ = some (.string bo)∧W.cell? ⟨BO,6,none⟩ = some (.bool ag)∧W.cell? ⟨BO,7,none⟩ = some (.int .i64 de)∧W.cell? PA = some va∧W.cell? TB = some vb):=fun W hW=>by
         have kw:=k3.trans (hW.mono s3);have x:=aa_ (BX.out W kw).2;have y:=pkp_ HB3.out hW;exact ⟨x.2.1,x.2.2.1,x.2.2.2.2.1,coc_ y 0,coc_ y 1,coc_ y 2,coc_ y 3,coc_ y 4,coc_ y 5,coc_ y 6,coc_ y 7,HPA.out W kw,HTB.out W kw⟩
        clear hpa hpv htb htv HPREV HTAK;go_wp2_with fail
        rw [← HW3.out,← HBO.out];refine wp_region_held_drew (S:=fun W=>W.cell? ⟨w.heap.size+1,1,none⟩ = some (.slice (some ⟨g,o,none⟩) m2 d2)∧W.cell? ⟨w.heap.size+1,2,none⟩ = some (.slice b3 j d3)∧W.cell? ⟨w.heap.size+1,4,none⟩ = some (.int .i64 s.nextTag)∧W.cell? ⟨BO,0,none⟩ = some (.int .i64 tg)∧W.cell? ⟨BO,1,none⟩ = some (.int .i64 tk)∧W.cell? ⟨BO,2,none⟩ = some (.int .i64 qu)∧W.cell? ⟨BO,3,none⟩ = some (.int .i64 sq)∧W.cell? ⟨BO,4,none⟩ = some (.string ky)∧W.cell? ⟨BO,5,none⟩ = some (.string bo)∧W.cell? ⟨BO,6,none⟩ = some (.bool ag)∧W.cell? ⟨BO,7,none⟩ = some (.int .i64 de)∧W.cell? PA = some va∧W.cell? TB = some vb) (by kernel_rfl) (SS.out _ (Below.refl _ _).drew) (fun hHeld=>?_);obtain ⟨v0,hv0⟩:∃ v0,v0 = W3.drew:=⟨_,rfl⟩
        have r0:Below W3.heap.size W3 v0:=by rw [hv0];exact (Below.refl _ _).drew
        have k0:Below W2.heap.size W2 v0:=k3.trans (r0.mono s3);rw [← hv0] at hHeld ⊢;clear hv0 y0 y1 y2 y3 y4 y5 y6 y7 e1 e2 e3 f0 f1 f2 f3 f4;by_cases q0:tg < 0
        ·as_aux_lemma=>
          have hq0:decide (tg < 0) = true:=decide_eq_true q0;have HQ0:=hidI q0;have HLM:Hid (-1≤l):=by rcases HLL.out with ⟨_,h⟩ | ⟨_,h,_⟩ <;> (show -1≤l;omega)
          clear q0;refine tkT 0 ?_;refine tkT 1 ?_;refine tkT 2 ?_;refine tkT 3 ?_;refine skT 4 ?_;refine skT 5 ?_;refine skT 6 ?_;refine skT 7 ?_;refine skT 8 ?_;refine skT 9 ?_;refine skT 10 ?_;refine skT 11 ?_;refine skT 12 ?_;refine skT 13 ?_;refine skT 14 ?_;refine skT 15 ?_;refine skT 16 ?_;refine skT 17 ?_;refine tkT 18 ?_;refine tkT 19 ?_;refine skT 20 ?_;refine skT 21 ?_;refine skT 22 ?_;refine skT 23 ?_;refine skT 24 ?_;refine skT 25 ?_;refine skT 26 ?_;refine skT 27 ?_;refine tkT 28 ?_;refine tkT 29 ?_;refine skT 30 ?_;refine skT 31 ?_;refine skT 32 ?_;refine skT 33 ?_;refine skT 34 ?_;refine skT 35 ?_;refine skT 36 ?_;refine skT 37 ?_;refine tkT 38 ?_;refine tkT 39 ?_;refine skT 40 ?_;refine skT 41 ?_;refine skT 42 ?_;refine skT 43 ?_;refine skT 44 ?_;refine skT 45 ?_;refine skT 46 ?_;refine skT 47 ?_;refine skT 48 ?_;refine skT 49 ?_;refine tkT 50 ?_;refine tkT 51 ?_;refine skT 52 ?_
          refine skT 53 ?_;refine skT 54 ?_;refine skT 55 ?_;refine tkT 56 ?_;refine tkT 57 ?_;refine skT 58 ?_;refine skT 59 ?_;refine skT 60 ?_;refine skT 61 ?_;refine skT 62 ?_;refine tkT 63 ?_;have HQL:Hid (tg≤l):=by show tg≤l;have h1:=HLM.out;have h2:=HQ0.out;omega
          refine wpAnyH_done (by kernel_rfl) ?_ _;have HDF:Hid (D = false):=by
           show D = false;rw [HFO.out,HST.out,lW_ HQL.out];simp
          go_wp2_with fail
          exact bodyPost_ret (v:=.bool false) (by simp [results,Tryz.results36,go_sem]) rfl ⟨by rw [HDF.out],hBw.trans (k0.mono s0)⟩
        ·have hq0:decide (tg < 0) = false:=decide_eq_false q0;have HTG0:Hid (0≤tg):=by show 0≤tg;omega
         clear q0;by_cases q2:k = 0
         ·as_aux_lemma=>
           have hl1:l = -1:=by rcases HLL.out with ⟨_,h⟩ | ⟨h,_⟩;exact h;omega
           have HQ1:Hid (¬ tg≤l):=by show ¬ tg≤l;have:=HTG0.out;omega
           clear hl1;subst q2;refine tkT 0 ?_;refine tkT 1 ?_;refine tkT 2 ?_;refine tkT 3 ?_;refine tkT 4 ?_;refine tkT 5 ?_;refine tkT 6 ?_;refine skT 7 ?_;refine skT 8 ?_;refine skT 9 ?_;refine skT 10 ?_;refine skT 11 ?_;refine skT 12 ?_;refine skT 13 ?_;refine skT 14 ?_;refine skT 15 ?_;refine skT 16 ?_;refine tkT 17 ?_;refine tkT 18 ?_;refine tkT 19 ?_;refine tkT 20 ?_;refine tkT 21 ?_;refine tkT 22 ?_;refine tkT 23 ?_;refine tkT 24 ?_;refine tkT 25 ?_;refine rdy 26 (fun K hK=>?_);go_simp;refine (aC_ _ _ _ _).mono ?_;rintro e vv ⟨rfl,hvv⟩;subst hvv;rw [ia_];obtain ⟨c3,hc3⟩:∃ c3,c3 = ar_ tk j:=⟨_,rfl⟩
           rw [← hc3] at HTV ⊢;have HC3:=hidI hc3.symm;refine hK.out _ _ (SS.out _ r0) (fun hH1=>?_);clear hK K hc3;try refine nrm ?_
           cases c3 with
           | false =>
             refine tkT 27 ?_;refine tkT 28 ?_;refine tkT 29 ?_;refine skT 30 ?_;refine skT 31 ?_;refine skT 32 ?_;refine skT 33 ?_;refine skT 34 ?_;refine skT 35 ?_;refine skT 36 ?_;refine skT 37 ?_;refine tkT 38 ?_;refine tkT 39 ?_;refine skT 40 ?_;refine skT 41 ?_;refine skT 42 ?_;refine skT 43 ?_;refine skT 44 ?_;refine skT 45 ?_;refine skT 46 ?_;refine skT 47 ?_;refine skT 48 ?_;refine skT 49 ?_;refine tkT 50 ?_;refine tkT 51 ?_;refine skT 52 ?_;refine skT 53 ?_;refine skT 54 ?_;refine skT 55 ?_;refine tkT 56 ?_;refine tkT 57 ?_;refine skT 58 ?_;refine skT 59 ?_;refine skT 60 ?_;refine skT 61 ?_;refine skT 62 ?_;refine tkT 63 ?_;have HC3L:Hid (ar_ tk s.takers.length = false):=by show ar_ tk s.takers.length = false;rw [HM3.out];exact HC3.out
             refine wpAnyH_done (by kernel_rfl) ?_ _;have HDF:Hid (D = false):=by
              show D = false;rw [HFO.out,HST.out,lX_ HC3L.out];simp
             go_wp2_with fail
             exact bodyPost_ret (v:=.bool false) (by simp [results,Tryz.results36,go_sem]) rfl ⟨by rw [HDF.out],hBw.trans (k0.mono s0)⟩
           | true =>
             obtain ⟨tn,gt,ot,t,htn,htj,hb3,hts,hTB,hvb⟩:=HTV.out rfl;subst htn hb3 hTB hvb;have HTS2:=hidI hts;have t1:(0:Int)≤(tn:Int):=by omega
             have t2:(tn:Int) < j:=by omega
             obtain ⟨tq,htq⟩:∃ tq,tq = t.queue:=⟨_,rfl⟩
             rw [← htq] at hHeld SS ⊢;have HTQ:=hidI htq;clear htq hts HTV;refine tkT 27 ?_;refine tkT 28 ?_;refine tkT 29 ?_;by_cases q4:tq = -1
             ·have hq4:(tq == -1) = true:=by simpa using q4
              have HC4:Hid (t.queue = -1):=by show t.queue = -1;rw [← HTQ.out];exact q4
              clear q4;refine tkT 30 ?_;refine tkT 31 ?_;refine tkT 32 ?_;refine tkT 33 ?_;refine tkT 34 ?_;refine tkT 35 ?_;refine tkT 36 ?_;refine tkT 37 ?_;refine tkT 38 ?_;refine tkT 39 ?_;refine skT 40 ?_;refine skT 41 ?_;refine skT 42 ?_;refine skT 43 ?_;refine skT 44 ?_;refine skT 45 ?_;refine skT 46 ?_;refine skT 47 ?_;refine skT 48 ?_;refine skT 49 ?_;refine tkT 50 ?_;refine tkT 51 ?_;refine skT 52 ?_;refine skT 53 ?_;refine skT 54 ?_;refine skT 55 ?_;refine tkT 56 ?_;refine tkT 57 ?_;refine skT 58 ?_;refine skT 59 ?_;refine skT 60 ?_;refine skT 61 ?_;refine skT 62 ?_;refine tkT 63 ?_;refine wpAnyH_done (by kernel_rfl) ?_ _;have HDF:Hid (D = false):=by
               show D = false;rw [HFO.out,HST.out,lY_ HTS2.out HC4.out];simp
              go_wp2_with fail
              exact bodyPost_ret (v:=.bool false) (by simp [results,Tryz.results36,go_sem]) rfl ⟨by rw [HDF.out],hBw.trans (k0.mono s0)⟩
             ·have hq4:(tq == -1) = false:=by simpa using q4
              have HC4n:Hid (t.queue≠-1):=by show t.queue≠-1;rw [← HTQ.out];exact q4
              clear q4;refine tkT 30 ?_;refine tkT 31 ?_;refine tkT 32 ?_;refine tkT 33 ?_;refine tkT 34 ?_;refine tkT 35 ?_;refine tkT 36 ?_;refine tkT 37 ?_;refine tkT 38 ?_;refine tkT 39 ?_;by_cases q5:tq = qu
              ·have hq5:(tq != qu) = false:=by simpa using q5
               have HC5n:Hid (t.queue = qu):=by show t.queue = qu;rw [← HTQ.out];exact q5
               clear q5;refine tkT 40 ?_;refine tkT 41 ?_;refine tkT 42 ?_;refine tkT 43 ?_;refine tkT 44 ?_;refine tkT 45 ?_;refine tkT 46 ?_;refine tkT 47 ?_;refine tkT 48 ?_;refine tkT 49 ?_;refine tkT 50 ?_;refine tkT 51 ?_;refine tkT 52 ?_;refine tkT 53 ?_;refine rdy 54 (fun K hK=>?_);go_simp;refine (b2_ _ _ _ _ _ _).mono ?_;rintro e v1 ⟨rfl,r1⟩;have r01:=r0.trans (r1.mono r0.size);have k1:Below W2.heap.size W2 v1:=k3.trans (r01.mono s3);obtain ⟨c6,hc6⟩:∃ c6,c6 = am_ ⟨sq,ky,bo,ag,de⟩:=⟨_,rfl⟩
               rw [← hc6];have HC6:=hidI hc6.symm;refine hK.out _ _ (SS.out _ r01) (fun hH2=>?_);clear hK K hc6;try refine nrm ?_
               cases c6 with
               | false =>
                 refine tkT 55 ?_;refine tkT 56 ?_;refine tkT 57 ?_;refine skT 58 ?_;refine skT 59 ?_;refine skT 60 ?_;refine skT 61 ?_;refine skT 62 ?_;refine tkT 63 ?_;refine wpAnyH_done (by kernel_rfl) ?_ _;have HDF:Hid (D = false):=by
                  show D = false;rw [HFO.out,HST.out,l0_ HC6.out];simp
                 go_wp2_with fail
                 exact bodyPost_ret (v:=.bool false) (by simp [results,Tryz.results36,go_sem]) rfl ⟨by rw [HDF.out],hBw.trans (k1.mono s0)⟩
               | true =>
                 by_cases q7:s.nextTag≤tg
                 ·have hq7:decide (s.nextTag≤tg) = true:=decide_eq_true q7;have HQ7:=hidI q7;clear q7;refine tkT 55 ?_;refine tkT 56 ?_;refine tkT 57 ?_;refine tkT 58 ?_;refine tkT 59 ?_;refine tkT 60 ?_;refine tkT 61 ?_;refine tkT 62 ?_;refine tkT 63 ?_;refine wpAnyH_done (by kernel_rfl) ?_ _;have HDF:Hid (D = false):=by
                   show D = false;rw [HFO.out,HST.out,l1_ HQ7.out];simp
                  go_wp2_with fail
                  exact bodyPost_ret (v:=.bool false) (by simp [results,Tryz.results36,go_sem]) rfl ⟨by rw [HDF.out],hBw.trans (k1.mono s0)⟩
                 ·have hq7:decide (s.nextTag≤tg) = false:=decide_eq_false q7;have HC4:=HTS2;have HC5:=HC4n;have HQ7:=hidI q7;clear q7;refine tkT 55 ?_;refine tkT 56 ?_;refine tkT 57 ?_;refine tkT 58 ?_;refine tkT 59 ?_;refine tkT 60 ?_;refine tkT 61 ?_;refine tkT 62 ?_;refine tkT 63 ?_;refine wpAnyH_done (by kernel_rfl) ?_ _;have HOK:Hid (ao_ s.takers s.nextTag (-1) s.outs = ao_ s.takers s.nextTag tg (s.outs.drop (0+1))):=by
                   show ao_ s.takers s.nextTag (-1) s.outs = _;rw [HST.out,is_ (Int.lt_of_not_ge HQ1.out) (Int.lt_of_not_ge HQ7.out) (by rw [HM3.out];exact HC3.out) HTS2.out HC4n.out HC5n.out HC6.out];rfl
                  have HTG:Hid (0≤tg):=by exact HTG0.out
                  have hrow5:=g2_ (g2_ HR3.out r0) r1;have c3:=coc_ (pkp_ HB3.out r01) 3;simp at c3;obtain ⟨m,hm⟩:∃ m,m = M.length:=⟨_,rfl⟩
                  rw [← hm] at hrow5 hMb;have HM:=hidI hm;have s5:=k1.size;clear hm hHeld;go_wp2_with (at_builtin;refine wpList_append_own _ rfl _ _ 32 rfl W2.heap.size 3 i3 (.int .i64 0) 1 8 Tryz.underlying32 hi3 hy0 hy1 hy2 rfl (by decide) _ _ _ rfl (hrow5.alloc _) ⟨v1.heap.size,0,none⟩ 1 1 [.int .i64 sq] rfl rfl (fB_ _ _ _) (by simp [Value.oneCell']) (by unfold maxLen;omega) (by omega) (by simp;omega) ?_;intro v' w9 hown' hgrow _;have hB9:Below W2.heap.size W2 w9:=(k1.alloc s5 _).grown hgrow (by simp;omega) (cg_ hrow5))
                  go_roundw
                  case rel=>exact ⟨0+1,tg,M ++ [sq],HKL.out,by have:=HKL.out;go_num,HOK.out,.inr ⟨Nat.succ_pos _,HTG.out,HLN.out⟩,by rw [List.length_append,List.map_append,← HM.out];exact hown',by rw [HTS.out,← List.append_assoc,← HMM.out],hB9⟩
                  case measure=>have:=HKL.out;simp [intOf];omega
              ·have hq5:(tq != qu) = true:=by simpa using q5
               have HC5n:Hid (t.queue≠qu):=by show t.queue≠qu;rw [← HTQ.out];exact q5
               clear q5;refine tkT 40 ?_;refine tkT 41 ?_;refine tkT 42 ?_;refine tkT 43 ?_;refine tkT 44 ?_;refine tkT 45 ?_;refine tkT 46 ?_;refine tkT 47 ?_;refine tkT 48 ?_;refine tkT 49 ?_;refine tkT 50 ?_;refine tkT 51 ?_;refine skT 52 ?_;refine skT 53 ?_;refine skT 54 ?_;refine skT 55 ?_;refine tkT 56 ?_;refine tkT 57 ?_;refine skT 58 ?_;refine skT 59 ?_;refine skT 60 ?_;refine skT 61 ?_;refine skT 62 ?_;refine tkT 63 ?_;refine wpAnyH_done (by kernel_rfl) ?_ _;have HDF:Hid (D = false):=by
                show D = false;rw [HFO.out,HST.out,lZ_ HTS2.out HC5n.out];simp
               go_wp2_with fail
               exact bodyPost_ret (v:=.bool false) (by simp [results,Tryz.results36,go_sem]) rfl ⟨by rw [HDF.out],hBw.trans (k0.mono s0)⟩
         ·have hq2:decide ((0:Int) < (k:Int)) = true:=decide_eq_true (by omega);have hq2a:decide (0 < k) = true:=decide_eq_true (by omega);have hq2b:(0:Int) < (k:Int):=by omega
          have hq2c:0 < k:=by omega
          obtain ⟨hPA,hva⟩:=HPV.out (by omega);subst hPA hva;have hwk:IntKind.i64.wrap ((k:Int) - 1) = ((k - 1:Nat):Int):=by rw [IntKind.wrap_i64];omega
          have i1:(0:Int)≤((k - 1:Nat):Int):=by omega
          have i2:((k - 1:Nat):Int) < m2:=by omega
          by_cases q3:tg≤l
          ·as_aux_lemma=>
            have hq3:decide (tg≤l) = true:=decide_eq_true q3;have HQ1:=hidI q3;clear q2 q3;refine tkT 0 ?_;refine tkT 1 ?_;refine tkT 2 ?_;refine tkT 3 ?_;refine tkT 4 ?_;refine tkT 5 ?_;refine tkT 6 ?_;refine tkT 7 ?_;refine tkT 8 ?_;refine tkT 9 ?_;refine tkT 10 ?_;refine tkT 11 ?_;refine tkT 12 ?_;refine tkT 13 ?_;refine tkT 14 ?_;refine tkT 15 ?_;refine tkT 16 ?_;refine tkT 17 ?_;refine tkT 18 ?_;refine tkT 19 ?_;refine skT 20 ?_;refine skT 21 ?_;refine skT 22 ?_;refine skT 23 ?_;refine skT 24 ?_;refine skT 25 ?_;refine skT 26 ?_;refine skT 27 ?_;refine tkT 28 ?_;refine tkT 29 ?_;refine skT 30 ?_;refine skT 31 ?_;refine skT 32 ?_;refine skT 33 ?_;refine skT 34 ?_;refine skT 35 ?_;refine skT 36 ?_;refine skT 37 ?_;refine tkT 38 ?_;refine tkT 39 ?_;refine skT 40 ?_;refine skT 41 ?_;refine skT 42 ?_;refine skT 43 ?_;refine skT 44 ?_;refine skT 45 ?_;refine skT 46 ?_;refine skT 47 ?_;refine skT 48 ?_
            refine skT 49 ?_;refine tkT 50 ?_;refine tkT 51 ?_;refine skT 52 ?_;refine skT 53 ?_;refine skT 54 ?_;refine skT 55 ?_;refine tkT 56 ?_;refine tkT 57 ?_;refine skT 58 ?_;refine skT 59 ?_;refine skT 60 ?_;refine skT 61 ?_;refine skT 62 ?_;refine tkT 63 ?_;refine wpAnyH_done (by kernel_rfl) ?_ _;have HDF:Hid (D = false):=by
             show D = false;rw [HFO.out,HST.out,lW_ HQ1.out];simp
            go_wp2_with fail
            exact bodyPost_ret (v:=.bool false) (by simp [results,Tryz.results36,go_sem]) rfl ⟨by rw [HDF.out],hBw.trans (k0.mono s0)⟩
          ·as_aux_lemma=>
            have hq3:decide (tg≤l) = false:=decide_eq_false q3;have HQ1:=hidI q3;clear q2 q3;refine tkT 0 ?_;refine tkT 1 ?_;refine tkT 2 ?_;refine tkT 3 ?_;refine tkT 4 ?_;refine tkT 5 ?_;refine tkT 6 ?_;refine tkT 7 ?_;refine tkT 8 ?_;refine tkT 9 ?_;refine tkT 10 ?_;refine tkT 11 ?_;refine tkT 12 ?_;refine tkT 13 ?_;refine tkT 14 ?_;refine tkT 15 ?_;refine tkT 16 ?_;refine tkT 17 ?_;refine tkT 18 ?_;refine tkT 19 ?_;refine tkT 20 ?_;refine tkT 21 ?_;refine tkT 22 ?_;refine tkT 23 ?_;refine tkT 24 ?_;refine tkT 25 ?_;refine rdy 26 (fun K hK=>?_);go_simp;refine (aC_ _ _ _ _).mono ?_;rintro e vv ⟨rfl,hvv⟩;subst hvv;rw [ia_];obtain ⟨c3,hc3⟩:∃ c3,c3 = ar_ tk j:=⟨_,rfl⟩
            rw [← hc3] at HTV ⊢;have HC3:=hidI hc3.symm;refine hK.out _ _ (SS.out _ r0) (fun hH1=>?_);clear hK K hc3;try refine nrm ?_
            cases c3 with
            | false =>
              refine tkT 27 ?_;refine tkT 28 ?_;refine tkT 29 ?_;refine skT 30 ?_;refine skT 31 ?_;refine skT 32 ?_;refine skT 33 ?_;refine skT 34 ?_;refine skT 35 ?_;refine skT 36 ?_;refine skT 37 ?_;refine tkT 38 ?_;refine tkT 39 ?_;refine skT 40 ?_;refine skT 41 ?_;refine skT 42 ?_;refine skT 43 ?_;refine skT 44 ?_;refine skT 45 ?_;refine skT 46 ?_;refine skT 47 ?_;refine skT 48 ?_;refine skT 49 ?_;refine tkT 50 ?_;refine tkT 51 ?_;refine skT 52 ?_;refine skT 53 ?_;refine skT 54 ?_;refine skT 55 ?_;refine tkT 56 ?_;refine tkT 57 ?_;refine skT 58 ?_;refine skT 59 ?_;refine skT 60 ?_;refine skT 61 ?_;refine skT 62 ?_;refine tkT 63 ?_;have HC3L:Hid (ar_ tk s.takers.length = false):=by show ar_ tk s.takers.length = false;rw [HM3.out];exact HC3.out
              refine wpAnyH_done (by kernel_rfl) ?_ _;have HDF:Hid (D = false):=by
               show D = false;rw [HFO.out,HST.out,lX_ HC3L.out];simp
              go_wp2_with fail
              exact bodyPost_ret (v:=.bool false) (by simp [results,Tryz.results36,go_sem]) rfl ⟨by rw [HDF.out],hBw.trans (k0.mono s0)⟩
            | true =>
              obtain ⟨tn,gt,ot,t,htn,htj,hb3,hts,hTB,hvb⟩:=HTV.out rfl;subst htn hb3 hTB hvb;have HTS2:=hidI hts;have t1:(0:Int)≤(tn:Int):=by omega
              have t2:(tn:Int) < j:=by omega
              obtain ⟨tq,htq⟩:∃ tq,tq = t.queue:=⟨_,rfl⟩
              rw [← htq] at hHeld SS ⊢;have HTQ:=hidI htq;clear htq hts HTV;refine tkT 27 ?_;refine tkT 28 ?_;refine tkT 29 ?_;by_cases q4:tq = -1
              ·have hq4:(tq == -1) = true:=by simpa using q4
               have HC4:Hid (t.queue = -1):=by show t.queue = -1;rw [← HTQ.out];exact q4
               clear q4;refine tkT 30 ?_;refine tkT 31 ?_;refine tkT 32 ?_;refine tkT 33 ?_;refine tkT 34 ?_;refine tkT 35 ?_;refine tkT 36 ?_;refine tkT 37 ?_;refine tkT 38 ?_;refine tkT 39 ?_;refine skT 40 ?_;refine skT 41 ?_;refine skT 42 ?_;refine skT 43 ?_;refine skT 44 ?_;refine skT 45 ?_;refine skT 46 ?_;refine skT 47 ?_;refine skT 48 ?_;refine skT 49 ?_;refine tkT 50 ?_;refine tkT 51 ?_;refine skT 52 ?_;refine skT 53 ?_;refine skT 54 ?_;refine skT 55 ?_;refine tkT 56 ?_;refine tkT 57 ?_;refine skT 58 ?_;refine skT 59 ?_;refine skT 60 ?_;refine skT 61 ?_;refine skT 62 ?_;refine tkT 63 ?_;refine wpAnyH_done (by kernel_rfl) ?_ _;have HDF:Hid (D = false):=by
                show D = false;rw [HFO.out,HST.out,lY_ HTS2.out HC4.out];simp
               go_wp2_with fail
               exact bodyPost_ret (v:=.bool false) (by simp [results,Tryz.results36,go_sem]) rfl ⟨by rw [HDF.out],hBw.trans (k0.mono s0)⟩
              ·have hq4:(tq == -1) = false:=by simpa using q4
               have HC4n:Hid (t.queue≠-1):=by show t.queue≠-1;rw [← HTQ.out];exact q4
               clear q4;refine tkT 30 ?_;refine tkT 31 ?_;refine tkT 32 ?_;refine tkT 33 ?_;refine tkT 34 ?_;refine tkT 35 ?_;refine tkT 36 ?_;refine tkT 37 ?_;refine tkT 38 ?_;refine tkT 39 ?_;by_cases q5:tq = qu
               ·have hq5:(tq != qu) = false:=by simpa using q5
                have HC5n:Hid (t.queue = qu):=by show t.queue = qu;rw [← HTQ.out];exact q5
                clear q5;refine tkT 40 ?_;refine tkT 41 ?_;refine tkT 42 ?_;refine tkT 43 ?_;refine tkT 44 ?_;refine tkT 45 ?_;refine tkT 46 ?_;refine tkT 47 ?_;refine tkT 48 ?_;refine tkT 49 ?_;refine tkT 50 ?_;refine tkT 51 ?_;refine tkT 52 ?_;refine tkT 53 ?_;refine rdy 54 (fun K hK=>?_);go_simp;refine (b2_ _ _ _ _ _ _).mono ?_;rintro e v1 ⟨rfl,r1⟩;have r01:=r0.trans (r1.mono r0.size);have k1:Below W2.heap.size W2 v1:=k3.trans (r01.mono s3);obtain ⟨c6,hc6⟩:∃ c6,c6 = am_ ⟨sq,ky,bo,ag,de⟩:=⟨_,rfl⟩
                rw [← hc6];have HC6:=hidI hc6.symm;refine hK.out _ _ (SS.out _ r01) (fun hH2=>?_);clear hK K hc6;try refine nrm ?_
                cases c6 with
                | false =>
                  refine tkT 55 ?_;refine tkT 56 ?_;refine tkT 57 ?_;refine skT 58 ?_;refine skT 59 ?_;refine skT 60 ?_;refine skT 61 ?_;refine skT 62 ?_;refine tkT 63 ?_;refine wpAnyH_done (by kernel_rfl) ?_ _;have HDF:Hid (D = false):=by
                   show D = false;rw [HFO.out,HST.out,l0_ HC6.out];simp
                  go_wp2_with fail
                  exact bodyPost_ret (v:=.bool false) (by simp [results,Tryz.results36,go_sem]) rfl ⟨by rw [HDF.out],hBw.trans (k1.mono s0)⟩
                | true =>
                  by_cases q7:s.nextTag≤tg
                  ·have hq7:decide (s.nextTag≤tg) = true:=decide_eq_true q7;have HQ7:=hidI q7;clear q7;refine tkT 55 ?_;refine tkT 56 ?_;refine tkT 57 ?_;refine tkT 58 ?_;refine tkT 59 ?_;refine tkT 60 ?_;refine tkT 61 ?_;refine tkT 62 ?_;refine tkT 63 ?_;refine wpAnyH_done (by kernel_rfl) ?_ _;have HDF:Hid (D = false):=by
                    show D = false;rw [HFO.out,HST.out,l1_ HQ7.out];simp
                   go_wp2_with fail
                   exact bodyPost_ret (v:=.bool false) (by simp [results,Tryz.results36,go_sem]) rfl ⟨by rw [HDF.out],hBw.trans (k1.mono s0)⟩
                  ·have hq7:decide (s.nextTag≤tg) = false:=decide_eq_false q7;have HC4:=HTS2;have HC5:=HC4n;have HQ7:=hidI q7;clear q7;refine tkT 55 ?_;refine tkT 56 ?_;refine tkT 57 ?_;refine tkT 58 ?_;refine tkT 59 ?_;refine tkT 60 ?_;refine tkT 61 ?_;refine tkT 62 ?_;refine tkT 63 ?_;refine wpAnyH_done (by kernel_rfl) ?_ _;have HOK:Hid (ao_ s.takers s.nextTag (-1) s.outs = ao_ s.takers s.nextTag tg (s.outs.drop (k+1))):=by
                    show ao_ s.takers s.nextTag (-1) s.outs = _;rw [HST.out,is_ (Int.lt_of_not_ge HQ1.out) (Int.lt_of_not_ge HQ7.out) (by rw [HM3.out];exact HC3.out) HTS2.out HC4n.out HC5n.out HC6.out];rfl
                   have HTG:Hid (0≤tg):=by exact HTG0.out
                   have hrow5:=g2_ (g2_ HR3.out r0) r1;have c3:=coc_ (pkp_ HB3.out r01) 3;simp at c3;obtain ⟨m,hm⟩:∃ m,m = M.length:=⟨_,rfl⟩
                   rw [← hm] at hrow5 hMb;have HM:=hidI hm;have s5:=k1.size;clear hm hHeld;go_wp2_with (at_builtin;refine wpList_append_own _ rfl _ _ 32 rfl W2.heap.size 3 i3 (.int .i64 0) 1 8 Tryz.underlying32 hi3 hy0 hy1 hy2 rfl (by decide) _ _ _ rfl (hrow5.alloc _) ⟨v1.heap.size,0,none⟩ 1 1 [.int .i64 sq] rfl rfl (fB_ _ _ _) (by simp [Value.oneCell']) (by unfold maxLen;omega) (by omega) (by simp;omega) ?_;intro v' w9 hown' hgrow _;have hB9:Below W2.heap.size W2 w9:=(k1.alloc s5 _).grown hgrow (by simp;omega) (cg_ hrow5))
                   go_roundw
                   case rel=>exact ⟨k+1,tg,M ++ [sq],HKL.out,by have:=HKL.out;go_num,HOK.out,.inr ⟨Nat.succ_pos _,HTG.out,HLN.out⟩,by rw [List.length_append,List.map_append,← HM.out];exact hown',by rw [HTS.out,← List.append_assoc,← HMM.out],hB9⟩
                   case measure=>have:=HKL.out;simp [intOf];omega
               ·have hq5:(tq != qu) = true:=by simpa using q5
                have HC5n:Hid (t.queue≠qu):=by show t.queue≠qu;rw [← HTQ.out];exact q5
                clear q5;refine tkT 40 ?_;refine tkT 41 ?_;refine tkT 42 ?_;refine tkT 43 ?_;refine tkT 44 ?_;refine tkT 45 ?_;refine tkT 46 ?_;refine tkT 47 ?_;refine tkT 48 ?_;refine tkT 49 ?_;refine tkT 50 ?_;refine tkT 51 ?_;refine skT 52 ?_;refine skT 53 ?_;refine skT 54 ?_;refine skT 55 ?_;refine tkT 56 ?_;refine tkT 57 ?_;refine skT 58 ?_;refine skT 59 ?_;refine skT 60 ?_;refine skT 61 ?_;refine skT 62 ?_;refine tkT 63 ?_;refine wpAnyH_done (by kernel_rfl) ?_ _;have HDF:Hid (D = false):=by
                 show D = false;rw [HFO.out,HST.out,lZ_ HTS2.out HC5n.out];simp
                go_wp2_with fail
                exact bodyPost_ret (v:=.bool false) (by simp [results,Tryz.results36,go_sem]) rfl ⟨by rw [HDF.out],hBw.trans (k0.mono s0)⟩
       ·have hke:k = m2:=by omega
        subst hke;have HOO:Hid (ao_ s.takers s.nextTag (-1) s.outs = true):=by
         show ao_ s.takers s.nextTag (-1) s.outs = true;rw [HOF.out,List.drop_eq_nil_of_le (by rw [HM2.out];exact Nat.le_refl _)];rfl
        have HZ:Hid (M = as_ s):=by
         show M = as_ s;rw [HMM.out,HL1.out,List.take_of_length_le (by rw [HM2.out];exact Nat.le_refl _)];rfl
        obtain ⟨az,cz,hu,hI⟩:=jV_ hrow;obtain ⟨N,hN⟩:∃ N,N = M.length:=⟨_,rfl⟩
        rw [← hN] at hu hMb;have HNN:=hidI hN;have HI:=hidI hI;obtain ⟨wx,hwx⟩:∃ wx,wx = wr:=⟨_,rfl⟩
        subst hwx;subst hu;have HDD:Hid (D = (bf_ s && ci_ s)):=by show D = _;rw [HFO.out,HLO.out,HTO.out,HOO.out];simp
        have KX:Hid (∀ W,Below wx.heap.size wx W→Below W2.heap.size W2 W):=fun W hW=>hB.trans (hW.mono hBs)
        clear hkl hk hrow hI hN HLL HOF;go_wp2_with fail
        go_loopw [11,12] (fun i _ wr=>∃ (a:Nat),a≤N∧i = .int .i64 a∧eh_ M s.nextSeq a∧Below wx.heap.size wx wr) (fun i _ _=>N - (intOf i).toNat)
        case atStart=>exact ⟨0,Nat.zero_le _,rfl,⟨by simp,by simp⟩,Below.refl _ _⟩
        case round=>
         clear y0 y1 y2 y3 y4 y5 y6 y7;obtain ⟨a,ha,rfl,hst,hBa⟩:=hrel;have HSTQ:=hidI hst;clear hst;by_cases hal:a < N
         ·have HAL:=hidI hal;have haM:a < M.length:=by rw [← HNN.out];exact hal
          rcases HI.out with h | ⟨gz,haz,hgz,hzz⟩
          ·rw [h] at haM;simp at haM
          have HCZ:Hid (∀ W,Below wx.heap.size wx W→∀ t (ht:t < M.length),W.cell? ⟨gz,t,none⟩ = some (.int .i64 M[t])):=fun W hW t ht=>(hW.cell (p:=⟨gz,t,none⟩) hgz).trans (hzz t ht)
          subst haz;have HSN:=hidI (fun h1 h2=>HSTQ.out.succ haM h1 h2);have HNO:=hidI (fun (h:M[a] ∈ M.take a∨s.nextSeq≤M[a])=>iD_ (s:=s) (k:=a) (by rw [← HZ.out];exact haM) (by simp only [← HZ.out];exact h));have HDUP:=hidI (fun (t:Nat) (ht:t < a) h=>ny_ (Z:=M) haM ht h);have HNEW:=hidI (fun h=>nz_ (Z:=M) haM h);obtain ⟨z,hz⟩:∃ z,z = M[a]:=⟨_,rfl⟩
          rw [← hz] at HSN HNO;have HZA:=hidI hz;clear hz hzz;go_wp2_with fail
          go_loopw [12] (fun i wr=>∃ (t:Nat),t≤a∧i = .int .i64 t∧(∀ q (hq:q < t) (hl:q < M.length),M[q]≠z)∧Below wx.heap.size wx wr) (fun i _=>a - (intOf i).toNat)
          case atStart=>exact ⟨0,Nat.zero_le _,rfl,fun q hq=>absurd hq (Nat.not_lt_zero _),hBa⟩
          case round=>
           obtain ⟨t,ht,rfl,hne,hBt⟩:=hrel;have HNE:=hidI hne;clear hne;have q2:=HCZ.out wr hBt a haM;rw [← HZA.out] at q2;have a1:(0:Int)≤(a:Int):=by omega
           have a2:(a:Int) < N:=by have:=HAL.out;omega
           by_cases htl:t < a
           ·have HTL:=hidI htl;have htM:t < M.length:=by omega
            have q1:=HCZ.out wr hBt t htM;have HEQ:Hid (M[t] = z→ci_ s = false):=fun e=>HNO.out (.inl (by rw [HZA.out];exact HDUP.out t htl (by rw [e,HZA.out])))
            have HXT:Hid (∀ y,y = M[t]→y≠z→∀ q (hq:q < t+1) (hl:q < M.length),M[q]≠z):=fun y hy hne q hq hl=>by
             by_cases e:q = t
             ·subst e;rw [← hy];exact hne
             ·exact HNE.out q (by omega) hl
            obtain ⟨y,hy⟩:∃ y,y = M[t]:=⟨_,rfl⟩
            rw [← hy] at q1 HEQ;have HYT:=hidI hy;have t1:(0:Int)≤(t:Int):=by omega
            have t2:(t:Int) < N:=by have:=HAL.out;omega
            clear hy;by_cases hyz:y = z
            ·have hb:(y == z) = true:=by simpa using hyz
             have HDF:Hid (D = false):=by show D = false;rw [HDD.out,HEQ.out hyz];simp
             clear hyz;go_wp2_with fail
             go_quiet (fail)
             go_wp2_with fail
             exact bodyPost_ret (v:=.bool false) (by simp [results,Tryz.results36,go_sem]) rfl ⟨by rw [HDF.out],hBw.trans ((KX.out _ (dN_ hBt)).mono s0)⟩
            ·have hb:(y == z) = false:=by simpa using hyz
             have HYZ:=hidI hyz;clear hyz;go_wp2_with fail
             go_quiet (fail)
             go_wp2_with fail
             go_roundw
             case rel=>exact ⟨t+1,HTL.out,by have h1:=HTL.out;have h2:=HAL.out;go_num,HXT.out y HYT.out HYZ.out,dN_ hBt⟩
             case measure=>have:=HTL.out;simp [intOf];omega
           ·have hte:t = a:=by omega
            subst hte;have HFRESH:Hid (z ∉ M.take t):=by show z ∉ M.take t;rw [HZA.out];exact HNEW.out (fun q hq=>by rw [← HZA.out];exact HNE.out q hq (by omega))
            obtain ⟨y0,y1,y2,y3,y4,y5,y6,y7⟩:=aa_ (BX.out wr (KX.out _ hBt)).2;clear htl ht;by_cases hnz:s.nextSeq≤z
            ·have hb:decide (s.nextSeq≤z) = true:=decide_eq_true hnz;have HDF:Hid (D = false):=by show D = false;rw [HDD.out,HNO.out (.inr hnz)];simp
             go_wp2_with fail
             go_quiet (fail)
             go_wp2_with fail
             exact bodyPost_ret (v:=.bool false) (by simp [results,Tryz.results36,go_sem]) rfl ⟨by rw [HDF.out],hBw.trans ((KX.out _ (dN_ hBt)).mono s0)⟩
            ·have hb:decide (s.nextSeq≤z) = false:=decide_eq_false hnz;have HNX:Hid (eh_ M s.nextSeq (t+1)):=HSN.out HFRESH.out (by omega);clear hnz;go_wp2_with fail
             go_quiet (fail)
             go_wp2_with fail
             go_roundw
             case rel=>exact ⟨t+1,HAL.out,by have:=HAL.out;go_num,HNX.out,dN_ hBt⟩
             case measure=>have:=HAL.out;simp [intOf];omega
         ·have hae:a = N:=by omega
          subst hae;have HSO:Hid (ci_ s = true):=by
           have:=HSTQ.out;rw [HNN.out,HZ.out] at this;exact g3_ this
          have HDC:Hid (D = bf_ s):=by show D = _;rw [HDD.out,HSO.out];simp
          obtain ⟨y0,y1,y2,y3,y4,y5,y6,y7⟩:=aa_ (BX.out wr (KX.out _ hBa)).2;obtain ⟨g1,hg1⟩:∃ g1,g1 = a2_ s.nextSeq:=⟨_,rfl⟩
          obtain ⟨g2,hg2⟩:∃ g2,g2 = a2_ s.nextTag:=⟨_,rfl⟩
          obtain ⟨g3,hg3⟩:∃ g3,g3 = a2_ s.came:=⟨_,rfl⟩
          obtain ⟨g4,hg4⟩:∃ g4,g4 = a2_ s.acked:=⟨_,rfl⟩
          obtain ⟨g5,hg5⟩:∃ g5,g5 = a2_ s.dropped:=⟨_,rfl⟩
          have HCC:Hid (D = (g1 && g2 && g3 && g4 && g5)):=by show D = _;rw [HDC.out,hg1,hg2,hg3,hg4,hg5];rfl
          have HG1:=hidI hg1;have HG2:=hidI hg2;have HG3:=hidI hg3;have HG4:=hidI hg4;have HG5:=hidI hg5;clear hg1 hg2 hg3 hg4 hg5 hal ha;cases g1 <;> cases g2 <;> cases g3 <;> cases g4 <;> cases g5
          all_goals
           as_aux_lemma=>
            go_wp2_with (go_at_call 63;refine (aC_ _ _ _ _).mono ?_;rintro e wz ⟨rfl,hwz⟩;subst hwz;rw [lx_];first | rw [← HG1.out] | rw [← HG2.out] | rw [← HG3.out] | rw [← HG4.out] | rw [← HG5.out])
            go_ret
            exact ⟨by rw [HCC.out];rfl,hBw.trans ((KX.out _ hBa).mono s0)⟩
 ·have hmb:((m1:Int) != (n2:Int)) = true:=by simp;omega
  have HDF:Hid (D = false):=by show D = false;rw [HFO.out];unfold aY_;rw [HM1.out,decide_eq_false hm];rfl
  clear hm;go_enter Tryz.func36,Tryz.ntmps36;go_wp2_with fail
  rw [← HW2.out];go_ret
  exact ⟨by rw [HDF.out];rfl,hBw⟩
end Go.Proofs.YtlbnkpicnokgoaaGreat
