import Derived.Deep.DeepCutAuto
import Derived.Test.YtlbnkpicnokgoaaGreatCWk
import Derived.Test.YtlbnkpicnokgoaaGreatUax
namespace Go.Proofs.YtlbnkpicnokgoaaGreat
open Go.RowKit Go.Maps
set_option linter.unusedVariables false
set_option maxRecDepth 100000
set_option maxHeartbeats 8000000
theorem mi_:∀ {l:List bi_},l.all bi_.ok = true→(de_ l).length≤l.length * 256
 | [],_=>Nat.le_refl _
 | x :: r, h => by
   rw [List.all_cons,Bool.and_eq_true] at h;have ih:=mi_ h.2;have hx:x.bytes.length≤256:=by
    cases x with
    | num n=>show 1≤256;omega
    | flag b=>show 1≤256;omega
    | text s =>
      have hs:s.size≤255:=of_decide_eq_true h.1;show (hI_ s).length≤256;unfold hI_;rw [List.length_cons,d2_];omega
   show (List.flatMap _ (x :: r)).length≤_;rw [List.flatMap_cons,List.length_append,List.length_cons,Nat.add_mul];have e:(List.flatMap bi_.bytes r).length = (de_ r).length:=rfl;omega
theorem nr_ (l:List bi_) (a:Option Addr) (n c Bt Bb:Nat) (w:World) (hn:l.length = n) (hm:n≤100000) (hT:jx_ w a l) (hne:∀ g o,a = some ⟨g,o,none⟩→g≠Bb)
 (x0:w.heap[Bt]? = some (.cells #[.slice a n c] 143 (0,0))) (x1:w.heap[Bb]? = some (.cells #[.slice none 0 0] 144 (0,0))) :
 Calls Tryz.prog 115 #[.pointer (some ⟨Bt,0,none⟩),.pointer (some ⟨Bb,0,none⟩)] w fun e w'=>ac_ w.heap.size Bb w w'∧e = askE (putE l)∧(putE l = 0→∃ b m c,cM_ w' w.heap.size Bb (de_ l) b m c):=by
 obtain ⟨E,hE⟩:∃ E,E = putE l:=⟨_,rfl⟩
 rw [← hE];have HE:=hidI hE;have HN:=hidI hn;have HT:=hidI hT;have X1:=hidI x1;have hlb:=lth_ x1;have c0:=coc_ x0 0;simp at c0;have T1:=ow_;have T2:=lT_;have T3:=lU_;have T4:=nY_;have T5:=kM_;have T6:=ox_;have HNE:=hidI hne;clear hE hn hT x0 x1 hne;go_enter Tryz.func115,Tryz.ntmps115;go_wp2_with fail
 clear c0;go_loopw [10] (fun i wr=>∃ (k:Nat) (b:Option Addr) (m c:Nat),k≤n∧i = .int .i64 k∧(l.take k).all bi_.ok = true∧cM_ wr w.heap.size Bb (de_ (l.take k)) b m c∧ac_ w.heap.size Bb w wr) (fun i _=>n - (intOf i).toNat)
 case atStart=>exact ⟨0,none,0,0,Nat.zero_le _,rfl,rfl,⟨X1.out,World.ownsRow_nil _ _ _ _,rfl⟩,ac_.refl _ _ _⟩
 case round=>
  obtain ⟨k,b,m,c,hk,rfl,hok,hbx,hF⟩:=hrel;have HOK:=hidI hok;have HBX:=hidI hbx;have HF:=hidI hF;have hsw:=hF.size;clear hok hbx hF;by_cases hlt:k < n
  ·have HLT:=hidI hlt;have hkl:k < l.length:=by rw [HN.out];exact hlt
   have HKL:=hidI hkl;obtain ⟨g,o,hao,hgl,hcell⟩:∃ g o,a = some ⟨g,o,none⟩∧g < w.heap.size∧w.cell? ⟨g,o+k,none⟩ = some (l[k]'hkl).val:=by
    rcases HT.out with e | ⟨g,o,ha,hg,h⟩
    ·exfalso;have:=congrArg List.length e;rw [List.length_map] at this;simp at this;rw [this] at hkl;simp at hkl
    ·exact ⟨g,o,ha,hg,h k _ (by rw [List.getElem?_map,List.getElem?_eq_getElem hkl];rfl)⟩
   subst hao;have hcell2:wr.cell? ⟨g,o+k,none⟩ = some (l[k]'hkl).val:=(World.cell?_of_block (w:=w) (a:=⟨g,o+k,none⟩) (HF.out.block g hgl (HNE.out g o rfl))).trans hcell;have j1:(0:Int)≤(k:Int):=by omega
   have j2:(k:Int) < n:=by omega
   have hmm:m≤100000000:=by
    have h1:=HBX.out.len;have h2:=mi_ HOK.out;rw [List.length_take] at h2;omega
   have HCELL:Hid (∀ W',Below wr.heap.size wr W'→W'.cell? ⟨Bb,0,none⟩ = some (.slice b m c)):=fun W' h=>coc_ (HBX.out.keep h).box 0
   obtain ⟨th,hth⟩:∃ th,th = l[k]'HKL.out:=⟨_,rfl⟩
   rw [← hth] at hcell2;have HTH:=hidI hth;clear hth hcell hkl;cases th with
   | num z =>
     have hcv:wr.cell? ⟨g,o+k,none⟩ = some (.iface 3 (.int .i64 z)):=hcell2;clear hcell2;by_cases hz:0≤z∧z≤255
     ·have HZ:=hidI hz;have HOKX:Hid ((l[k]'HKL.out).ok = true):=by show (l[k]'HKL.out).ok = true;rw [← HTH.out];unfold bi_.ok;exact decide_eq_true hz
      clear hz;go_wp2_with fail
      refine wp_region_held_drew (S:=fun _=>True) (by kernel_rfl) trivial (fun hH=>?_);refine tk 1 ?_;refine wpAnyH_ready (rs:=[0,2]) (by kernel_rfl) (by simp) ?_;refine AllReadyH.cons rfl (fun K hK=>?_) (AllReadyH.cons rfl (fun K hK=>?_) AllReadyH.nil)
      ·have cc:=HCELL.out _ ((Below.refl _ _).drew);go_simp;refine hK.out _ _ trivial (fun _=>?_);clear hK K cc;try refine nrm ?_
       refine rdy 2 (fun K hK=>?_);go_simp;refine (cU_ z _ HZ.out).mono ?_;rintro e w1 ⟨rfl,k1⟩;have K1:Below wr.heap.size wr w1:=bud_ k1;clear k1;refine hK.out _ _ trivial (fun _=>?_);clear hK K;try refine nrm ?_
       refine rdy 3 (fun K hK=>?_);go_simp;refine hK.out _ _ trivial (fun _=>?_);clear hK K;try refine nrm ?_
       obtain ⟨W3,hW3⟩:∃ W3,W3 = w1.alloc (.cells #[.int .u8 ((oct8 z).toNat:Int)] 5):=⟨_,rfl⟩
       rw [← hW3];have k3:Below wr.heap.size wr W3:=by rw [hW3];exact (K1).alloc (K1).size _
       have hRW:aO_ W3 (some ⟨w1.heap.size,0,none⟩) (byC_ [oct8 z]):=by rw [hW3];exact dg_ (cs:=byC_ [oct8 z])
       have hB3:=HBX.out.keep k3;have K3':=hidI k3;have hs3:=k3.size;clear hW3;refine rdy 4 (fun K hK=>?_);refine bY_ cw_ (by kernel_rfl) _ _ rfl w.heap.size (.slice b m c) m (byC_ (de_ (l.take k))) rfl hB3.row (some ⟨w1.heap.size,0,none⟩) 1 1 (byC_ [oct8 z]) rfl rfl (fun h=>by cases h) hRW (bc1_ _) (by unfold maxLen;omega) (by omega) (by omega) ?_;intro v4 w4 ho4 hg4 _;rw [← bca_] at ho4;obtain ⟨b4,c4,rfl,hbx4,hb4⟩:=hB3.store hlb ho4 hg4;have hF4:ac_ w.heap.size Bb w w4:=(HF.out.trans (ac_.of_below K3'.out hsw)).grown hg4 (by omega) (fun g hg=>(hB3.row.lt g hg).1);refine hK.out _ _ trivial (fun _=>?_);clear hK K ho4 hg4 hRW hB3 k3;try refine nrm ?_
       have c4':=coc_ hb4 0;have f4':=foc_ hb4 0;simp at c4';have HF4:=hidI hF4;have HBX4:=hidI hbx4;clear hb4 hF4 hbx4;refine rdy 5 (fun K hK=>?_);go_simp;refine hK.out _ _ trivial (fun _=>?_);clear hK K c4' f4';try refine nrm ?_
       refine wpAnyH_done (by kernel_rfl) ?_ _;have hF5:ac_ w.heap.size Bb w (w4.setCell ⟨Bb,0,none⟩ (.slice b4 (m+1) c4)):=HF4.out.setCell (p:=⟨Bb,0,none⟩) (.inr rfl) _;have HF5:=hidI hF5;clear hF5;go_wp2_with fail
       go_roundw
       case rel=>exact ⟨k+1,_,_,_,HLT.out,by have:=HLT.out;go_num,bp_ HKL.out HOK.out HOKX.out,by rw [bX_ HKL.out,← HTH.out];exact HBX4.out,HF5.out⟩
       case measure=>have:=HLT.out;simp [intOf];omega
      ·go_simp;refine (cU_ z _ HZ.out).mono ?_;rintro e w1 ⟨rfl,k1⟩;have K1:Below wr.heap.size wr w1:=bud_ k1;clear k1;refine hK.out _ _ trivial (fun _=>?_);clear hK K;try refine nrm ?_
       refine wpAnyH_ready (rs:=[0,3]) (by kernel_rfl) (by simp) ?_;refine AllReadyH.cons rfl (fun K hK=>?_) (AllReadyH.cons rfl (fun K hK=>?_) AllReadyH.nil)
       ·have cc:=HCELL.out _ (K1);go_simp;refine hK.out _ _ trivial (fun _=>?_);clear hK K cc;try refine nrm ?_
        refine rdy 3 (fun K hK=>?_);go_simp;refine hK.out _ _ trivial (fun _=>?_);clear hK K;try refine nrm ?_
        obtain ⟨W3,hW3⟩:∃ W3,W3 = w1.alloc (.cells #[.int .u8 ((oct8 z).toNat:Int)] 5):=⟨_,rfl⟩
        rw [← hW3];have k3:Below wr.heap.size wr W3:=by rw [hW3];exact (K1).alloc (K1).size _
        have hRW:aO_ W3 (some ⟨w1.heap.size,0,none⟩) (byC_ [oct8 z]):=by rw [hW3];exact dg_ (cs:=byC_ [oct8 z])
        have hB3:=HBX.out.keep k3;have K3':=hidI k3;have hs3:=k3.size;clear hW3;refine rdy 4 (fun K hK=>?_);refine bY_ cw_ (by kernel_rfl) _ _ rfl w.heap.size (.slice b m c) m (byC_ (de_ (l.take k))) rfl hB3.row (some ⟨w1.heap.size,0,none⟩) 1 1 (byC_ [oct8 z]) rfl rfl (fun h=>by cases h) hRW (bc1_ _) (by unfold maxLen;omega) (by omega) (by omega) ?_;intro v4 w4 ho4 hg4 _;rw [← bca_] at ho4;obtain ⟨b4,c4,rfl,hbx4,hb4⟩:=hB3.store hlb ho4 hg4;have hF4:ac_ w.heap.size Bb w w4:=(HF.out.trans (ac_.of_below K3'.out hsw)).grown hg4 (by omega) (fun g hg=>(hB3.row.lt g hg).1);refine hK.out _ _ trivial (fun _=>?_);clear hK K ho4 hg4 hRW hB3 k3;try refine nrm ?_
        have c4':=coc_ hb4 0;have f4':=foc_ hb4 0;simp at c4';have HF4:=hidI hF4;have HBX4:=hidI hbx4;clear hb4 hF4 hbx4;refine rdy 5 (fun K hK=>?_);go_simp;refine hK.out _ _ trivial (fun _=>?_);clear hK K c4' f4';try refine nrm ?_
        refine wpAnyH_done (by kernel_rfl) ?_ _;have hF5:ac_ w.heap.size Bb w (w4.setCell ⟨Bb,0,none⟩ (.slice b4 (m+1) c4)):=HF4.out.setCell (p:=⟨Bb,0,none⟩) (.inr rfl) _;have HF5:=hidI hF5;clear hF5;go_wp2_with fail
        go_roundw
        case rel=>exact ⟨k+1,_,_,_,HLT.out,by have:=HLT.out;go_num,bp_ HKL.out HOK.out HOKX.out,by rw [bX_ HKL.out,← HTH.out];exact HBX4.out,HF5.out⟩
        case measure=>have:=HLT.out;simp [intOf];omega
       ·go_simp;refine hK.out _ _ trivial (fun _=>?_);clear hK K;try refine nrm ?_
        refine rdy 0 (fun K hK=>?_);have cc:=HCELL.out _ ((K1).alloc (K1).size (.cells #[.int .u8 ((oct8 z).toNat:Int)] 5));go_simp;refine hK.out _ _ trivial (fun _=>?_);clear hK K cc;try refine nrm ?_
        obtain ⟨W3,hW3⟩:∃ W3,W3 = w1.alloc (.cells #[.int .u8 ((oct8 z).toNat:Int)] 5):=⟨_,rfl⟩
        rw [← hW3];have k3:Below wr.heap.size wr W3:=by rw [hW3];exact (K1).alloc (K1).size _
        have hRW:aO_ W3 (some ⟨w1.heap.size,0,none⟩) (byC_ [oct8 z]):=by rw [hW3];exact dg_ (cs:=byC_ [oct8 z])
        have hB3:=HBX.out.keep k3;have K3':=hidI k3;have hs3:=k3.size;clear hW3;refine rdy 4 (fun K hK=>?_);refine bY_ cw_ (by kernel_rfl) _ _ rfl w.heap.size (.slice b m c) m (byC_ (de_ (l.take k))) rfl hB3.row (some ⟨w1.heap.size,0,none⟩) 1 1 (byC_ [oct8 z]) rfl rfl (fun h=>by cases h) hRW (bc1_ _) (by unfold maxLen;omega) (by omega) (by omega) ?_;intro v4 w4 ho4 hg4 _;rw [← bca_] at ho4;obtain ⟨b4,c4,rfl,hbx4,hb4⟩:=hB3.store hlb ho4 hg4;have hF4:ac_ w.heap.size Bb w w4:=(HF.out.trans (ac_.of_below K3'.out hsw)).grown hg4 (by omega) (fun g hg=>(hB3.row.lt g hg).1);refine hK.out _ _ trivial (fun _=>?_);clear hK K ho4 hg4 hRW hB3 k3;try refine nrm ?_
        have c4':=coc_ hb4 0;have f4':=foc_ hb4 0;simp at c4';have HF4:=hidI hF4;have HBX4:=hidI hbx4;clear hb4 hF4 hbx4;refine rdy 5 (fun K hK=>?_);go_simp;refine hK.out _ _ trivial (fun _=>?_);clear hK K c4' f4';try refine nrm ?_
        refine wpAnyH_done (by kernel_rfl) ?_ _;have hF5:ac_ w.heap.size Bb w (w4.setCell ⟨Bb,0,none⟩ (.slice b4 (m+1) c4)):=HF4.out.setCell (p:=⟨Bb,0,none⟩) (.inr rfl) _;have HF5:=hidI hF5;clear hF5;go_wp2_with fail
        go_roundw
        case rel=>exact ⟨k+1,_,_,_,HLT.out,by have:=HLT.out;go_num,bp_ HKL.out HOK.out HOKX.out,by rw [bX_ HKL.out,← HTH.out];exact HBX4.out,HF5.out⟩
        case measure=>have:=HLT.out;simp [intOf];omega
     ·have HZ:=hidI hz;have HOKX:Hid ((l[k]'HKL.out).ok = false):=by show (l[k]'HKL.out).ok = false;rw [← HTH.out];unfold bi_.ok;exact decide_eq_false hz
      clear hz;go_wp2_with fail
      refine wp_region_held_drew (S:=fun _=>True) (by kernel_rfl) trivial (fun hH=>?_);refine tk 1 ?_;refine wpAnyH_ready (rs:=[0,2]) (by kernel_rfl) (by simp) ?_;refine AllReadyH.cons rfl (fun K hK=>?_) (AllReadyH.cons rfl (fun K hK=>?_) AllReadyH.nil)
      ·have cc:=HCELL.out _ ((Below.refl _ _).drew);go_simp;refine hK.out _ _ trivial (fun _=>?_);clear hK K cc;try refine nrm ?_
       refine rdy 2 (fun K hK=>?_);go_simp;refine (fI_ z _ HZ.out).mono ?_;rintro e w1 ⟨rfl,k1⟩;exact ⟨rfl,HF.out.trans (ac_.of_below (bud_ k1) hsw),by rw [HE.out,c7_ HKL.out HOKX.out];rfl,fun h=>by rw [HE.out,c7_ HKL.out HOKX.out] at h;cases h⟩
      ·go_simp;refine (fI_ z _ HZ.out).mono ?_;rintro e w1 ⟨rfl,k1⟩;exact ⟨rfl,HF.out.trans (ac_.of_below (bud_ k1) hsw),by rw [HE.out,c7_ HKL.out HOKX.out];rfl,fun h=>by rw [HE.out,c7_ HKL.out HOKX.out] at h;cases h⟩
   | flag y =>
     have hcv:wr.cell? ⟨g,o+k,none⟩ = some (.iface 4 (.bool y)):=hcell2;clear hcell2;have HOKX:Hid ((l[k]'HKL.out).ok = true):=by show (l[k]'HKL.out).ok = true;rw [← HTH.out];rfl
     have HZ:Hid (0≤cB_ y∧cB_ y≤255):=by show 0≤cB_ y∧cB_ y≤255;cases y <;> decide
     go_wp2_with fail
     refine wp_region_held_drew (S:=fun _=>True) (by kernel_rfl) trivial (fun hH=>?_);refine tk 1 ?_;refine wpAnyH_ready (rs:=[0,2]) (by kernel_rfl) (by simp) ?_;refine AllReadyH.cons rfl (fun K hK=>?_) (AllReadyH.cons rfl (fun K hK=>?_) AllReadyH.nil)
     ·have cc:=HCELL.out _ ((Below.refl _ _).drew);go_simp;refine hK.out _ _ trivial (fun _=>?_);clear hK K cc;try refine nrm ?_
      refine rdy 2 (fun K hK=>?_);go_simp;refine (jL_ y _).mono ?_;rintro e w1 ⟨rfl,hw1⟩;have K1:Below wr.heap.size wr w1:=by rw [hw1];exact (Below.refl _ _).drew
      clear hw1;refine hK.out _ _ trivial (fun _=>?_);clear hK K;try refine nrm ?_
      refine rdy 3 (fun K hK=>?_);go_simp;refine (cU_ (cB_ y) _ HZ.out).mono ?_;rintro e w2 ⟨rfl,k2⟩;have K2:Below wr.heap.size wr w2:=K1.trans (k2.mono K1.size);clear k2;refine hK.out _ _ trivial (fun _=>?_);clear hK K;try refine nrm ?_
      refine rdy 4 (fun K hK=>?_);go_simp;refine hK.out _ _ trivial (fun _=>?_);clear hK K;try refine nrm ?_
      obtain ⟨W3,hW3⟩:∃ W3,W3 = w2.alloc (.cells #[.int .u8 ((oct8 (cB_ y)).toNat:Int)] 5):=⟨_,rfl⟩
      rw [← hW3];have k3:Below wr.heap.size wr W3:=by rw [hW3];exact (K2).alloc (K2).size _
      have hRW:aO_ W3 (some ⟨w2.heap.size,0,none⟩) (byC_ [oct8 (cB_ y)]):=by rw [hW3];exact dg_ (cs:=byC_ [oct8 (cB_ y)])
      have hB3:=HBX.out.keep k3;have K3':=hidI k3;have hs3:=k3.size;clear hW3;refine rdy 5 (fun K hK=>?_);refine bY_ cw_ (by kernel_rfl) _ _ rfl w.heap.size (.slice b m c) m (byC_ (de_ (l.take k))) rfl hB3.row (some ⟨w2.heap.size,0,none⟩) 1 1 (byC_ [oct8 (cB_ y)]) rfl rfl (fun h=>by cases h) hRW (bc1_ _) (by unfold maxLen;omega) (by omega) (by omega) ?_;intro v4 w4 ho4 hg4 _;rw [← bca_] at ho4;obtain ⟨b4,c4,rfl,hbx4,hb4⟩:=hB3.store hlb ho4 hg4;have hF4:ac_ w.heap.size Bb w w4:=(HF.out.trans (ac_.of_below K3'.out hsw)).grown hg4 (by omega) (fun g hg=>(hB3.row.lt g hg).1);refine hK.out _ _ trivial (fun _=>?_);clear hK K ho4 hg4 hRW hB3 k3;try refine nrm ?_
      have c4':=coc_ hb4 0;have f4':=foc_ hb4 0;simp at c4';have HF4:=hidI hF4;have HBX4:=hidI hbx4;clear hb4 hF4 hbx4;refine rdy 6 (fun K hK=>?_);go_simp;refine hK.out _ _ trivial (fun _=>?_);clear hK K c4' f4';try refine nrm ?_
      refine wpAnyH_done (by kernel_rfl) ?_ _;have hF5:ac_ w.heap.size Bb w (w4.setCell ⟨Bb,0,none⟩ (.slice b4 (m+1) c4)):=HF4.out.setCell (p:=⟨Bb,0,none⟩) (.inr rfl) _;have HF5:=hidI hF5;clear hF5;go_wp2_with fail
      go_roundw
      case rel=>exact ⟨k+1,_,_,_,HLT.out,by have:=HLT.out;go_num,bp_ HKL.out HOK.out HOKX.out,by rw [bX_ HKL.out,← HTH.out];exact HBX4.out,HF5.out⟩
      case measure=>have:=HLT.out;simp [intOf];omega
     ·go_simp;refine (jL_ y _).mono ?_;rintro e w1 ⟨rfl,hw1⟩;have K1:Below wr.heap.size wr w1:=by rw [hw1];exact (Below.refl _ _).drew
      clear hw1;refine hK.out _ _ trivial (fun _=>?_);clear hK K;try refine nrm ?_
      refine wpAnyH_ready (rs:=[0,3]) (by kernel_rfl) (by simp) ?_;refine AllReadyH.cons rfl (fun K hK=>?_) (AllReadyH.cons rfl (fun K hK=>?_) AllReadyH.nil)
      ·have cc:=HCELL.out _ (K1);go_simp;refine hK.out _ _ trivial (fun _=>?_);clear hK K cc;try refine nrm ?_
       refine rdy 3 (fun K hK=>?_);go_simp;refine (cU_ (cB_ y) _ HZ.out).mono ?_;rintro e w2 ⟨rfl,k2⟩;have K2:Below wr.heap.size wr w2:=K1.trans (k2.mono K1.size);clear k2;refine hK.out _ _ trivial (fun _=>?_);clear hK K;try refine nrm ?_
       refine rdy 4 (fun K hK=>?_);go_simp;refine hK.out _ _ trivial (fun _=>?_);clear hK K;try refine nrm ?_
       obtain ⟨W3,hW3⟩:∃ W3,W3 = w2.alloc (.cells #[.int .u8 ((oct8 (cB_ y)).toNat:Int)] 5):=⟨_,rfl⟩
       rw [← hW3];have k3:Below wr.heap.size wr W3:=by rw [hW3];exact (K2).alloc (K2).size _
       have hRW:aO_ W3 (some ⟨w2.heap.size,0,none⟩) (byC_ [oct8 (cB_ y)]):=by rw [hW3];exact dg_ (cs:=byC_ [oct8 (cB_ y)])
       have hB3:=HBX.out.keep k3;have K3':=hidI k3;have hs3:=k3.size;clear hW3;refine rdy 5 (fun K hK=>?_);refine bY_ cw_ (by kernel_rfl) _ _ rfl w.heap.size (.slice b m c) m (byC_ (de_ (l.take k))) rfl hB3.row (some ⟨w2.heap.size,0,none⟩) 1 1 (byC_ [oct8 (cB_ y)]) rfl rfl (fun h=>by cases h) hRW (bc1_ _) (by unfold maxLen;omega) (by omega) (by omega) ?_;intro v4 w4 ho4 hg4 _;rw [← bca_] at ho4;obtain ⟨b4,c4,rfl,hbx4,hb4⟩:=hB3.store hlb ho4 hg4;have hF4:ac_ w.heap.size Bb w w4:=(HF.out.trans (ac_.of_below K3'.out hsw)).grown hg4 (by omega) (fun g hg=>(hB3.row.lt g hg).1);refine hK.out _ _ trivial (fun _=>?_);clear hK K ho4 hg4 hRW hB3 k3;try refine nrm ?_
       have c4':=coc_ hb4 0;have f4':=foc_ hb4 0;simp at c4';have HF4:=hidI hF4;have HBX4:=hidI hbx4;clear hb4 hF4 hbx4;refine rdy 6 (fun K hK=>?_);go_simp;refine hK.out _ _ trivial (fun _=>?_);clear hK K c4' f4';try refine nrm ?_
       refine wpAnyH_done (by kernel_rfl) ?_ _;have hF5:ac_ w.heap.size Bb w (w4.setCell ⟨Bb,0,none⟩ (.slice b4 (m+1) c4)):=HF4.out.setCell (p:=⟨Bb,0,none⟩) (.inr rfl) _;have HF5:=hidI hF5;clear hF5;go_wp2_with fail
       go_roundw
       case rel=>exact ⟨k+1,_,_,_,HLT.out,by have:=HLT.out;go_num,bp_ HKL.out HOK.out HOKX.out,by rw [bX_ HKL.out,← HTH.out];exact HBX4.out,HF5.out⟩
       case measure=>have:=HLT.out;simp [intOf];omega
      ·go_simp;refine (cU_ (cB_ y) _ HZ.out).mono ?_;rintro e w2 ⟨rfl,k2⟩;have K2:Below wr.heap.size wr w2:=K1.trans (k2.mono K1.size);clear k2;refine hK.out _ _ trivial (fun _=>?_);clear hK K;try refine nrm ?_
       refine wpAnyH_ready (rs:=[0,4]) (by kernel_rfl) (by simp) ?_;refine AllReadyH.cons rfl (fun K hK=>?_) (AllReadyH.cons rfl (fun K hK=>?_) AllReadyH.nil)
       ·have cc:=HCELL.out _ (K2);go_simp;refine hK.out _ _ trivial (fun _=>?_);clear hK K cc;try refine nrm ?_
        refine rdy 4 (fun K hK=>?_);go_simp;refine hK.out _ _ trivial (fun _=>?_);clear hK K;try refine nrm ?_
        obtain ⟨W3,hW3⟩:∃ W3,W3 = w2.alloc (.cells #[.int .u8 ((oct8 (cB_ y)).toNat:Int)] 5):=⟨_,rfl⟩
        rw [← hW3];have k3:Below wr.heap.size wr W3:=by rw [hW3];exact (K2).alloc (K2).size _
        have hRW:aO_ W3 (some ⟨w2.heap.size,0,none⟩) (byC_ [oct8 (cB_ y)]):=by rw [hW3];exact dg_ (cs:=byC_ [oct8 (cB_ y)])
        have hB3:=HBX.out.keep k3;have K3':=hidI k3;have hs3:=k3.size;clear hW3;refine rdy 5 (fun K hK=>?_);refine bY_ cw_ (by kernel_rfl) _ _ rfl w.heap.size (.slice b m c) m (byC_ (de_ (l.take k))) rfl hB3.row (some ⟨w2.heap.size,0,none⟩) 1 1 (byC_ [oct8 (cB_ y)]) rfl rfl (fun h=>by cases h) hRW (bc1_ _) (by unfold maxLen;omega) (by omega) (by omega) ?_;intro v4 w4 ho4 hg4 _;rw [← bca_] at ho4;obtain ⟨b4,c4,rfl,hbx4,hb4⟩:=hB3.store hlb ho4 hg4;have hF4:ac_ w.heap.size Bb w w4:=(HF.out.trans (ac_.of_below K3'.out hsw)).grown hg4 (by omega) (fun g hg=>(hB3.row.lt g hg).1);refine hK.out _ _ trivial (fun _=>?_);clear hK K ho4 hg4 hRW hB3 k3;try refine nrm ?_
        have c4':=coc_ hb4 0;have f4':=foc_ hb4 0;simp at c4';have HF4:=hidI hF4;have HBX4:=hidI hbx4;clear hb4 hF4 hbx4;refine rdy 6 (fun K hK=>?_);go_simp;refine hK.out _ _ trivial (fun _=>?_);clear hK K c4' f4';try refine nrm ?_
        refine wpAnyH_done (by kernel_rfl) ?_ _;have hF5:ac_ w.heap.size Bb w (w4.setCell ⟨Bb,0,none⟩ (.slice b4 (m+1) c4)):=HF4.out.setCell (p:=⟨Bb,0,none⟩) (.inr rfl) _;have HF5:=hidI hF5;clear hF5;go_wp2_with fail
        go_roundw
        case rel=>exact ⟨k+1,_,_,_,HLT.out,by have:=HLT.out;go_num,bp_ HKL.out HOK.out HOKX.out,by rw [bX_ HKL.out,← HTH.out];exact HBX4.out,HF5.out⟩
        case measure=>have:=HLT.out;simp [intOf];omega
       ·go_simp;refine hK.out _ _ trivial (fun _=>?_);clear hK K;try refine nrm ?_
        refine rdy 0 (fun K hK=>?_);have cc:=HCELL.out _ ((K2).alloc (K2).size (.cells #[.int .u8 ((oct8 (cB_ y)).toNat:Int)] 5));go_simp;refine hK.out _ _ trivial (fun _=>?_);clear hK K cc;try refine nrm ?_
        obtain ⟨W3,hW3⟩:∃ W3,W3 = w2.alloc (.cells #[.int .u8 ((oct8 (cB_ y)).toNat:Int)] 5):=⟨_,rfl⟩
        rw [← hW3];have k3:Below wr.heap.size wr W3:=by rw [hW3];exact (K2).alloc (K2).size _
        have hRW:aO_ W3 (some ⟨w2.heap.size,0,none⟩) (byC_ [oct8 (cB_ y)]):=by rw [hW3];exact dg_ (cs:=byC_ [oct8 (cB_ y)])
        have hB3:=HBX.out.keep k3;have K3':=hidI k3;have hs3:=k3.size;clear hW3;refine rdy 5 (fun K hK=>?_);refine bY_ cw_ (by kernel_rfl) _ _ rfl w.heap.size (.slice b m c) m (byC_ (de_ (l.take k))) rfl hB3.row (some ⟨w2.heap.size,0,none⟩) 1 1 (byC_ [oct8 (cB_ y)]) rfl rfl (fun h=>by cases h) hRW (bc1_ _) (by unfold maxLen;omega) (by omega) (by omega) ?_;intro v4 w4 ho4 hg4 _;rw [← bca_] at ho4;obtain ⟨b4,c4,rfl,hbx4,hb4⟩:=hB3.store hlb ho4 hg4;have hF4:ac_ w.heap.size Bb w w4:=(HF.out.trans (ac_.of_below K3'.out hsw)).grown hg4 (by omega) (fun g hg=>(hB3.row.lt g hg).1);refine hK.out _ _ trivial (fun _=>?_);clear hK K ho4 hg4 hRW hB3 k3;try refine nrm ?_
        have c4':=coc_ hb4 0;have f4':=foc_ hb4 0;simp at c4';have HF4:=hidI hF4;have HBX4:=hidI hbx4;clear hb4 hF4 hbx4;refine rdy 6 (fun K hK=>?_);go_simp;refine hK.out _ _ trivial (fun _=>?_);clear hK K c4' f4';try refine nrm ?_
        refine wpAnyH_done (by kernel_rfl) ?_ _;have hF5:ac_ w.heap.size Bb w (w4.setCell ⟨Bb,0,none⟩ (.slice b4 (m+1) c4)):=HF4.out.setCell (p:=⟨Bb,0,none⟩) (.inr rfl) _;have HF5:=hidI hF5;clear hF5;go_wp2_with fail
        go_roundw
        case rel=>exact ⟨k+1,_,_,_,HLT.out,by have:=HLT.out;go_num,bp_ HKL.out HOK.out HOKX.out,by rw [bX_ HKL.out,← HTH.out];exact HBX4.out,HF5.out⟩
        case measure=>have:=HLT.out;simp [intOf];omega
   | text s =>
     have hcv:wr.cell? ⟨g,o+k,none⟩ = some (.iface 9 (.string s)):=hcell2;clear hcell2;obtain ⟨Ls,hLs⟩:∃ Ls,Ls = s.size:=⟨_,rfl⟩
     have HLS:=hidI hLs;clear hLs;by_cases hz:Ls≤255
     ·have HZ:=hidI hz;have HOKX:Hid ((l[k]'HKL.out).ok = true):=by show (l[k]'HKL.out).ok = true;rw [← HTH.out];unfold bi_.ok;exact decide_eq_true (by have:=HLS.out;omega)
      have HZZ:Hid (0≤(Ls:Int)∧(Ls:Int)≤255):=by show 0≤(Ls:Int)∧(Ls:Int)≤255;omega
      clear hz;go_wp2_with fail
      refine wp_region_held_drew (S:=fun _=>True) (by kernel_rfl) trivial (fun hH=>?_);refine tk 1 ?_;refine tk 2 ?_;rw [← HLS.out];refine wpAnyH_ready (rs:=[0,3]) (by kernel_rfl) (by simp) ?_;refine AllReadyH.cons rfl (fun K hK=>?_) (AllReadyH.cons rfl (fun K hK=>?_) AllReadyH.nil)
      ·have cc:=HCELL.out _ ((Below.refl _ _).drew);go_simp;refine hK.out _ _ trivial (fun _=>?_);clear hK K cc;try refine nrm ?_
       refine rdy 3 (fun K hK=>?_);go_simp;refine (cU_ (Ls:Int) _ HZZ.out).mono ?_;rintro e w1 ⟨rfl,k1⟩;have K1:Below wr.heap.size wr w1:=bud_ k1;clear k1;refine hK.out _ _ trivial (fun _=>?_);clear hK K;try refine nrm ?_
       refine rdy 4 (fun K hK=>?_);go_simp;refine hK.out _ _ trivial (fun _=>?_);clear hK K;try refine nrm ?_
       obtain ⟨W3,hW3⟩:∃ W3,W3 = w1.alloc (.cells #[.int .u8 ((oct8 (Ls:Int)).toNat:Int)] 5):=⟨_,rfl⟩
       rw [← hW3];have k3:Below wr.heap.size wr W3:=by rw [hW3];exact (K1).alloc (K1).size _
       have hRW:aO_ W3 (some ⟨w1.heap.size,0,none⟩) (byC_ [oct8 (Ls:Int)]):=by rw [hW3];exact dg_ (cs:=byC_ [oct8 (Ls:Int)])
       have hB3:=HBX.out.keep k3;have K3':=hidI k3;have hs3:=k3.size;clear hW3;refine rdy 5 (fun K hK=>?_);refine bY_ cw_ (by kernel_rfl) _ _ rfl w.heap.size (.slice b m c) m (byC_ (de_ (l.take k))) rfl hB3.row (some ⟨w1.heap.size,0,none⟩) 1 1 (byC_ [oct8 (Ls:Int)]) rfl rfl (fun h=>by cases h) hRW (bc1_ _) (by unfold maxLen;omega) (by omega) (by omega) ?_;intro v4 w4 ho4 hg4 _;rw [← bca_] at ho4;obtain ⟨b4,c4,rfl,hbx4,hb4⟩:=hB3.store hlb ho4 hg4;have hF4:ac_ w.heap.size Bb w w4:=(HF.out.trans (ac_.of_below K3'.out hsw)).grown hg4 (by omega) (fun g hg=>(hB3.row.lt g hg).1);refine hK.out _ _ trivial (fun _=>?_);clear hK K ho4 hg4 hRW hB3 k3;try refine nrm ?_
       have c4':=coc_ hb4 0;have f4':=foc_ hb4 0;simp at c4';have HF4:=hidI hF4;have HBX4:=hidI hbx4;clear hb4 hF4 hbx4;refine rdy 6 (fun K hK=>?_);go_simp;refine hK.out _ _ trivial (fun _=>?_);clear hK K c4' f4';try refine nrm ?_
       refine wpAnyH_done (by kernel_rfl) ?_ _;have hF5:ac_ w.heap.size Bb w (w4.setCell ⟨Bb,0,none⟩ (.slice b4 (m+1) c4)):=HF4.out.setCell (p:=⟨Bb,0,none⟩) (.inr rfl) _;have HF5:=hidI hF5;clear hF5;obtain ⟨w5,hw5⟩:∃ w5,w5 = w4.setCell ⟨Bb,0,none⟩ (.slice b4 (m+1) c4):=⟨_,rfl⟩
       rw [← hw5] at HF5 HBX4;rw [← hw5];have c5:=coc_ HBX4.out.box 0;simp at c5;have f5:=foc_ HBX4.out.box 0;have hs5:=HF5.out.size;clear hw5;obtain ⟨i0,hi,hz0,hz1,hz2⟩:=info_parts Tryz.infoByte;go_wp2_with (at_builtin;refine Lib.wpList_append_own_string _ rfl _ _ 144 9 rfl w.heap.size 5 i0 Tryz.underlying144 Tryz.underlying9 hi hz0 hz1 hz2 _ (m+1) _ rfl HBX4.out.row s rfl (by have:=HLS.out;have:=HZ.out;unfold maxLen;omega) (by have:=HLS.out;have:=HZ.out;omega) (by omega) ?_;intro v6 w6 ho6 hg6 _;rw [di_,← bca_] at ho6;obtain ⟨b6,c6,rfl,hbx6,hb6⟩:=HBX4.out.store hlb ho6 hg6;have c6':=coc_ hb6 0;have f6':=foc_ hb6 0;simp at c6';have HBX6:=hidI hbx6;have hF6:ac_ w.heap.size Bb w w6:=HF5.out.grown hg6 (by omega) (fun g hg=>(HBX4.out.row.lt g hg).1);have HF6:=hidI hF6;clear ho6 hg6 hbx6 hb6 hF6 c5 f5)
       go_roundw
       case rel=>exact ⟨k+1,_,_,_,HLT.out,by have:=HLT.out;go_num,bp_ HKL.out HOK.out HOKX.out,by rw [bX_ HKL.out,← HTH.out];have e:bi_.bytes (.text s) = [oct8 (Ls:Int)] ++ s.data.toList:=by { show hI_ s = _;unfold hI_;rw [HLS.out];rfl };rw [e,← List.append_assoc];exact HBX6.out,HF6.out.setCell (p:=⟨Bb,0,none⟩) (.inr rfl) _⟩
       case measure=>have:=HLT.out;simp [intOf];omega
      ·go_simp;refine (cU_ (Ls:Int) _ HZZ.out).mono ?_;rintro e w1 ⟨rfl,k1⟩;have K1:Below wr.heap.size wr w1:=bud_ k1;clear k1;refine hK.out _ _ trivial (fun _=>?_);clear hK K;try refine nrm ?_
       refine wpAnyH_ready (rs:=[0,4]) (by kernel_rfl) (by simp) ?_;refine AllReadyH.cons rfl (fun K hK=>?_) (AllReadyH.cons rfl (fun K hK=>?_) AllReadyH.nil)
       ·have cc:=HCELL.out _ (K1);go_simp;refine hK.out _ _ trivial (fun _=>?_);clear hK K cc;try refine nrm ?_
        refine rdy 4 (fun K hK=>?_);go_simp;refine hK.out _ _ trivial (fun _=>?_);clear hK K;try refine nrm ?_
        obtain ⟨W3,hW3⟩:∃ W3,W3 = w1.alloc (.cells #[.int .u8 ((oct8 (Ls:Int)).toNat:Int)] 5):=⟨_,rfl⟩
        rw [← hW3];have k3:Below wr.heap.size wr W3:=by rw [hW3];exact (K1).alloc (K1).size _
        have hRW:aO_ W3 (some ⟨w1.heap.size,0,none⟩) (byC_ [oct8 (Ls:Int)]):=by rw [hW3];exact dg_ (cs:=byC_ [oct8 (Ls:Int)])
        have hB3:=HBX.out.keep k3;have K3':=hidI k3;have hs3:=k3.size;clear hW3;refine rdy 5 (fun K hK=>?_);refine bY_ cw_ (by kernel_rfl) _ _ rfl w.heap.size (.slice b m c) m (byC_ (de_ (l.take k))) rfl hB3.row (some ⟨w1.heap.size,0,none⟩) 1 1 (byC_ [oct8 (Ls:Int)]) rfl rfl (fun h=>by cases h) hRW (bc1_ _) (by unfold maxLen;omega) (by omega) (by omega) ?_;intro v4 w4 ho4 hg4 _;rw [← bca_] at ho4;obtain ⟨b4,c4,rfl,hbx4,hb4⟩:=hB3.store hlb ho4 hg4;have hF4:ac_ w.heap.size Bb w w4:=(HF.out.trans (ac_.of_below K3'.out hsw)).grown hg4 (by omega) (fun g hg=>(hB3.row.lt g hg).1);refine hK.out _ _ trivial (fun _=>?_);clear hK K ho4 hg4 hRW hB3 k3;try refine nrm ?_
        have c4':=coc_ hb4 0;have f4':=foc_ hb4 0;simp at c4';have HF4:=hidI hF4;have HBX4:=hidI hbx4;clear hb4 hF4 hbx4;refine rdy 6 (fun K hK=>?_);go_simp;refine hK.out _ _ trivial (fun _=>?_);clear hK K c4' f4';try refine nrm ?_
        refine wpAnyH_done (by kernel_rfl) ?_ _;have hF5:ac_ w.heap.size Bb w (w4.setCell ⟨Bb,0,none⟩ (.slice b4 (m+1) c4)):=HF4.out.setCell (p:=⟨Bb,0,none⟩) (.inr rfl) _;have HF5:=hidI hF5;clear hF5;obtain ⟨w5,hw5⟩:∃ w5,w5 = w4.setCell ⟨Bb,0,none⟩ (.slice b4 (m+1) c4):=⟨_,rfl⟩
        rw [← hw5] at HF5 HBX4;rw [← hw5];have c5:=coc_ HBX4.out.box 0;simp at c5;have f5:=foc_ HBX4.out.box 0;have hs5:=HF5.out.size;clear hw5;obtain ⟨i0,hi,hz0,hz1,hz2⟩:=info_parts Tryz.infoByte;go_wp2_with (at_builtin;refine Lib.wpList_append_own_string _ rfl _ _ 144 9 rfl w.heap.size 5 i0 Tryz.underlying144 Tryz.underlying9 hi hz0 hz1 hz2 _ (m+1) _ rfl HBX4.out.row s rfl (by have:=HLS.out;have:=HZ.out;unfold maxLen;omega) (by have:=HLS.out;have:=HZ.out;omega) (by omega) ?_;intro v6 w6 ho6 hg6 _;rw [di_,← bca_] at ho6;obtain ⟨b6,c6,rfl,hbx6,hb6⟩:=HBX4.out.store hlb ho6 hg6;have c6':=coc_ hb6 0;have f6':=foc_ hb6 0;simp at c6';have HBX6:=hidI hbx6;have hF6:ac_ w.heap.size Bb w w6:=HF5.out.grown hg6 (by omega) (fun g hg=>(HBX4.out.row.lt g hg).1);have HF6:=hidI hF6;clear ho6 hg6 hbx6 hb6 hF6 c5 f5)
        go_roundw
        case rel=>exact ⟨k+1,_,_,_,HLT.out,by have:=HLT.out;go_num,bp_ HKL.out HOK.out HOKX.out,by rw [bX_ HKL.out,← HTH.out];have e:bi_.bytes (.text s) = [oct8 (Ls:Int)] ++ s.data.toList:=by { show hI_ s = _;unfold hI_;rw [HLS.out];rfl };rw [e,← List.append_assoc];exact HBX6.out,HF6.out.setCell (p:=⟨Bb,0,none⟩) (.inr rfl) _⟩
        case measure=>have:=HLT.out;simp [intOf];omega
       ·go_simp;refine hK.out _ _ trivial (fun _=>?_);clear hK K;try refine nrm ?_
        refine rdy 0 (fun K hK=>?_);have cc:=HCELL.out _ ((K1).alloc (K1).size (.cells #[.int .u8 ((oct8 (Ls:Int)).toNat:Int)] 5));go_simp;refine hK.out _ _ trivial (fun _=>?_);clear hK K cc;try refine nrm ?_
        obtain ⟨W3,hW3⟩:∃ W3,W3 = w1.alloc (.cells #[.int .u8 ((oct8 (Ls:Int)).toNat:Int)] 5):=⟨_,rfl⟩
        rw [← hW3];have k3:Below wr.heap.size wr W3:=by rw [hW3];exact (K1).alloc (K1).size _
        have hRW:aO_ W3 (some ⟨w1.heap.size,0,none⟩) (byC_ [oct8 (Ls:Int)]):=by rw [hW3];exact dg_ (cs:=byC_ [oct8 (Ls:Int)])
        have hB3:=HBX.out.keep k3;have K3':=hidI k3;have hs3:=k3.size;clear hW3;refine rdy 5 (fun K hK=>?_);refine bY_ cw_ (by kernel_rfl) _ _ rfl w.heap.size (.slice b m c) m (byC_ (de_ (l.take k))) rfl hB3.row (some ⟨w1.heap.size,0,none⟩) 1 1 (byC_ [oct8 (Ls:Int)]) rfl rfl (fun h=>by cases h) hRW (bc1_ _) (by unfold maxLen;omega) (by omega) (by omega) ?_;intro v4 w4 ho4 hg4 _;rw [← bca_] at ho4;obtain ⟨b4,c4,rfl,hbx4,hb4⟩:=hB3.store hlb ho4 hg4;have hF4:ac_ w.heap.size Bb w w4:=(HF.out.trans (ac_.of_below K3'.out hsw)).grown hg4 (by omega) (fun g hg=>(hB3.row.lt g hg).1);refine hK.out _ _ trivial (fun _=>?_);clear hK K ho4 hg4 hRW hB3 k3;try refine nrm ?_
        have c4':=coc_ hb4 0;have f4':=foc_ hb4 0;simp at c4';have HF4:=hidI hF4;have HBX4:=hidI hbx4;clear hb4 hF4 hbx4;refine rdy 6 (fun K hK=>?_);go_simp;refine hK.out _ _ trivial (fun _=>?_);clear hK K c4' f4';try refine nrm ?_
        refine wpAnyH_done (by kernel_rfl) ?_ _;have hF5:ac_ w.heap.size Bb w (w4.setCell ⟨Bb,0,none⟩ (.slice b4 (m+1) c4)):=HF4.out.setCell (p:=⟨Bb,0,none⟩) (.inr rfl) _;have HF5:=hidI hF5;clear hF5;obtain ⟨w5,hw5⟩:∃ w5,w5 = w4.setCell ⟨Bb,0,none⟩ (.slice b4 (m+1) c4):=⟨_,rfl⟩
        rw [← hw5] at HF5 HBX4;rw [← hw5];have c5:=coc_ HBX4.out.box 0;simp at c5;have f5:=foc_ HBX4.out.box 0;have hs5:=HF5.out.size;clear hw5;obtain ⟨i0,hi,hz0,hz1,hz2⟩:=info_parts Tryz.infoByte;go_wp2_with (at_builtin;refine Lib.wpList_append_own_string _ rfl _ _ 144 9 rfl w.heap.size 5 i0 Tryz.underlying144 Tryz.underlying9 hi hz0 hz1 hz2 _ (m+1) _ rfl HBX4.out.row s rfl (by have:=HLS.out;have:=HZ.out;unfold maxLen;omega) (by have:=HLS.out;have:=HZ.out;omega) (by omega) ?_;intro v6 w6 ho6 hg6 _;rw [di_,← bca_] at ho6;obtain ⟨b6,c6,rfl,hbx6,hb6⟩:=HBX4.out.store hlb ho6 hg6;have c6':=coc_ hb6 0;have f6':=foc_ hb6 0;simp at c6';have HBX6:=hidI hbx6;have hF6:ac_ w.heap.size Bb w w6:=HF5.out.grown hg6 (by omega) (fun g hg=>(HBX4.out.row.lt g hg).1);have HF6:=hidI hF6;clear ho6 hg6 hbx6 hb6 hF6 c5 f5)
        go_roundw
        case rel=>exact ⟨k+1,_,_,_,HLT.out,by have:=HLT.out;go_num,bp_ HKL.out HOK.out HOKX.out,by rw [bX_ HKL.out,← HTH.out];have e:bi_.bytes (.text s) = [oct8 (Ls:Int)] ++ s.data.toList:=by { show hI_ s = _;unfold hI_;rw [HLS.out];rfl };rw [e,← List.append_assoc];exact HBX6.out,HF6.out.setCell (p:=⟨Bb,0,none⟩) (.inr rfl) _⟩
        case measure=>have:=HLT.out;simp [intOf];omega
     ·have HZ:=hidI hz;have HOKX:Hid ((l[k]'HKL.out).ok = false):=by show (l[k]'HKL.out).ok = false;rw [← HTH.out];unfold bi_.ok;exact decide_eq_false (by have:=HLS.out;omega)
      have HZZ:Hid (¬ (0≤(Ls:Int)∧(Ls:Int)≤255)):=by show ¬ (0≤(Ls:Int)∧(Ls:Int)≤255);omega
      clear hz;go_wp2_with fail
      refine wp_region_held_drew (S:=fun _=>True) (by kernel_rfl) trivial (fun hH=>?_);refine tk 1 ?_;refine tk 2 ?_;rw [← HLS.out];refine wpAnyH_ready (rs:=[0,3]) (by kernel_rfl) (by simp) ?_;refine AllReadyH.cons rfl (fun K hK=>?_) (AllReadyH.cons rfl (fun K hK=>?_) AllReadyH.nil)
      ·have cc:=HCELL.out _ ((Below.refl _ _).drew);go_simp;refine hK.out _ _ trivial (fun _=>?_);clear hK K cc;try refine nrm ?_
       refine rdy 3 (fun K hK=>?_);go_simp;refine (fI_ (Ls:Int) _ HZZ.out).mono ?_;rintro e w1 ⟨rfl,k1⟩;exact ⟨rfl,HF.out.trans (ac_.of_below (bud_ k1) hsw),by rw [HE.out,c7_ HKL.out HOKX.out];rfl,fun h=>by rw [HE.out,c7_ HKL.out HOKX.out] at h;cases h⟩
      ·go_simp;refine (fI_ (Ls:Int) _ HZZ.out).mono ?_;rintro e w1 ⟨rfl,k1⟩;exact ⟨rfl,HF.out.trans (ac_.of_below (bud_ k1) hsw),by rw [HE.out,c7_ HKL.out HOKX.out];rfl,fun h=>by rw [HE.out,c7_ HKL.out HOKX.out] at h;cases h⟩
  ·have hke:k = n:=by omega
   subst hke;clear hlt hk;have HE0:Hid (E = 0):=by
    show E = 0;rw [HE.out];unfold putE;have:=HOK.out;rw [List.take_of_length_le (by rw [HN.out];exact Nat.le_refl _)] at this;rw [if_pos this]
   go_wp2_with fail
   go_end0
   refine ⟨HF.out,by rw [HE0.out];rfl,fun _=>⟨b,m,c,?_⟩⟩;have:=HBX.out;rw [List.take_of_length_le (by rw [HN.out];exact Nat.le_refl _)] at this;exact this
end Go.Proofs.YtlbnkpicnokgoaaGreat
