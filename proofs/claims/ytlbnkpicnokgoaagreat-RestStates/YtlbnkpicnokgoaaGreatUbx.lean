import Derived.Test.YtlbnkpicnokgoaaGreatUax
import Derived.Laws.StructEq
import Derived.Deep.QuietTactic
import Derived.BigQuiet
namespace Go.Proofs.YtlbnkpicnokgoaaGreat
open Go.RowKit
set_option linter.unusedVariables false
set_option maxRecDepth 100000
set_option maxHeartbeats 4000000
theorem nq_ (xs:List ae_) (a:Option Addr) (n c:Nat) (s d:Int) (ky b:ByteArray) (ag:Bool) (w:World) (hn:xs.length = n) (hnc:n≤c) (hcm:c≤maxLen) (hz:a = none→c = 0) (hp:ai_ w a xs)
 (hl:at_ xs = true) (hr:am_ ⟨s,ky,b,ag,d⟩ = true) (i:Nat) (hi:i = idxSeq s xs) (hlt:i < n) (q:Int) (hq:xs[i]?.map ae_.seq = some q) (hne:¬ q = s) :
 Calls Tryz.prog 148 #[.slice a n c,.agg #[.int .i64 s,.string ky,.string b,.bool ag,.int .i64 d]] w fun e w'=>∃ v,e = .returned (.tuple #[v,.int .i64 0])∧w'.ownsRow w.heap.size 48 5 v (n+1) (al_ (ay_ xs ⟨s,ky,b,ag,d⟩))∧Below w.heap.size w w':=by
 have hm:n≤maxLen:=Nat.le_trans hnc hcm;have hfew:=d7_ hl;have HL:Hid (bw_ xs = 0):=by show bw_ xs = 0;unfold bw_;rw [if_pos hl]
 have HR:Hid (am_ ⟨s,ky,b,ag,d⟩ = true):=hr;have HI:Hid (idxI s xs = i):=by show idxI s xs = i;unfold idxI;rw [← hi,if_pos (by rw [hn];exact hlt)]
 obtain ⟨W1,hW1,hBw,hs1,hbx⟩:=c1_ w (.int .i64 s) (.string ky) (.string b) (.bool ag) (.int .i64 d) 48;have HW1:Hid (W1 = _):=hW1;have BX:Hid (∀ W,Below W1.heap.size W1 W→_):=hbx;have HP:Hid (ai_ W1 a xs):=hp.keep hBw;have HN:Hid (xs.length = n):=hn;have HM:Hid (n≤maxLen):=hm;have HF:Hid (n≤1048576):=by show n≤1048576;omega
 have HX:Hid (i = idxSeq s xs):=hi;clear hW1 hbx hp hl hr hn hm hi;have s1:=hBw.size;go_enter Tryz.func148,Tryz.ntmps148;go_wp2_with fail
 rw [← HW1.out];refine (bu_ xs _ _ _ _ HN.out HM.out HP.out).mono ?_;rintro e w2 ⟨rfl,hB2⟩;obtain ⟨d0,d1,d2,d3,d4⟩:=BX.out w2 hB2;rw [HL.out];go_wp2_with fail
 refine (cX_ _ _ _ _ _ _).mono ?_;rintro e w3 ⟨rfl,hB3⟩;have hB13:Below W1.heap.size W1 w3:=hB2.trans (hB3.mono hB2.size);clear d0 d1 d2 d3 d4;obtain ⟨d0,d1,d2,d3,d4⟩:=BX.out w3 hB13;rw [HR.out];go_wp2_with fail
 refine (dm_ xs _ _ _ _ s _ HN.out HM.out (HP.out.keep hB13) (by have:=hB13.size;omega) d0).mono ?_;rintro e w4 ⟨rfl,hB4⟩;have hB14:Below W1.heap.size W1 w4:=hB13.trans (hB4.mono hB13.size);clear d0 d1 d2 d3 d4;obtain ⟨d0,d1,d2,d3,d4⟩:=BX.out w4 hB14;rw [HI.out];have q0:¬ (i:Int) < 0:=by omega
 have q4:(0:Int)≤(i:Int):=by omega
 have q5:(i:Int) < (n:Int):=by omega
 go_wp2_with fail
 obtain ⟨g,o,rfl,hg,hx⟩:=HP.out.cells (by rw [HN.out];omega);have hg4:g < w4.heap.size:=by have:=hB14.size;omega
 have cq:w4.cell? ⟨g,o+i * 5,none⟩ = some (.int .i64 q):=by
  have h1:=((hx i (by rw [HN.out];exact hlt)).keep hB14 hg).1;have h2:xs[i]'(by rw [HN.out];exact hlt) = xs[i]'(by rw [HN.out];exact hlt):=rfl;rw [List.getElem?_eq_getElem (by rw [HN.out];exact hlt)] at hq;simp at hq;rw [hq] at h1;exact h1
 clear hx hq;refine wp_region_held_drew (S:=fun w'=>w'.cell? ⟨g,o+i * 5,none⟩ = some (.int .i64 q)∧w'.cell? ⟨w.heap.size,0,none⟩ = some (.int .i64 s)) (by kernel_rfl) ⟨cq,d0⟩ (fun hHeld=>?_);refine tk 0 ?_;refine tk 1 ?_;refine tk 2 ?_;refine tk 3 ?_;refine tk 4 ?_;refine tk 5 ?_;refine tk 6 ?_;refine tk 7 ?_;refine tk 8 ?_;refine tk 9 ?_;refine tk 10 ?_;refine tk 11 ?_;refine tk 12 ?_;refine tk 13 ?_;refine wpAnyH_done (by kernel_rfl) ?_ _;go_wp2_with fail
 have hB5:Below W1.heap.size W1 w4.drew:=⟨hB14.os,hB14.tape,hB14.output,hB14.size,hB14.block⟩;have hB6:Below W1.heap.size W1 w4.drew.drew:=⟨hB14.os,hB14.tape,hB14.output,hB14.size,hB14.block⟩;have q1:(i:Int)≤(n:Int):=by omega
 have q2:(i:Int)≤(c:Int):=by omega
 have q3:(n:Int)≤(c:Int):=by omega
 clear d0 d1 d2 d3 d4;refine wp_region_held_drew (S:=fun w'=>w'.cell? ⟨w.heap.size,0,none⟩ = some (.int .i64 s)∧w'.cell? ⟨w.heap.size,1,none⟩ = some (.string ky)∧w'.cell? ⟨w.heap.size,2,none⟩ = some (.string b)∧w'.cell? ⟨w.heap.size,3,none⟩ = some (.bool ag)∧w'.cell? ⟨w.heap.size,4,none⟩ = some (.int .i64 d)) (by kernel_rfl) (BX.out _ hB6) (fun hHeld=>?_);refine tk 0 ?_;refine tk 1 ?_;refine tk 2 ?_;refine tk 3 ?_;refine tk 5 ?_;refine tk 6 ?_;refine tk 7 ?_;refine rdy 4 (fun K hK=>?_);go_simp;obtain ⟨W5,hW5⟩:∃ W5,W5 = w4.alloc (.cells #[.int .i64 s,.string ky,.string b,.bool ag,.int .i64 d] 48):=⟨_,rfl⟩
 have hB45:Below w4.heap.size w4 W5:=by rw [hW5];exact (Below.refl _ _).alloc (Nat.le_refl _) _
 have hs5:W5.heap.size = w4.heap.size+1:=by rw [hW5];simp
 have hh5:W5.heap[w4.heap.size]? = some (.cells #[.int .i64 s,.string ky,.string b,.bool ag,.int .i64 d] 48):=by rw [hW5];exact World.alloc_heap_new w4 _
 rw [← hW5];clear hW5;have hB15:Below W1.heap.size W1 W5:=hB14.trans (hB45.mono hB14.size);have hB15':Below W1.heap.size W1 W5.drew.drew:=⟨hB15.os,hB15.tape,hB15.output,hB15.size,hB15.block⟩;refine hK.out _ _ (BX.out _ hB15') (fun hHeld2=>?_);clear hHeld hK K;try simp only [Act.put,List.getElem_toArray,List.getElem_cons_succ,List.getElem_cons_zero,List.setIfInBounds_toArray,List.set_cons_zero,List.set_cons_succ]
 refine rdy 8 (fun K hK=>?_);go_simp;obtain ⟨A3,hA3⟩:∃ A3:Option Addr,A3 = (if c = i then some ⟨g,o,none⟩ else some ⟨g,o+i * 5,none⟩):=⟨_,rfl⟩
 have HA3:Hid (A3 = (if c = i then some ⟨g,o,none⟩ else some ⟨g,o+i * 5,none⟩)):=hA3;rw [← hA3];clear hA3;obtain ⟨W6,hW6⟩:∃ W6,W6 = W5.alloc (.cells #[.slice (some ⟨g,o,none⟩) i c,.slice (some ⟨w4.heap.size,0,none⟩) 1 1,.slice A3 (n - i) (c - i)] 46):=⟨_,rfl⟩
 have hB56:Below W5.heap.size W5 W6:=by rw [hW6];exact (Below.refl _ _).alloc (Nat.le_refl _) _
 have hs6:W6.heap.size = W5.heap.size+1:=by rw [hW6];simp
 have hh6:W6.heap[W5.heap.size]? = some (.cells #[.slice (some ⟨g,o,none⟩) i c,.slice (some ⟨w4.heap.size,0,none⟩) 1 1,.slice A3 (n - i) (c - i)] 46):=by rw [hW6];exact World.alloc_heap_new W5 _
 rw [← hW6];clear hW6;have hB16:Below W1.heap.size W1 W6:=hB15.trans (hB56.mono hB15.size);have hB16':Below W1.heap.size W1 W6.drew.drew:=⟨hB16.os,hB16.tape,hB16.output,hB16.size,hB16.block⟩;have hx6:W6.heap[w4.heap.size]? = some (.cells #[.int .i64 s,.string ky,.string b,.bool ag,.int .i64 d] 48):=(hB56.block _ (by omega)).trans hh5;have hi6:ai_ W6 (some ⟨g,o,none⟩) xs:=(HP.out.keep hB14).keep (hB45.trans (hB56.mono hB45.size));refine hK.out _ _ (BX.out _ hB16') (fun hHeld3=>?_);clear hHeld2 hK K;try simp only [Act.put,List.getElem_toArray,List.getElem_cons_succ,List.getElem_cons_zero,List.setIfInBounds_toArray,List.set_cons_zero,List.set_cons_succ]
 refine rdy 9 (fun K hK=>?_);go_simp;refine (ga_ xs ⟨s,ky,b,ag,d⟩ _ A3 n c i (n - i) (c - i) _ w4.heap.size _ _ W6.drew.drew HN.out (Nat.le_of_lt hlt) hnc hz HF.out (by rw [HA3.out];simp [cN_]) rfl rfl hi6 (by rw [← hs5];exact hh6) hx6).mono ?_;rintro e w7 ⟨v,rfl,hown,hB7⟩;have hB7':Below W6.heap.size W6 w7:=⟨hB7.os,hB7.tape,hB7.output,hB7.size,hB7.block⟩;have hB17:Below W1.heap.size W1 w7:=hB16.trans (hB7'.mono hB16.size);refine hK.out _ _ (BX.out _ hB17) (fun hHeld4=>?_);clear hHeld3 hK K;try simp only [Act.put,List.getElem_toArray,List.getElem_cons_succ,List.getElem_cons_zero,List.setIfInBounds_toArray,List.set_cons_zero,List.set_cons_succ]
 refine tk 10 ?_;refine tk 11 ?_;refine wpAnyH_done (by kernel_rfl) ?_ _;go_wp2_with fail
 go_ret2
 have e1:ay_ xs ⟨s,ky,b,ag,d⟩ = xs.take i ++ [⟨s,ky,b,ag,d⟩] ++ xs.drop i:=by
  unfold ay_;have e2:idxSeq s xs = i:=HX.out.symm;dsimp only;rw [e2]
 have h16:=hB16.size;have h17:=hB17.size;refine ⟨v,rfl,?_,hBw.trans (hB17.mono hBw.size)⟩;rw [e1];exact bm_ hown (by show w.heap.size≤W6.heap.size;omega)
theorem mg_ (xs:List ae_) (a:Option Addr) (n c:Nat) (s d:Int) (ky b:ByteArray) (ag:Bool) (w:World) (hn:xs.length = n) (hm:n≤maxLen) (hp:ai_ w a xs) (hl:at_ xs = false) :
 Calls Tryz.prog 148 #[.slice a n c,.agg #[.int .i64 s,.string ky,.string b,.bool ag,.int .i64 d]] w fun e w'=>e = .returned (.tuple #[.slice none 0 0,.int .i64 1])∧Below w.heap.size w w':=by
 have HL:Hid (bw_ xs = 1):=by show bw_ xs = 1;unfold bw_;rw [hl];rfl
 obtain ⟨W1,hW1,hBw,hs1,hbx⟩:=c1_ w (.int .i64 s) (.string ky) (.string b) (.bool ag) (.int .i64 d) 48;have HW1:Hid (W1 = _):=hW1;have HP:Hid (ai_ W1 a xs):=hp.keep hBw;have HN:Hid (xs.length = n):=hn;have HM:Hid (n≤maxLen):=hm;clear hW1 hbx hp hl hn hm;go_enter Tryz.func148,Tryz.ntmps148;go_wp2_with fail
 rw [← HW1.out];refine (bu_ xs _ _ _ _ HN.out HM.out HP.out).mono ?_;rintro e w2 ⟨rfl,hB2⟩;rw [HL.out];go_wp2_with fail
 go_ret2
 exact ⟨rfl,hBw.trans (hB2.mono hBw.size)⟩
theorem mf_ (xs:List ae_) (a:Option Addr) (n c:Nat) (s d:Int) (ky b:ByteArray) (ag:Bool) (w:World) (hn:xs.length = n) (hm:n≤maxLen) (hp:ai_ w a xs) (hl:at_ xs = true) (hr:am_ ⟨s,ky,b,ag,d⟩ = false) :
 Calls Tryz.prog 148 #[.slice a n c,.agg #[.int .i64 s,.string ky,.string b,.bool ag,.int .i64 d]] w fun e w'=>e = .returned (.tuple #[.slice none 0 0,.int .i64 1])∧Below w.heap.size w w':=by
 have HL:Hid (bw_ xs = 0):=by show bw_ xs = 0;unfold bw_;rw [if_pos hl]
 have HR:Hid (am_ ⟨s,ky,b,ag,d⟩ = false):=hr;obtain ⟨W1,hW1,hBw,hs1,hbx⟩:=c1_ w (.int .i64 s) (.string ky) (.string b) (.bool ag) (.int .i64 d) 48;have HW1:Hid (W1 = _):=hW1;have BX:Hid (∀ W,Below W1.heap.size W1 W→_):=hbx;have HP:Hid (ai_ W1 a xs):=hp.keep hBw;have HN:Hid (xs.length = n):=hn;have HM:Hid (n≤maxLen):=hm;clear hW1 hbx hp hl hr hn hm;go_enter Tryz.func148,Tryz.ntmps148;go_wp2_with fail
 rw [← HW1.out];refine (bu_ xs _ _ _ _ HN.out HM.out HP.out).mono ?_;rintro e w2 ⟨rfl,hB2⟩;obtain ⟨d0,d1,d2,d3,d4⟩:=BX.out w2 hB2;rw [HL.out];go_wp2_with fail
 refine (cX_ _ _ _ _ _ _).mono ?_;rintro e w3 ⟨rfl,hB3⟩;rw [HR.out];go_wp2_with fail
 go_ret2
 exact ⟨rfl,hBw.trans ((hB2.trans (hB3.mono hB2.size)).mono hBw.size)⟩
theorem kU_ (xs:List ae_) (a:Option Addr) (n c:Nat) (s d:Int) (ky b:ByteArray) (ag:Bool) (w:World) (hn:xs.length = n) (hnc:n≤c) (hcm:c≤maxLen) (hz:a = none→c = 0) (hp:ai_ w a xs)
 (hl:at_ xs = true) (hr:am_ ⟨s,ky,b,ag,d⟩ = true) (i:Nat) (hi:i = idxSeq s xs) (hlt:i < n) (hq:xs[i]?.map ae_.seq = some s) :
 Calls Tryz.prog 148 #[.slice a n c,.agg #[.int .i64 s,.string ky,.string b,.bool ag,.int .i64 d]] w fun e w'=>e = .returned (.tuple #[.slice none 0 0,.int .i64 6])∧Below w.heap.size w w':=by
 have hm:n≤maxLen:=Nat.le_trans hnc hcm;have hfew:=d7_ hl;have HL:Hid (bw_ xs = 0):=by show bw_ xs = 0;unfold bw_;rw [if_pos hl]
 have HR:Hid (am_ ⟨s,ky,b,ag,d⟩ = true):=hr;have HI:Hid (idxI s xs = i):=by show idxI s xs = i;unfold idxI;rw [← hi,if_pos (by rw [hn];exact hlt)]
 obtain ⟨W1,hW1,hBw,hs1,hbx⟩:=c1_ w (.int .i64 s) (.string ky) (.string b) (.bool ag) (.int .i64 d) 48;have HW1:Hid (W1 = _):=hW1;have BX:Hid (∀ W,Below W1.heap.size W1 W→_):=hbx;have HP:Hid (ai_ W1 a xs):=hp.keep hBw;have HN:Hid (xs.length = n):=hn;have HM:Hid (n≤maxLen):=hm;have HF:Hid (n≤1048576):=by show n≤1048576;omega
 have HX:Hid (i = idxSeq s xs):=hi;clear hW1 hbx hp hl hr hn hm hi;have s1:=hBw.size;go_enter Tryz.func148,Tryz.ntmps148;go_wp2_with fail
 rw [← HW1.out];refine (bu_ xs _ _ _ _ HN.out HM.out HP.out).mono ?_;rintro e w2 ⟨rfl,hB2⟩;obtain ⟨d0,d1,d2,d3,d4⟩:=BX.out w2 hB2;rw [HL.out];go_wp2_with fail
 refine (cX_ _ _ _ _ _ _).mono ?_;rintro e w3 ⟨rfl,hB3⟩;have hB13:Below W1.heap.size W1 w3:=hB2.trans (hB3.mono hB2.size);clear d0 d1 d2 d3 d4;obtain ⟨d0,d1,d2,d3,d4⟩:=BX.out w3 hB13;rw [HR.out];go_wp2_with fail
 refine (dm_ xs _ _ _ _ s _ HN.out HM.out (HP.out.keep hB13) (by have:=hB13.size;omega) d0).mono ?_;rintro e w4 ⟨rfl,hB4⟩;have hB14:Below W1.heap.size W1 w4:=hB13.trans (hB4.mono hB13.size);clear d0 d1 d2 d3 d4;obtain ⟨d0,d1,d2,d3,d4⟩:=BX.out w4 hB14;rw [HI.out];have q0:¬ (i:Int) < 0:=by omega
 have q4:(0:Int)≤(i:Int):=by omega
 have q5:(i:Int) < (n:Int):=by omega
 go_wp2_with fail
 obtain ⟨g,o,rfl,hg,hx⟩:=HP.out.cells (by rw [HN.out];omega);have hg4:g < w4.heap.size:=by have:=hB14.size;omega
 have cq:w4.cell? ⟨g,o+i * 5,none⟩ = some (.int .i64 s):=by
  have h1:=((hx i (by rw [HN.out];exact hlt)).keep hB14 hg).1;have h2:xs[i]'(by rw [HN.out];exact hlt) = xs[i]'(by rw [HN.out];exact hlt):=rfl;rw [List.getElem?_eq_getElem (by rw [HN.out];exact hlt)] at hq;simp at hq;rw [hq] at h1;exact h1
 clear hx hq;refine wp_region_held_drew (S:=fun w'=>w'.cell? ⟨g,o+i * 5,none⟩ = some (.int .i64 s)∧w'.cell? ⟨w.heap.size,0,none⟩ = some (.int .i64 s)) (by kernel_rfl) ⟨cq,d0⟩ (fun hHeld=>?_);refine tk 0 ?_;refine tk 1 ?_;refine tk 2 ?_;refine tk 3 ?_;refine tk 4 ?_;refine tk 5 ?_;refine tk 6 ?_;refine tk 7 ?_;refine tk 8 ?_;refine tk 9 ?_;refine tk 10 ?_;refine tk 11 ?_;refine tk 12 ?_;refine tk 13 ?_;refine wpAnyH_done (by kernel_rfl) ?_ _;go_wp2_with fail
 go_ret2
 exact ⟨rfl,hBw.trans ((hB14.mono hBw.size).trans ⟨rfl,rfl,rfl,Nat.le_refl _,fun _ _=>rfl⟩)⟩
theorem np_ (xs:List ae_) (a:Option Addr) (n c:Nat) (s d:Int) (ky b:ByteArray) (ag:Bool) (w:World) (hn:xs.length = n) (hnc:n≤c) (hcm:c≤maxLen) (hz:a = none→c = 0) (hp:ai_ w a xs) :
 Calls Tryz.prog 148 #[.slice a n c,.agg #[.int .i64 s,.string ky,.string b,.bool ag,.int .i64 d]] w fun e w'=>∃ v m,e = .returned (.tuple #[v,.int .i64 (et_ xs ⟨s,ky,b,ag,d⟩)])∧w'.ownsRow w.heap.size 48 5 v m (al_ (hD_ xs ⟨s,ky,b,ag,d⟩))∧Below w.heap.size w w':=by
 have hm:n≤maxLen:=Nat.le_trans hnc hcm;cases hl:at_ xs with
 | false =>
   have e1:et_ xs ⟨s,ky,b,ag,d⟩ = 1:=by unfold et_;rw [hl];rfl
   refine (mg_ xs a n c s d ky b ag w hn hm hp hl).mono ?_;rintro e w' ⟨rfl,hB⟩;exact ⟨_,0,by rw [e1],by unfold hD_;rw [e1];exact World.ownsRow_nil _ _ _ _,hB⟩
 | true =>
   cases hr:am_ ⟨s,ky,b,ag,d⟩ with
   | false =>
     have e1:et_ xs ⟨s,ky,b,ag,d⟩ = 1:=by unfold et_;rw [hl,hr];rfl
     refine (mf_ xs a n c s d ky b ag w hn hm hp hl hr).mono ?_;rintro e w' ⟨rfl,hB⟩;exact ⟨_,0,by rw [e1],by unfold hD_;rw [e1];exact World.ownsRow_nil _ _ _ _,hB⟩
   | true =>
     by_cases hlt:idxSeq s xs < n
     ·have hq:xs[idxSeq s xs]?.map ae_.seq = some (xs[idxSeq s xs]'(by rw [hn];exact hlt)).seq:=by rw [List.getElem?_eq_getElem (by rw [hn];exact hlt)];rfl
      by_cases heq:(xs[idxSeq s xs]'(by rw [hn];exact hlt)).seq = s
      ·have e1:et_ xs ⟨s,ky,b,ag,d⟩ = 6:=by unfold et_ bL_;rw [hl,hr];simp only [hq,heq];simp
       refine (kU_ xs a n c s d ky b ag w hn hnc hcm hz hp hl hr _ rfl hlt (by rw [hq,heq])).mono ?_;rintro e w' ⟨rfl,hB⟩;exact ⟨_,0,by rw [e1],by unfold hD_;rw [e1];exact World.ownsRow_nil _ _ _ _,hB⟩
      ·have e1:et_ xs ⟨s,ky,b,ag,d⟩ = 0:=by unfold et_ bL_;rw [hl,hr];simp only [hq];simp [heq]
       refine (nq_ xs a n c s d ky b ag w hn hnc hcm hz hp hl hr _ rfl hlt _ hq heq).mono ?_;rintro e w' ⟨v,rfl,hown,hB⟩;exact ⟨v,_,by rw [e1],by unfold hD_;rw [e1];exact hown,hB⟩
     ·have e1:et_ xs ⟨s,ky,b,ag,d⟩ = 0:=by
       unfold et_ bL_;rw [hl,hr];have:xs[idxSeq s xs]? = none:=List.getElem?_eq_none (by rw [hn];omega);simp only [this];simp
      refine (of_ xs a n c s d ky b ag w hn hnc hcm hz hp hl hr _ rfl hlt).mono ?_;rintro e w' ⟨v,rfl,hown,hB⟩;exact ⟨v,_,by rw [e1],by unfold hD_;rw [e1];exact hown,hB⟩
theorem kY_ (xs:List ae_) (a1 a2:Option Addr) (n c1 c2:Nat) (w:World) (hn:xs.length = n) (hm:n≤maxLen) (h1:ai_ w a1 xs) (h2:ai_ w a2 xs) :
 Calls Tryz.prog 19 #[.slice a1 n c1,.slice a2 n c2] w fun e w'=>e = .returned (.bool true)∧Below w.heap.size w w':=by
 have HN:Hid (xs.length = n):=hn;have HP:Hid (ai_ w a1 xs∧ai_ w a2 xs):=⟨h1,h2⟩;unfold maxLen at hm;clear hn h1 h2;go_enter Tryz.func19,Tryz.ntmps19;go_wp2
 go_loopw [5] (fun i wr=>∃ (k:Nat),k≤n∧i = .int .i64 k∧Below w.heap.size w wr) (fun i _=>n - (intOf i).toNat)
 case atStart=>exact ⟨0,Nat.zero_le _,rfl,Below.refl _ _⟩
 case round=>
  obtain ⟨k,hk,rfl,hB⟩:=hrel;have hBs:=hB.size;by_cases hlt:k < n
  ·have hkl:k < xs.length:=by rw [HN.out];exact hlt
   obtain ⟨g,o,rfl,hg,hx⟩:=HP.out.1.cells (by omega);obtain ⟨g',o',rfl,hg',hx'⟩:=HP.out.2.cells (by omega);obtain ⟨x,hxx⟩:∃ x,x = xs[k]:=⟨_,rfl⟩
   have hc:=(hx k hkl).keep hB hg;have hc':=(hx' k hkl).keep hB hg';rw [← hxx] at hc hc';clear hx hx' hxx;obtain ⟨s,ky,b,ag,d⟩:=x;have j1:(0:Int)≤(k:Int):=by omega
   have j2:(k:Int) < n:=by omega
   go_wp2_with fail
   refine wp_region_held_drew (S:=fun w'=>(w'.cell? ⟨g,o+k * 5,none⟩ = some (.int .i64 s)∧w'.cell? ⟨g,o+k * 5+1,none⟩ = some (.string ky)∧w'.cell? ⟨g,o+k * 5+2,none⟩ = some (.string b)∧w'.cell? ⟨g,o+k * 5+3,none⟩ = some (.bool ag)∧w'.cell? ⟨g,o+k * 5+4,none⟩ = some (.int .i64 d)) ∧
    (w'.cell? ⟨g',o' + k * 5,none⟩ = some (.int .i64 s)∧w'.cell? ⟨g',o' + k * 5+1,none⟩ = some (.string ky)∧w'.cell? ⟨g',o' + k * 5+2,none⟩ = some (.string b)∧w'.cell? ⟨g',o' + k * 5+3,none⟩ = some (.bool ag)∧w'.cell? ⟨g',o' + k * 5+4,none⟩ = some (.int .i64 d))) (by kernel_rfl) ⟨hc,hc'⟩ (fun hHeld=>?_)
   refine tk 0 ?_;refine tk 1 ?_;refine tk 2 ?_;refine tk 3 ?_;refine tk 4 ?_;refine tk 5 ?_;refine tk 6 ?_;refine tk 7 ?_;refine tk 8 ?_;refine wpAnyH_done (by kernel_rfl) ?_ _;go_wp2_with fail
   go_roundw
   case rel=>exact ⟨k+1,by omega,by go_num,⟨hB.os,hB.tape,hB.output,hB.size,hB.block⟩⟩
   case measure=>simp [intOf];omega
  ·go_wp2
   go_ret
   exact ⟨rfl,hB⟩
theorem gG_ (xs:List ae_) (a:Option Addr) (n c:Nat) (w:World) (hn:xs.length = n) (hb:n≤100000000) (hz:a = none→c = 0∧xs = []) (hp:ai_ w a xs) :
 Calls Tryz.prog 174 #[.slice a n c] w fun e w'=>∃ v,e = .returned v∧w'.ownsRow w.heap.size 48 5 v n (al_ xs)∧Below w.heap.size w w':=by
 have HN:Hid (xs.length = n):=hn;have HP:Hid (ai_ w a xs):=hp;have HZ:Hid (a = none→c = 0∧xs = []):=hz;clear hn hp hz;go_enter Tryz.func174,Tryz.ntmps174;go_wp2_with (at_builtin;refine bo_ rfl _ _ rfl w.heap.size (.slice none 0 0) 0 [] rfl (World.ownsRow_nil _ _ _ _) a n c xs rfl HN.out HZ.out HP.out (by omega) (Nat.le_refl _) ?_;intro v' w3 hown3 hgrow3)
 go_ret
 exact ⟨v',rfl,by simpa using hown3,(Below.refl _ _).grown hgrow3 (Nat.le_refl _) (by simp [Value.ownBlock])⟩
theorem eE_ {s:Int}:∀ {xs:List ae_} {j:Nat},j < idxSeq s xs→∃ h:j < xs.length,xs[j].seq < s
 | [],j,h=>by simp [idxSeq] at h
 | x :: r, j, h => by
   unfold idxSeq at h;by_cases hx:s≤x.seq
   ·rw [if_pos hx] at h;omega
   ·rw [if_neg hx] at h;cases j with
    | zero=>exact ⟨by simp,by simp;omega⟩
    | succ j=>obtain ⟨h1,h2⟩:=eE_ (s:=s) (xs:=r) (j:=j) (by omega);exact ⟨by simp;omega,by simpa using h2⟩
theorem jR_ {s:Int}:∀ {xs:List ae_} (h:idxSeq s xs < xs.length),s≤xs[idxSeq s xs].seq
 | [],h=>by simp at h
 | x :: r, h => by
   by_cases hx:s≤x.seq
   ·have e:idxSeq s (x :: r) = 0:=by unfold idxSeq;rw [if_pos hx]
    simp [e,hx]
   ·have e : idxSeq s (x :: r) = idxSeq s r + 1 := by conv => lhs; unfold idxSeq
                                                      rw [if_neg hx]
    have h':idxSeq s r < r.length:=by rw [e] at h;simpa using h
    have:=jR_ h';simpa [e] using this
def ck_ (xs:List ae_) (x:ae_) (k:Nat):List ae_:=if idxSeq x.seq xs < k then (ay_ xs x).take (k+1) else xs.take k
theorem iw_ (xs:List ae_) (x:ae_):(ay_ xs x).length = xs.length+1:=by
 have:=dR_ x.seq xs;unfold ay_;simp;omega
theorem iv_ {xs:List ae_} {x:ae_} {k:Nat} (h:idxSeq x.seq xs≤k) (hk:k < xs.length):(ay_ xs x)[k+1]? = some xs[k]:=by
 have h1:=dR_ x.seq xs;unfold ay_;rw [List.getElem?_append_right (by simp;omega),List.getElem?_drop];have e:idxSeq x.seq xs+(k+1 - (List.take (idxSeq x.seq xs) xs ++ [x]).length) = k:=by simp;omega
 rw [e,List.getElem?_eq_getElem hk]
theorem kS_ (xs:List ae_) (x:ae_):ck_ xs x 0 = []:=by unfold ck_;simp
theorem jk_ {xs:List ae_} {x:ae_} {k:Nat} (hk:k < xs.length) (h:idxSeq x.seq xs≠k):ck_ xs x (k+1) = ck_ xs x k ++ [xs[k]]:=by
 unfold ck_;by_cases h1:idxSeq x.seq xs < k
 ·rw [if_pos h1,if_pos (by omega),List.take_add_one,iv_ (by omega) hk];rfl
 ·rw [if_neg h1,if_neg (by omega),List.take_succ_eq_append_getElem hk]
theorem kR_ {xs:List ae_} {x:ae_} {k:Nat} (hk:k < xs.length) (h:idxSeq x.seq xs = k):ck_ xs x (k+1) = ck_ xs x k ++ [x] ++ [xs[k]]:=by
 unfold ck_;rw [if_pos (show idxSeq x.seq xs < k+1 by omega),if_neg (show ¬ idxSeq x.seq xs < k by omega),List.take_add_one,iv_ (by omega) hk];have e:(ay_ xs x).take (k+1) = xs.take k ++ [x]:=by
  unfold ay_;rw [h,List.take_append_of_le_length (by simp;omega),List.take_of_length_le (by simp;omega)]
 rw [e];rfl
theorem md_ {xs:List ae_} {x:ae_} {k:Nat} (hk:k≤xs.length):(ck_ xs x k).length≤xs.length+1:=by
 unfold ck_;split
 ·rw [List.length_take,iw_];omega
 ·rw [List.length_take];omega
theorem mb_ {xs:List ae_} {x:ae_} (h:idxSeq x.seq xs < xs.length):ck_ xs x xs.length = ay_ xs x:=by
 unfold ck_;rw [if_pos h,List.take_of_length_le (by rw [iw_];omega)]
theorem mc_ {xs:List ae_} {x:ae_} (h:¬ idxSeq x.seq xs < xs.length):ay_ xs x = ck_ xs x xs.length ++ [x]:=by
 have:=dR_ x.seq xs;have e:idxSeq x.seq xs = xs.length:=by omega
 unfold ck_;rw [if_neg h];unfold ay_;rw [e];simp
theorem cS_ {b n:Nat} {W w':World} (h:Below b W w'):Below b W (w'.drewN n):=⟨h.os,h.tape,h.output,h.size,h.block⟩
theorem dL_ {W1 wq w3:World} {o:Obj} {v:Value} {T:TypeId} {m:Nat} {xs:List Value} (hB:Below W1.heap.size W1 wq) (hrow:wq.ownsRow W1.heap.size T 5 v m xs) (hg:(wq.alloc o).grownBy w3 v.ownBlock):Below W1.heap.size W1 w3:=
 (hB.alloc hB.size o).grown hg (by have:=hB.size;simp;omega) (cg_ hrow)
theorem iC_ (xs:List ae_) (a:Option Addr) (n c:Nat) (s d:Int) (ky b:ByteArray) (ag:Bool) (w:World) (hn:xs.length = n) (hf:n≤1048576) (hp:ai_ w a xs) (hh:bL_ s xs = false) :
 Calls Tryz.prog 121 #[.slice a n c,.agg #[.int .i64 s,.string ky,.string b,.bool ag,.int .i64 d]] w fun e w'=>∃ v m,e = .returned v∧w'.ownsRow w.heap.size 48 5 v m (al_ (ay_ xs ⟨s,ky,b,ag,d⟩))∧Below w.heap.size w w':=by
 obtain ⟨W1,hW1,hBw,hs1,hbx⟩:=c1_ w (.int .i64 s) (.string ky) (.string b) (.bool ag) (.int .i64 d) 48;have HW1:Hid (W1 = _):=hW1;have BX:Hid (∀ W,Below W1.heap.size W1 W→_):=hbx;have HP:Hid (ai_ W1 a xs):=hp.keep hBw;have HN:Hid (xs.length = n):=hn;have HH:Hid (bL_ s xs = false):=hh;obtain ⟨x,hx⟩:∃ x:ae_,x = ⟨s,ky,b,ag,d⟩:=⟨_,rfl⟩
 have HX:Hid (x = ⟨s,ky,b,ag,d⟩):=hx;have HQ:Hid (x.seq = s):=by show x.seq = s;rw [hx]
 rw [← hx];clear hW1 hbx hp hn hh hx;have hBs1:=hBw.size;go_enter Tryz.func121,Tryz.ntmps121;go_wp2_with fail
 rw [← HW1.out];go_loopw [5,6,7] (fun l dn i wr=>∃ (k m:Nat),k≤n∧i = .int .i64 k∧dn = .bool (decide (idxSeq s xs < k))∧wr.ownsRow W1.heap.size 48 5 l m (al_ (ck_ xs x k))∧Below W1.heap.size W1 wr) (fun _ _ i _=>n - (intOf i).toNat)
 case atStart=>exact ⟨0,0,Nat.zero_le _,rfl,by simp,by rw [kS_];exact World.ownsRow_nil _ _ _ _,Below.refl _ _⟩
 case round=>
  obtain ⟨k,m,hk,rfl,rfl,hrow,hB⟩:=hrel;have hBs:=hB.size;have hml:m = (ck_ xs x k).length:=(it_ hrow).1;have hmk:m≤n+1:=by rw [hml,← HN.out];exact md_ (by rw [HN.out];exact hk)
  obtain ⟨d0,d1,d2,d3,d4⟩:=BX.out wr hB;clear hml;by_cases hlt:k < n
  ·have hkl:k < xs.length:=by rw [HN.out];exact hlt
   obtain ⟨g,o,rfl,hg,hx⟩:=HP.out.cells (by omega);obtain ⟨y,hyy⟩:∃ y,y = xs[k]:=⟨_,rfl⟩
   have hc:=(hx k hkl).keep hB hg;rw [← hyy] at hc;have HY:Hid (y = xs[k]):=hyy;have HC:Hid (aR_ W1 g (o+k * 5) y):=by show aR_ W1 g (o+k * 5) y;rw [hyy];exact hx k hkl
   clear hx hyy;obtain ⟨s',ky',b',ag',d'⟩:=y;obtain ⟨c0,c1,c2,c3,c4⟩:=hc;dsimp only at c0 c1 c2 c3 c4;have j1:(0:Int)≤(k:Int):=by omega
   have j2:(k:Int) < n:=by omega
   have hgw:g < wr.heap.size:=by omega
   by_cases hd:idxSeq s xs = k
   ·have hq:s < s':=by
     have h1:=jR_ (s:=s) (xs:=xs) (by rw [hd];exact hkl);have h2:s≤s':=by simp only [hd] at h1;rw [← HY.out] at h1;exact h1
     have h3:¬ s' = s:=by
      intro e;have:=HH.out;unfold bL_ at this;rw [hd,List.getElem?_eq_getElem hkl,← HY.out] at this;simp [e] at this
     omega
    have HF:Hid (ck_ xs x (k+1) = ck_ xs x k ++ [x] ++ [⟨s',ky',b',ag',d'⟩]):=by
     show ck_ xs x (k+1) = _;rw [kR_ hkl (by rw [HQ.out];exact hd),← HY.out]
    have hdd:decide (idxSeq s xs < k) = false:=by simp;omega
    have HD1:Hid (decide (idxSeq s xs < k+1) = true):=by show decide _ = true;simp;omega
    rw [hdd];clear hdd hd;go_wp2_with fail
    go_quiet (fail)
    obtain ⟨wq,hwq⟩:∃ wq,wq = wr.drewN nq:=⟨_,rfl⟩
    have hBq:Below W1.heap.size W1 wq:=by rw [hwq];exact cS_ hB
    have hrq:wq.ownsRow W1.heap.size 48 5 u5 m (al_ (ck_ xs x k)):=by rw [hwq];exact hrow
    rw [← hwq];clear hwq hrow d0 d1 d2 d3 d4 hB;obtain ⟨d0,d1,d2,d3,d4⟩:=BX.out wq hBq;have hBqs:=hBq.size;go_wp2_with (first
     | (at_builtin;refine bo_ rfl _ _ rfl W1.heap.size _ _ _ rfl (hrq.alloc _) (some ⟨wq.heap.size,0,none⟩) 1 1 [x] rfl rfl (fun e=>by cases e) (by rw [HX.out];exact ai_.single (World.alloc_heap_new _ _)) (by omega) (by simp;omega) ?_;intro v' w3 hown3 hgrow3;have hB3:=dL_ hBq hrq hgrow3;have hB3s:=hB3.size;clear d0 d1 d2 d3 d4;obtain ⟨e0,e1,e2,e3,e4⟩:=HC.out.keep hB3 hg)
     | (at_builtin;refine bo_ rfl _ _ rfl W1.heap.size _ _ _ rfl (hown3.alloc _) (some ⟨w3.heap.size,0,none⟩) 1 1 [⟨s',ky',b',ag',d'⟩] rfl rfl (fun e=>by cases e) (ai_.single (World.alloc_heap_new _ _)) (by omega) (by simp;omega) ?_;intro v4 w4 hown4 hgrow4))
    have hB4:=dL_ hB3 hown3 hgrow4;go_roundw
    case rel=>exact ⟨k+1,_,by omega,by go_num,by rw [HD1.out],by rw [HF.out];exact hown4,hB4⟩
    case measure=>simp [intOf];omega
   ·have HF:Hid (ck_ xs x (k+1) = ck_ xs x k ++ [⟨s',ky',b',ag',d'⟩]):=by
     show ck_ xs x (k+1) = _;rw [jk_ hkl (by rw [HQ.out];exact hd),← HY.out]
    have hdn:(decide (idxSeq s xs < k) = true∧decide (idxSeq s xs < k+1) = true)∨(decide (idxSeq s xs < k) = false∧decide (idxSeq s xs < k+1) = false∧s' < s):=by
     rcases Nat.lt_or_ge (idxSeq s xs) k with h | h
     ·left;simp;omega
     ·right
      obtain ⟨_,h2⟩:=eE_ (s:=s) (xs:=xs) (j:=k) (by omega);rw [← HY.out] at h2;refine ⟨by simp;omega,by simp;omega,h2⟩
    clear hd;rcases hdn with ⟨h1,h2⟩ | ⟨h1,h2,h3⟩
    all_goals
     rw [h1];have HD1:Hid (decide (idxSeq s xs < k+1) = _):=h2;clear h1 h2
    ·go_wp2_with fail
     go_quiet (fail)
     obtain ⟨wq,hwq⟩:∃ wq,wq = wr.drewN nq:=⟨_,rfl⟩
     have hBq:Below W1.heap.size W1 wq:=by rw [hwq];exact cS_ hB
     have hrq:wq.ownsRow W1.heap.size 48 5 u5 m (al_ (ck_ xs x k)):=by rw [hwq];exact hrow
     rw [← hwq];clear hwq hrow d0 d1 d2 d3 d4 hB c0 c1 c2 c3 c4;have hBqs:=hBq.size;obtain ⟨e0,e1,e2,e3,e4⟩:=HC.out.keep hBq hg;go_wp2_with (at_builtin;refine bo_ rfl _ _ rfl W1.heap.size _ _ _ rfl (hrq.alloc _) (some ⟨wq.heap.size,0,none⟩) 1 1 [⟨s',ky',b',ag',d'⟩] rfl rfl (fun e=>by cases e) (ai_.single (World.alloc_heap_new _ _)) (by omega) (by simp;omega) ?_;intro v4 w4 hown4 hgrow4)
     have hB4:=dL_ hBq hrq hgrow4;go_roundw
     case rel=>exact ⟨k+1,_,by omega,by go_num,by rw [HD1.out],by rw [HF.out];exact hown4,hB4⟩
     case measure=>simp [intOf];omega
    ·have h4:decide (s < s') = false:=by simp;omega
     clear h3;go_wp2_with fail
     go_quiet (fail)
     obtain ⟨wq,hwq⟩:∃ wq,wq = wr.drewN nq:=⟨_,rfl⟩
     have hBq:Below W1.heap.size W1 wq:=by rw [hwq];exact cS_ hB
     have hrq:wq.ownsRow W1.heap.size 48 5 u5 m (al_ (ck_ xs x k)):=by rw [hwq];exact hrow
     rw [← hwq];clear hwq hrow d0 d1 d2 d3 d4 hB c0 c1 c2 c3 c4;have hBqs:=hBq.size;obtain ⟨e0,e1,e2,e3,e4⟩:=HC.out.keep hBq hg;go_wp2_with (at_builtin;refine bo_ rfl _ _ rfl W1.heap.size _ _ _ rfl (hrq.alloc _) (some ⟨wq.heap.size,0,none⟩) 1 1 [⟨s',ky',b',ag',d'⟩] rfl rfl (fun e=>by cases e) (ai_.single (World.alloc_heap_new _ _)) (by omega) (by simp;omega) ?_;intro v4 w4 hown4 hgrow4)
     have hB4:=dL_ hBq hrq hgrow4;go_roundw
     case rel=>exact ⟨k+1,_,by omega,by go_num,by rw [HD1.out],by rw [HF.out];exact hown4,hB4⟩
     case measure=>simp [intOf];omega
  ·have hkn:k = xs.length:=by rw [HN.out];omega
   by_cases hd:idxSeq s xs < k
   ·have HF:Hid (ck_ xs x k = ay_ xs x):=by show ck_ xs x k = _;rw [hkn];exact mb_ (by rw [HQ.out,← hkn];exact hd)
    have hdd:decide (idxSeq s xs < k) = true:=by simpa using hd
    rw [hdd];clear hdd hd hkn;go_wp2_with fail
    go_ret
    exact ⟨_,m,rfl,by rw [← HF.out];exact bm_ hrow (by omega),hBw.trans (hB.mono hBs1)⟩
   ·have HF:Hid (ay_ xs x = ck_ xs x k ++ [x]):=by show ay_ xs x = _;rw [hkn];exact mc_ (by rw [HQ.out,← hkn];exact hd)
    have hdd:decide (idxSeq s xs < k) = false:=by simpa using hd
    rw [hdd];clear hdd hd hkn;go_wp2_with (at_builtin;refine bo_ rfl _ _ rfl W1.heap.size _ _ _ rfl (hrow.alloc _) (some ⟨wr.heap.size,0,none⟩) 1 1 [x] rfl rfl (fun e=>by cases e) (by rw [HX.out];exact ai_.single (World.alloc_heap_new _ _)) (by omega) (by simp;omega) ?_;intro v4 w4 hown4 hgrow4)
    have hB4:=dL_ hB hrow hgrow4;go_ret
    exact ⟨_,_,rfl,by rw [HF.out];exact bm_ hown4 (by omega),hBw.trans (hB4.mono hBs1)⟩
theorem dq_:∀ {xs:List ae_} {last:Int},aJ_ last xs = true→xs.Pairwise (fun x y=>x.seq < y.seq)∧∀ x ∈ xs,last < x.seq
 | [],last,_=>⟨List.Pairwise.nil,by simp⟩
 | x :: r, last, h => by
   unfold aJ_ at h;simp only [Bool.and_eq_true,decide_eq_true_eq] at h;obtain ⟨⟨h1,h2⟩,h3⟩:=h;obtain ⟨h4,h5⟩:=dq_ h3;refine ⟨List.pairwise_cons.2 ⟨h5,h4⟩,?_⟩;intro y hy;rcases List.mem_cons.1 hy with rfl | hy
   ·exact h2
   ·have:=h5 y hy;omega
theorem f4_ {xs:List ae_} (h:at_ xs = true) {i j:Nat} (hj:j < xs.length) (hij:i < j):(xs[i]'(by omega)).seq < xs[j].seq:=
 List.pairwise_iff_getElem.1 (dq_ h).1 i j (by omega) hj hij
theorem lu_ {xs:List ae_} (hl:at_ xs = true) {k:Nat} {s:Int} (hk:k < xs.length) (h:xs[k].seq = s):bL_ s xs = true:=by
 have h1:idxSeq s xs≤k:=by
  rcases Nat.lt_or_ge k (idxSeq s xs) with h1 | h1
  ·obtain ⟨_,h2⟩:=eE_ h1;omega
  ·exact h1
 have h2:=jR_ (s:=s) (xs:=xs) (by omega);have h3:idxSeq s xs = k:=by
  rcases Nat.lt_or_ge (idxSeq s xs) k with h3 | h3
  ·have:=f4_ hl hk h3;omega
  ·omega
 unfold bL_;rw [h3,List.getElem?_eq_getElem hk];simp [h]
def ef_ (xs:List ae_) (limit:Int):Int:=if at_ xs = true then (if limit < 0 then 3 else 0) else 1
def gB_ (n:Nat) (limit:Int):Nat:=((n:Int) - limit).toNat
def mA_ (xs:List ae_) (limit:Int):List ae_:=if ef_ xs limit = 0 then xs.drop (gB_ xs.length limit) else []
def hH_ (xs:List ae_) (limit:Int):List ae_:=if ef_ xs limit = 0 then xs.take (gB_ xs.length limit) else []
theorem nB_ {n:Nat} {limit:Int} (h:0≤limit):gB_ n limit≤n:=by unfold gB_;omega
theorem cp2_ {w1 w2:World} {base:Nat} {v:Value} {n:Nat} {xs:List Value} {e:TypeId} {size:Nat} (h:w1.ownsRow base e size v n xs) (hB:Below w1.heap.size w1 w2):w2.ownsRow base e size v n xs:=by
 refine ⟨h.1,?_⟩;rcases h.2 with h | ⟨g,cap,cur,h1,h2,h3,h4⟩
 ·exact .inl h
 ·exact .inr ⟨g,cap,cur,h1,h2,(hB.block g (Array.getElem?_eq_some_iff.1 h3).1).trans h3,h4⟩
theorem op_ (xs:List ae_) (a:Option Addr) (n c i:Nat) (limit:Int) (w:World) (hn:xs.length = n) (hnc:n≤c) (hcm:c≤maxLen) (hz:a = none→c = 0) (hp:ai_ w a xs) (hl:at_ xs = true) (h0:0≤limit) (h1:limit≤9223372036854775807) (hi:i = gB_ n limit) :
 Calls Tryz.prog 149 #[.slice a n c,.int .i64 limit] w fun e w'=>∃ v u,e = .returned (.tuple #[v,u,.int .i64 0])∧w'.ownsRow w.heap.size 48 5 v (n - i) (al_ (xs.drop i))∧w'.ownsRow w.heap.size 48 5 u i (al_ (xs.take i))∧Below w.heap.size w w':=by
 have hf:=d7_ hl;rw [hn] at hf;have HL:Hid (bw_ xs = 0):=by show bw_ xs = 0;unfold bw_;rw [if_pos hl]
 have HP:Hid (ai_ w a xs):=hp;have HN:Hid (xs.length = n):=hn;have HM:Hid (n≤maxLen):=Nat.le_trans hnc hcm;have hin:i≤n:=by rw [hi];exact nB_ h0
 have HI:Hid (max ((n:Int) - limit) 0 = i):=by show max ((n:Int) - limit) 0 = i;rw [hi];unfold gB_;omega
 have HZ:Hid (a = none→c = 0):=hz;have q0:¬ limit < 0:=by omega
 have qw:IntKind.i64.wrap ((n:Int) - limit) = (n:Int) - limit:=by rw [IntKind.wrap_i64];omega
 clear hp hl hn hi hz;go_enter Tryz.func149,Tryz.ntmps149;go_wp2_with fail
 refine (bu_ xs _ _ _ _ HN.out HM.out HP.out).mono ?_;rintro e w2 ⟨rfl,hB2⟩;rw [HL.out];go_wp2_with fail
 rw [HI.out];have q1:(0:Int)≤(i:Int):=by omega
 have q2:(i:Int)≤(n:Int):=by omega
 have q3:(i:Int)≤(c:Int):=by omega
 have q4:(n:Int)≤(c:Int):=by omega
 refine wp_region_held_drew (S:=fun w'=>True) (by kernel_rfl) trivial (fun hHeld=>?_);refine tk 0 ?_;refine tk 1 ?_;refine tk 2 ?_;refine tk 4 ?_;refine tk 5 ?_;refine tk 6 ?_;refine rdy 3 (fun K hK=>?_);go_simp;have hB2s:=hB2.size;have hp2:ai_ w2 a xs:=HP.out.keep hB2;have ha0:a = none→xs = []:=fun e=>List.length_eq_zero_iff.1 (by have:=HZ.out e;have:=HN.out;omega)
 refine (gG_ (xs.drop i) _ (n - i) (c - i) w2.drew (by rw [List.length_drop,HN.out]) (by omega) (fun e=>?_) (hp2.drop i c (by rw [HN.out];exact hnc))).mono ?_
 ·have e2:a = none:=by
   split at e
   ·exact e
   ·simpa using e
  exact ⟨by have:=HZ.out e2;omega,by rw [ha0 e2];simp⟩
 rintro e w3 ⟨v,rfl,hown3,hB3'⟩;have hB3:Below w2.heap.size w2 w3:=bud_ hB3';have hown3b:w3.ownsRow w2.heap.size 48 5 v (n - i) (al_ (xs.drop i)):=hown3;refine hK.out _ _ trivial (fun hHeld2=>?_);clear hHeld hK K hown3 hB3';try simp only [Act.put,List.getElem_toArray,List.getElem_cons_succ,List.getElem_cons_zero,List.setIfInBounds_toArray,List.set_cons_zero,List.set_cons_succ]
 refine rdy 7 (fun K hK=>?_);go_simp;have hB3s:=hB3.size;refine (gG_ (xs.take i) _ i c w3 (by rw [List.length_take,HN.out];omega) (by omega) (fun e=>⟨HZ.out e,by rw [ha0 e];simp⟩) ((hp2.keep hB3).take i)).mono ?_;rintro e w4 ⟨u,rfl,hown4,hB4⟩;refine hK.out _ _ trivial (fun hHeld3=>?_);clear hHeld2 hK K;try simp only [Act.put,List.getElem_toArray,List.getElem_cons_succ,List.getElem_cons_zero,List.setIfInBounds_toArray,List.set_cons_zero,List.set_cons_succ]
 refine tk 8 ?_;refine tk 9 ?_;refine tk 10 ?_;refine wpAnyH_done (by kernel_rfl) ?_ _;go_wp2_with fail
 all_goals
  exact bodyPost_ret (v:=.tuple #[v,u,.int .i64 0]) (by simp [results,Tryz.results149,go_sem]) rfl ⟨v,u,rfl,bm_ (cp2_ hown3b hB4) (by omega),bm_ hown4 (by omega),hB2.trans ((hB3.trans (hB4.mono hB3s)).mono hB2s)⟩
theorem nD_ (xs:List ae_) (a:Option Addr) (n c:Nat) (limit:Int) (w:World) (hn:xs.length = n) (hm:n≤maxLen) (hp:ai_ w a xs) (he:ef_ xs limit≠0) :
 Calls Tryz.prog 149 #[.slice a n c,.int .i64 limit] w fun e w'=>e = .returned (.tuple #[.slice none 0 0,.slice none 0 0,.int .i64 (ef_ xs limit)])∧Below w.heap.size w w':=by
 have HP:Hid (ai_ w a xs):=hp;have HN:Hid (xs.length = n):=hn;have HM:Hid (n≤maxLen):=hm;cases hl:at_ xs with
 | false =>
   have e1:ef_ xs limit = 1:=by unfold ef_;rw [hl];rfl
   have HL:Hid (bw_ xs = 1):=by show bw_ xs = 1;unfold bw_;rw [hl];rfl
   rw [e1];clear hp hn hm he hl e1;go_enter Tryz.func149,Tryz.ntmps149;go_wp2_with fail
   refine (bu_ xs _ _ _ _ HN.out HM.out HP.out).mono ?_;rintro e w2 ⟨rfl,hB2⟩;rw [HL.out];go_wp2_with fail
   exact bodyPost_ret (v:=.tuple #[.slice none 0 0,.slice none 0 0,.int .i64 1]) (by simp [results,Tryz.results149,go_sem]) rfl ⟨rfl,hB2⟩
 | true =>
   have h0:limit < 0:=by
    rcases Int.lt_or_le limit 0 with h | h
    ·exact h
    ·exfalso;apply he;unfold ef_;rw [if_pos hl,if_neg (by omega)]
   have e1:ef_ xs limit = 3:=by unfold ef_;rw [if_pos hl,if_pos h0]
   have HL:Hid (bw_ xs = 0):=by show bw_ xs = 0;unfold bw_;rw [if_pos hl]
   rw [e1];clear hp hn hm he hl e1;go_enter Tryz.func149,Tryz.ntmps149;go_wp2_with fail
   refine (bu_ xs _ _ _ _ HN.out HM.out HP.out).mono ?_;rintro e w2 ⟨rfl,hB2⟩;rw [HL.out];go_wp2_with fail
   exact bodyPost_ret (v:=.tuple #[.slice none 0 0,.slice none 0 0,.int .i64 3]) (by simp [results,Tryz.results149,go_sem]) rfl ⟨rfl,hB2⟩
theorem nC_ (xs:List ae_) (a:Option Addr) (n c:Nat) (limit:Int) (w:World) (hn:xs.length = n) (hnc:n≤c) (hcm:c≤maxLen) (hz:a = none→c = 0) (hp:ai_ w a xs) (h1:limit≤9223372036854775807) :
 Calls Tryz.prog 149 #[.slice a n c,.int .i64 limit] w fun e w'=>∃ v u m1 m2,e = .returned (.tuple #[v,u,.int .i64 (ef_ xs limit)])∧w'.ownsRow w.heap.size 48 5 v m1 (al_ (mA_ xs limit))∧w'.ownsRow w.heap.size 48 5 u m2 (al_ (hH_ xs limit))∧Below w.heap.size w w':=by
 by_cases he:ef_ xs limit = 0
 ·have hl:at_ xs = true:=by
   cases hl:at_ xs with
   | true=>rfl
   | false=>unfold ef_ at he;rw [hl] at he;simp at he
  have h0:0≤limit:=by
   rcases Int.lt_or_le limit 0 with h | h
   ·unfold ef_ at he;rw [if_pos hl,if_pos h] at he;cases he
   ·exact h
  refine (op_ xs a n c _ limit w hn hnc hcm hz hp hl h0 h1 rfl).mono ?_;rintro e w' ⟨v,u,rfl,o1,o2,hB⟩;exact ⟨v,u,_,_,by rw [he],by unfold mA_;rw [if_pos he,hn];exact o1,by unfold hH_;rw [if_pos he,hn];exact o2,hB⟩
 ·refine (nD_ xs a n c limit w hn (Nat.le_trans hnc hcm) hp he).mono ?_;rintro e w' ⟨rfl,hB⟩;exact ⟨_,_,0,0,rfl,by unfold mA_;rw [if_neg he];exact World.ownsRow_nil _ _ _ _,by unfold hH_;rw [if_neg he];exact World.ownsRow_nil _ _ _ _,hB⟩
end Go.Proofs.YtlbnkpicnokgoaaGreat
namespace Go.Proofs.YtlbnkpicnokgoaaGreat
set_option linter.unusedVariables false
set_option maxRecDepth 100000
def bO_ (ps ks:List ByteArray):Bool:=laidL (ps.map (fun x=>x.data.toList)) (ks.map (fun x=>x.data.toList))
theorem cC_ (ks:List ByteArray):bO_ [] ks = ks.isEmpty:=by simp [bO_,laidL]
theorem b3_ {x:ByteArray} (h:x.data.toList = [35]) (ps ks:List ByteArray):bO_ (x :: ps) ks = (List.range (ks.length+1)).any (fun n=>bO_ ps (ks.drop n)):=by
 simp [bO_,laidL,h,List.map_drop]
theorem cq_ {x:ByteArray} (h:x.data.toList≠[35]) (ps:List ByteArray):bO_ (x :: ps) [] = false:=by
 simp [bO_,laidL,h]
theorem bP_ {x:ByteArray} (h:x.data.toList≠[35]) (ps:List ByteArray) (y:ByteArray) (ks:List ByteArray) :
 bO_ (x :: ps) (y :: ks) = ((x.data.toList == [42] || x.data.toList == y.data.toList) && bO_ ps ks):=by
 simp [bO_,laidL,h]
theorem ig_ {x:ByteArray} (h:x.data.toList = [35]) {ps ks:List ByteArray} {k:Nat} (hk:k≤ks.length) (hl:bO_ ps (ks.drop k) = true):bO_ (x :: ps) ks = true:=by
 rw [b3_ h,List.any_eq_true];exact ⟨k,by simp;omega,hl⟩
theorem lD_ {x:ByteArray} (h:x.data.toList = [35]) {ps ks:List ByteArray} (hl:∀ j,j < ks.length+1→bO_ ps (ks.drop j) = false):bO_ (x :: ps) ks = false:=by
 rw [b3_ h,List.any_eq_false];intro j hj;simp at hj;simp [hl j (by omega)]
theorem bt_ {x:ByteArray} (h:x.data.toList = [35]):∀ (ps ks:List ByteArray),bO_ (ps ++ [x]) ks = (List.range (ks.length+1)).any (fun n=>bO_ ps (ks.take n))
 | [], ks => by
   rw [List.nil_append,b3_ h,Bool.eq_iff_iff,List.any_eq_true,List.any_eq_true];constructor
   ·intro _;exact ⟨0,by simp,by simp [cC_]⟩
   ·intro _;exact ⟨ks.length,by simp,by simp [cC_]⟩
 | p :: ps, ks => by
   by_cases hp:p.data.toList = [35]
   ·rw [List.cons_append,b3_ hp,Bool.eq_iff_iff,List.any_eq_true,List.any_eq_true];constructor
    ·rintro ⟨n,hn,hl⟩;rw [bt_ h,List.any_eq_true] at hl;obtain ⟨m,hm,hl⟩:=hl;simp at hn hm;refine ⟨n+m,by simp;omega,?_⟩;refine ig_ hp (k:=n) (by simp;omega) ?_;rw [List.drop_take,show n+m - n = m from by omega];exact hl
    ·rintro ⟨n,hn,hl⟩;rw [b3_ hp,List.any_eq_true] at hl;obtain ⟨m,hm,hl⟩:=hl;simp at hn hm;refine ⟨m,by simp;omega,?_⟩;rw [bt_ h,List.any_eq_true];refine ⟨n - m,by simp;omega,?_⟩;rw [List.drop_take] at hl;exact hl
   ·cases ks with
    | nil=>rw [List.cons_append,cq_ hp];simp [cq_ hp]
    | cons k ks =>
      rw [List.cons_append,bP_ hp,bt_ h,Bool.eq_iff_iff,Bool.and_eq_true,List.any_eq_true,List.any_eq_true];constructor
      ·rintro ⟨h1,n,hn,hl⟩;simp at hn;exact ⟨n+1,by simp;omega,by rw [List.take_succ_cons,bP_ hp,h1,hl];rfl⟩
      ·rintro ⟨n,hn,hl⟩;cases n with
       | zero=>rw [List.take_zero,cq_ hp] at hl;cases hl
       | succ n =>
         rw [List.take_succ_cons,bP_ hp,Bool.and_eq_true] at hl;simp at hn;exact ⟨hl.1,n,by simp;omega,hl.2⟩
theorem cx_ {x:ByteArray} (h:x.data.toList≠[35]):∀ (ps:List ByteArray),bO_ (ps ++ [x]) [] = false
 | []=>cq_ h []
 | p :: ps => by
   by_cases hp:p.data.toList = [35]
   ·rw [List.cons_append,b3_ hp];simp [cx_ h ps]
   ·exact cq_ hp _
theorem e5_ {x:ByteArray} (h:x.data.toList≠[35]):∀ (ps ks:List ByteArray) (y:ByteArray),
 bO_ (ps ++ [x]) (ks ++ [y]) = (bO_ ps ks && (x.data.toList == [42] || x.data.toList == y.data.toList))
 | [],[],y=>by rw [List.nil_append,List.nil_append,bP_ h,cC_];simp
 | [],k :: ks,y=>by rw [List.nil_append,List.cons_append,bP_ h,cC_,cC_];simp
 | p :: ps, ks, y => by
   by_cases hp:p.data.toList = [35]
   ·rw [List.cons_append,b3_ hp,b3_ hp,List.length_append,List.length_singleton,List.range_succ,List.any_append];have e:∀ n ∈ List.range (ks.length+1),bO_ (ps ++ [x]) ((ks ++ [y]).drop n) = (bO_ ps (ks.drop n) && (x.data.toList == [42] || x.data.toList == y.data.toList)):=by
     intro n hn;simp at hn;rw [List.drop_append_of_le_length (by omega),e5_ h]
    have e2:(ks ++ [y]).drop (ks.length+1) = []:=List.drop_eq_nil_of_le (by simp);simp only [List.any_cons,List.any_nil,e2,cx_ h,Bool.or_false];rw [Bool.eq_iff_iff,List.any_eq_true,Bool.and_eq_true,List.any_eq_true];constructor
    ·rintro ⟨n,hn,hl⟩;rw [e n hn,Bool.and_eq_true] at hl;exact ⟨⟨n,hn,hl.1⟩,hl.2⟩
    ·rintro ⟨⟨n,hn,hl⟩,h2⟩;exact ⟨n,hn,by rw [e n hn,hl,h2];rfl⟩
   ·cases ks with
    | nil =>
      rw [List.cons_append,List.nil_append,bP_ hp,cx_ h,cq_ hp];simp
    | cons k ks =>
      rw [List.cons_append,List.cons_append,bP_ hp,bP_ hp,e5_ h,Bool.and_assoc]
end Go.Proofs.YtlbnkpicnokgoaaGreat
namespace Go.Proofs.YtlbnkpicnokgoaaGreat
open Go.RowKit
set_option linter.unusedVariables false
set_option maxRecDepth 100000
set_option maxHeartbeats 2000000
def aE_ (W:World) (a:Option Addr) (xs:List ByteArray):Prop:=xs = []∨∃ g o,a = some ⟨g,o,none⟩∧a4_ W g o xs
theorem aE_.cut {W:World} {g o c n:Nat} {xs:List ByteArray} (h:a4_ W g o xs) (hc:xs.length≤c) (A:Option Addr) (hA:A = if c = n then some ⟨g,o,none⟩ else some ⟨g,o+n,none⟩):aE_ W A (xs.drop n):=by
 by_cases hn:xs.length≤n
 ·exact .inl (List.drop_eq_nil_of_le hn)
 ·refine .inr ⟨g,o+n,by rw [hA,if_neg (by omega)],fun i hi=>?_⟩;have:=h (n+i) (by simp at hi;omega);rw [Nat.add_assoc,this];simp
theorem aE_.cut2 {W:World} {a:Option Addr} {c n:Nat} {xs:List ByteArray} (h:aE_ W a xs) (hc:xs.length≤c):aE_ W (if c = n then a else Option.map (fun x=>x.add n) a) (xs.drop n):=by
 rcases h with rfl | ⟨g,o,rfl,h⟩
 ·exact .inl (by simp)
 ·exact aE_.cut h hc _ (by by_cases hn:n = 0 <;> simp [Addr.add,hn])
theorem iW_ {x:ByteArray} {l:List UInt8} (h:x.data.toList≠l):(x.toList == l) = false:=by rw [Lib.toList_data];simpa using h
theorem iV_ {x:ByteArray} {l:List UInt8} (h:x.data.toList = l):(x.toList == l) = true:=by rw [Lib.toList_data];simpa using h
theorem nf_:∀ (ps ks:List ByteArray) (a1 a2:Option Addr) (n1 n2 c1 c2:Nat) (w:World),ps.length = n1→ks.length = n2→n1≤c1→c1≤maxLen→n2≤c2→c2≤maxLen→n2≤100→aE_ w a1 ps→aE_ w a2 ks →
 Calls Tryz.prog 195 #[.slice a1 n1 c1,.slice a2 n2 c2] w fun e w'=>e = .returned (.bool (bO_ ps ks))∧∃ n,w' = w.drewN n:=by
 intro ps;induction ps with
 | nil =>
   rintro ks a1 a2 n1 n2 c1 c2 w rfl hn2 _ _ _ _ _ _ _;rw [cC_];have e:((n2:Int) == 0) = ks.isEmpty:=by cases ks <;> simp at hn2 <;> subst hn2 <;> simp;omega
   obtain ⟨b,hb⟩:∃ b,b = ks.isEmpty:=⟨_,rfl⟩
   rw [← hb] at e ⊢;clear hb;go_enter Tryz.func195,Tryz.ntmps195;go_wp2_with fail
   go_ret
   exact ⟨rfl,0,rfl⟩
 | cons x ps ih =>
   rintro ks a1 a2 n1 n2 c1 c2 w hn1 hn2 hc1 hm1 hc2 hm2 h100 h1 h2;obtain ⟨g,o,rfl,ht⟩:∃ g o,a1 = some ⟨g,o,none⟩∧a4_ w g o (x :: ps):=by
    rcases h1 with h1 | h1
    ·cases h1
    ·exact h1
   have e0:w.cell? ⟨g,o,none⟩ = some (.string x):=ht 0 (by simp);have hz:((n1:Int) == 0) = false:=beq_eq_false_iff_ne.2 (by simp at hn1;omega);have hp:(0:Int) < n1:=by simp at hn1;omega
   have hp1:(1:Int)≤n1:=by omega
   have IH:Hid (∀ (ks:List ByteArray) (a1 a2:Option Addr) (n1 n2 c1 c2:Nat) (w:World),ps.length = n1→ks.length = n2→n1≤c1→c1≤maxLen→n2≤c2→c2≤maxLen→n2≤100→aE_ w a1 ps→aE_ w a2 ks →
    Calls Tryz.prog 195 #[.slice a1 n1 c1,.slice a2 n2 c2] w fun e w'=>e = .returned (.bool (bO_ ps ks))∧∃ n,w' = w.drewN n):=ih
   have HT:Hid (a4_ w g o (x :: ps)):=ht;have HN1:Hid ((x :: ps).length = n1):=hn1;have HN2:Hid (ks.length = n2):=hn2;have H2:Hid (aE_ w a2 ks):=h2;have hm1':c1≤9223372036854775807:=by unfold maxLen at hm1;omega
   have hm2':c2≤9223372036854775807:=by unfold maxLen at hm2;omega
   have HM:Hid (c1≤maxLen∧c2≤maxLen):=⟨hm1,hm2⟩;clear ih ht hn1 hn2 h1 h2 hm1 hm2;by_cases hx:x.data.toList = [35]
   ·have hxb:(x.toList == [35]) = true:=iV_ hx;have HXX:Hid (x.data.toList = [35]):=hx;clear hx;go_enter Tryz.func195,Tryz.ntmps195;go_wp2_with fail
    go_loopw [5] (fun i wr=>∃ k m:Nat,k≤n2+1∧i = .int .i64 k∧wr = w.drewN m∧∀ j,j < k→bO_ ps (ks.drop j) = false) (fun i _=>n2+1 - (intOf i).toNat)
    case atStart=>exact ⟨0,0,Nat.zero_le _,rfl,rfl,by intro j hj;omega⟩
    case round=>
     obtain ⟨k,m,hk,rfl,hwr,ha⟩:=hrel;have HA:Hid (∀ j,j < k→bO_ ps (ks.drop j) = false):=ha;have HW:Hid (wr = w.drewN m):=hwr;clear ha hwr;by_cases hlt:k≤n2
     ·have hk0:(0:Int)≤k:=by omega
      have hk1:(k:Int)≤n2:=by omega
      obtain ⟨b,hb⟩:∃ b,b = bO_ ps (ks.drop k):=⟨_,rfl⟩
      have HBB:Hid (b = bO_ ps (ks.drop k)):=hb;have C:Hid (∀ m',Calls Tryz.prog 195 #[.slice (if c1 = 1 then some ⟨g,o,none⟩ else some ⟨g,o+1,none⟩) (n1 - 1) (c1 - 1),.slice (if c2 = k then a2 else Option.map (fun x=>x.add k) a2) (n2 - k) (c2 - k)] (wr.drewN m') (fun e w'=>e = .returned (.bool b)∧∃ n,w' = (wr.drewN m').drewN n)):=by
       intro m';have q1:=HN1.out;have q2:=HN2.out;have q3:=HM.out;simp at q1;rw [hb,HW.out];exact IH.out (ks.drop k) _ _ _ _ _ _ _ (by omega) (by simp;omega) (by omega) (by omega) (by omega) (by omega) (by omega) (aE_.cut (W:=w) (n:=1) HT.out (by simp;omega) _ rfl) (aE_.cut2 (W:=w) H2.out (by omega))
      clear hb;cases b with
      | true =>
        go_wp2_with fail
        go_quiet ((go_at_call 195;exact Calls.quiet_of (C.out _)))
        go_wp2_with fail
        all_goals
         go_ret
         exact ⟨aq_ (ig_ HXX.out (by have q2:=HN2.out;omega) HBB.out.symm).symm,_,by rw [HW.out,World.drewN_drewN]⟩
      | false =>
        go_wp2_with fail
        go_quiet ((go_at_call 195;exact Calls.quiet_of (C.out _)))
        go_wp2_with fail
        all_goals
         go_roundw
         case rel=>exact ⟨k+1,_,by omega,by go_num,by rw [HW.out,World.drewN_drewN],fun j hj=>by
          by_cases hjk:j = k
          ·rw [hjk];exact HBB.out.symm
          ·exact HA.out j (by omega)⟩
         case measure=>simp [intOf];omega
     ·go_wp2_with fail
      go_ret
      have q2:=HN2.out;exact ⟨aq_ (lD_ HXX.out (fun j hj=>HA.out j (by omega))).symm,m,HW.out⟩
   ·have hxb:(x.toList == [35]) = false:=iW_ hx;cases ks with
    | nil =>
      have hd:decide (0 < n2) = false:=by have q2:=HN2.out;simp at q2;simp;omega
      rw [cq_ hx];go_enter Tryz.func195,Tryz.ntmps195;go_wp2_with fail
      go_quiet (fail)
      go_wp2_with fail
      go_ret
      exact ⟨rfl,_,rfl⟩
    | cons y ks =>
      obtain ⟨g2,o2,rfl,ht2⟩:∃ g o,a2 = some ⟨g,o,none⟩∧a4_ w g o (y :: ks):=by
       rcases H2.out with h1 | h1
       ·cases h1
       ·exact h1
      have f0:w.cell? ⟨g2,o2,none⟩ = some (.string y):=ht2 0 (by simp);have q2:=HN2.out;have q1:=HN1.out;simp at q1 q2;have hp2:(0:Int) < n2:=by omega
      have hd:decide (0 < n2) = true:=by simp;omega
      have hp3:(1:Int)≤n2:=by omega
      rw [bP_ hx];obtain ⟨b,hb⟩:∃ b,b = bO_ ps ks:=⟨_,rfl⟩
      have C:Hid (∀ m',Calls Tryz.prog 195 #[.slice (if c1 = 1 then some ⟨g,o,none⟩ else some ⟨g,o+1,none⟩) (n1 - 1) (c1 - 1),.slice (if c2 = 1 then some ⟨g2,o2,none⟩ else some ⟨g2,o2+1,none⟩) (n2 - 1) (c2 - 1)] (w.drewN m') (fun e w'=>e = .returned (.bool b)∧∃ n,w' = (w.drewN m').drewN n)):=by
       intro m';have q3:=HM.out;rw [hb];exact IH.out ks _ _ _ _ _ _ _ (by omega) (by omega) (by omega) (by omega) (by omega) (by omega) (by omega) (aE_.cut (W:=w) (n:=1) HT.out (by simp;omega) _ rfl) (aE_.cut (W:=w) (n:=1) ht2 (by simp;omega) _ rfl)
      rw [← hb];clear hb q1 q2 hx ht2;by_cases s1:x.data.toList = [42]
      ·have s1b:(x.toList == [42]) = true:=iV_ s1;rw [show (x.data.toList == [42]) = true from by simpa using s1];clear s1;go_enter Tryz.func195,Tryz.ntmps195;go_wp2_with fail
       go_quiet ((go_at_call 195;exact Calls.quiet_of (C.out _)))
       go_wp2_with fail
       all_goals (go_ret;exact ⟨by simp,_,rfl⟩)
      ·have s1b:(x.toList == [42]) = false:=iW_ s1;by_cases s2:x.data.toList = y.data.toList
       ·have s2b:(x.toList == y.toList) = true:=by rw [Lib.toList_data,Lib.toList_data];simpa using s2
        rw [show (x.data.toList == y.data.toList) = true from by simpa using s2];clear s1 s2;go_enter Tryz.func195,Tryz.ntmps195;go_wp2_with fail
        go_quiet ((go_at_call 195;exact Calls.quiet_of (C.out _)))
        go_wp2_with fail
        all_goals (go_ret;exact ⟨by simp,_,rfl⟩)
       ·have s2b:(x.toList == y.toList) = false:=by rw [Lib.toList_data,Lib.toList_data];simpa using s2
        rw [show (x.data.toList == y.data.toList) = false from by simpa using s2,show (x.data.toList == [42]) = false from by simpa using s1];clear s1 s2;go_enter Tryz.func195,Tryz.ntmps195;go_wp2_with fail
        go_quiet ((go_at_call 195;exact Calls.quiet_of (C.out _)))
        go_wp2_with fail
        all_goals (go_ret;exact ⟨by simp,_,rfl⟩)
theorem a4_.below {W W':World} {B g o:Nat} {xs:List ByteArray} (h:a4_ W g o xs) (hB:Below B W W') (hg:g < B):a4_ W' g o xs:=
 fun i hi=>(hB.cell (p:=⟨g,o+i,none⟩) hg).trans (h i hi)
theorem a4_.lt {W:World} {g o:Nat} {xs:List ByteArray} (h:a4_ W g o xs) (hne:0 < xs.length):g < W.heap.size:=by
 have:=h 0 hne;unfold World.cell? at this;simp only at this;cases hb:W.heap[g]? with
 | none=>rw [hb] at this;cases this
 | some o=>exact (Array.getElem?_eq_some_iff.1 hb).1
theorem a4_.keep {W W':World} {g o:Nat} {xs:List ByteArray} (h:a4_ W g o xs) (hne:0 < xs.length) (hB:Below W.heap.size W W'):a4_ W' g o xs:=h.below hB (h.lt hne)
theorem en_ (w:World) (n:Nat):Below w.heap.size w (w.drewN n):=⟨rfl,rfl,rfl,Nat.le_refl _,fun _ _=>rfl⟩
theorem lr_ (p k:List UInt8):fitL p k = bO_ (wlB p) (wlB k):=by unfold fitL bO_;rw [fL_,fL_]
theorem n4_ (p k:ByteArray) (w:World) (hp:p.size≤24) (hk:k.size≤24) :
 Calls Tryz.prog 177 #[.string p,.string k] w fun e w'=>e = .returned (.bool (fitL p.data.toList k.data.toList))∧Below w.heap.size w w':=by
 have hl1:=dv_ p.data.toList;have hl2:=dv_ k.data.toList;have hl3:(wlB k.data.toList).length≤100:=by
  have:=iI_ k.data.toList;simp [wlB] at *;omega
 rw [lr_];obtain ⟨xs,hxs⟩:∃ xs,xs = wlB p.data.toList:=⟨_,rfl⟩
 obtain ⟨ys,hys⟩:∃ ys,ys = wlB k.data.toList:=⟨_,rfl⟩
 rw [← hxs] at hl1 ⊢;rw [← hys] at hl2 hl3 ⊢;have HX:Hid (xs = wlB p.data.toList):=hxs;have HY:Hid (ys = wlB k.data.toList):=hys;have h1:0 < xs.length:=by omega
 have h2:0 < ys.length:=by omega
 clear hxs hys hl1 hl2;go_enter Tryz.func177,Tryz.ntmps177;go_wp2_with fail
 refine (cs_ p xs HX.out _ hp).mono ?_;rintro e w1 ⟨g1,c1,rfl,hg1,hc1,hm1,ht1,hB1⟩;go_wp2_with fail
 refine (cs_ k ys HY.out _ hk).mono ?_;rintro e w2 ⟨g2,c2,rfl,hg2,hc2,hm2,ht2,hB2⟩;go_wp2_with fail
 refine (nf_ xs ys _ _ _ _ _ _ _ rfl rfl hc1 hm1 hc2 hm2 hl3 (.inr ⟨g1,0,rfl,ht1.keep h1 hB2⟩) (.inr ⟨g2,0,rfl,ht2⟩)).mono ?_;rintro e w3 ⟨rfl,n,rfl⟩;go_wp2_with fail
 go_ret
 exact ⟨rfl,hB1.trans ((hB2.mono hB1.size).trans ((en_ w2 n).mono (by have:=hB1.size;have:=hB2.size;omega)))⟩
theorem Tryz.info4:(Tryz.prog.info? 4).map (fun i=>(i.zero,i.size,i.bytes)) = some (some (.bool false),1,1):=by kernel_rfl
def be_ (W:World) (g off:Nat) (bs:List Bool):Prop:=∀ i (h:i < bs.length),W.cell? ⟨g,off+i,none⟩ = some (.bool bs[i])
def layN (x:ByteArray) (bs:List Bool) (ks:List ByteArray):Nat→Bool
 | 0=>if x.data.toList = [35] then bs.getD 0 false else false
 | n+1=>if x.data.toList = [35] then bs.getD (n+1) false || layN x bs ks n else bs.getD n false && (x.data.toList == [42] || x.data.toList == (ks.getD n ⟨#[]⟩).data.toList)
def layB (x:ByteArray) (bs:List Bool) (ks:List ByteArray):List Bool:=(List.range bs.length).map (layN x bs ks)
def cY_ (x:ByteArray) (bs:List Bool) (ks:List ByteArray) (k:Nat):List Value:=(List.range bs.length).map (fun i=>Value.bool (if i < k then layN x bs ks i else false))
theorem kA_ (x:ByteArray) (bs:List Bool) (ks:List ByteArray):cY_ x bs ks 0 = List.replicate bs.length (.bool false):=by
 apply List.ext_getElem <;> simp [cY_]
theorem eH_ (x:ByteArray) (bs:List Bool) (ks:List ByteArray) (k:Nat) {b:Bool} (hb:layN x bs ks k = b):(cY_ x bs ks k).set k (.bool b) = cY_ x bs ks (k+1):=by
 apply List.ext_getElem
 ·simp [cY_]
 ·intro i h1 h2;simp only [cY_,List.getElem_set,List.getElem_map,List.getElem_range];by_cases hi:k = i
  ·subst hi;simp [hb]
  ·rw [if_neg hi];by_cases h3:i < k
   ·rw [if_pos h3,if_pos (by omega)]
   ·rw [if_neg h3,if_neg (by omega)]
theorem kz_ (x:ByteArray) (bs:List Bool) (ks:List ByteArray) (k:Nat) (hb:layN x bs ks k = false):cY_ x bs ks k = cY_ x bs ks (k+1):=by
 apply List.ext_getElem
 ·simp [cY_]
 ·intro i h1 h2;simp only [cY_,List.getElem_map,List.getElem_range];by_cases hi:k = i
  ·subst hi;simp [hb]
  ·by_cases h3:i < k
   ·rw [if_pos h3,if_pos (by omega)]
   ·rw [if_neg h3,if_neg (by omega)]
theorem ii_ (x:ByteArray) (bs:List Bool) (ks:List ByteArray) (k j:Nat) (hj:j < bs.length):(cY_ x bs ks k)[j]? = some (.bool (if j < k then layN x bs ks j else false)):=by
 simp [cY_,hj]
theorem ky_ (x:ByteArray) (bs:List Bool) (ks:List ByteArray):cY_ x bs ks bs.length = (layB x bs ks).map Value.bool:=by
 apply List.ext_getElem
 ·simp [cY_,layB]
 ·intro i h1 h2;simp [cY_,layB];intro h;simp [cY_] at h1;omega
theorem e9_ (n:Nat):(madeCells (Value.bool false).cells (n * 1)).toList = List.replicate n (.bool false):=by
 apply List.ext_getElem
 ·simp [madeCells]
 ·intro i h1 h2;simp [madeCells,Value.cells,Nat.mod_one]
theorem n9_ (x:ByteArray) (bs:List Bool) (ks:List ByteArray) (g1 c1 g2 c2:Nat) (w:World) (hl:bs.length = ks.length+1) (hn:bs.length≤100) (h1:be_ w g1 0 bs) (h2:a4_ w g2 0 ks) (hg1:g1 < w.heap.size) (hg2:g2 < w.heap.size) :
 Calls Tryz.prog 201 #[.string x,.slice (some ⟨g1,0,none⟩) bs.length c1,.slice (some ⟨g2,0,none⟩) ks.length c2] w fun e w'=>
  e = .returned (.slice (some ⟨w.heap.size,0,none⟩) bs.length bs.length)∧w'.ownsRow w.heap.size 4 1 (.slice (some ⟨w.heap.size,0,none⟩) bs.length bs.length) bs.length ((layB x bs ks).map Value.bool)∧Below w.heap.size w w':=by
 obtain ⟨i0,hi,hz0,hz1,hz2⟩:=info_parts Tryz.info4;have hl1:ks.length < bs.length:=by omega
 have HL:Hid (bs.length = ks.length+1):=hl;have H1:Hid (be_ w g1 0 bs):=h1;have H2:Hid (a4_ w g2 0 ks):=h2;clear hl h1 h2;go_enter Tryz.func201,Tryz.ntmps201;go_wp2_with (at_make;refine wpList_make_full _ rfl _ _ 109 rfl w.heap.size 4 i0 (.bool false) 1 Tryz.underlying109 hi hz0 hz1 _ _ _ _ bs.length rfl rfl rfl rfl (by rw [hz2];omega) (by unfold maxLen;omega) (Nat.le_refl _) ?_;intro w1 hown1 hgrow1)
 rw [e9_,← kA_ x bs ks] at hown1;have hB1:Below w.heap.size w w1:=(Below.refl _ w).grown hgrow1 (Nat.le_refl _) (fun k e=>by cases e);go_loopw [14] (fun i wr=>∃ k:Nat,k≤bs.length∧i = .int .i64 k∧wr.ownsRow w.heap.size 4 1 (.slice (some ⟨w.heap.size,0,none⟩) bs.length bs.length) bs.length (cY_ x bs ks k)∧Below w.heap.size w wr) (fun i _=>bs.length - (intOf i).toNat)
 case atStart=>exact ⟨0,Nat.zero_le _,rfl,hown1,hB1⟩
 case round=>
  clear hown1 hgrow1 hB1;obtain ⟨k,hk,rfl,hown,hB⟩:=hrel;by_cases hlt:k < bs.length
  ·have hlt':(k:Int) < bs.length:=by omega
   have hck:wr.cell? ⟨w.heap.size,k,none⟩ = some (.bool false):=by rw [hown.cellAt k (by omega),ii_ x bs ks k k hlt];simp
   have hfk:wr.frozen? ⟨w.heap.size,k,none⟩ = false:=hown.frozenAt k;have hst:=fun b=>hown.stored k (.bool b)
   have HST:Hid (∀ b,(wr.setCell ⟨w.heap.size,k,none⟩ (.bool b)).ownsRow w.heap.size 4 1 (.slice (some ⟨w.heap.size,0,none⟩) bs.length bs.length) bs.length ((cY_ x bs ks k).set k (.bool b))):=fun b=>(hst b).1
   have HO:Hid (wr.ownsRow w.heap.size 4 1 (.slice (some ⟨w.heap.size,0,none⟩) bs.length bs.length) bs.length (cY_ x bs ks k)):=hown;by_cases hx:x.data.toList = [35]
   ·have hxb:(x.toList == [35]) = true:=iV_ hx;have hr:wr.cell? ⟨g1,k,none⟩ = some (.bool bs[k]):=(hB.cell (p:=⟨g1,k,none⟩) hg1).trans (by have:=H1.out k hlt;simpa using this);cases k with
    | zero =>
      have HF:Hid (layN x bs ks 0 = bs[0]):=by show layN x bs ks 0 = bs[0];simp [layN,hx,hlt]
      clear hst hx hown;cases hb:bs[0] with
      | true =>
        rw [hb] at hr;go_wp2_with fail
        go_roundw
        case rel=>exact ⟨1,by omega,rfl,by rw [← eH_ x bs ks 0 (HF.out.trans hb)];exact HST.out true,hB.setCell (p:=⟨w.heap.size,0,none⟩) (Nat.le_refl _) _⟩
        case measure=>simp [intOf];omega
      | false =>
        rw [hb] at hr;go_wp2_with fail
        go_roundw
        case rel=>exact ⟨1,by omega,rfl,by rw [← eH_ x bs ks 0 (HF.out.trans hb)];exact HST.out false,hB.setCell (p:=⟨w.heap.size,0,none⟩) (Nat.le_refl _) _⟩
        case measure=>simp [intOf];omega
    | succ j =>
      have HF:Hid (layN x bs ks (j+1) = (bs[j+1] || layN x bs ks j)):=by show layN x bs ks (j+1) = (bs[j+1] || layN x bs ks j);simp [layN,hx,hlt]
      have hcj:wr.cell? ⟨w.heap.size,j,none⟩ = some (.bool (layN x bs ks j)):=by rw [hown.cellAt j (by omega),ii_ x bs ks (j+1) j (by omega)];simp
      obtain ⟨a,ha⟩:∃ a,a = layN x bs ks j:=⟨_,rfl⟩
      obtain ⟨b,hb⟩:∃ b,b = bs[j+1]:=⟨_,rfl⟩
      have HF2:Hid (layN x bs ks (j+1) = (b || a)):=by rw [ha,hb];exact HF.out
      rw [← ha] at hcj;rw [← hb] at hr;have hj1:(0:Int) < (j:Int)+1:=by omega
      have hj2:(j:Int) < bs.length:=by omega
      clear hst hx hown ha hb HF;cases b <;> cases a
      all_goals
       go_wp2_with fail
       go_roundw
       case rel=>exact ⟨j+2,by omega,by go_num,by rw [← eH_ x bs ks (j+1) HF2.out];exact HST.out _,hB.setCell (p:=⟨w.heap.size,j+1,none⟩) (Nat.le_refl _) _⟩
       case measure=>simp [intOf];omega
   ·have hxb:(x.toList == [35]) = false:=iW_ hx;cases k with
    | zero =>
      have HF:Hid (layN x bs ks 0 = false):=by show layN x bs ks 0 = false;simp [layN,hx]
      clear hst hx hown;go_wp2_with fail
      go_roundw
      case rel=>exact ⟨1,by omega,rfl,by rw [← kz_ x bs ks 0 HF.out];exact HO.out,hB⟩
      case measure=>simp [intOf];omega
    | succ j =>
      have hr:wr.cell? ⟨g1,j,none⟩ = some (.bool bs[j]):=(hB.cell (p:=⟨g1,j,none⟩) hg1).trans (by have:=H1.out j (by omega);simpa using this);have hjk:j < ks.length:=by have:=HL.out;omega
      have hk:wr.cell? ⟨g2,j,none⟩ = some (.string ks[j]):=(hB.cell (p:=⟨g2,j,none⟩) hg2).trans (by have:=H2.out j hjk;simpa using this);have HF:Hid (layN x bs ks (j+1) = (bs[j] && (x.data.toList == [42] || x.data.toList == ks[j].data.toList))):=by
       show layN x bs ks (j+1) = _;simp [layN,hx,hjk,show j < bs.length from by omega]
      obtain ⟨y,hy⟩:∃ y,y = ks[j]:=⟨_,rfl⟩
      obtain ⟨b,hb⟩:∃ b,b = bs[j]:=⟨_,rfl⟩
      have HF2:Hid (layN x bs ks (j+1) = (b && (x.data.toList == [42] || x.data.toList == y.data.toList))):=by rw [hb,hy];exact HF.out
      rw [← hy] at hk;rw [← hb] at hr;have hj1:(0:Int) < (j:Int)+1:=by omega
      have hj2:(j:Int) < bs.length:=by omega
      have hj3:(j:Int) < ks.length:=by omega
      obtain ⟨s1,hs1⟩:∃ s1,(x.toList == [42]) = s1:=⟨_,rfl⟩
      obtain ⟨s2,hs2⟩:∃ s2,(x.toList == y.toList) = s2:=⟨_,rfl⟩
      have HF3:Hid (layN x bs ks (j+1) = (b && (s1 || s2))):=by
       show layN x bs ks (j+1) = (b && (s1 || s2));rw [HF2.out,← hs1,← hs2,Lib.toList_data,Lib.toList_data]
      clear hst hx hown hb hy HF HF2 hjk;cases b <;> cases s1 <;> cases s2
      all_goals
       go_wp2_with fail
       go_roundw
       case rel=>exact ⟨j+2,by omega,by go_num,by rw [← eH_ x bs ks (j+1) HF3.out];exact HST.out _,hB.setCell (p:=⟨w.heap.size,j+1,none⟩) (Nat.le_refl _) _⟩
       case measure=>simp [intOf];omega
  ·have hkn:k = bs.length:=by omega
   have HK:Hid (k = bs.length):=hkn;clear hkn;go_wp2_with fail
   go_ret
   exact ⟨rfl,by rw [← ky_];have h:=hown;rwa [show cY_ x bs ks k = cY_ x bs ks bs.length from congrArg (cY_ x bs ks) HK.out] at h,hB⟩
end Go.Proofs.YtlbnkpicnokgoaaGreat
namespace Go.Proofs.YtlbnkpicnokgoaaGreat
set_option linter.unusedVariables false
set_option maxRecDepth 100000
def bT_ (xs pre:List ByteArray):List Bool:=(List.range (xs.length+1)).map (fun n=>bO_ pre (xs.take n))
theorem dt_ (xs pre:List ByteArray):(bT_ xs pre).length = xs.length+1:=by simp [bT_]
theorem ff_ (xs pre:List ByteArray) (n:Nat) (h:n≤xs.length):(bT_ xs pre).getD n false = bO_ pre (xs.take n):=by
 have:n < xs.length+1:=by omega
 simp [bT_,List.getD,this]
theorem iy_ (xs:List ByteArray):bT_ xs [] = true :: List.replicate xs.length false:=by
 apply List.ext_getElem
 ·simp [bT_]
 ·intro i h1 h2;cases i with
  | zero=>simp [bT_,cC_]
  | succ i =>
    have h:i < xs.length:=by simpa [bT_] using h1
    simp [bT_,cC_];intro e;simp [e] at h
theorem kx_ (xs pre:List ByteArray) (x:ByteArray):∀ n,n≤xs.length→layN x (bT_ xs pre) xs n = bO_ (pre ++ [x]) (xs.take n):=by
 intro n;induction n with
 | zero =>
   intro _;by_cases hx:x.data.toList = [35]
   ·rw [layN,if_pos hx,ff_ _ _ 0 (Nat.zero_le _),bt_ hx];simp
   ·rw [layN,if_neg hx,List.take_zero,cx_ hx]
 | succ n ih =>
   intro hn;by_cases hx:x.data.toList = [35]
   ·rw [layN,if_pos hx,ff_ _ _ _ hn,ih (by omega),bt_ hx,bt_ hx];have e1:(xs.take (n+1)).length = n+1:=by simp;omega
    have e2:(xs.take n).length = n:=by simp;omega
    rw [e1,e2,List.range_succ (n:=n+1),List.any_append,Bool.or_comm];congr 1
    ·rw [Bool.eq_iff_iff,List.any_eq_true,List.any_eq_true];constructor
     ·rintro ⟨j,hj,h⟩;simp at hj;exact ⟨j,by simp;omega,by rw [List.take_take,Nat.min_eq_left (by omega)] at *;exact h⟩
     ·rintro ⟨j,hj,h⟩;simp at hj;exact ⟨j,by simp;omega,by rw [List.take_take,Nat.min_eq_left (by omega)] at *;exact h⟩
    ·simp [List.take_take]
   ·rw [layN,if_neg hx,ff_ _ _ n (by omega),List.take_succ_eq_append_getElem (show n < xs.length from by omega),e5_ hx];have:xs.getD n ⟨#[]⟩ = xs[n]:=by simp [List.getD,show n < xs.length from by omega]
    rw [this]
theorem kw_ (xs pre:List ByteArray) (x:ByteArray):layB x (bT_ xs pre) xs = bT_ xs (pre ++ [x]):=by
 apply List.ext_getElem
 ·simp [layB,bT_]
 ·intro i h1 h2;have h:i≤xs.length:=by simp [layB,bT_] at h1;omega
  simp only [layB,List.getElem_map,List.getElem_range];rw [kx_ xs pre x i h];simp [bT_]
theorem jo_ (xs pre:List ByteArray):(bT_ xs pre)[xs.length]'(by simp [bT_]) = bO_ pre xs:=by simp [bT_]
end Go.Proofs.YtlbnkpicnokgoaaGreat
namespace Go.Proofs.YtlbnkpicnokgoaaGreat
open Go.RowKit Go.Shelf
set_option linter.unusedVariables false
set_option maxRecDepth 100000
set_option maxHeartbeats 2000000
attribute [local go_sem] Oper.semAt_some
theorem ik_ {F:Fence} {n:Nat} {P:Program} (w:World) {ops:Array Oper} {rest:List Oper} {o:Oper} {a:Act} {Q:Exit→Act→World→Prop}
 (hg:o.guard = none) (l c:Operand) (t:TypeId) (hop:o.op = Op.makeSlice t l c)
 (base:Nat) (e:TypeId) (i:TypeInfo) (z:Value) (size:Nat) (h1:P.underlying t = some (.slice e)) (h2:P.info? e = some i) (h3:i.zero = some z) (h4:i.size = size)
 (kl kc:IntKind) (L C:Int) (m:Nat) (hl:a.eval l = .int kl L) (hc:a.eval c = .int kc C) (hL:L = (m:Int)) (hC:C = (m:Int)) (b2:i.bytes * m≤281474976710656) (b3:m≤maxLen) (b4:base≤w.heap.size)
 (hK:∀ w',w'.ownsRow base e size (.slice (some ⟨w.heap.size,0,none⟩) m m) m (madeCells z.cells (m * size)).toList→w.grownBy w' none→wpListIn F n P ops Q rest (a.put o.dst (.slice (some ⟨w.heap.size,0,none⟩) m m)) w') :
 wpListIn F n P ops Q (o :: rest) a w:=by
 subst hL hC;obtain ⟨w',hrun,r1,r2⟩:=run_make_full (P:=P) w base t e i z size h1 h2 h3 h4 kl kc m b2 b3 b4;refine wpListIn_plain hg fun K hK'=>⟨by simp [Oper.about,hop],?_⟩
 rw [Oper.semAt_plain F _ _ (by rw [hop];intro c hc';cases hc')];simp [execOp,hop,hl,hc,hrun,Result.andThen];exact hK' _ _ (hK w' r1 r2)
theorem i8_ {W W':World} (h:Below W.heap.size W W'):KeepsOthers W W':=
 ⟨h.size,fun k _ hk _=>(h.block k (Array.getElem?_eq_some_iff.1 hk).1).trans hk⟩
theorem lL_ {w:World} {base g n:Nat} (h:w.ownsRow base 4 1 (.slice (some ⟨g,0,none⟩) (n+1) (n+1)) (n+1) (List.replicate (n+1) (.bool false))):∀ o,(w.alloc o).cell? ⟨g,0,none⟩ = some (.bool false):=by
 intro o;rw [(h.alloc o).cellAt 0 (by omega)];simp
theorem lM_ {w:World} {base g n:Nat} (h:w.ownsRow base 4 1 (.slice (some ⟨g,0,none⟩) (n+1) (n+1)) (n+1) (List.replicate (n+1) (.bool false))):∀ o,(w.alloc o).frozen? ⟨g,0,none⟩ = false:=by
 intro o;exact (h.alloc o).frozenAt 0
theorem e1_ {W:World} {b o b' o':Nat} {v:Value} (h:b≠b'):(W.setCell ⟨b,o,none⟩ v).cell? ⟨b',o',none⟩ = W.cell? ⟨b',o',none⟩:=
 World.cell?_setCell_other _ _ _ _ (by intro e;cases e;exact h rfl)
theorem f0_ {W:World} {base g cap:Nat} {bs:List Bool} (h:W.ownsRow base 4 1 (.slice (some ⟨g,0,none⟩) bs.length cap) bs.length (bs.map Value.bool)):be_ W g 0 bs:=by
 intro i hi;rw [Nat.zero_add,h.cellAt i (by omega)];simp [hi]
theorem oD_ (x:ByteArray) (bs:List Bool) (ks:List ByteArray) (g1 c1 g2 c2 n:Nat) (w:World) (hn:bs.length = n) (hl:n = ks.length+1) (h100:n≤100) (h1:be_ w g1 0 bs) (h2:a4_ w g2 0 ks) (hg1:g1 < w.heap.size) (hg2:g2 < w.heap.size) :
 Calls Tryz.prog 201 #[.string x,.slice (some ⟨g1,0,none⟩) n c1,.slice (some ⟨g2,0,none⟩) ks.length c2] w fun e w'=>
  e = .returned (.slice (some ⟨w.heap.size,0,none⟩) n n)∧(be_ w' w.heap.size 0 (layB x bs ks)∧w.heap.size < w'.heap.size)∧Below w.heap.size w w':=by
 subst hn;refine (n9_ x bs ks g1 c1 g2 c2 w hl h100 h1 h2 hg1 hg2).mono ?_;rintro e w' ⟨rfl,hown,hB⟩;have hlt:w.heap.size < w'.heap.size:=by
  rcases hown.2 with ⟨h,_⟩ | ⟨g,cap,cur,h,_,hh,_⟩
  ·cases h
  ·cases h;exact (Array.getElem?_eq_some_iff.1 hh).1
 refine ⟨rfl,⟨f0_ (base:=w.heap.size) (cap:=bs.length) ?_,hlt⟩,hB⟩;rw [show (layB x bs ks).length = bs.length from by simp [layB]];exact hown
theorem je_ {w2 w3:World} {xs:List ByteArray} {gk ck:Nat} {pv:Value}
 (hown:w3.ownsRow w2.heap.size 4 1 (.slice (some ⟨w2.heap.size+1,0,none⟩) (xs.length+1) (xs.length+1)) (xs.length+1) (List.replicate (xs.length+1) (.bool false)))
 (hgrow:(w2.alloc (.cells #[.slice (some ⟨gk,0,none⟩) xs.length ck] 36)).grownBy w3 none) (ht:a4_ w2 gk 0 xs) (hne:0 < xs.length) :
 let W0:=(((w3.alloc (.cells #[.slice (some ⟨w2.heap.size+1,0,none⟩) (xs.length+1) (xs.length+1)] 109)).setCell ⟨w2.heap.size+1,0,none⟩ (.bool true)).alloc (.cells #[pv] 9))
 W0.cell? ⟨w3.heap.size,0,none⟩ = some (.slice (some ⟨w2.heap.size+1,0,none⟩) (xs.length+1) (xs.length+1))∧W0.frozen? ⟨w3.heap.size,0,none⟩ = false∧be_ W0 (w2.heap.size+1) 0 (bT_ xs []) ∧
  W0.cell? ⟨w2.heap.size,0,none⟩ = some (.slice (some ⟨gk,0,none⟩) xs.length ck)∧a4_ W0 gk 0 xs∧Below w2.heap.size w2 W0:=by
 intro W0;have hz:=hgrow.size;simp only [World.size_alloc] at hz;have hlt:w2.heap.size+1 < w3.heap.size:=by
  rcases hown.2 with ⟨h,_⟩ | ⟨g,cap,cur,h,_,hh,_⟩
  ·cases h
  ·cases h;exact (Array.getElem?_eq_some_iff.1 hh).1
 have b3:Boxed (w3.alloc (.cells #[.slice (some ⟨w2.heap.size+1,0,none⟩) (xs.length+1) (xs.length+1)] 109)) w3.heap.size 109 (.slice (some ⟨w2.heap.size+1,0,none⟩) (xs.length+1) (xs.length+1)):=Boxed.new w3 _ _;have b3':Boxed W0 w3.heap.size 109 (.slice (some ⟨w2.heap.size+1,0,none⟩) (xs.length+1) (xs.length+1)):=(b3.kept (grownBy_setCell' _ (w2.heap.size+1) (.bool true)) (by simp;omega)).alloc _;have b1:Boxed W0 w2.heap.size 36 (.slice (some ⟨gk,0,none⟩) xs.length ck):=((((Boxed.new w2 36 _).kept hgrow (by simp)).alloc _).kept (grownBy_setCell' _ (w2.heap.size+1) (.bool true)) (by simp)).alloc _;have hB:Below w2.heap.size w2 W0:=((((((Below.refl _ w2).alloc (Nat.le_refl _) _).grown hgrow (by simp) (fun k e=>by cases e)).alloc (by omega) _).setCell (p:=⟨w2.heap.size+1,0,none⟩) (by simp) _).alloc (by simp;omega) _);refine ⟨b3'.cell,b3'.frozen,?_,b1.cell,ht.keep hne hB,hB⟩
 have hst:=(((hown.alloc (.cells #[.slice (some ⟨w2.heap.size+1,0,none⟩) (xs.length+1) (xs.length+1)] 109)).stored 0 (.bool true)).1).alloc (.cells #[pv] 9);have e:(List.replicate (xs.length+1) (Value.bool false)).set 0 (.bool true) = (bT_ xs []).map Value.bool:=by
  rw [iy_];simp [List.replicate_succ]
 rw [e] at hst;have hl:=dt_ xs [];refine f0_ (base:=w2.heap.size) (cap:=xs.length+1) ?_;rw [hl];exact hst
theorem kJ_ (p k:ByteArray) (w:World) (h1:perr p.data.toList≠0) :
 Calls Tryz.prog 181 #[.string p,.string k] w fun e w'=>e = .returned (.tuple #[.bool (mis p.data.toList k.data.toList),.int .i64 (merr p.data.toList k.data.toList)])∧Below w.heap.size w w':=by
 rw [show mis p.data.toList k.data.toList = false from by simp [mis,merr,h1],show merr p.data.toList k.data.toList = perr p.data.toList from by simp [merr,h1]];have h':(perr p.data.toList != 0) = true:=bne_iff_ne.2 h1;obtain ⟨c,hc⟩:∃ c,c = perr p.data.toList:=⟨_,rfl⟩
 have HC:Hid (c = perr p.data.toList):=hc;rw [← hc] at h' ⊢;clear hc h1;go_enter Tryz.func181,Tryz.ntmps181;go_wp2_with (go_at_call 132;refine (cV_ _ _).mono ?_;rintro e w1 ⟨rfl,hB1⟩;rw [← HC.out])
 go_ret2
 exact ⟨rfl,hB1⟩
theorem kI_ (p k:ByteArray) (w:World) (h1:perr p.data.toList = 0) (h2:kerr k.data.toList≠0) :
 Calls Tryz.prog 181 #[.string p,.string k] w fun e w'=>e = .returned (.tuple #[.bool (mis p.data.toList k.data.toList),.int .i64 (merr p.data.toList k.data.toList)])∧Below w.heap.size w w':=by
 rw [show mis p.data.toList k.data.toList = false from by simp [mis,merr,h1,h2],show merr p.data.toList k.data.toList = kerr k.data.toList from by simp [merr,h1]];have h':(kerr k.data.toList != 0) = true:=bne_iff_ne.2 h2;have HS:=ed_ k;obtain ⟨c,hc⟩:∃ c,c = kerr k.data.toList:=⟨_,rfl⟩
 have HC:Hid (∀ w,Calls Tryz.prog 164 #[.string k] w fun e w'=>e = .returned (.tuple #[.slice none 0 0,.int .i64 c])∧Below w.heap.size w w'):=fun w=>by rw [hc];exact HS w h2
 rw [← hc] at h' ⊢;have H1:Hid (perr p.data.toList = 0):=h1;clear hc h1 h2 HS;go_enter Tryz.func181,Tryz.ntmps181;go_wp2_with (first
  | (go_at_call 132;refine (cV_ _ _).mono ?_;rintro e w1 ⟨rfl,hB1⟩;rw [H1.out])
  | (go_at_call 164;refine (HC.out _).mono ?_;rintro e w2 ⟨rfl,hB2⟩))
 go_ret2
 have:=hB1.size;have:=hB2.size;exact ⟨rfl,(hB1.trans (hB2.mono hB1.size)).alloc (by omega) _⟩
theorem ni_ (p k:ByteArray) (w:World) (h1:perr p.data.toList = 0) (h2:kerr k.data.toList = 0) :
 CallsIn Fence.wide 5 Tryz.prog 181 #[.string p,.string k] w fun e w'=>e = .returned (.tuple #[.bool (fitL p.data.toList k.data.toList),.int .i64 0])∧Below w.heap.size w w':=by
 obtain ⟨p24,_⟩:=dk_ h1;obtain ⟨k24,k6⟩:=dk_ h2
 have hm : p.size ≤ maxLen := by have : p.size ≤ 24 := by simpa using p24
                                 unfold maxLen;omega
 have hn6:(wlB k.data.toList).length≤6:=by rw [dv_];omega
 have hn1:1≤(wlB k.data.toList).length:=by rw [dv_];omega
 rw [lr_];obtain ⟨xs,hxs⟩:∃ xs,xs = wlB k.data.toList:=⟨_,rfl⟩
 rw [← hxs] at hn6 hn1 ⊢;have HX:Hid (xs = wlB k.data.toList):=hxs;have H1:Hid (perr p.data.toList = 0):=h1;have H2:Hid (kerr k.data.toList = 0):=h2;clear h1 h2 hxs p24 k24 k6;obtain ⟨i0,hi,hz0,hz1,hz2⟩:=info_parts Tryz.info4;refine callsIn_of_wp_marks Tryz.func181 rfl trivial ?_ rfl;simp only [Tryz.ntmps181,List.size_toArray,List.length_cons,List.length_nil,Nat.reduceAdd,Nat.reduceSub,Array.replicate_succ,Array.replicate_zero,List.push_toArray,List.append_toArray,List.nil_append,List.cons_append];gi_wp2_with (first
  | (refine ⟨trivial,?_⟩;gi_at_call 132;refine (callsIn_wide.2 (cV_ _ _)).mono ?_;rintro e w1 ⟨rfl,hB1⟩;rw [H1.out])
  | (refine ⟨trivial,?_⟩;gi_at_call 164;refine (callsIn_wide.2 (eR_ k xs HX.out _ H2.out)).mono ?_;rintro e w2 ⟨gk,ck,rfl,hgk,hck,hmk,htk,hB2⟩)
  | (gi_at_make;refine ik_ _ rfl _ _ 109 rfl w2.heap.size 4 i0 (.bool false) 1 Tryz.underlying109 hi hz0 hz1 _ _ _ _ (xs.length+1) rfl rfl (by go_num) (by go_num) (by rw [hz2];omega) (by unfold maxLen;omega) (by simp) ?_;intro w3 hown3 hgrow3;simp only [World.size_alloc,e9_] at hown3;have hc3:=lL_ hown3;have hf3:=lM_ hown3;have hz3:=hgrow3.size;simp only [World.size_alloc] at hz3)
  | (refine ⟨trivial,?_⟩;gi_at_call 179;refine (hn_ _ _ _).mono ?_;rintro e w' ⟨rfl,rfl⟩))
 have hs1:=hB1.size;have hs2:=hB2.size;have hBw2:Below w.heap.size w w2:=hB1.trans (hB2.mono hs1);have hgk2:gk < w2.heap.size:=htk.lt (by omega);obtain ⟨f1,f2,f3,f4,f5,f6⟩:=je_ hown3 hgrow3 htk (by omega);obtain ⟨W0,hW0⟩:∃ W0,(((w3.alloc (.cells #[.slice (some ⟨w2.heap.size+1,0,none⟩) (xs.length+1) (xs.length+1)] 109)).setCell ⟨w2.heap.size+1,0,none⟩ (.bool true)).alloc (.cells #[.string p] 9)) = W0:=⟨_,rfl⟩
 rw [hW0] at f1 f2 f3 f4 f5 f6 ⊢;have hW0s:W0.heap.size = w3.heap.size+1+1:=by rw [← hW0];simp
 have f7:W0.cell? ⟨w3.heap.size+1,0,none⟩ = some (.string p):=by
  rw [← hW0];have:=(cn_ ((w3.alloc (.cells #[.slice (some ⟨w2.heap.size+1,0,none⟩) (xs.length+1) (xs.length+1)] 109)).setCell ⟨w2.heap.size+1,0,none⟩ (.bool true)) (.string p) 9).1;simpa using this
 have hBW:Below w.heap.size w W0:=hBw2.trans (f6.mono (by omega));clear hW0 hown3 hgrow3 hc3 hf3 hB1 hB2 htk f6;refine wpIn_rangeFunc_ownG rfl (by omega) (gf:=199) (lb:=#[.pointer (some ⟨w3.heap.size+1,0,none⟩)]) rfl trivial (enters_of Tryz.func199 (by kernel_rfl) rfl)
  (d5_ 4 (by omega) (w3.heap.size+1) p hm _ (by omega) f7) (fun _ _=>trivial) (fun _ _ _ _ _ _ _ _=>trivial) (Below.refl _ _) (fun _=>rfl)
  (fun pre W=>((∃ g c,W.cell? ⟨w3.heap.size,0,none⟩ = some (.slice (some ⟨g,0,none⟩) (xs.length+1) c)∧W.frozen? ⟨w3.heap.size,0,none⟩ = false∧be_ W g 0 (bT_ xs (List.map (fun x:WB=>x.1) pre))∧g < W.heap.size) ∧
   W.cell? ⟨w2.heap.size,0,none⟩ = some (.slice (some ⟨gk,0,none⟩) xs.length ck)∧a4_ W gk 0 xs∧W0.heap.size≤W.heap.size)∧Below w.heap.size w W)
  (fun _ _ _=>False)
  (OwnFrom.and (Own.from (by
   rintro s A B row ⟨⟨g,c,h1,h2,h3,h4⟩,h5,h6,h7⟩ hg hr;exact ⟨⟨g,c,cell_kept h1 hg hr,(frozen_kept h1 hg hr).trans h2,fun i hi=>cell_kept (h3 i hi) hg hr,Nat.lt_of_lt_of_le h4 hg.size⟩,cell_kept h5 hg hr,fun i hi=>cell_kept (h6 i hi) hg hr,Nat.le_trans h7 hg.size⟩) _) (ownFrom_below (Nat.le_refl _) (by omega)))
  (fun _ _ _ _ _ hs _ _=>hs)
  ⟨⟨⟨w2.heap.size+1,xs.length+1,f1,f2,f3,by omega⟩,f4,f5,Nat.le_refl _⟩,hBW⟩
  (fun x=>{ tmps:=#[.string p,.string k,undef,undef,.bool false,.int .i64 0,.int .i64 0,.pointer (some ⟨w2.heap.size,0,none⟩),.int .i64 0,.pointer (some ⟨w3.heap.size,0,none⟩),.string x.1,.string p,.int .i64 0,.int .i64 0,.bool false,undef,
   .tuple #[.slice (some ⟨gk,0,none⟩) xs.length ck,.int .i64 0],.string k,.tuple #[.slice (some ⟨gk,0,none⟩) xs.length ck,.int .i64 0],.slice (some ⟨gk,0,none⟩) xs.length ck,.int .i64 0,.int .i64 0,.bool false,undef,.slice (some ⟨gk,0,none⟩) xs.length ck,.int .i64 xs.length,.int .i64 (xs.length+1),
   .slice (some ⟨w2.heap.size+1,0,none⟩) (xs.length+1) (xs.length+1),.slice (some ⟨w2.heap.size+1,0,none⟩) (xs.length+1) (xs.length+1),.pointer (some ⟨w2.heap.size+1,0,none⟩),.string p,.func (.func 199) #[] #[.pointer (some ⟨w3.heap.size+1,0,none⟩)],.string x.1,undef,undef,undef,undef,undef,undef,undef,undef,undef],defers:=[] }) ?assign ?body ?done ?stop
 case assign=>
  intro l x W K hK;gi_wp2
  exact hK
 case body=>
  rintro l pre x W ⟨⟨⟨g,c,h1,h2,h3,h4⟩,h5,h6,h7⟩,hB⟩ _;have HL:=oD_ x.1 (bT_ xs (List.map (fun x:WB=>x.1) pre)) xs g c gk ck (xs.length+1) W (dt_ _ _) rfl (by omega) h3 h6 h4 (by omega);rw [kw_] at HL;have hq:w3.heap.size < W.heap.size:=by omega
  have hq0:w.heap.size≤W.heap.size:=hB.size;have H6:Hid (a4_ W gk 0 xs):=h6;clear h3 h6;gi_wp2_with (refine ⟨trivial,?_⟩;gi_at_call 201;refine (CallsIn.inRound l (callsIn_wide.2 HL)).mono ?_;rintro e W1 ⟨rfl,⟨hb1,hb2⟩,hBx⟩;have hq1:=(hBx.cell (p:=⟨w3.heap.size,0,none⟩) hq).trans h1;have hq2:=(hBx.frozen (p:=⟨w3.heap.size,0,none⟩) hq).trans h2)
  have hq3:=hBx.size;refine ⟨((i8_ hBx).trans (KeepsOthers.setCell _ _ _)).from _,trivial,⟨⟨W.heap.size,xs.length+1,World.cell?_setCell_same' _ _ _ (by rw [hq1];rfl),by rw [World.frozen?_setCell];exact hq2,?_,?_⟩,?_,?_,?_⟩,?_⟩
  ·intro i hi;rw [e1_ (by omega)];simp only [List.map_append,List.map_cons,List.map_nil];exact hb1 i (by simpa using hi)
  ·simp [World.setCell];omega
  ·rw [e1_ (by omega)];exact (hBx.cell (p:=⟨w2.heap.size,0,none⟩) (by show w2.heap.size < _;omega)).trans h5
  ·intro i hi;rw [e1_ (by omega)];exact (hBx.cell (p:=⟨gk,0+i,none⟩) (by show gk < _;omega)).trans (H6.out i hi)
  ·simp [World.setCell];omega
  ·exact (hB.trans (hBx.mono (by omega))).setCell (p:=⟨w3.heap.size,0,none⟩) (by show w.heap.size≤w3.heap.size;omega) _
 case done=>
  rintro D ys W hD hys ⟨⟨⟨g,c,h1,h2,h3,h4⟩,h5,h6,h7⟩,hB⟩ hK;have hl:=dt_ xs (List.map (fun x:WB=>x.1) ys);have hc:=h3 xs.length (by omega);rw [jo_] at hc;rw [hys] at hc;simp only [Nat.zero_add] at hc;have hlt:(xs.length:Int) < xs.length+1:=by omega
  clear h3 h6 hl hys;gi_wp2
  refine ⟨by simp,.inl ⟨_,_,rfl,run_takeDeferred hK,?_⟩⟩;exact ⟨_,results_tmp2 rfl _ _ _,rfl,hB.trans (belowK_b (w:=w) (Nat.le_refl _) W D _ _ (by omega) hK rfl rfl)⟩
 case stop=>
  rintro D c pre W _ _ h _;exact h.elim
theorem lO_ (p k:ByteArray) (w:World) :
 Calls Tryz.prog 181 #[.string p,.string k] w fun e w'=>e = .returned (.tuple #[.bool (mis p.data.toList k.data.toList),.int .i64 (merr p.data.toList k.data.toList)])∧Below w.heap.size w w':=by
 by_cases h1:perr p.data.toList = 0
 ·by_cases h2:kerr k.data.toList = 0
  ·rw [show mis p.data.toList k.data.toList = fitL p.data.toList k.data.toList from by simp [mis,merr,h1,h2],show merr p.data.toList k.data.toList = 0 from by simp [merr,h1,h2]];exact callsIn_wide.1 (ni_ p k w h1 h2)
  ·exact kI_ p k w h1 h2
 ·exact kJ_ p k w h1
end Go.Proofs.YtlbnkpicnokgoaaGreat
namespace Go.Proofs.YtlbnkpicnokgoaaGreat
open Go.RowKit
set_option linter.unusedVariables false
set_option maxRecDepth 100000
end Go.Proofs.YtlbnkpicnokgoaaGreat
