/- lines.Push, the letter in the midst. -/
import Derived.Test.YthhkpgnjpieckaaLu
import Derived.Test.YthhkpgnjpieckaaHk
namespace Go.Proofs.Ythhkpgnjpieckaa
set_option linter.unusedVariables false
set_option maxRecDepth 100000
open Go.RowKit

set_option maxHeartbeats 4000000 in
theorem push_mid (xs : List ItemD) (a : Option Addr) (n c : Nat) (s d : Int) (ky b : ByteArray) (ag : Bool) (w : World) (hn : xs.length = n) (hnc : n ≤ c) (hcm : c ≤ maxLen) (hz : a = none → c = 0) (hp : ItemsAt w a xs)
    (hl : lineOk xs = true) (hr : itemOk ⟨s, ky, b, ag, d⟩ = true) (i : Nat) (hi : i = idxSeq s xs) (hlt : i < n) (q : Int) (hq : xs[i]?.map ItemD.seq = some q) (hne : ¬ q = s) :
    Calls Try.prog 42 #[.slice a n c, .agg #[.int .i64 s, .string ky, .string b, .bool ag, .int .i64 d]] w fun e w' => ∃ v, e = .returned (.tuple #[v, .int .i64 0]) ∧ w'.ownsRow w.heap.size 59 5 v (n + 1) (itemCells (pushL xs ⟨s, ky, b, ag, d⟩)) ∧ Below w.heap.size w w' := by
  have hm : n ≤ maxLen := Nat.le_trans hnc hcm
  have hfew := lineOk_few hl
  have HL : Hid (lineE xs = 0) := by show lineE xs = 0; unfold lineE; rw [if_pos hl]
  have HR : Hid (itemOk ⟨s, ky, b, ag, d⟩ = true) := hr
  have HI : Hid (idxI s xs = i) := by show idxI s xs = i; unfold idxI; rw [← hi, if_pos (by rw [hn]; exact hlt)]
  obtain ⟨W1, hW1, hBw, hs1, hbx⟩ := item_box w (.int .i64 s) (.string ky) (.string b) (.bool ag) (.int .i64 d) 59
  have HW1 : Hid (W1 = _) := hW1
  have BX : Hid (∀ W, Below W1.heap.size W1 W → _) := hbx
  have HP : Hid (ItemsAt W1 a xs) := hp.keep hBw
  have HN : Hid (xs.length = n) := hn
  have HM : Hid (n ≤ maxLen) := hm
  have HF : Hid (n ≤ 1048576) := by show n ≤ 1048576; omega
  have HX : Hid (i = idxSeq s xs) := hi
  clear hW1 hbx hp hl hr hn hm hi
  have s1 := hBw.size
  go_enter Try.func42, Try.ntmps42
  go_wp2_with fail
  rw [← HW1.out]
  refine (lcheck_any xs _ _ _ _ HN.out HM.out HP.out).mono ?_
  rintro e w2 ⟨rfl, hB2⟩
  obtain ⟨d0, d1, d2, d3, d4⟩ := BX.out w2 hB2
  rw [HL.out]
  go_wp2_with fail
  refine (right_any _ _ _ _ _ _).mono ?_
  rintro e w3 ⟨rfl, hB3⟩
  have hB13 : Below W1.heap.size W1 w3 := hB2.trans (hB3.mono hB2.size)
  clear d0 d1 d2 d3 d4
  obtain ⟨d0, d1, d2, d3, d4⟩ := BX.out w3 hB13
  rw [HR.out]
  go_wp2_with fail
  refine (indexFunc_any xs _ _ _ _ s _ HN.out HM.out (HP.out.keep hB13) (by have := hB13.size; omega) d0).mono ?_
  rintro e w4 ⟨rfl, hB4⟩
  have hB14 : Below W1.heap.size W1 w4 := hB13.trans (hB4.mono hB13.size)
  clear d0 d1 d2 d3 d4
  obtain ⟨d0, d1, d2, d3, d4⟩ := BX.out w4 hB14
  rw [HI.out]
  have q0 : ¬ (i : Int) < 0 := by omega
  have q4 : (0 : Int) ≤ (i : Int) := by omega
  have q5 : (i : Int) < (n : Int) := by omega
  go_wp2_with fail
  obtain ⟨g, o, rfl, hg, hx⟩ := HP.out.cells (by rw [HN.out]; omega)
  have hg4 : g < w4.heap.size := by have := hB14.size; omega
  have cq : w4.cell? ⟨g, o + i * 5, none⟩ = some (.int .i64 q) := by
    have h1 := ((hx i (by rw [HN.out]; exact hlt)).keep hB14 hg).1
    have h2 : xs[i]'(by rw [HN.out]; exact hlt) = xs[i]'(by rw [HN.out]; exact hlt) := rfl
    rw [List.getElem?_eq_getElem (by rw [HN.out]; exact hlt)] at hq
    simp at hq
    rw [hq] at h1
    exact h1
  clear hx hq
  refine wp_region_held_drew (S := fun w' => w'.cell? ⟨g, o + i * 5, none⟩ = some (.int .i64 q) ∧ w'.cell? ⟨w.heap.size, 0, none⟩ = some (.int .i64 s)) (by kernel_rfl) ⟨cq, d0⟩ (fun hHeld => ?_)
  refine tk 0 ?_
  refine tk 1 ?_
  refine tk 2 ?_
  refine tk 3 ?_
  refine tk 4 ?_
  refine tk 5 ?_
  refine tk 6 ?_
  refine tk 7 ?_
  refine tk 8 ?_
  refine tk 9 ?_
  refine tk 10 ?_
  refine tk 11 ?_
  refine tk 12 ?_
  refine tk 13 ?_
  refine wpAnyH_done (by kernel_rfl) ?_ _
  go_wp2_with fail
  have hB5 : Below W1.heap.size W1 w4.drew := ⟨hB14.os, hB14.tape, hB14.output, hB14.size, hB14.block⟩
  have hB6 : Below W1.heap.size W1 w4.drew.drew := ⟨hB14.os, hB14.tape, hB14.output, hB14.size, hB14.block⟩
  have q1 : (i : Int) ≤ (n : Int) := by omega
  have q2 : (i : Int) ≤ (c : Int) := by omega
  have q3 : (n : Int) ≤ (c : Int) := by omega
  clear d0 d1 d2 d3 d4
  refine wp_region_held_drew (S := fun w' => w'.cell? ⟨w.heap.size, 0, none⟩ = some (.int .i64 s) ∧ w'.cell? ⟨w.heap.size, 1, none⟩ = some (.string ky) ∧ w'.cell? ⟨w.heap.size, 2, none⟩ = some (.string b) ∧ w'.cell? ⟨w.heap.size, 3, none⟩ = some (.bool ag) ∧ w'.cell? ⟨w.heap.size, 4, none⟩ = some (.int .i64 d)) (by kernel_rfl) (BX.out _ hB6) (fun hHeld => ?_)
  refine tk 0 ?_
  refine tk 1 ?_
  refine tk 2 ?_
  refine tk 3 ?_
  refine tk 5 ?_
  refine tk 6 ?_
  refine tk 7 ?_
  refine wpAnyH_ready (rs := [4]) (by kernel_rfl) (by simp) ?_
  refine AllReadyH.cons rfl (fun K hK => ?_) AllReadyH.nil
  go_simp
  obtain ⟨W5, hW5⟩ : ∃ W5, W5 = w4.alloc (.cells #[.int .i64 s, .string ky, .string b, .bool ag, .int .i64 d] 59) := ⟨_, rfl⟩
  have hB45 : Below w4.heap.size w4 W5 := by rw [hW5]; exact (Below.refl _ _).alloc (Nat.le_refl _) _
  have hs5 : W5.heap.size = w4.heap.size + 1 := by rw [hW5]; simp
  have hh5 : W5.heap[w4.heap.size]? = some (.cells #[.int .i64 s, .string ky, .string b, .bool ag, .int .i64 d] 59) := by rw [hW5]; exact World.alloc_heap_new w4 _
  rw [← hW5]
  clear hW5
  have hB15 : Below W1.heap.size W1 W5 := hB14.trans (hB45.mono hB14.size)
  have hB15' : Below W1.heap.size W1 W5.drew.drew := ⟨hB15.os, hB15.tape, hB15.output, hB15.size, hB15.block⟩
  refine hK.out _ _ (BX.out _ hB15') (fun hHeld2 => ?_)
  clear hHeld hK K
  try simp only [Act.put, List.getElem_toArray, List.getElem_cons_succ, List.getElem_cons_zero, List.setIfInBounds_toArray, List.set_cons_zero, List.set_cons_succ]
  refine wpAnyH_ready (rs := [8]) (by kernel_rfl) (by simp) ?_
  refine AllReadyH.cons rfl (fun K hK => ?_) AllReadyH.nil
  go_simp
  obtain ⟨A3, hA3⟩ : ∃ A3 : Option Addr, A3 = (if c = i then some ⟨g, o, none⟩ else some ⟨g, o + i * 5, none⟩) := ⟨_, rfl⟩
  have HA3 : Hid (A3 = (if c = i then some ⟨g, o, none⟩ else some ⟨g, o + i * 5, none⟩)) := hA3
  rw [← hA3]
  clear hA3
  obtain ⟨W6, hW6⟩ : ∃ W6, W6 = W5.alloc (.cells #[.slice (some ⟨g, o, none⟩) i c, .slice (some ⟨w4.heap.size, 0, none⟩) 1 1, .slice A3 (n - i) (c - i)] 57) := ⟨_, rfl⟩
  have hB56 : Below W5.heap.size W5 W6 := by rw [hW6]; exact (Below.refl _ _).alloc (Nat.le_refl _) _
  have hs6 : W6.heap.size = W5.heap.size + 1 := by rw [hW6]; simp
  have hh6 : W6.heap[W5.heap.size]? = some (.cells #[.slice (some ⟨g, o, none⟩) i c, .slice (some ⟨w4.heap.size, 0, none⟩) 1 1, .slice A3 (n - i) (c - i)] 57) := by rw [hW6]; exact World.alloc_heap_new W5 _
  rw [← hW6]
  clear hW6
  have hB16 : Below W1.heap.size W1 W6 := hB15.trans (hB56.mono hB15.size)
  have hB16' : Below W1.heap.size W1 W6.drew.drew := ⟨hB16.os, hB16.tape, hB16.output, hB16.size, hB16.block⟩
  have hx6 : W6.heap[w4.heap.size]? = some (.cells #[.int .i64 s, .string ky, .string b, .bool ag, .int .i64 d] 59) := (hB56.block _ (by omega)).trans hh5
  have hi6 : ItemsAt W6 (some ⟨g, o, none⟩) xs := (HP.out.keep hB14).keep (hB45.trans (hB56.mono hB45.size))
  refine hK.out _ _ (BX.out _ hB16') (fun hHeld3 => ?_)
  clear hHeld2 hK K
  try simp only [Act.put, List.getElem_toArray, List.getElem_cons_succ, List.getElem_cons_zero, List.setIfInBounds_toArray, List.set_cons_zero, List.set_cons_succ]
  refine wpAnyH_ready (rs := [9]) (by kernel_rfl) (by simp) ?_
  refine AllReadyH.cons rfl (fun K hK => ?_) AllReadyH.nil
  go_simp
  refine (push_concat xs ⟨s, ky, b, ag, d⟩ _ A3 n c i (n - i) (c - i) _ w4.heap.size _ _ W6.drew.drew HN.out (Nat.le_of_lt hlt) hnc hz HF.out (by rw [HA3.out]; simp [addr_add]) rfl rfl hi6 (by rw [← hs5]; exact hh6) hx6).mono ?_
  rintro e w7 ⟨v, rfl, hown, hB7⟩
  have hB7' : Below W6.heap.size W6 w7 := ⟨hB7.os, hB7.tape, hB7.output, hB7.size, hB7.block⟩
  have hB17 : Below W1.heap.size W1 w7 := hB16.trans (hB7'.mono hB16.size)
  refine hK.out _ _ (BX.out _ hB17) (fun hHeld4 => ?_)
  clear hHeld3 hK K
  try simp only [Act.put, List.getElem_toArray, List.getElem_cons_succ, List.getElem_cons_zero, List.setIfInBounds_toArray, List.set_cons_zero, List.set_cons_succ]
  refine tk 10 ?_
  refine tk 11 ?_
  refine wpAnyH_done (by kernel_rfl) ?_ _
  go_wp2_with fail
  go_ret2
  have e1 : pushL xs ⟨s, ky, b, ag, d⟩ = xs.take i ++ [⟨s, ky, b, ag, d⟩] ++ xs.drop i := by
    unfold pushL
    have e2 : idxSeq s xs = i := HX.out.symm
    dsimp only
    rw [e2]
  have h16 := hB16.size
  have h17 := hB17.size
  refine ⟨v, rfl, ?_, hBw.trans (hB17.mono hBw.size)⟩
  rw [e1]
  exact own_base hown (by show w.heap.size ≤ W6.heap.size; omega)
end Go.Proofs.Ythhkpgnjpieckaa
