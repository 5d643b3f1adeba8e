/- lines.Push, whole. -/
import Derived.Test.YthhkpgnjpieckaaLv
import Derived.Test.YthhkpgnjpieckaaHk
namespace Go.Proofs.Ythhkpgnjpieckaa
set_option linter.unusedVariables false
set_option maxRecDepth 100000
open Go.RowKit

set_option maxHeartbeats 2000000 in
theorem push_line (xs : List ItemD) (a : Option Addr) (n c : Nat) (s d : Int) (ky b : ByteArray) (ag : Bool) (w : World) (hn : xs.length = n) (hm : n ≤ maxLen) (hp : ItemsAt w a xs) (hl : lineOk xs = false) :
    Calls Try.prog 42 #[.slice a n c, .agg #[.int .i64 s, .string ky, .string b, .bool ag, .int .i64 d]] w fun e w' => e = .returned (.tuple #[.slice none 0 0, .int .i64 1]) ∧ Below w.heap.size w w' := by
  have HL : Hid (lineE xs = 1) := by show lineE xs = 1; unfold lineE; rw [hl]; rfl
  obtain ⟨W1, hW1, hBw, hs1, hbx⟩ := item_box w (.int .i64 s) (.string ky) (.string b) (.bool ag) (.int .i64 d) 59
  have HW1 : Hid (W1 = _) := hW1
  have HP : Hid (ItemsAt W1 a xs) := hp.keep hBw
  have HN : Hid (xs.length = n) := hn
  have HM : Hid (n ≤ maxLen) := hm
  clear hW1 hbx hp hl hn hm
  go_enter Try.func42, Try.ntmps42
  go_wp2_with fail
  rw [← HW1.out]
  refine (lcheck_any xs _ _ _ _ HN.out HM.out HP.out).mono ?_
  rintro e w2 ⟨rfl, hB2⟩
  rw [HL.out]
  go_wp2_with fail
  go_ret2
  exact ⟨rfl, hBw.trans (hB2.mono hBw.size)⟩

set_option maxHeartbeats 2000000 in
theorem push_item (xs : List ItemD) (a : Option Addr) (n c : Nat) (s d : Int) (ky b : ByteArray) (ag : Bool) (w : World) (hn : xs.length = n) (hm : n ≤ maxLen) (hp : ItemsAt w a xs) (hl : lineOk xs = true) (hr : itemOk ⟨s, ky, b, ag, d⟩ = false) :
    Calls Try.prog 42 #[.slice a n c, .agg #[.int .i64 s, .string ky, .string b, .bool ag, .int .i64 d]] w fun e w' => e = .returned (.tuple #[.slice none 0 0, .int .i64 1]) ∧ Below w.heap.size w w' := by
  have HL : Hid (lineE xs = 0) := by show lineE xs = 0; unfold lineE; rw [if_pos hl]
  have HR : Hid (itemOk ⟨s, ky, b, ag, d⟩ = false) := hr
  obtain ⟨W1, hW1, hBw, hs1, hbx⟩ := item_box w (.int .i64 s) (.string ky) (.string b) (.bool ag) (.int .i64 d) 59
  have HW1 : Hid (W1 = _) := hW1
  have BX : Hid (∀ W, Below W1.heap.size W1 W → _) := hbx
  have HP : Hid (ItemsAt W1 a xs) := hp.keep hBw
  have HN : Hid (xs.length = n) := hn
  have HM : Hid (n ≤ maxLen) := hm
  clear hW1 hbx hp hl hr hn hm
  go_enter Try.func42, Try.ntmps42
  go_wp2_with fail
  rw [← HW1.out]
  refine (lcheck_any xs _ _ _ _ HN.out HM.out HP.out).mono ?_
  rintro e w2 ⟨rfl, hB2⟩
  obtain ⟨d0, d1, d2, d3, d4⟩ := BX.out w2 hB2
  rw [HL.out]
  go_wp2_with fail
  refine (right_any _ _ _ _ _ _).mono ?_
  rintro e w3 ⟨rfl, hB3⟩
  rw [HR.out]
  go_wp2_with fail
  go_ret2
  exact ⟨rfl, hBw.trans ((hB2.trans (hB3.mono hB2.size)).mono hBw.size)⟩

set_option maxHeartbeats 4000000 in
theorem push_there (xs : List ItemD) (a : Option Addr) (n c : Nat) (s d : Int) (ky b : ByteArray) (ag : Bool) (w : World) (hn : xs.length = n) (hnc : n ≤ c) (hcm : c ≤ maxLen) (hz : a = none → c = 0) (hp : ItemsAt w a xs)
    (hl : lineOk xs = true) (hr : itemOk ⟨s, ky, b, ag, d⟩ = true) (i : Nat) (hi : i = idxSeq s xs) (hlt : i < n) (hq : xs[i]?.map ItemD.seq = some s) :
    Calls Try.prog 42 #[.slice a n c, .agg #[.int .i64 s, .string ky, .string b, .bool ag, .int .i64 d]] w fun e w' => e = .returned (.tuple #[.slice none 0 0, .int .i64 6]) ∧ Below w.heap.size w w' := by
  have hm : n ≤ maxLen := Nat.le_trans hnc hcm
  have hfew := lineOk_few hl
  have HL : Hid (lineE xs = 0) := by show lineE xs = 0; unfold lineE; rw [if_pos hl]
  have HR : Hid (itemOk ⟨s, ky, b, ag, d⟩ = true) := hr
  have HI : Hid (idxI s xs = i) := by show idxI s xs = i; unfold idxI; rw [← hi, if_pos (by rw [hn]; exact hlt)]
  obtain ⟨W1, hW1, hBw, hs1, hbx⟩ := item_box w (.int .i64 s) (.string ky) (.string b) (.bool ag) (.int .i64 d) 59
  have HW1 : Hid (W1 = _) := hW1
  have BX : Hid (∀ W, Below W1.heap.size W1 W → _) := hbx
  have HP : Hid (ItemsAt W1 a xs) := hp.keep hBw
  have HN : Hid (xs.length = n) := hn
  have HM : Hid (n ≤ maxLen) := hm
  have HF : Hid (n ≤ 1048576) := by show n ≤ 1048576; omega
  have HX : Hid (i = idxSeq s xs) := hi
  clear hW1 hbx hp hl hr hn hm hi
  have s1 := hBw.size
  go_enter Try.func42, Try.ntmps42
  go_wp2_with fail
  rw [← HW1.out]
  refine (lcheck_any xs _ _ _ _ HN.out HM.out HP.out).mono ?_
  rintro e w2 ⟨rfl, hB2⟩
  obtain ⟨d0, d1, d2, d3, d4⟩ := BX.out w2 hB2
  rw [HL.out]
  go_wp2_with fail
  refine (right_any _ _ _ _ _ _).mono ?_
  rintro e w3 ⟨rfl, hB3⟩
  have hB13 : Below W1.heap.size W1 w3 := hB2.trans (hB3.mono hB2.size)
  clear d0 d1 d2 d3 d4
  obtain ⟨d0, d1, d2, d3, d4⟩ := BX.out w3 hB13
  rw [HR.out]
  go_wp2_with fail
  refine (indexFunc_any xs _ _ _ _ s _ HN.out HM.out (HP.out.keep hB13) (by have := hB13.size; omega) d0).mono ?_
  rintro e w4 ⟨rfl, hB4⟩
  have hB14 : Below W1.heap.size W1 w4 := hB13.trans (hB4.mono hB13.size)
  clear d0 d1 d2 d3 d4
  obtain ⟨d0, d1, d2, d3, d4⟩ := BX.out w4 hB14
  rw [HI.out]
  have q0 : ¬ (i : Int) < 0 := by omega
  have q4 : (0 : Int) ≤ (i : Int) := by omega
  have q5 : (i : Int) < (n : Int) := by omega
  go_wp2_with fail
  obtain ⟨g, o, rfl, hg, hx⟩ := HP.out.cells (by rw [HN.out]; omega)
  have hg4 : g < w4.heap.size := by have := hB14.size; omega
  have cq : w4.cell? ⟨g, o + i * 5, none⟩ = some (.int .i64 s) := by
    have h1 := ((hx i (by rw [HN.out]; exact hlt)).keep hB14 hg).1
    have h2 : xs[i]'(by rw [HN.out]; exact hlt) = xs[i]'(by rw [HN.out]; exact hlt) := rfl
    rw [List.getElem?_eq_getElem (by rw [HN.out]; exact hlt)] at hq
    simp at hq
    rw [hq] at h1
    exact h1
  clear hx hq
  refine wp_region_held_drew (S := fun w' => w'.cell? ⟨g, o + i * 5, none⟩ = some (.int .i64 s) ∧ w'.cell? ⟨w.heap.size, 0, none⟩ = some (.int .i64 s)) (by kernel_rfl) ⟨cq, d0⟩ (fun hHeld => ?_)
  refine tk 0 ?_
  refine tk 1 ?_
  refine tk 2 ?_
  refine tk 3 ?_
  refine tk 4 ?_
  refine tk 5 ?_
  refine tk 6 ?_
  refine tk 7 ?_
  refine tk 8 ?_
  refine tk 9 ?_
  refine tk 10 ?_
  refine tk 11 ?_
  refine tk 12 ?_
  refine tk 13 ?_
  refine wpAnyH_done (by kernel_rfl) ?_ _
  go_wp2_with fail
  go_ret2
  exact ⟨rfl, hBw.trans ((hB14.mono hBw.size).trans ⟨rfl, rfl, rfl, Nat.le_refl _, fun _ _ => rfl⟩)⟩

/-- Push at whatever line and letter. -/
theorem push_any (xs : List ItemD) (a : Option Addr) (n c : Nat) (s d : Int) (ky b : ByteArray) (ag : Bool) (w : World) (hn : xs.length = n) (hnc : n ≤ c) (hcm : c ≤ maxLen) (hz : a = none → c = 0) (hp : ItemsAt w a xs) :
    Calls Try.prog 42 #[.slice a n c, .agg #[.int .i64 s, .string ky, .string b, .bool ag, .int .i64 d]] w fun e w' => ∃ v m, e = .returned (.tuple #[v, .int .i64 (pushE xs ⟨s, ky, b, ag, d⟩)]) ∧ w'.ownsRow w.heap.size 59 5 v m (itemCells (pushV xs ⟨s, ky, b, ag, d⟩)) ∧ Below w.heap.size w w' := by
  have hm : n ≤ maxLen := Nat.le_trans hnc hcm
  cases hl : lineOk xs with
  | false =>
    have e1 : pushE xs ⟨s, ky, b, ag, d⟩ = 1 := by unfold pushE; rw [hl]; rfl
    refine (push_line xs a n c s d ky b ag w hn hm hp hl).mono ?_
    rintro e w' ⟨rfl, hB⟩
    exact ⟨_, 0, by rw [e1], by unfold pushV; rw [e1]; exact World.ownsRow_nil _ _ _ _, hB⟩
  | true =>
    cases hr : itemOk ⟨s, ky, b, ag, d⟩ with
    | false =>
      have e1 : pushE xs ⟨s, ky, b, ag, d⟩ = 1 := by unfold pushE; rw [hl, hr]; rfl
      refine (push_item xs a n c s d ky b ag w hn hm hp hl hr).mono ?_
      rintro e w' ⟨rfl, hB⟩
      exact ⟨_, 0, by rw [e1], by unfold pushV; rw [e1]; exact World.ownsRow_nil _ _ _ _, hB⟩
    | true =>
      by_cases hlt : idxSeq s xs < n
      · have hq : xs[idxSeq s xs]?.map ItemD.seq = some (xs[idxSeq s xs]'(by rw [hn]; exact hlt)).seq := by rw [List.getElem?_eq_getElem (by rw [hn]; exact hlt)]; rfl
        by_cases heq : (xs[idxSeq s xs]'(by rw [hn]; exact hlt)).seq = s
        · have e1 : pushE xs ⟨s, ky, b, ag, d⟩ = 6 := by unfold pushE pushHas; rw [hl, hr]; simp only [hq, heq]; simp
          refine (push_there xs a n c s d ky b ag w hn hnc hcm hz hp hl hr _ rfl hlt (by rw [hq, heq])).mono ?_
          rintro e w' ⟨rfl, hB⟩
          exact ⟨_, 0, by rw [e1], by unfold pushV; rw [e1]; exact World.ownsRow_nil _ _ _ _, hB⟩
        · have e1 : pushE xs ⟨s, ky, b, ag, d⟩ = 0 := by unfold pushE pushHas; rw [hl, hr]; simp only [hq]; simp [heq]
          refine (push_mid xs a n c s d ky b ag w hn hnc hcm hz hp hl hr _ rfl hlt _ hq heq).mono ?_
          rintro e w' ⟨v, rfl, hown, hB⟩
          exact ⟨v, _, by rw [e1], by unfold pushV; rw [e1]; exact hown, hB⟩
      · have e1 : pushE xs ⟨s, ky, b, ag, d⟩ = 0 := by
          unfold pushE pushHas; rw [hl, hr]
          have : xs[idxSeq s xs]? = none := List.getElem?_eq_none (by rw [hn]; omega)
          simp only [this]; simp
        refine (push_ok xs a n c s d ky b ag w hn hnc hcm hz hp hl hr _ rfl hlt).mono ?_
        rintro e w' ⟨v, rfl, hown, hB⟩
        exact ⟨v, _, by rw [e1], by unfold pushV; rw [e1]; exact hown, hB⟩
end Go.Proofs.Ythhkpgnjpieckaa
