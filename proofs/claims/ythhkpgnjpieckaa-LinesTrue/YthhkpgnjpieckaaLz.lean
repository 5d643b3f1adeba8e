/- lines.Shed. -/
import Derived.Test.YthhkpgnjpieckaaLy2
import Derived.Test.YthhkpgnjpieckaaHk
namespace Go.Proofs.Ythhkpgnjpieckaa
set_option linter.unusedVariables false
set_option maxRecDepth 100000
open Go.RowKit

def shedE (xs : List ItemD) (limit : Int) : Int := if lineOk xs = true then (if limit < 0 then 3 else 0) else 1
/-- How many are shed. -/
def shedN (n : Nat) (limit : Int) : Nat := ((n : Int) - limit).toNat
def shedA (xs : List ItemD) (limit : Int) : List ItemD := if shedE xs limit = 0 then xs.drop (shedN xs.length limit) else []
def shedB (xs : List ItemD) (limit : Int) : List ItemD := if shedE xs limit = 0 then xs.take (shedN xs.length limit) else []
theorem ret_vvi {u v : Value} {a b : Int} (h : a = b) : Ending.returned (.tuple #[u, v, .int .i64 a]) = .returned (.tuple #[u, v, .int .i64 b]) := by rw [h]
theorem shedN_le {n : Nat} {limit : Int} (h : 0 ≤ limit) : shedN n limit ≤ n := by unfold shedN; omega

theorem copied_two {w1 w2 : World} {base : Nat} {v : Value} {n : Nat} {xs : List Value} {e : TypeId} {size : Nat} (h : w1.ownsRow base e size v n xs) (hB : Below w1.heap.size w1 w2) : w2.ownsRow base e size v n xs := by
  refine ⟨h.1, ?_⟩
  rcases h.2 with h | ⟨g, cap, cur, h1, h2, h3, h4⟩
  · exact .inl h
  · exact .inr ⟨g, cap, cur, h1, h2, (hB.block g (Array.getElem?_eq_some_iff.1 h3).1).trans h3, h4⟩

set_option maxHeartbeats 4000000 in
theorem shed_ok (xs : List ItemD) (a : Option Addr) (n c i : Nat) (limit : Int) (w : World) (hn : xs.length = n) (hnc : n ≤ c) (hcm : c ≤ maxLen) (hz : a = none → c = 0) (hp : ItemsAt w a xs) (hl : lineOk xs = true) (h0 : 0 ≤ limit) (h1 : limit ≤ 9223372036854775807) (hi : i = shedN n limit) :
    Calls Try.prog 48 #[.slice a n c, .int .i64 limit] w fun e w' => ∃ v u, e = .returned (.tuple #[v, u, .int .i64 0]) ∧ w'.ownsRow w.heap.size 59 5 v (n - i) (itemCells (xs.drop i)) ∧ w'.ownsRow w.heap.size 59 5 u i (itemCells (xs.take i)) ∧ Below w.heap.size w w' := by
  have hf := lineOk_few hl
  rw [hn] at hf
  have HL : Hid (lineE xs = 0) := by show lineE xs = 0; unfold lineE; rw [if_pos hl]
  have HP : Hid (ItemsAt w a xs) := hp
  have HN : Hid (xs.length = n) := hn
  have HM : Hid (n ≤ maxLen) := Nat.le_trans hnc hcm
  have hin : i ≤ n := by rw [hi]; exact shedN_le h0
  have HI : Hid (max ((n : Int) - limit) 0 = i) := by show max ((n : Int) - limit) 0 = i; rw [hi]; unfold shedN; omega
  have HZ : Hid (a = none → c = 0) := hz
  have q0 : ¬ limit < 0 := by omega
  have qw : IntKind.i64.wrap ((n : Int) - limit) = (n : Int) - limit := by rw [IntKind.wrap_i64]; omega
  clear hp hl hn hi hz
  go_enter Try.func48, Try.ntmps48
  go_wp2_with fail
  refine (lcheck_any xs _ _ _ _ HN.out HM.out HP.out).mono ?_
  rintro e w2 ⟨rfl, hB2⟩
  rw [HL.out]
  go_wp2_with fail
  rw [HI.out]
  have q1 : (0 : Int) ≤ (i : Int) := by omega
  have q2 : (i : Int) ≤ (n : Int) := by omega
  have q3 : (i : Int) ≤ (c : Int) := by omega
  have q4 : (n : Int) ≤ (c : Int) := by omega
  refine wp_region_held_drew (S := fun w' => True) (by kernel_rfl) trivial (fun hHeld => ?_)
  refine tk 0 ?_
  refine tk 1 ?_
  refine tk 2 ?_
  refine tk 4 ?_
  refine tk 5 ?_
  refine tk 6 ?_
  refine wpAnyH_ready (rs := [3]) (by kernel_rfl) (by simp) ?_
  refine AllReadyH.cons rfl (fun K hK => ?_) AllReadyH.nil
  go_simp
  have hB2s := hB2.size
  have hp2 : ItemsAt w2 a xs := HP.out.keep hB2
  have ha0 : a = none → xs = [] := fun e => List.length_eq_zero_iff.1 (by have := HZ.out e; have := HN.out; omega)
  refine (copied_any (xs.drop i) _ (n - i) (c - i) w2.drew (by rw [List.length_drop, HN.out]) (by omega) (fun e => ?_) (hp2.drop i c (by rw [HN.out]; exact hnc))).mono ?_
  · have e2 : a = none := by
      split at e
      · exact e
      · simpa using e
    exact ⟨by have := HZ.out e2; omega, by rw [ha0 e2]; simp⟩
  rintro e w3 ⟨v, rfl, hown3, hB3'⟩
  have hB3 : Below w2.heap.size w2 w3 := below_undrew hB3'
  have hown3b : w3.ownsRow w2.heap.size 59 5 v (n - i) (itemCells (xs.drop i)) := hown3
  refine hK.out _ _ trivial (fun hHeld2 => ?_)
  clear hHeld hK K hown3 hB3'
  try simp only [Act.put, List.getElem_toArray, List.getElem_cons_succ, List.getElem_cons_zero, List.setIfInBounds_toArray, List.set_cons_zero, List.set_cons_succ]
  refine wpAnyH_ready (rs := [7]) (by kernel_rfl) (by simp) ?_
  refine AllReadyH.cons rfl (fun K hK => ?_) AllReadyH.nil
  go_simp
  have hB3s := hB3.size
  refine (copied_any (xs.take i) _ i c w3 (by rw [List.length_take, HN.out]; omega) (by omega) (fun e => ⟨HZ.out e, by rw [ha0 e]; simp⟩) ((hp2.keep hB3).take i)).mono ?_
  rintro e w4 ⟨u, rfl, hown4, hB4⟩
  refine hK.out _ _ trivial (fun hHeld3 => ?_)
  clear hHeld2 hK K
  try simp only [Act.put, List.getElem_toArray, List.getElem_cons_succ, List.getElem_cons_zero, List.setIfInBounds_toArray, List.set_cons_zero, List.set_cons_succ]
  refine tk 8 ?_
  refine tk 9 ?_
  refine tk 10 ?_
  refine wpAnyH_done (by kernel_rfl) ?_ _
  go_wp2_with fail
  all_goals
    exact bodyPost_ret (v := .tuple #[v, u, .int .i64 0]) (by simp [results, Try.results48, go_sem]) rfl ⟨v, u, rfl, own_base (copied_two hown3b hB4) (by omega), own_base hown4 (by omega), hB2.trans ((hB3.trans (hB4.mono hB3s)).mono hB2s)⟩

set_option maxHeartbeats 2000000 in
theorem shed_err (xs : List ItemD) (a : Option Addr) (n c : Nat) (limit : Int) (w : World) (hn : xs.length = n) (hm : n ≤ maxLen) (hp : ItemsAt w a xs) (he : shedE xs limit ≠ 0) :
    Calls Try.prog 48 #[.slice a n c, .int .i64 limit] w fun e w' => e = .returned (.tuple #[.slice none 0 0, .slice none 0 0, .int .i64 (shedE xs limit)]) ∧ Below w.heap.size w w' := by
  have HP : Hid (ItemsAt w a xs) := hp
  have HN : Hid (xs.length = n) := hn
  have HM : Hid (n ≤ maxLen) := hm
  cases hl : lineOk xs with
  | false =>
    have e1 : shedE xs limit = 1 := by unfold shedE; rw [hl]; rfl
    have HL : Hid (lineE xs = 1) := by show lineE xs = 1; unfold lineE; rw [hl]; rfl
    rw [e1]
    clear hp hn hm he hl e1
    go_enter Try.func48, Try.ntmps48
    go_wp2_with fail
    refine (lcheck_any xs _ _ _ _ HN.out HM.out HP.out).mono ?_
    rintro e w2 ⟨rfl, hB2⟩
    rw [HL.out]
    go_wp2_with fail
    exact bodyPost_ret (v := .tuple #[.slice none 0 0, .slice none 0 0, .int .i64 1]) (by simp [results, Try.results48, go_sem]) rfl ⟨rfl, hB2⟩
  | true =>
    have h0 : limit < 0 := by
      rcases Int.lt_or_le limit 0 with h | h
      · exact h
      · exfalso; apply he; unfold shedE; rw [if_pos hl, if_neg (by omega)]
    have e1 : shedE xs limit = 3 := by unfold shedE; rw [if_pos hl, if_pos h0]
    have HL : Hid (lineE xs = 0) := by show lineE xs = 0; unfold lineE; rw [if_pos hl]
    rw [e1]
    clear hp hn hm he hl e1
    go_enter Try.func48, Try.ntmps48
    go_wp2_with fail
    refine (lcheck_any xs _ _ _ _ HN.out HM.out HP.out).mono ?_
    rintro e w2 ⟨rfl, hB2⟩
    rw [HL.out]
    go_wp2_with fail
    exact bodyPost_ret (v := .tuple #[.slice none 0 0, .slice none 0 0, .int .i64 3]) (by simp [results, Try.results48, go_sem]) rfl ⟨rfl, hB2⟩

theorem shed_any (xs : List ItemD) (a : Option Addr) (n c : Nat) (limit : Int) (w : World) (hn : xs.length = n) (hnc : n ≤ c) (hcm : c ≤ maxLen) (hz : a = none → c = 0) (hp : ItemsAt w a xs) (h1 : limit ≤ 9223372036854775807) :
    Calls Try.prog 48 #[.slice a n c, .int .i64 limit] w fun e w' => ∃ v u m1 m2, e = .returned (.tuple #[v, u, .int .i64 (shedE xs limit)]) ∧ w'.ownsRow w.heap.size 59 5 v m1 (itemCells (shedA xs limit)) ∧ w'.ownsRow w.heap.size 59 5 u m2 (itemCells (shedB xs limit)) ∧ Below w.heap.size w w' := by
  by_cases he : shedE xs limit = 0
  · have hl : lineOk xs = true := by
      cases hl : lineOk xs with
      | true => rfl
      | false => unfold shedE at he; rw [hl] at he; simp at he
    have h0 : 0 ≤ limit := by
      rcases Int.lt_or_le limit 0 with h | h
      · unfold shedE at he; rw [if_pos hl, if_pos h] at he; cases he
      · exact h
    refine (shed_ok xs a n c _ limit w hn hnc hcm hz hp hl h0 h1 rfl).mono ?_
    rintro e w' ⟨v, u, rfl, o1, o2, hB⟩
    exact ⟨v, u, _, _, by rw [he], by unfold shedA; rw [if_pos he, hn]; exact o1, by unfold shedB; rw [if_pos he, hn]; exact o2, hB⟩
  · refine (shed_err xs a n c limit w hn (Nat.le_trans hnc hcm) hp he).mono ?_
    rintro e w' ⟨rfl, hB⟩
    exact ⟨_, _, 0, 0, rfl, by unfold shedA; rw [if_neg he]; exact World.ownsRow_nil _ _ _ _, by unfold shedB; rw [if_neg he]; exact World.ownsRow_nil _ _ _ _, hB⟩
end Go.Proofs.Ythhkpgnjpieckaa
