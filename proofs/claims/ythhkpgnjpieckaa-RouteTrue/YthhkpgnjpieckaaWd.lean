/- Which words are right: words.plain, the function literal of words.Pattern, mailcoachref.isWord. -/
import Derived.Test.YthhkpgnjpieckaaLf
namespace Go.Proofs.Ythhkpgnjpieckaa
set_option linter.unusedVariables false
set_option maxRecDepth 100000
open Go.RowKit

theorem ret_bool {a b : Bool} (h : a = b) : Ending.returned (.bool a) = .returned (.bool b) := by rw [h]
theorem take_snoc (s : ByteArray) (k : Nat) (h : k < s.size) : s.data.toList.take (k + 1) = s.data.toList.take k ++ [s[k]] := by
  rw [List.take_succ_eq_append_getElem (by simpa using h)]; rfl

theorem wch_yes {c : UInt8} (h : 97 ≤ (c.toNat : Int) ∧ (c.toNat : Int) ≤ 122 ∨ 48 ≤ (c.toNat : Int) ∧ (c.toNat : Int) ≤ 57) : wch c = true := by
  unfold wch; rw [decide_eq_true_iff]; omega
theorem wch_no {c : UInt8} (h : ¬ (97 ≤ (c.toNat : Int) ∧ (c.toNat : Int) ≤ 122 ∨ 48 ≤ (c.toNat : Int) ∧ (c.toNat : Int) ≤ 57)) : wch c = false := by
  unfold wch; rw [decide_eq_false_iff_not]; omega

theorem all_take (s : ByteArray) (k : Nat) (h : k < s.size) (ha : (s.data.toList.take k).all wch = true) (hc : wch s[k] = true) : (s.data.toList.take (k + 1)).all wch = true := by
  rw [take_snoc s k h, List.all_append, ha]; simp [hc]
theorem not_all (s : ByteArray) (k : Nat) (h : k < s.size) (hc : wch s[k] = false) : isW s.data.toList = false := by
  have : s.data.toList.all wch = false := by
    rw [List.all_eq_false]
    exact ⟨s[k], by show s.data[k] ∈ _; simp, by simp [hc]⟩
  simp [isW, this]

theorem all_whole (s : ByteArray) (k : Nat) (h : ¬ k < s.size) : (s.data.toList.take k).all wch = s.data.toList.all wch := by
  rw [List.take_of_length_le (by simp; omega)]

set_option maxHeartbeats 400000 in
theorem plain_any (s : ByteArray) (w : World) (hs : s.size ≤ maxLen) :
    Calls Try.prog 54 #[.string s] w fun e w' => e = .returned (.bool (isW s.data.toList)) ∧ w' = w := by
  unfold maxLen at hs
  go_enter Try.func54, Try.ntmps54
  go_wp2
  go_loop [7] (fun i => ∃ k : Nat, k ≤ s.size ∧ i = .int .i64 k ∧ (s.data.toList.take k).all wch = true) (fun i => s.size - (intOf i).toNat)
  case atStart => exact ⟨0, Nat.zero_le _, rfl, rfl⟩
  case round =>
    obtain ⟨k, hk, rfl, ha⟩ := hrel
    have HA : Hid ((s.data.toList.take k).all wch = true) := ha; clear ha
    by_cases hlt : k < s.size
    · go_wp2
      all_goals first
        | (go_ret; exact ⟨ret_bool (not_all s k hlt (wch_no (by omega))).symm, rfl⟩)
        | exact ⟨⟨k + 1, by omega, by go_num, all_take s k hlt HA.out (wch_yes (by omega))⟩, by simp [intOf]; omega⟩
    · go_wp2
      go_ret
      exact ⟨ret_bool (by rw [isW, ← all_whole s k hlt, HA.out, ← Lib.toList_data]; simp), rfl⟩

set_option maxHeartbeats 400000 in
theorem isWord_any (s : ByteArray) (w : World) (hs : s.size ≤ maxLen) :
    Calls Try.prog 110 #[.string s] w fun e w' => e = .returned (.bool (isW s.data.toList)) ∧ w' = w := by
  unfold maxLen at hs
  go_enter Try.func110, Try.ntmps110
  go_wp2
  go_loop [3] (fun i => ∃ k : Nat, k ≤ s.size ∧ i = .int .i64 k ∧ (s.data.toList.take k).all wch = true) (fun i => s.size - (intOf i).toNat)
  case atStart => exact ⟨0, Nat.zero_le _, rfl, rfl⟩
  case round =>
    obtain ⟨k, hk, rfl, ha⟩ := hrel
    have HA : Hid ((s.data.toList.take k).all wch = true) := ha; clear ha
    by_cases hlt : k < s.size
    · by_cases h1 : 97 ≤ (s[k].toNat : Int) <;> by_cases h2 : (s[k].toNat : Int) ≤ 122 <;> by_cases h3 : 48 ≤ (s[k].toNat : Int) <;> by_cases h4 : (s[k].toNat : Int) ≤ 57 <;> first | (exfalso; omega) | skip
      all_goals
        go_wp2
        first
          | (go_ret; exact ⟨ret_bool (not_all s k hlt (wch_no (by omega))).symm, rfl⟩)
          | exact ⟨⟨k + 1, by omega, by go_num, all_take s k hlt HA.out (wch_yes (by omega))⟩, by simp [intOf]; omega⟩
    · go_wp2
      go_ret
      exact ⟨ret_bool (by rw [isW, ← all_whole s k hlt, HA.out, ← Lib.toList_data]; simp), rfl⟩

set_option maxHeartbeats 400000 in
theorem patlit_any (s : ByteArray) (w : World) (hs : s.size ≤ maxLen) :
    Calls Try.prog 58 #[.string s] w fun e w' => e = .returned (.bool (isP s.data.toList)) ∧ w' = w := by
  go_enter Try.func58, Try.ntmps58
  go_wp2_with (go_at_call 54; refine (plain_any _ _ hs).mono ?_; rintro e w' ⟨rfl, rfl⟩)
  all_goals (go_ret; exact ⟨ret_bool (by simp_all [isP, ← Lib.toList_data]), rfl⟩)
end Go.Proofs.Ythhkpgnjpieckaa
