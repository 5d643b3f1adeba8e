/- The walk of the law LinesSheds. -/
import Derived.OpenShut
import Derived.Test.YthhkpgnjpieckaaLb
namespace Go.Proofs.Ythhkpgnjpieckaa
set_option linter.unusedVariables false
set_option maxRecDepth 100000
open Go.RowKit

theorem shed_small {xs : List ItemD} {l : Int} (h : xs.length ≤ maxLen) : (shedA xs l).length ≤ maxLen ∧ (shedB xs l).length ≤ maxLen := by
  unfold shedA shedB
  by_cases h0 : shedE xs l = 0
  · rw [if_pos h0, if_pos h0, List.length_drop, List.length_take]; omega
  · rw [if_neg h0, if_neg h0]; simp

set_option maxRecDepth 100000 in
set_option maxHeartbeats 400000 in
theorem walk_LinesSheds (xs : List ItemD) (a : Option Addr) (c : Nat) (l : Int) (hl : (Lit.int .i64 l).wf = true) (w : World) (h1 : xs.length ≤ c) (h2 : c ≤ maxLen) (h3 : a = none → c = 0) (hp : ItemsAt w a xs) :
    Calls Try.prog 14 #[.slice a xs.length c, .int .i64 l] w fun e w' => e = .returned (.bool true) ∧ Below w.heap.size w w' := by
  have hl' : -9223372036854775808 ≤ l ∧ l ≤ 9223372036854775807 := bounds_i64 hl
  obtain ⟨n, hn⟩ : ∃ n, xs.length = n := ⟨_, rfl⟩
  rw [hn] at h1 ⊢
  have HP : Hid (ItemsAt w a xs) := hp
  have HN : Hid (xs.length = n) := hn
  have HM : Hid (n ≤ maxLen) := Nat.le_trans h1 h2
  have H3 : Hid (a = none → c = 0) := h3
  have H12 : Hid (n ≤ c ∧ c ≤ maxLen) := ⟨h1, h2⟩
  have HL : Hid (l ≤ 9223372036854775807) := hl'.2
  obtain ⟨E, hE⟩ : ∃ E, E = shedE xs l := ⟨_, rfl⟩
  obtain ⟨A, hA⟩ : ∃ A, A = shedA xs l := ⟨_, rfl⟩
  obtain ⟨B, hB⟩ : ∃ B, B = shedB xs l := ⟨_, rfl⟩
  have HE : Hid (E = shedE xs l ∧ A = shedA xs l ∧ B = shedB xs l) := ⟨hE, hA, hB⟩
  have HS : Hid (A.length ≤ maxLen ∧ B.length ≤ maxLen) := by
    have := shed_small (xs := xs) (l := l) (by rw [hn]; exact HM.out)
    rw [← hA, ← hB] at this; exact this
  clear hp hn h1 h2 h3 hE hA hB hl hl'
  go_enter Try.func14, Try.ntmps14
  go_wp2_with fail
  refine (shed_any xs _ _ _ _ _ HN.out H12.out.1 H12.out.2 H3.out HP.out HL.out).mono ?_
  rintro e w2 ⟨v2, u2, m2, k2, rfl, own2, wow2, hB2⟩
  rw [← HE.out.1]
  rw [← HE.out.2.1] at own2
  rw [← HE.out.2.2] at wow2
  obtain ⟨rfl, a2, c2, rfl, _, _, _, it2⟩ := own_items own2
  obtain ⟨rfl, b2, f2, rfl, _, _, _, jt2⟩ := own_items wow2
  clear own2 wow2
  go_wp2_with fail
  refine (shedOf_any xs _ _ _ _ _ HN.out H12.out.1 H12.out.2 H3.out (HP.out.keep hB2) HL.out).mono ?_
  rintro e w3 ⟨v3, u3, m3, k3, rfl, own3, wow3, hB3⟩
  rw [← HE.out.1]
  rw [← HE.out.2.1] at own3
  rw [← HE.out.2.2] at wow3
  obtain ⟨rfl, a3, c3, rfl, _, _, _, it3⟩ := own_items own3
  obtain ⟨rfl, b3, f3, rfl, _, _, _, jt3⟩ := own_items wow3
  clear own3 wow3
  have hB03 : Below w.heap.size w w3 := hB2.trans (hB3.mono hB2.size)
  go_wp2_with fail
  refine (linesBegun_any _).mono ?_
  rintro e w4 ⟨rfl, hB4⟩
  have hB04 : Below w.heap.size w w4 := hB03.trans (hB4.mono hB03.size)
  have hB24 : Below w2.heap.size w2 w4 := hB3.trans (hB4.mono hB3.size)
  go_wp2_with fail
  refine (same_items A _ _ _ _ _ _ rfl HS.out.1 (it2.keep hB24) (it3.keep hB4)).mono ?_
  rintro e w5 ⟨rfl, hB5⟩
  have hB35 : Below w3.heap.size w3 w5 := hB4.trans (hB5.mono hB4.size)
  have hB25 : Below w2.heap.size w2 w5 := hB24.trans (hB5.mono hB24.size)
  have hB05 : Below w.heap.size w w5 := hB04.trans (hB5.mono hB04.size)
  go_wp2_with fail
  refine (same_items B _ _ _ _ _ _ rfl HS.out.2 (jt2.keep hB25) (jt3.keep hB35)).mono ?_
  rintro e w6 ⟨rfl, hB6⟩
  go_wp2_with fail
  go_ret
  exact ⟨ret_bool (by simp), hB05.trans (hB6.mono hB05.size)⟩
end Go.Proofs.Ythhkpgnjpieckaa
