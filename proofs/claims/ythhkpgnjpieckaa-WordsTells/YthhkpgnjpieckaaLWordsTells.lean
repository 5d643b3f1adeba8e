/- The walk of the law WordsTells. -/
import Derived.Test.YthhkpgnjpieckaaBg
namespace Go.Proofs.Ythhkpgnjpieckaa
set_option linter.unusedVariables false
set_option maxRecDepth 100000
open Go.RowKit

set_option maxRecDepth 100000 in
set_option maxHeartbeats 2000000 in
theorem walk_WordsTells (s : ByteArray) (_ : s.size ≤ maxLen) (w : World) : Calls Try.prog 3 #[.string s] w fun e w' => e = .returned (.bool true) ∧ Below w.heap.size w w' := by
  by_cases h : kerr s.data.toList = 0
  · obtain ⟨xs, hxs⟩ : ∃ xs, xs = wlB s.data.toList := ⟨_, rfl⟩
    have hne : 0 < xs.length := by rw [hxs, wlB_len]; omega
    have HX : Hid (xs = wlB s.data.toList) := hxs
    have HC : Hid (kerr s.data.toList = 0) := h
    clear h hxs
    go_enter Try.func3, Try.ntmps3
    go_wp2_with fail
    refine (splitK_ok s xs HX.out _ HC.out).mono ?_
    rintro e w1 ⟨g1, c1, rfl, hg1, hc1, hm1, ht1, hB1⟩
    go_wp2_with fail
    refine (splitOf_ok s xs HX.out _ HC.out).mono ?_
    rintro e w2 ⟨g2, c2, rfl, hg2, hc2, hm2, ht2, hB2⟩
    go_wp2_with fail
    refine (wordsBegun_any _).mono ?_
    rintro e w3 ⟨rfl, hB3⟩
    go_wp2_with fail
    have s1 := hB1.size
    have s2 := hB2.size
    have s3 := hB3.size
    refine (same_texts xs g1 0 c1 g2 0 c2 _ (by omega) ((ht1.keep hne hB2).keep hne hB3) (ht2.keep hne hB3)).mono ?_
    rintro e w4 ⟨rfl, n4, rfl⟩
    have hB4 : Below w.heap.size w (w3.drewN n4) := hB1.trans ((hB2.mono s1).trans ((hB3.mono (by omega)).trans ((below_drewN _ n4).mono (by omega))))
    obtain ⟨W4, hW4⟩ : ∃ W4, w3.drewN n4 = W4 := ⟨_, rfl⟩
    rw [hW4] at hB4 ⊢
    clear hW4 ht1 ht2 hB1 hB2 hB3
    go_wp2_with fail
    refine (pattern_any _ _).mono ?_
    rintro e w5 ⟨rfl, hB5⟩
    obtain ⟨c, hc⟩ : ∃ c, c = perr s.data.toList := ⟨_, rfl⟩
    have HP : Hid (c = perr s.data.toList) := hc
    rw [← hc]
    clear hc
    go_wp2_with fail
    refine (patternError_any _ _).mono ?_
    rintro e w6 ⟨rfl, hB6⟩
    rw [← HP.out]
    go_wp2_with fail
    go_ret
    have s4 := hB4.size
    have s5 := hB5.size
    exact ⟨rfl, hB4.trans ((hB5.mono s4).trans (hB6.mono (by omega)))⟩
  · obtain ⟨d, hd⟩ : ∃ d, d = kerr s.data.toList := ⟨_, rfl⟩
    have H1 : Hid (∀ w, Calls Try.prog 17 #[.string s] w fun e w' => e = .returned (.tuple #[.slice none 0 0, .int .i64 d]) ∧ Below w.heap.size w w') := fun w => by rw [hd]; exact splitK_err s w h
    have H2 : Hid (∀ w, Calls Try.prog 18 #[.string s] w fun e w' => e = .returned (.tuple #[.slice none 0 0, .int .i64 d]) ∧ Below w.heap.size w w') := fun w => by rw [hd]; exact splitOf_err s w h
    clear h hd
    go_enter Try.func3, Try.ntmps3
    go_wp2_with fail
    refine (H1.out _).mono ?_
    rintro e w1 ⟨rfl, hB1⟩
    go_wp2_with fail
    refine (H2.out _).mono ?_
    rintro e w2 ⟨rfl, hB2⟩
    go_wp2_with fail
    refine (wordsBegun_any _).mono ?_
    rintro e w3 ⟨rfl, hB3⟩
    go_wp2_with fail
    refine (same_nil _).mono ?_
    rintro e w4 ⟨rfl, rfl⟩
    go_wp2_with fail
    refine (pattern_any _ _).mono ?_
    rintro e w5 ⟨rfl, hB5⟩
    obtain ⟨c, hc⟩ : ∃ c, c = perr s.data.toList := ⟨_, rfl⟩
    have HP : Hid (c = perr s.data.toList) := hc
    rw [← hc]
    clear hc
    go_wp2_with fail
    refine (patternError_any _ _).mono ?_
    rintro e w6 ⟨rfl, hB6⟩
    rw [← HP.out]
    go_wp2_with fail
    go_ret
    have s1 := hB1.size
    have s2 := hB2.size
    have s3 := hB3.size
    have s5 := hB5.size
    exact ⟨rfl, hB1.trans ((hB2.mono s1).trans ((hB3.mono (by omega)).trans ((hB5.mono (by omega)).trans (hB6.mono (by omega)))))⟩
end Go.Proofs.Ythhkpgnjpieckaa
