/- The walk of the law WordsMatches. -/
import Derived.Test.YthhkpgnjpieckaaBg
namespace Go.Proofs.Ythhkpgnjpieckaa
set_option linter.unusedVariables false
set_option maxRecDepth 100000
open Go.RowKit

set_option maxRecDepth 100000 in
set_option maxHeartbeats 2000000 in
theorem walk_WordsMatches (p : ByteArray) (_ : p.size ≤ maxLen) (k : ByteArray) (_ : k.size ≤ maxLen) (w : World) : Calls Try.prog 4 #[.string p, .string k] w fun e w' => e = .returned (.bool true) ∧ Below w.heap.size w w' := by
  obtain ⟨b, hb⟩ : ∃ b, b = mis p.data.toList k.data.toList := ⟨_, rfl⟩
  obtain ⟨d, hd⟩ : ∃ d, d = merr p.data.toList k.data.toList := ⟨_, rfl⟩
  have H1 : Hid (∀ w, Calls Try.prog 23 #[.string p, .string k] w fun e w' => e = .returned (.tuple #[.bool b, .int .i64 d]) ∧ Below w.heap.size w w') := fun w => by rw [hb, hd]; exact match_any p k w
  have H2 : Hid (∀ w, Calls Try.prog 24 #[.string p, .string k] w fun e w' => e = .returned (.tuple #[.bool b, .int .i64 d]) ∧ Below w.heap.size w w') := fun w => by rw [hb, hd]; exact matchOf_any p k w
  clear hb hd
  go_enter Try.func4, Try.ntmps4
  go_wp2_with fail
  refine (H1.out _).mono ?_
  rintro e w1 ⟨rfl, hB1⟩
  go_wp2_with fail
  refine (H2.out _).mono ?_
  rintro e w2 ⟨rfl, hB2⟩
  go_wp2_with fail
  refine (wordsBegun_any _).mono ?_
  rintro e w3 ⟨rfl, hB3⟩
  go_wp2_with fail
  go_ret
  have s1 := hB1.size
  have s2 := hB2.size
  exact ⟨rfl, hB1.trans ((hB2.mono s1).trans (hB3.mono (by omega)))⟩
end Go.Proofs.Ythhkpgnjpieckaa
