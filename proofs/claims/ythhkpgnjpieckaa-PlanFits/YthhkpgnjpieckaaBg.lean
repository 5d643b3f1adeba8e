/- mailcoachlaw.wordsBegun: what must be in any case. -/
import Derived.Test.YthhkpgnjpieckaaMt
namespace Go.Proofs.Ythhkpgnjpieckaa
set_option linter.unusedVariables false
set_option maxRecDepth 100000
open Go.RowKit

theorem isTexts_two (w : World) (a b : ByteArray) (t : TypeId) : IsTexts (w.alloc (.cells #[.string a, .string b] t)) w.heap.size 0 [a, b] := by
  have hh : (w.alloc (.cells #[.string a, .string b] t)).heap[w.heap.size]? = some (.cells #[.string a, .string b] t) := World.alloc_heap_new w _
  intro i hi
  match i, hi with
  | 0, _ => unfold World.cell?; simp only; rw [hh]; rfl
  | 1, _ => unfold World.cell?; simp only; rw [hh]; rfl

theorem two_words : [(⟨#[97]⟩ : ByteArray), ⟨#[98, 49]⟩] = wlB (⟨#[97, 46, 98, 49]⟩ : ByteArray).data.toList := by decide

set_option maxRecDepth 100000 in
set_option maxHeartbeats 2000000 in
theorem wordsBegun_any (w : World) : Calls Try.prog 19 #[] w fun e w' => e = .returned (.bool true) ∧ Below w.heap.size w w' := by
  go_enter Try.func19, Try.ntmps19
  go_wp2_with fail
  refine (splitK_ok _ [⟨#[97]⟩, ⟨#[98, 49]⟩] two_words _ (by decide)).mono ?_
  rintro e w1 ⟨g, cap, rfl, hg, hcap, hcm, ht, hB1⟩
  go_wp2_with fail
  refine (match_any _ _ _).mono ?_
  rintro e w2 ⟨rfl, hB2⟩
  rw [show mis (⟨#[97, 46, 35, 46, 99]⟩ : ByteArray).data.toList (⟨#[97, 46, 99]⟩ : ByteArray).data.toList = true from by decide, show merr (⟨#[97, 46, 35, 46, 99]⟩ : ByteArray).data.toList (⟨#[97, 46, 99]⟩ : ByteArray).data.toList = 0 from by decide]
  go_wp2_with fail
  refine (match_any _ _ _).mono ?_
  rintro e w3 ⟨rfl, hB3⟩
  rw [show mis (⟨#[97, 46, 42, 46, 99]⟩ : ByteArray).data.toList (⟨#[97, 46, 99]⟩ : ByteArray).data.toList = false from by decide, show merr (⟨#[97, 46, 42, 46, 99]⟩ : ByteArray).data.toList (⟨#[97, 46, 99]⟩ : ByteArray).data.toList = 0 from by decide]
  go_wp2_with fail
  refine (splitK_err _ _ (by decide)).mono ?_
  rintro e w4 ⟨rfl, hB4⟩
  rw [show kerr (⟨#[97, 46, 46, 98]⟩ : ByteArray).data.toList = 1 from by decide]
  go_wp2_with fail
  refine (match_any _ _ _).mono ?_
  rintro e w5 ⟨rfl, hB5⟩
  rw [show mis (⟨#[35]⟩ : ByteArray).data.toList (⟨#[65]⟩ : ByteArray).data.toList = false from by decide, show merr (⟨#[35]⟩ : ByteArray).data.toList (⟨#[65]⟩ : ByteArray).data.toList = 1 from by decide]
  go_wp2_with fail
  have s1 := hB1.size
  have s2 := hB2.size
  have s3 := hB3.size
  have s4 := hB4.size
  have s5 := hB5.size
  have hgl : g < w1.heap.size := ht.lt (by simp)
  have hB15 : Below w1.heap.size w1 w5 := hB2.trans ((hB3.mono s2).trans ((hB4.mono (by omega)).trans (hB5.mono (by omega))))
  have hB05 : Below w.heap.size w w5 := hB1.trans (hB15.mono s1)
  have ht6 : IsTexts (w5.alloc (.cells #[.string ⟨#[97]⟩, .string ⟨#[98, 49]⟩] 9)) g 0 [⟨#[97]⟩, ⟨#[98, 49]⟩] := ht.below (hB15.alloc (by omega) _) hgl
  refine (same_texts [⟨#[97]⟩, ⟨#[98, 49]⟩] g 0 cap w5.heap.size 0 2 _ (by unfold maxLen; simp) ht6 (isTexts_two _ _ _ _)).mono ?_
  rintro e w6 ⟨rfl, n6, rfl⟩
  have hB6 : Below w.heap.size w ((w5.alloc (.cells #[.string ⟨#[97]⟩, .string ⟨#[98, 49]⟩] 9)).drewN n6) := (hB05.alloc (by omega) _).trans ((below_drewN _ n6).mono (by simp; omega))
  obtain ⟨W6, hW6⟩ : ∃ W6, (w5.alloc (.cells #[.string ⟨#[97]⟩, .string ⟨#[98, 49]⟩] 9)).drewN n6 = W6 := ⟨_, rfl⟩
  rw [hW6] at hB6 ⊢
  clear hW6 ht6 ht hB1 hB2 hB3 hB4 hB5 hB15 hB05
  go_wp2_with fail
  refine (pattern_any _ _).mono ?_
  rintro e w7 ⟨rfl, hB7⟩
  rw [show perr (⟨#[42, 46, 35]⟩ : ByteArray).data.toList = 0 from by decide]
  go_wp2_with fail
  refine (pattern_any _ _).mono ?_
  rintro e w8 ⟨rfl, hB8⟩
  rw [show perr (⟨#[97, 42]⟩ : ByteArray).data.toList = 1 from by decide]
  go_wp2_with fail
  refine (pattern_any _ _).mono ?_
  rintro e w9 ⟨rfl, hB9⟩
  rw [show perr (⟨#[97, 46, 98, 46, 99, 46, 100, 46, 101, 46, 102, 46, 103]⟩ : ByteArray).data.toList = 2 from by decide]
  go_wp2_with fail
  go_ret
  have s6 := hB6.size
  have s7 := hB7.size
  have s8 := hB8.size
  exact ⟨rfl, hB6.trans ((hB7.mono (by omega)).trans ((hB8.mono (by omega)).trans (hB9.mono (by omega))))⟩
end Go.Proofs.Ythhkpgnjpieckaa
