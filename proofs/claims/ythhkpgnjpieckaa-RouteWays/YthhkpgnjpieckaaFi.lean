/- mailcoachref.Fit, MatchOf. -/
import Derived.Test.YthhkpgnjpieckaaLd
namespace Go.Proofs.Ythhkpgnjpieckaa
set_option linter.unusedVariables false
set_option maxRecDepth 100000
open Go.RowKit

theorem IsTexts.below {W W' : World} {B g o : Nat} {xs : List ByteArray} (h : IsTexts W g o xs) (hB : Below B W W') (hg : g < B) : IsTexts W' g o xs :=
  fun i hi => (hB.cell (p := ⟨g, o + i, none⟩) hg).trans (h i hi)
theorem IsTexts.lt {W : World} {g o : Nat} {xs : List ByteArray} (h : IsTexts W g o xs) (hne : 0 < xs.length) : g < W.heap.size := by
  have := h 0 hne
  unfold World.cell? at this
  simp only at this
  cases hb : W.heap[g]? with
  | none => rw [hb] at this; cases this
  | some o => exact (Array.getElem?_eq_some_iff.1 hb).1
theorem IsTexts.keep {W W' : World} {g o : Nat} {xs : List ByteArray} (h : IsTexts W g o xs) (hne : 0 < xs.length) (hB : Below W.heap.size W W') : IsTexts W' g o xs := h.below hB (h.lt hne)
theorem below_drewN (w : World) (n : Nat) : Below w.heap.size w (w.drewN n) := ⟨rfl, rfl, rfl, Nat.le_refl _, fun _ _ => rfl⟩
theorem fitL_eq (p k : List UInt8) : fitL p k = laidB (wlB p) (wlB k) := by unfold fitL laidB; rw [wlB_list, wlB_list]

set_option maxHeartbeats 1000000 in
theorem fit_any (p k : ByteArray) (w : World) (hp : p.size ≤ 24) (hk : k.size ≤ 24) :
    Calls Try.prog 61 #[.string p, .string k] w fun e w' => e = .returned (.bool (fitL p.data.toList k.data.toList)) ∧ Below w.heap.size w w' := by
  have hl1 := wlB_len p.data.toList
  have hl2 := wlB_len k.data.toList
  have hl3 : (wlB k.data.toList).length ≤ 100 := by
    have := wsplit_le k.data.toList
    simp [wlB] at *; omega
  rw [fitL_eq]
  obtain ⟨xs, hxs⟩ : ∃ xs, xs = wlB p.data.toList := ⟨_, rfl⟩
  obtain ⟨ys, hys⟩ : ∃ ys, ys = wlB k.data.toList := ⟨_, rfl⟩
  rw [← hxs] at hl1 ⊢
  rw [← hys] at hl2 hl3 ⊢
  have HX : Hid (xs = wlB p.data.toList) := hxs
  have HY : Hid (ys = wlB k.data.toList) := hys
  have h1 : 0 < xs.length := by omega
  have h2 : 0 < ys.length := by omega
  clear hxs hys hl1 hl2
  go_enter Try.func61, Try.ntmps61
  go_wp2_with fail
  refine (split_texts p xs HX.out _ hp).mono ?_
  rintro e w1 ⟨g1, c1, rfl, hg1, hc1, hm1, ht1, hB1⟩
  go_wp2_with fail
  refine (split_texts k ys HY.out _ hk).mono ?_
  rintro e w2 ⟨g2, c2, rfl, hg2, hc2, hm2, ht2, hB2⟩
  go_wp2_with fail
  refine (laid_any xs ys _ _ _ _ _ _ _ rfl rfl hc1 hm1 hc2 hm2 hl3 (.inr ⟨g1, 0, rfl, ht1.keep h1 hB2⟩) (.inr ⟨g2, 0, rfl, ht2⟩)).mono ?_
  rintro e w3 ⟨rfl, n, rfl⟩
  go_wp2_with fail
  go_ret
  exact ⟨rfl, hB1.trans ((hB2.mono hB1.size).trans ((below_drewN w2 n).mono (by have := hB1.size; have := hB2.size; omega)))⟩

set_option maxHeartbeats 1000000 in
theorem matchOf_any (p k : ByteArray) (w : World) :
    Calls Try.prog 24 #[.string p, .string k] w fun e w' => e = .returned (.tuple #[.bool (mis p.data.toList k.data.toList), .int .i64 (merr p.data.toList k.data.toList)]) ∧ Below w.heap.size w w' := by
  by_cases h1 : perr p.data.toList = 0
  · by_cases h2 : kerr k.data.toList = 0
    · obtain ⟨q1, _⟩ := werr_zero h1
      obtain ⟨q2, _⟩ := werr_zero h2
      have hp : p.size ≤ 24 := by simpa using q1
      have hk : k.size ≤ 24 := by simpa using q2
      rw [show mis p.data.toList k.data.toList = fitL p.data.toList k.data.toList from by simp [mis, merr, h1, h2], show merr p.data.toList k.data.toList = 0 from by simp [merr, h1, h2]]
      have H1 : Hid (perr p.data.toList = 0) := h1
      have H2 : Hid (kerr k.data.toList = 0) := h2
      clear h1 h2 q1 q2
      go_enter Try.func24, Try.ntmps24
      go_wp2_with (first
        | (go_at_call 22; refine (patternError_any _ _).mono ?_; rintro e w1 ⟨rfl, hB1⟩; rw [H1.out])
        | (go_at_call 56; refine (keyError_any _ _).mono ?_; rintro e w2 ⟨rfl, hB2⟩; rw [H2.out])
        | (go_at_call 61; refine (fit_any _ _ _ hp hk).mono ?_; rintro e w3 ⟨rfl, hB3⟩))
      go_ret2
      exact ⟨rfl, hB1.trans ((hB2.mono hB1.size).trans (hB3.mono (by have := hB1.size; have := hB2.size; omega)))⟩
    · rw [show mis p.data.toList k.data.toList = false from by simp [mis, merr, h1, h2], show merr p.data.toList k.data.toList = kerr k.data.toList from by simp [merr, h1]]
      have h' : (kerr k.data.toList != 0) = true := bne_iff_ne.2 h2
      obtain ⟨c, hc⟩ : ∃ c, c = kerr k.data.toList := ⟨_, rfl⟩
      have HC : Hid (c = kerr k.data.toList) := hc
      rw [← hc] at h' ⊢
      have H1 : Hid (perr p.data.toList = 0) := h1
      clear hc h1 h2
      go_enter Try.func24, Try.ntmps24
      go_wp2_with (first
        | (go_at_call 22; refine (patternError_any _ _).mono ?_; rintro e w1 ⟨rfl, hB1⟩; rw [H1.out])
        | (go_at_call 56; refine (keyError_any _ _).mono ?_; rintro e w2 ⟨rfl, hB2⟩; rw [← HC.out]))
      go_ret2
      exact ⟨rfl, hB1.trans (hB2.mono hB1.size)⟩
  · rw [show mis p.data.toList k.data.toList = false from by simp [mis, merr, h1], show merr p.data.toList k.data.toList = perr p.data.toList from by simp [merr, h1]]
    have h' : (perr p.data.toList != 0) = true := bne_iff_ne.2 h1
    obtain ⟨c, hc⟩ : ∃ c, c = perr p.data.toList := ⟨_, rfl⟩
    have HC : Hid (c = perr p.data.toList) := hc
    rw [← hc] at h' ⊢
    clear hc h1
    go_enter Try.func24, Try.ntmps24
    go_wp2_with (go_at_call 22; refine (patternError_any _ _).mono ?_; rintro e w1 ⟨rfl, hB1⟩; rw [← HC.out])
    go_ret2
    exact ⟨rfl, hB1⟩
end Go.Proofs.Ythhkpgnjpieckaa
