/- The walk of the law WordsStar. -/
import Derived.Laws.Concat
import Derived.OpenShut
import Derived.Test.YthhkpgnjpieckaaBg
import Derived.Test.YthhkpgnjpieckaaPt
namespace Go.Proofs.Ythhkpgnjpieckaa
open Go.RowKit
set_option linter.unusedVariables false
set_option maxRecDepth 100000

/-- i stars; a # and i - 1 stars. -/
def starT (c : UInt8) : Nat → ByteArray
  | 0 => ⟨#[c]⟩
  | i + 1 => starT c i ++ (⟨#[46, 42]⟩ : ByteArray)
theorem starT_size (c : UInt8) : ∀ i, (starT c i).size = 2 * i + 1
  | 0 => rfl
  | i + 1 => by
    have := starT_size c i
    have e : (starT c (i + 1)).size = (starT c i).size + 2 := by show (starT c i ++ (⟨#[46, 42]⟩ : ByteArray)).size = _; rw [ByteArray.size_append]; rfl
    omega
theorem starT_split (c : UInt8) (hc : c ≠ 46) : ∀ i, wsplit (starT c i).data.toList = [c] :: List.replicate i [42]
  | 0 => by show wsplit [c] = _; simp [wsplit, hc]
  | i + 1 => by
    have e : (starT c (i + 1)).data.toList = (starT c i).data.toList ++ 46 :: [42] := by show (starT c i ++ (⟨#[46, 42]⟩ : ByteArray)).data.toList = _; simp
    rw [e, wsplit_append, starT_split c hc i, show wsplit [42] = [[42]] from by decide, List.replicate_succ']
    simp
theorem starT_perr (c : UInt8) (hc : isP [c] = true) (hc' : c ≠ 46) (i : Nat) (hi : i ≤ 5) : perr (starT c i).data.toList = 0 := by
  have hs := starT_size c i
  have hl : (starT c i).data.toList.length = 2 * i + 1 := by simpa using hs
  unfold perr werr
  rw [starT_split c hc', if_neg (by simp; omega), if_pos]
  rw [List.all_eq_true]
  intro x hx
  rcases List.mem_cons.1 hx with rfl | hx
  · exact hc
  · rw [List.eq_of_mem_replicate hx]; decide
theorem laid_stars : ∀ (i : Nat) (ks : List (List UInt8)), laidL (List.replicate i [42]) ks = decide (i = ks.length)
  | 0, ks => by cases ks <;> simp [laidL]
  | i + 1, [] => by simp [laidL, List.replicate_succ]
  | i + 1, k :: ks => by simp [laidL, List.replicate_succ, laid_stars i ks]
theorem fit_stars (i : Nat) (k : List UInt8) : fitL (starT 42 i).data.toList k = decide (i + 1 = (wsplit k).length) := by
  unfold fitL
  rw [starT_split 42 (by decide), ← List.replicate_succ, laid_stars]
theorem fit_mixed (i : Nat) (k : List UInt8) : fitL (starT 35 i).data.toList k = decide (i ≤ (wsplit k).length) := by
  unfold fitL
  rw [starT_split 35 (by decide)]
  simp only [laidL, if_true, laid_stars, List.length_drop]
  rw [Bool.eq_iff_iff, List.any_eq_true, decide_eq_true_iff]
  constructor
  · rintro ⟨n, hn, h⟩
    simp at hn h; omega
  · intro h
    exact ⟨(wsplit k).length - i, by simp; omega, by simp; omega⟩

set_option maxHeartbeats 400000 in
theorem choose_any (c : Int) (w : World) (h1 : -9223372036854775808 ≤ c) (h2 : c ≤ 9223372036854775807) :
    Calls Try.prog 25 #[.int .i64 c, .int .i64 6] w fun e w' => ∃ r : Nat, r < 6 ∧ e = .returned (.int .i64 r) ∧ w' = w := by
  by_cases h : c < 0
  · go_enter Try.func25, Try.ntmps25
    go_wp2
    go_ret
    have e : -(c + 1).tmod 6 = (-(c + 1)) % 6 := by rw [← Int.neg_tmod, Int.tmod_eq_emod_of_nonneg (by omega)]
    exact ⟨((-(c + 1)) % 6).toNat, by omega, ret_int (k := .i64) (by rw [e]; omega), rfl⟩
  · go_enter Try.func25, Try.ntmps25
    go_wp2
    go_ret
    exact ⟨(c % 6).toNat, by omega, ret_int (k := .i64) (by omega), rfl⟩

theorem wlB_wsplit (l : List UInt8) : (wlB l).length = (wsplit l).length := by simp [wlB]

set_option maxRecDepth 100000 in
set_option maxHeartbeats 4000000 in
theorem walk_WordsStar (k : ByteArray) (_ : k.size ≤ maxLen) (n : Int) (hn : (Lit.int .i64 n).wf = true) (w : World) :
    Calls Try.prog 6 #[.string k, .int .i64 n] w fun e w' => e = .returned (.bool true) ∧ Below w.heap.size w w' := by
  have hn' : -9223372036854775808 ≤ n ∧ n ≤ 9223372036854775807 := bounds_i64 hn
  by_cases h : kerr k.data.toList = 0
  · obtain ⟨xs, hxs⟩ : ∃ xs, xs = wlB k.data.toList := ⟨_, rfl⟩
    have hl6 : xs.length ≤ 6 := by rw [hxs, wlB_len]; have := (werr_zero h).2; omega
    have HL : Hid ((wsplit k.data.toList).length = xs.length) := by rw [hxs, wlB_wsplit]; rfl
    have HX : Hid (xs = wlB k.data.toList) := hxs
    have HC : Hid (kerr k.data.toList = 0) := h
    clear h hxs hn
    go_enter Try.func6, Try.ntmps6
    go_wp2_with fail
    refine (splitK_ok k xs HX.out _ HC.out).mono ?_
    rintro e w1 ⟨g1, c1, rfl, hg1, hc1, hm1, ht1, hB1⟩
    go_wp2_with fail
    refine (choose_any n _ hn'.1 hn'.2).mono ?_
    rintro e w2 ⟨r, hr, rfl, rfl⟩
    go_wp2_with fail
    go_loop [8, 9, 10] (fun a b i => ∃ j : Nat, j ≤ r ∧ a = .string (starT 42 j) ∧ b = .string (starT 35 j) ∧ i = .int .i64 (j + 1)) (fun _ _ i => r + 1 - (intOf i).toNat)
    case atStart => exact ⟨0, Nat.zero_le _, rfl, rfl, rfl⟩
    case round =>
      obtain ⟨j, hj, rfl, rfl, rfl⟩ := hrel
      by_cases hlt : j < r
      · have z1 := starT_size 42 j
        have z2 := starT_size 35 j
        have a1 : ∀ w, (Op.stringOp .add (starT 42 j) ⟨#[46, 42]⟩).run Try.prog w = .ok (.string (starT 42 (j + 1))) w := fun w => run_string_add_sum w _ _ (by rw [z1]; show 2 * j + 1 + 2 ≤ _; omega)
        have a2 : ∀ w, (Op.stringOp .add (starT 35 j) ⟨#[46, 42]⟩).run Try.prog w = .ok (.string (starT 35 (j + 1))) w := fun w => run_string_add_sum w _ _ (by rw [z2]; show 2 * j + 1 + 2 ≤ _; omega)
        clear z1 z2
        go_wp2_with fail
        go_round
        case rel => exact ⟨j + 1, by omega, rfl, rfl, by go_num⟩
        case measure => simp [intOf]; omega
      · obtain rfl : j = r := by omega
        have m1 : mis (starT 42 j).data.toList k.data.toList = decide (j + 1 = xs.length) := by
          rw [mis_mk (starT_perr 42 (by decide) (by decide) j (by omega)) HC.out, fit_stars, HL.out]
        have m2 : mis (starT 35 j).data.toList k.data.toList = decide (j ≤ xs.length) := by
          rw [mis_mk (starT_perr 35 (by decide) (by decide) j (by omega)) HC.out, fit_mixed, HL.out]
        have M1 : Hid (∀ w, Calls Try.prog 23 #[.string (starT 42 j), .string k] w fun e w' => e = .returned (.tuple #[.bool (decide (j + 1 = xs.length)), .int .i64 0]) ∧ Below w.heap.size w w') := fun w => by
          have h := match_any (starT 42 j) k w
          rw [m1, merr_mk (starT_perr 42 (by decide) (by decide) j (by omega)) HC.out] at h
          exact h
        have M2 : Hid (∀ w, Calls Try.prog 23 #[.string (starT 35 j), .string k] w fun e w' => e = .returned (.tuple #[.bool (decide (j ≤ xs.length)), .int .i64 0]) ∧ Below w.heap.size w w') := fun w => by
          have h := match_any (starT 35 j) k w
          rw [m2, merr_mk (starT_perr 35 (by decide) (by decide) j (by omega)) HC.out] at h
          exact h
        have t1 : ((1 + (j : Int)) == (xs.length : Int)) = decide (j + 1 = xs.length) := by
          rw [Bool.eq_iff_iff, beq_iff_eq, decide_eq_true_iff]; omega
        have t2 : decide (1 + (j : Int) - 1 ≤ (xs.length : Int)) = decide (j ≤ xs.length) := by
          rw [Bool.eq_iff_iff, decide_eq_true_iff, decide_eq_true_iff]; omega
        obtain ⟨b1, hb1⟩ : ∃ b, decide (j + 1 = xs.length) = b := ⟨_, rfl⟩
        obtain ⟨b2, hb2⟩ : ∃ b, decide (j ≤ xs.length) = b := ⟨_, rfl⟩
        rw [hb1] at t1 M1
        rw [hb2] at t2 M2
        clear m1 m2 hlt ht1 hb1 hb2
        go_wp2_with fail
        refine (M1.out _).mono ?_
        rintro e w3 ⟨rfl, hB3⟩
        go_wp2_with fail
        refine (M2.out _).mono ?_
        rintro e w4 ⟨rfl, hB4⟩
        go_wp2_with fail
        refine (wordsBegun_any _).mono ?_
        rintro e w5 ⟨rfl, hB5⟩
        go_wp2_with fail
        go_ret
        have s1 := hB1.size
        have s3 := hB3.size
        have s4 := hB4.size
        exact ⟨ret_bool (by simp), hB1.trans ((hB3.mono s1).trans ((hB4.mono (by omega)).trans (hB5.mono (by omega))))⟩
  · obtain ⟨d, hd⟩ : ∃ d, d = kerr k.data.toList := ⟨_, rfl⟩
    have H1 : Hid (∀ w, Calls Try.prog 17 #[.string k] w fun e w' => e = .returned (.tuple #[.slice none 0 0, .int .i64 d]) ∧ Below w.heap.size w w') := fun w => by rw [hd]; exact splitK_err k w h
    have hd' : (d != 0) = true := by rw [hd]; exact bne_iff_ne.2 h
    clear h hd
    go_enter Try.func6, Try.ntmps6
    go_wp2_with fail
    refine (H1.out _).mono ?_
    rintro e w1 ⟨rfl, hB1⟩
    go_wp2_with fail
    refine (wordsBegun_any _).mono ?_
    rintro e w2 ⟨rfl, hB2⟩
    go_wp2_with fail
    go_ret
    exact ⟨rfl, hB1.trans (hB2.mono hB1.size)⟩
end Go.Proofs.Ythhkpgnjpieckaa
