/- The walk of the law LinesTells. -/
import Derived.Test.YthhkpgnjpieckaaLb
namespace Go.Proofs.Ythhkpgnjpieckaa
set_option linter.unusedVariables false
set_option maxRecDepth 100000
open Go.RowKit

theorem pushV_small {xs : List ItemD} {x : ItemD} : (pushV xs x).length ≤ 1048577 := by
  unfold pushV
  by_cases h : pushE xs x = 0
  · rw [if_pos h, pushL_len]
    have : lineOk xs = true := by
      cases hl : lineOk xs with
      | true => rfl
      | false => unfold pushE at h; rw [hl] at h; simp at h
    have := lineOk_few this; omega
  · rw [if_neg h]; simp
theorem lineE_eq (xs : List ItemD) : (lineE xs == 0) = lineOk xs := by
  unfold lineE; cases lineOk xs <;> simp

set_option maxRecDepth 100000 in
set_option maxHeartbeats 400000 in
theorem walk_LinesTells (xs : List ItemD) (a : Option Addr) (c : Nat) (x : ItemD) (w : World) (h1 : xs.length ≤ c) (h2 : c ≤ maxLen) (h3 : a = none → c = 0) (hp : ItemsAt w a xs) :
    Calls Try.prog 13 #[.slice a xs.length c, .agg #[.int .i64 x.seq, .string x.key, .string x.body, .bool x.again, .int .i64 x.deaths]] w fun e w' => e = .returned (.bool true) ∧ Below w.heap.size w w' := by
  obtain ⟨n, hn⟩ : ∃ n, xs.length = n := ⟨_, rfl⟩
  rw [hn] at h1 ⊢
  obtain ⟨s, ky, b, ag, d⟩ := x
  dsimp only
  obtain ⟨W1, hW1, hBw, hs1, hbx⟩ := item_box w (.int .i64 s) (.string ky) (.string b) (.bool ag) (.int .i64 d) 59
  have HW1 : Hid (W1 = _) := hW1
  have BX : Hid (∀ W, Below W1.heap.size W1 W → _) := hbx
  have HP : Hid (ItemsAt W1 a xs) := hp.keep hBw
  have HN : Hid (xs.length = n) := hn
  have HM : Hid (n ≤ maxLen) := Nat.le_trans h1 h2
  have H3 : Hid (a = none → c = 0) := h3
  have H12 : Hid (n ≤ c ∧ c ≤ maxLen) := ⟨h1, h2⟩
  obtain ⟨E, hE⟩ : ∃ E, E = pushE xs ⟨s, ky, b, ag, d⟩ := ⟨_, rfl⟩
  obtain ⟨V, hV⟩ : ∃ V, V = pushV xs ⟨s, ky, b, ag, d⟩ := ⟨_, rfl⟩
  have HE : Hid (E = pushE xs ⟨s, ky, b, ag, d⟩) := hE
  have HV : Hid (V = pushV xs ⟨s, ky, b, ag, d⟩) := hV
  have HVS : Hid (V.length ≤ maxLen) := by have := pushV_small (xs := xs) (x := ⟨s, ky, b, ag, d⟩); rw [← hV] at this; show V.length ≤ maxLen; unfold maxLen; omega
  obtain ⟨lb, hlb⟩ : ∃ lb, lb = lineOk xs := ⟨_, rfl⟩
  obtain ⟨le, hle⟩ : ∃ le, le = lineE xs := ⟨_, rfl⟩
  have HLE : Hid (le = lineE xs ∧ lb = lineOk xs) := ⟨hle, hlb⟩
  have HEQ : Hid ((le == 0) = lb) := by show (le == 0) = lb; rw [hle, hlb]; exact lineE_eq xs
  clear hW1 hbx hp hn h1 h2 h3 hE hV hlb hle
  have s1 := hBw.size
  go_enter Try.func13, Try.ntmps13
  go_wp2_with fail
  rw [← HW1.out]
  refine (push_any xs _ _ _ _ _ _ _ _ _ HN.out H12.out.1 H12.out.2 H3.out HP.out).mono ?_
  rintro e w2 ⟨v2, m2, rfl, own2, hB2⟩
  rw [← HE.out]
  rw [← HV.out] at own2
  obtain ⟨d0, d1, d2, d3, d4⟩ := BX.out w2 hB2
  obtain ⟨rfl, a2, c2, rfl, _, _, _, it2⟩ := own_items own2
  clear own2
  go_wp2_with fail
  refine (pushOf_any xs _ _ _ _ _ _ _ _ _ HN.out HM.out (HP.out.keep hB2)).mono ?_
  rintro e w3 ⟨v3, m3, rfl, own3, hB3⟩
  rw [← HE.out]
  rw [← HV.out] at own3
  obtain ⟨rfl, a3, c3, rfl, _, _, _, it3⟩ := own_items own3
  clear own3 d0 d1 d2 d3 d4
  have hB13 : Below W1.heap.size W1 w3 := hB2.trans (hB3.mono hB2.size)
  go_wp2_with fail
  refine (linesBegun_any _).mono ?_
  rintro e w4 ⟨rfl, hB4⟩
  have hB14 : Below W1.heap.size W1 w4 := hB13.trans (hB4.mono hB13.size)
  go_wp2_with fail
  refine (lcheck_any xs _ _ _ _ HN.out HM.out (HP.out.keep hB14)).mono ?_
  rintro e w5 ⟨rfl, hB5⟩
  rw [← HLE.out.1]
  have hB15 : Below W1.heap.size W1 w5 := hB14.trans (hB5.mono hB14.size)
  go_wp2_with fail
  refine (lineFine_any xs _ _ _ _ HN.out HM.out (HP.out.keep hB15)).mono ?_
  rintro e w6 ⟨rfl, hB6⟩
  rw [← HLE.out.2, ← HEQ.out]
  have hB16 : Below W1.heap.size W1 w6 := hB15.trans (hB6.mono hB15.size)
  have hB46 : Below w4.heap.size w4 w6 := hB5.trans (hB6.mono hB5.size)
  have hB36 : Below w3.heap.size w3 w6 := hB4.trans (hB46.mono hB4.size)
  have hB26 : Below w2.heap.size w2 w6 := hB3.trans (hB36.mono hB3.size)
  go_wp2_with fail
  refine (same_items V _ _ _ _ _ _ rfl HVS.out (it2.keep hB26) (it3.keep hB36)).mono ?_
  rintro e w7 ⟨rfl, hB7⟩
  go_wp2_with fail
  go_ret
  exact ⟨ret_bool (by simp), hBw.trans ((hB16.trans (hB7.mono hB16.size)).mono s1)⟩
end Go.Proofs.Ythhkpgnjpieckaa
