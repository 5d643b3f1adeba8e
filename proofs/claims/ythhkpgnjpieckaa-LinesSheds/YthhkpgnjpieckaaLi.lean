/- Letters as plain data; lines.right, mailcoachref.ItemFine. -/
import Derived.Test.YthhkpgnjpieckaaSl
namespace Go.Proofs.Ythhkpgnjpieckaa
set_option linter.unusedVariables false
set_option maxRecDepth 100000
open Go.RowKit

structure ItemD where
  seq : Int
  key : ByteArray
  body : ByteArray
  again : Bool
  deaths : Int
def ItemD.val (x : ItemD) : Value := .agg #[.int .i64 x.seq, .string x.key, .string x.body, .bool x.again, .int .i64 x.deaths]
def itemNums (s d : Int) (b : Nat) : Bool := decide (0 ≤ s) && decide (s < 1048576) && decide (b ≤ 12) && decide (0 ≤ d) && decide (d ≤ 2)
def itemOk (x : ItemD) : Bool := itemNums x.seq x.deaths x.body.size && decide (kerr x.key.data.toList = 0)

theorem splitK_any (s : ByteArray) (w : World) :
    Calls Try.prog 17 #[.string s] w fun e w' => ∃ v, e = .returned (.tuple #[v, .int .i64 (kerr s.data.toList)]) ∧ Below w.heap.size w w' := by
  by_cases h : kerr s.data.toList = 0
  · refine (splitK_ok s _ rfl w h).mono ?_
    rintro e w' ⟨g, cap, rfl, _, _, _, _, hB⟩
    exact ⟨_, by rw [h], hB⟩
  · refine (splitK_err s w h).mono ?_
    rintro e w' ⟨rfl, hB⟩
    exact ⟨_, rfl, hB⟩

theorem item_box (w : World) (v0 v1 v2 v3 v4 : Value) (t : TypeId) : ∃ W1, W1 = w.alloc (.cells #[v0, v1, v2, v3, v4] t) ∧ Below w.heap.size w W1 ∧ W1.heap.size = w.heap.size + 1 ∧
    ∀ W, Below W1.heap.size W1 W → W.cell? ⟨w.heap.size, 0, none⟩ = some v0 ∧ W.cell? ⟨w.heap.size, 1, none⟩ = some v1 ∧ W.cell? ⟨w.heap.size, 2, none⟩ = some v2 ∧ W.cell? ⟨w.heap.size, 3, none⟩ = some v3 ∧ W.cell? ⟨w.heap.size, 4, none⟩ = some v4 := by
  have hh : (w.alloc (.cells #[v0, v1, v2, v3, v4] t)).heap[w.heap.size]? = some (.cells #[v0, v1, v2, v3, v4] t) := World.alloc_heap_new w _
  have hs : (w.alloc (.cells #[v0, v1, v2, v3, v4] t)).heap.size = w.heap.size + 1 := by simp
  have hc : ∀ i, (w.alloc (.cells #[v0, v1, v2, v3, v4] t)).cell? ⟨w.heap.size, i, none⟩ = #[v0, v1, v2, v3, v4][i]? := by intro i; unfold World.cell?; simp only; rw [hh]; rfl
  refine ⟨_, rfl, (Below.refl _ _).alloc (Nat.le_refl _) _, hs, fun W hW => ?_⟩
  have hk : ∀ i, W.cell? ⟨w.heap.size, i, none⟩ = #[v0, v1, v2, v3, v4][i]? := fun i => (hW.cell (p := ⟨w.heap.size, i, none⟩) (by show w.heap.size < _; omega)).trans (hc i)
  exact ⟨hk 0, hk 1, hk 2, hk 3, hk 4⟩

theorem itemNums_cases (s d : Int) (b : Nat) : (itemNums s d b = true ∧ ¬ s < 0 ∧ ¬ (1048576 : Int) ≤ s ∧ ¬ (12 : Int) < b ∧ ¬ d < 0 ∧ ¬ (2 : Int) < d) ∨
    (itemNums s d b = false ∧ (s < 0 ∨ (¬ s < 0 ∧ (1048576 : Int) ≤ s) ∨ (¬ s < 0 ∧ ¬ (1048576 : Int) ≤ s ∧ (12 : Int) < b) ∨ (¬ s < 0 ∧ ¬ (1048576 : Int) ≤ s ∧ ¬ (12 : Int) < b ∧ d < 0) ∨ (¬ s < 0 ∧ ¬ (1048576 : Int) ≤ s ∧ ¬ (12 : Int) < b ∧ ¬ d < 0 ∧ (2 : Int) < d))) := by
  by_cases h : itemNums s d b = true
  · left; refine ⟨h, ?_⟩; unfold itemNums at h; simp at h; omega
  · right; refine ⟨by simpa using h, ?_⟩; unfold itemNums at h; simp at h; omega

theorem ne0_dec {x : Int} : (x == 0) = decide (x = 0) := by by_cases h : x = 0 <;> simp [h]

set_option maxHeartbeats 2000000 in
theorem right_any (s d : Int) (k b : ByteArray) (a : Bool) (w : World) :
    Calls Try.prog 85 #[.agg #[.int .i64 s, .string k, .string b, .bool a, .int .i64 d]] w fun e w' => e = .returned (.bool (itemOk ⟨s, k, b, a, d⟩)) ∧ Below w.heap.size w w' := by
  rcases itemNums_cases s d b.size with ⟨h, q1, q2, q3, q4, q5⟩ | ⟨h, q⟩
  · have E : Hid (itemOk ⟨s, k, b, a, d⟩ = decide (kerr k.data.toList = 0)) := by show itemOk _ = _; unfold itemOk; simp only [h, Bool.true_and]
    obtain ⟨c, hc⟩ : ∃ c, c = kerr k.data.toList := ⟨_, rfl⟩
    have HC : Hid (c = kerr k.data.toList) := hc
    clear h hc
    go_enter Try.func85, Try.ntmps85
    go_wp2_with fail
    refine (splitK_any _ _).mono ?_
    rintro e w2 ⟨v, rfl, hB2⟩
    rw [← HC.out]
    go_wp2_with fail
    go_ret
    exact ⟨ret_bool (by rw [E.out, ← HC.out]; exact ne0_dec), ((Below.refl _ _).alloc (Nat.le_refl _) _).trans (hB2.mono (by simp))⟩
  · have E : Hid (itemOk ⟨s, k, b, a, d⟩ = false) := by show itemOk _ = _; unfold itemOk; simp only [h, Bool.false_and]
    rw [E.out]
    clear h E
    rcases q with q1 | ⟨q1, q2⟩ | ⟨q1, q2, q3⟩ | ⟨q1, q2, q3, q4⟩ | ⟨q1, q2, q3, q4, q5⟩
    all_goals
      go_enter Try.func85, Try.ntmps85
      go_wp2_with fail
      go_ret
      exact ⟨rfl, (Below.refl _ _).alloc (Nat.le_refl _) _⟩

def inR2 (a b c : Int) : Bool := decide (b ≤ a ∧ a ≤ c)
theorem itemOk_eq (x : ItemD) : itemOk x = (inR2 x.seq 0 1048575 && decide (kerr x.key.data.toList = 0) && decide ((x.body.size : Int) ≤ 12) && inR2 x.deaths 0 2) := by
  unfold itemOk itemNums inR2
  rw [Bool.eq_iff_iff]; simp; omega

theorem within_it (a b c : Int) (w : World) :
    Calls Try.prog 74 #[.int .i64 a, .int .i64 b, .int .i64 c] w fun e w' => e = .returned (.bool (inR2 a b c)) ∧ w' = w := by
  by_cases h1 : b ≤ a
  · have E : inR2 a b c = decide (a ≤ c) := by unfold inR2; simp [h1]
    rw [E]
    go_enter Try.func74, Try.ntmps74
    go_wp2
    go_ret
    exact ⟨rfl, rfl⟩
  · have E : inR2 a b c = false := by unfold inR2; simp [h1]
    rw [E]
    go_enter Try.func74, Try.ntmps74
    go_wp2
    go_ret
    exact ⟨rfl, rfl⟩

set_option maxHeartbeats 2000000 in
theorem itemFine_any (s d : Int) (k b : ByteArray) (a : Bool) (w : World) :
    Calls Try.prog 89 #[.agg #[.int .i64 s, .string k, .string b, .bool a, .int .i64 d]] w fun e w' => e = .returned (.bool (itemOk ⟨s, k, b, a, d⟩)) ∧ Below w.heap.size w w' := by
  have E : Hid (itemOk ⟨s, k, b, a, d⟩ = (inR2 s 0 1048575 && decide (kerr k.data.toList = 0) && decide ((b.size : Int) ≤ 12) && inR2 d 0 2)) := itemOk_eq ⟨s, k, b, a, d⟩
  obtain ⟨r1, h1⟩ : ∃ r, r = inR2 s 0 1048575 := ⟨_, rfl⟩
  obtain ⟨r2, h2⟩ : ∃ r, r = inR2 d 0 2 := ⟨_, rfl⟩
  obtain ⟨c, hc⟩ : ∃ c, c = kerr k.data.toList := ⟨_, rfl⟩
  have H1 : Hid (r1 = inR2 s 0 1048575) := h1
  have H2 : Hid (r2 = inR2 d 0 2) := h2
  have HC : Hid (c = kerr k.data.toList) := hc
  rw [← h1, ← h2, ← hc] at E
  clear h1 h2 hc
  obtain ⟨q, hq⟩ : ∃ q, q = itemOk ⟨s, k, b, a, d⟩ := ⟨_, rfl⟩
  rw [← hq] at E ⊢
  clear hq
  obtain ⟨W1, hW1, hBw, hs1, hbx⟩ := item_box w (.int .i64 s) (.string k) (.string b) (.bool a) (.int .i64 d) 59
  have HW1 : Hid (W1 = _) := hW1
  have BX : Hid (∀ W, Below W1.heap.size W1 W → _) := hbx
  clear hW1 hbx hs1
  cases r1 <;> by_cases hc0 : c = 0 <;> by_cases hb : (b.size : Int) ≤ 12 <;> cases r2
  all_goals
    have E' := E.out
    simp [hc0, hb] at E'
    subst E'
    clear E
    go_enter Try.func89, Try.ntmps89
    go_wp2_with fail
    rw [← HW1.out]
    refine (within_it _ _ _ _).mono ?_
    rintro e w' ⟨rfl, rfl⟩
    rw [← H1.out]
    obtain ⟨d0, d1, d2, d3, d4⟩ := BX.out w' (Below.refl _ _)
    go_wp2_with (first
      | (go_at_call 74; refine (within_it _ _ _ _).mono ?_; rintro e w' ⟨rfl, rfl⟩; rw [← H2.out])
      | (go_at_call 56; refine (keyError_any _ _).mono ?_; rintro e w2 ⟨rfl, hB2⟩; obtain ⟨d0, d1, d2, d3, d4⟩ := BX.out w2 hB2; rw [← HC.out]))
    go_ret
    exact ⟨rfl, by first | exact hBw | exact hBw.trans (hB2.mono hBw.size)⟩
end Go.Proofs.Ythhkpgnjpieckaa
