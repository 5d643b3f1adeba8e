/- slices.Sort over a few numbers. -/
import Derived.RegionTactic
import Derived.Deep.QuietTactic
import Derived.BigQuiet
import Derived.Test.YthhkpgnjpieckaaRr
namespace Go.Proofs.Ythhkpgnjpieckaa
set_option linter.unusedVariables false
set_option maxRecDepth 100000
open Go.RowKit

/-- Numbers in a block. -/
def IntRow (W : World) (g : Nat) (zs : List Int) : Prop := ∃ cur, W.heap[g]? = some (.cells cur 3 (0, 0)) ∧ ∀ i (h : i < zs.length), cur[i]? = some (.int .i64 zs[i])
theorem IntRow.lt {W : World} {g : Nat} {zs : List Int} (h : IntRow W g zs) : g < W.heap.size := by obtain ⟨cur, h1, _⟩ := h; exact (Array.getElem?_eq_some_iff.1 h1).1
theorem IntRow.cell {W : World} {g : Nat} {zs : List Int} (h : IntRow W g zs) {i : Nat} (hi : i < zs.length) : W.cell? ⟨g, i, none⟩ = some (.int .i64 zs[i]) := by
  obtain ⟨cur, h1, h2⟩ := h; rw [cell_of h1, h2 i hi]
theorem IntRow.free {W : World} {g : Nat} {zs : List Int} (h : IntRow W g zs) (i : Nat) : W.frozen? ⟨g, i, none⟩ = false := by
  obtain ⟨cur, h1, _⟩ := h; simp [World.frozen?, h1]
theorem IntRow.keep {W W' : World} {g : Nat} {zs : List Int} (h : IntRow W g zs) (e : W'.heap[g]? = W.heap[g]?) : IntRow W' g zs := by
  obtain ⟨cur, h1, h2⟩ := h; exact ⟨cur, e.trans h1, h2⟩
theorem IntRow.set {W : World} {g : Nat} {zs : List Int} (h : IntRow W g zs) {i : Nat} (hi : i < zs.length) (x : Int) : IntRow (W.setCell ⟨g, i, none⟩ (.int .i64 x)) g (zs.set i x) := by
  obtain ⟨cur, h1, h2⟩ := h
  refine ⟨_, heap_setCell_same W g i cur 3 _ h1, fun j hj => ?_⟩
  rw [List.length_set] at hj
  by_cases e : i = j
  · subst e
    have hc := h2 i hi
    have hlt := (Array.getElem?_eq_some_iff.1 hc).1
    simp [hlt]
  · rw [Array.getElem?_setIfInBounds_ne e, h2 j hj, List.getElem_set_ne e]
theorem setCell_turn (W : World) (g i : Nat) (v : Value) : Turn (fun k => k = g) W (W.setCell ⟨g, i, none⟩ v) :=
  ⟨rfl, rfl, rfl, by simp [World.setCell], fun k _ hk => Below.heap_setCell _ _ _ _ (fun e => hk (by first | exact e | exact e.symm))⟩

set_option maxHeartbeats 400000 in
theorem isNaN_any (x : Int) (w : World) : Calls Try.prog 144 #[.int .i64 x] w fun e w' => e = .returned (.bool false) ∧ w' = w := by
  go_enter Try.func144, Try.ntmps144
  go_wp2
  go_ret
  exact ⟨rfl, rfl⟩
set_option maxHeartbeats 400000 in
theorem less_any (x y : Int) (w : World) : Calls Try.prog 132 #[.int .i64 x, .int .i64 y] w fun e w' => e = .returned (.bool (decide (x < y))) ∧ w' = w := by
  go_enter Try.func132, Try.ntmps132
  go_wp2_with (go_at_call 144; refine (isNaN_any _ _).mono ?_; rintro e w' ⟨rfl, rfl⟩)
  go_ret
  exact ⟨rfl, rfl⟩

/-- The first k rise. -/
def SortedTo (ys : List Int) (k : Nat) : Prop := ∀ a b (hab : a < b) (hb : b < ys.length), b < k → ys[a]'(Nat.lt_trans hab hb) ≤ ys[b]
/-- The first k + 1 rise, but for the one at j, which is no greater than those behind it. -/
structure ButOne (ys : List Int) (j k : Nat) : Prop where
  rise : ∀ a b (hab : a < b) (hb : b < ys.length), b ≤ k → a ≠ j → b ≠ j → ys[a]'(Nat.lt_trans hab hb) ≤ ys[b]
  least : ∀ b (hjb : j < b) (hb : b < ys.length), b ≤ k → ys[j]'(Nat.lt_trans hjb hb) ≤ ys[b]
theorem ButOne.start {ys : List Int} {k : Nat} (h : SortedTo ys k) : ButOne ys k k := ⟨fun a b hab hb hk ha hb' => h a b hab hb (by omega), fun b h1 hb h2 => by omega⟩
theorem ButOne.done {ys : List Int} {j k : Nat} (h : ButOne ys j k) (hj : ∀ (h0 : 0 < j) (h1 : j < ys.length), ys[j - 1]'(by omega) ≤ ys[j]) : SortedTo ys (k + 1) := by
  intro a b hab hb hk
  by_cases ha : a = j
  · subst ha; exact h.least b hab hb (by omega)
  · by_cases hb' : b = j
    · subst hb'
      have h1 := hj (by omega) hb
      by_cases e : a = b - 1
      · subst e; exact h1
      · exact Int.le_trans (h.rise a (b - 1) (by omega) (by omega) (by omega) ha (by omega)) h1
    · exact h.rise a b hab hb (by omega) ha hb'
def swapL (ys : List Int) (j : Nat) (h : j + 1 < ys.length) : List Int := (ys.set (j + 1) ys[j]).set j ys[j + 1]
theorem swapL_len (ys : List Int) (j : Nat) (h : j + 1 < ys.length) : (swapL ys j h).length = ys.length := by simp [swapL]
theorem swapL_perm (ys : List Int) (j : Nat) (h : j + 1 < ys.length) : (swapL ys j h).Perm ys := by
  have h1 := Array.swap_perm (xs := ys.toArray) (i := j + 1) (j := j) (by simpa using h) (by simp; omega)
  have h2 := h1.toList
  rw [Array.toList_swap] at h2
  simpa [swapL] using h2
theorem swapL_get (ys : List Int) (j : Nat) (h : j + 1 < ys.length) (a : Nat) (ha : a < ys.length) : (swapL ys j h)[a]'(by rw [swapL_len]; exact ha) = if a = j then ys[j + 1] else if a = j + 1 then ys[j] else ys[a] := by
  unfold swapL
  by_cases e : j = a
  · subst e; simp
  · by_cases e2 : j + 1 = a
    · subst e2; simp
    · have e' : ¬ a = j := fun h => e h.symm
      have e2' : ¬ a = j + 1 := fun h => e2 h.symm
      simp [e, e2, e', e2']
theorem ButOne.swap {ys : List Int} {j k : Nat} (h : ButOne ys (j + 1) k) (hj : j + 1 < ys.length) (hk : j + 1 ≤ k) (hlt : ys[j + 1] < ys[j]) : ButOne (swapL ys j hj) j k := by
  constructor
  · intro a b hab hb hbk ha hb'
    have hb2 : b < ys.length := by rw [swapL_len] at hb; exact hb
    rw [swapL_get ys j hj a (by omega), swapL_get ys j hj b hb2, if_neg ha, if_neg hb']
    by_cases e1 : a = j + 1
    · rw [if_pos e1, if_neg (by omega)]
      exact h.rise j b (by omega) hb2 hbk (by omega) (by omega)
    · rw [if_neg e1]
      by_cases e2 : b = j + 1
      · rw [if_pos e2]; exact h.rise a j (by omega) (by omega) (by omega) e1 (by omega)
      · rw [if_neg e2]; exact h.rise a b hab hb2 hbk e1 e2
  · intro b hjb hb hbk
    have hb2 : b < ys.length := by rw [swapL_len] at hb; exact hb
    rw [swapL_get ys j hj j (by omega), swapL_get ys j hj b hb2, if_pos rfl, if_neg (by omega)]
    by_cases e2 : b = j + 1
    · rw [if_pos e2]; omega
    · rw [if_neg e2]; exact h.least b (by omega) hb2 hbk

set_option maxHeartbeats 2000000 in
theorem ins_any (zs : List Int) (g n c : Nat) (w : World) (hn : zs.length = n) (h12 : n ≤ 12) (hrow : IntRow w g zs) :
    Calls Try.prog 126 #[.slice (some ⟨g, 0, none⟩) n c, .int .i64 0, .int .i64 n] w fun e w' => (∃ v, e = .returned v) ∧ ∃ ys, ys.Perm zs ∧ SortedTo ys n ∧ IntRow w' g ys ∧ Turn (fun k => k = g) w w' := by
  have HN : Hid (zs.length = n) := hn
  clear hn
  go_enter Try.func126, Try.ntmps126
  go_wp2
  go_loopw [6, 7] (fun i _ wr => ∃ (k : Nat) (ys : List Int), 1 ≤ k ∧ (k ≤ n ∨ k = 1) ∧ i = .int .i64 k ∧ ys.Perm zs ∧ SortedTo ys k ∧ IntRow wr g ys ∧ Turn (fun k => k = g) w wr) (fun i _ _ => n - (intOf i).toNat)
  case atStart => exact ⟨1, zs, by omega, .inr rfl, rfl, List.Perm.refl _, fun a b h1 hb h2 => by omega, hrow, Turn.refl _ _⟩
  case round =>
    obtain ⟨k, ys, hk1, hk2, rfl, hpm, hso, hrw, htn⟩ := hrel
    have hyl : ys.length = n := by rw [hpm.length_eq, HN.out]
    have HPS : Hid (ys.Perm zs ∧ SortedTo ys k ∧ ys.length = n) := ⟨hpm, hso, hyl⟩
    clear hpm hso hyl
    by_cases hlt : k < n
    · go_wp2
      go_loopw [7] (fun jv wr2 => ∃ (j : Nat) (ys : List Int), j ≤ k ∧ jv = .int .i64 j ∧ ys.Perm zs ∧ ButOne ys j k ∧ IntRow wr2 g ys ∧ Turn (fun k => k = g) w wr2) (fun jv _ => (intOf jv).toNat)
      case atStart => exact ⟨k, ys, Nat.le_refl _, rfl, HPS.out.1, ButOne.start HPS.out.2.1, hrw, htn⟩
      case round =>
        clear hrw htn HPS ys
        obtain ⟨j, ys, hjk, rfl, hpm, hbo, hrw, htn⟩ := hrel
        have hyl : ys.length = n := by rw [hpm.length_eq, HN.out]
        have HPS : Hid (ys.Perm zs ∧ ButOne ys j k ∧ ys.length = n) := ⟨hpm, hbo, hyl⟩
        rcases Nat.eq_zero_or_pos j with hj0 | hj0
        · subst hj0
          have HF : Hid (SortedTo ys (k + 1)) := hbo.done (fun h _ => by omega)
          clear hpm hbo hyl
          go_wp2
          go_quiet ((go_at_call 132; exact Calls.quiet_of_same (less_any _ _ _)))
          go_wp2
          go_roundw
          case rel => exact ⟨k + 1, ys, by omega, .inl (by omega), by go_num, HPS.out.1, HF.out, hrw.keep rfl, ⟨htn.os, htn.tape, htn.output, htn.size, htn.block⟩⟩
          case measure => simp [intOf]; omega
        · obtain ⟨j', rfl⟩ : ∃ j', j = j' + 1 := ⟨j - 1, by omega⟩
          have hjl : j' + 1 < ys.length := by omega
          have c1 := hrw.cell hjl
          have c0 := hrw.cell (show j' < ys.length by omega)
          have f1 := hrw.free (j' + 1)
          have f0 := hrw.free j'
          obtain ⟨x1, hx1⟩ : ∃ x, x = ys[j' + 1] := ⟨_, rfl⟩
          obtain ⟨x0, hx0⟩ : ∃ x, x = ys[j'] := ⟨_, rfl⟩
          rw [← hx1] at c1
          rw [← hx0] at c0
          have HX : Hid (x1 = ys[j' + 1] ∧ x0 = ys[j']) := ⟨hx1, hx0⟩
          have j1 : (j' : Int) + 1 < n := by omega
          have j0 : (j' : Int) < n := by omega
          have jz : (0 : Int) < (j' : Int) + 1 := by omega
          have jz2 : (0 : Int) ≤ (j' : Int) + 1 := by omega
          have jw : IntKind.i64.wrap ((j' : Int) + 1 - 1) = (j' : Int) := by rw [IntKind.wrap_i64]; omega
          have jw2 : IntKind.i64.wrap (j' : Int) = (j' : Int) := by rw [IntKind.wrap_i64]; omega
          by_cases hless : x1 < x0
          · have hd : decide (x1 < x0) = true := by simpa using hless
            have HB : Hid (ButOne (swapL ys j' hjl) j' k) := hbo.swap hjl hjk (by rw [← hx1, ← hx0]; exact hless)
            clear hpm hbo hyl hx1 hx0 hless
            go_wp2
            go_quiet ((go_at_call 132; exact Calls.quiet_of_same (less_any _ _ _)))
            go_wp2_with fail
            go_region
            go_wp2
            have hrw2 : IntRow (((wr.drewN (nq + 1)).setCell ⟨g, j' + 1, none⟩ (.int .i64 x0)).setCell ⟨g, j', none⟩ (.int .i64 x1)) g (swapL ys j' hjl) := by
              have hr1 : IntRow (wr.drewN (nq + 1)) g ys := hrw.keep rfl
              have hr2 := hr1.set hjl x0
              have hr3 := hr2.set (i := j') (by rw [List.length_set]; omega) x1
              unfold swapL; rw [← HX.out.1, ← HX.out.2]; exact hr3
            have htn2 : Turn (fun k => k = g) w (((wr.drewN (nq + 1)).setCell ⟨g, j' + 1, none⟩ (.int .i64 x0)).setCell ⟨g, j', none⟩ (.int .i64 x1)) := by
              have t0 : Turn (fun k => k = g) w (wr.drewN (nq + 1)) := ⟨htn.os, htn.tape, htn.output, htn.size, htn.block⟩
              exact (t0.trans (setCell_turn _ _ _ _) (fun _ _ e => e)).trans (setCell_turn _ _ _ _) (fun _ _ e => e)
            go_roundw
            case rel => exact ⟨j', swapL ys j' hjl, by omega, by go_num, (swapL_perm ys j' hjl).trans HPS.out.1, HB.out, hrw2, htn2⟩
            case measure => simp [intOf]
          · have hd : decide (x1 < x0) = false := by simpa using hless
            have HF : Hid (SortedTo ys (k + 1)) := hbo.done (fun _ _ => by simp only [Nat.add_sub_cancel]; rw [← hx1, ← hx0]; omega)
            clear hpm hbo hyl hx1 hx0 hless
            go_wp2
            go_quiet ((go_at_call 132; exact Calls.quiet_of_same (less_any _ _ _)))
            go_wp2
            go_roundw
            case rel => exact ⟨k + 1, ys, by omega, .inl (by omega), by go_num, HPS.out.1, HF.out, hrw.keep rfl, ⟨htn.os, htn.tape, htn.output, htn.size, htn.block⟩⟩
            case measure => simp [intOf]; omega
    · go_wp2
      go_end0
      exact ⟨⟨_, rfl⟩, ys, HPS.out.1, fun a b h1 hb h2 => HPS.out.2.1 a b h1 hb (by have := HPS.out.2.2; omega), hrw, htn⟩

set_option maxHeartbeats 1000000 in
theorem len64_any (n : Nat) (w : World) (h12 : n ≤ 12) : Calls Try.prog 136 #[.int .u64 n] w fun e w' => (∃ k : Int, e = .returned (.int .i64 k)) ∧ w' = w := by
  have h : n = 0 ∨ n = 1 ∨ n = 2 ∨ n = 3 ∨ n = 4 ∨ n = 5 ∨ n = 6 ∨ n = 7 ∨ n = 8 ∨ n = 9 ∨ n = 10 ∨ n = 11 ∨ n = 12 := by omega
  rcases h with rfl | rfl | rfl | rfl | rfl | rfl | rfl | rfl | rfl | rfl | rfl | rfl | rfl
  all_goals
    go_enter Try.func136, Try.ntmps136
    go_wp2
    go_ret
    exact ⟨⟨_, rfl⟩, rfl⟩
set_option maxHeartbeats 1000000 in
theorem len_any (n : Nat) (w : World) (h12 : n ≤ 12) : Calls Try.prog 115 #[.int .u64 n] w fun e w' => (∃ k : Int, e = .returned (.int .i64 k)) ∧ w' = w := by
  go_enter Try.func115, Try.ntmps115
  go_wp2_with (go_at_call 136; refine (len64_any _ _ h12).mono ?_; rintro e w' ⟨⟨k, rfl⟩, rfl⟩)
  go_ret
  exact ⟨⟨_, rfl⟩, rfl⟩

set_option maxHeartbeats 1000000 in
theorem pdq_any (zs : List Int) (g n c : Nat) (k : Int) (w : World) (hn : zs.length = n) (h12 : n ≤ 12) (hrow : IntRow w g zs) :
    Calls Try.prog 114 #[.slice (some ⟨g, 0, none⟩) n c, .int .i64 0, .int .i64 n, .int .i64 k] w fun e w' => (∃ v, e = .returned v) ∧ ∃ ys, ys.Perm zs ∧ SortedTo ys n ∧ IntRow w' g ys ∧ Turn (fun k => k = g) w w' := by
  have HI := hidIt (ins_any zs g n c w hn h12 hrow)
  have h12' : (n : Int) ≤ 12 := by omega
  have hw : IntKind.i64.wrap ((n : Int) - 0) = (n : Int) := by rw [IntKind.wrap_i64]; omega
  clear hn hrow h12
  go_enter Try.func114, Try.ntmps114
  go_wp2_with fail
  go_loopw [1, 2] (fun x y wr => x = .int .i64 0 ∧ y = .int .i64 n ∧ wr = w) (fun _ _ _ => 0)
  case atStart => exact ⟨rfl, rfl, rfl⟩
  case round =>
    obtain ⟨rfl, rfl, rfl⟩ := hrel
    go_wp2_with fail
    refine HI.out.mono ?_
    rintro e w2 ⟨⟨u, rfl⟩, hr⟩
    go_wp2_with fail
    refine bodyPost_ret (results_none rfl _ _ _) rfl ?_
    exact ⟨⟨_, rfl⟩, hr⟩

set_option maxHeartbeats 1000000 in
theorem sort_any (zs : List Int) (g n c : Nat) (w : World) (hn : zs.length = n) (h12 : n ≤ 12) (hrow : IntRow w g zs) :
    Calls Try.prog 79 #[.slice (some ⟨g, 0, none⟩) n c] w fun e w' => (∃ v, e = .returned v) ∧ ∃ ys, ys.Perm zs ∧ SortedTo ys n ∧ IntRow w' g ys ∧ Turn (fun k => k = g) w w' := by
  have HI := hidIt (fun k => pdq_any zs g n c k w hn h12 hrow)
  have hw : IntKind.u64.wrap (n : Int) = (n : Int) := by rw [IntKind.wrap_u64]; omega
  clear hn hrow
  go_enter Try.func79, Try.ntmps79
  go_wp2_with fail
  refine (len_any n _ h12).mono ?_
  rintro e w2 ⟨⟨k, rfl⟩, rfl⟩
  go_wp2_with fail
  refine (HI.out _).mono ?_
  rintro e w3 ⟨⟨u, rfl⟩, hr⟩
  go_wp2_with fail
  go_end0
  exact ⟨⟨_, rfl⟩, hr⟩
end Go.Proofs.Ythhkpgnjpieckaa
