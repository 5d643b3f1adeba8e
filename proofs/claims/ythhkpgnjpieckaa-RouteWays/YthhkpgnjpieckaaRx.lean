/- slices.Reverse; route.trail. -/
import Derived.Test.YthhkpgnjpieckaaRw
namespace Go.Proofs.Ythhkpgnjpieckaa
set_option linter.unusedVariables false
set_option maxRecDepth 100000
open Go.RowKit Go.Maps

/-- A row of numbers of one's own. -/
def OwnInts (W : World) (base : Nat) (g cap : Nat) (zs : List Int) : Prop := W.ownsRow base 3 1 (.slice (some ⟨g, 0, none⟩) zs.length cap) zs.length (zs.map (Value.int .i64))
theorem OwnInts.parts {W : World} {base g cap : Nat} {zs : List Int} (h : OwnInts W base g cap zs) : base ≤ g ∧ zs.length ≤ cap ∧ cap ≤ maxLen ∧ ∃ cur, W.heap[g]? = some (.cells cur 3 (0, 0)) ∧ cur.size = cap ∧ cur.toList.take zs.length = zs.map (Value.int .i64) := by
  rcases h.2 with ⟨h1, _⟩ | ⟨g', cap', cur, h1, h2, h3, h4, h5, h6, h7⟩
  · cases h1
  · simp only [Value.slice.injEq, Option.some.injEq, Addr.mk.injEq, and_true, true_and] at h1
    obtain ⟨rfl, rfl⟩ := h1
    exact ⟨h2, h4, h5, cur, h3, by simpa using h6, by simpa using h7⟩
theorem OwnInts.mk {W : World} {base g cap : Nat} {zs : List Int} {cur : Array Value} (h1 : base ≤ g) (h2 : zs.length ≤ cap) (h3 : cap ≤ maxLen) (h4 : W.heap[g]? = some (.cells cur 3 (0, 0))) (h5 : cur.size = cap) (h6 : cur.toList.take zs.length = zs.map (Value.int .i64)) : OwnInts W base g cap zs :=
  ⟨by simp, .inr ⟨g, cap, cur, rfl, h1, h4, h2, h3, by simpa using h5, by simpa using h6⟩⟩
theorem OwnInts.row {W : World} {base g cap : Nat} {zs : List Int} (h : OwnInts W base g cap zs) : IntRow W g zs := by
  obtain ⟨_, _, _, cur, h4, h5, h6⟩ := h.parts
  refine ⟨cur, h4, fun i hi => ?_⟩
  have : (cur.toList.take zs.length)[i]? = some (.int .i64 zs[i]) := by rw [h6]; simp [hi]
  rw [List.getElem?_take, if_pos hi, Array.getElem?_toList] at this
  exact this
theorem OwnInts.keep {W W' : World} {base g cap : Nat} {zs : List Int} (h : OwnInts W base g cap zs) (e : W'.heap[g]? = W.heap[g]?) : OwnInts W' base g cap zs := by
  obtain ⟨h1, h2, h3, cur, h4, h5, h6⟩ := h.parts
  exact OwnInts.mk h1 h2 h3 (e.trans h4) h5 h6
theorem OwnInts.set {W : World} {base g cap : Nat} {zs : List Int} (h : OwnInts W base g cap zs) (i : Nat) (x : Int) : OwnInts (W.setCell ⟨g, i, none⟩ (.int .i64 x)) base g cap (zs.set i x) := by
  obtain ⟨h1, h2, h3, cur, h4, h5, h6⟩ := h.parts
  refine OwnInts.mk h1 (by simpa using h2) h3 (heap_setCell_same W g i cur 3 _ h4) (by simpa using h5) ?_
  rw [Array.toList_setIfInBounds, List.length_set, List.take_set, h6, List.map_set]

theorem rev_set {zs ys : List Int} {n i : Nat} (hz : zs.length = n) (hy : ys.length = n) (hlt : i < n - 1 - i) (hi : i < n)
    (h : ∀ k (hk : k < n), ys[k]'(by omega) = if k < i ∨ n ≤ k + i then zs[n - 1 - k]'(by omega) else zs[k]'(by omega)) (x0 x1 : Int) (h0 : x0 = ys[i]'(by omega)) (h1 : x1 = ys[n - 1 - i]'(by omega)) :
    ∀ k (hk : k < n), ((ys.set i x1).set (n - 1 - i) x0)[k]'(by simp; omega) = if k < i + 1 ∨ n ≤ k + (i + 1) then zs[n - 1 - k]'(by omega) else zs[k]'(by omega) := by
  intro k hk
  rw [List.getElem_set]
  by_cases e : n - 1 - i = k
  · rw [if_pos e, if_pos (by omega), h0, h i hi, if_neg (by omega)]
    congr 1; omega
  · rw [if_neg e, List.getElem_set]
    by_cases e2 : i = k
    · rw [if_pos e2, if_pos (by omega), h1, h _ (by omega), if_neg (by omega)]
      congr 1; omega
    · rw [if_neg e2, h k hk]
      by_cases e3 : k < i ∨ n ≤ k + i
      · rw [if_pos e3, if_pos (by omega)]
      · rw [if_neg e3, if_neg (by omega)]
theorem rev_done {zs ys : List Int} {n i : Nat} (hz : zs.length = n) (hy : ys.length = n) (hge : ¬ (i : Int) < (n : Int) - 1 - i)
    (h : ∀ k (hk : k < n), ys[k]'(by omega) = if k < i ∨ n ≤ k + i then zs[n - 1 - k]'(by omega) else zs[k]'(by omega)) : ys = zs.reverse := by
  apply List.ext_getElem (by simp; omega)
  intro k hk1 hk2
  rw [h k (by omega), List.getElem_reverse]
  by_cases e : k < i ∨ n ≤ k + i
  · rw [if_pos e]; congr 1; omega
  · rw [if_neg e]; congr 1; omega

set_option maxHeartbeats 1000000 in
theorem reverse_any (zs : List Int) (base g cap n : Nat) (w : World) (hn : zs.length = n) (h12 : n ≤ 1000) (hown : OwnInts w base g cap zs) :
    Calls Try.prog 117 #[.slice (some ⟨g, 0, none⟩) n cap] w fun e w' => (∃ v, e = .returned v) ∧ OwnInts w' base g cap zs.reverse ∧ Turn (fun k => k = g) w w' := by
  have HN : Hid (zs.length = n) := hn
  have hw1 : IntKind.i64.wrap ((n : Int) - 1) = (n : Int) - 1 := by rw [IntKind.wrap_i64]; omega
  clear hn
  go_enter Try.func117, Try.ntmps117
  go_wp2
  go_loopw [2, 3] (fun iv jv wr => ∃ (i : Nat) (ys : List Int), i ≤ n ∧ iv = .int .i64 i ∧ jv = .int .i64 ((n : Int) - 1 - i) ∧ (∃ hy : ys.length = n, ∃ hz : zs.length = n, ∀ k (hk : k < n), ys[k]'(by omega) = if k < i ∨ n ≤ k + i then zs[n - 1 - k]'(by omega) else zs[k]'(by omega)) ∧ OwnInts wr base g cap ys ∧ Turn (fun k => k = g) w wr) (fun iv _ _ => n - (intOf iv).toNat)
  case atStart => exact ⟨0, zs, Nat.zero_le _, rfl, by simp, ⟨HN.out, HN.out, fun k hk => by rw [if_neg (by omega)]⟩, hown, Turn.refl _ _⟩
  case round =>
    clear hown
    obtain ⟨i, ys, hi, rfl, rfl, ⟨hy, hz, hco⟩, hown, htn⟩ := hrel
    have HCO := hidIt hco
    clear hco
    by_cases hlt : (i : Int) < (n : Int) - 1 - i
    · have hin : i < n := by omega
      obtain ⟨j, hj⟩ : ∃ j : Nat, j = n - 1 - i := ⟨_, rfl⟩
      have hiy : i < ys.length := by omega
      have hjy : j < ys.length := by omega
      have hjI : (n : Int) - 1 - i = (j : Int) := by omega
      have HJ : Hid (j = n - 1 - i) := hj
      have hir := hown.row
      have c0 := hir.cell hiy
      have c1 := hir.cell hjy
      have f0 := hir.free i
      have f1 := hir.free j
      obtain ⟨x0, hx0⟩ : ∃ x, x = ys[i]'hiy := ⟨_, rfl⟩
      obtain ⟨x1, hx1⟩ : ∃ x, x = ys[j]'hjy := ⟨_, rfl⟩
      rw [← hx0] at c0
      rw [← hx1] at c1
      have HX : Hid (x0 = ys[i]'hiy ∧ x1 = ys[j]'hjy) := ⟨hx0, hx1⟩
      rw [hjI]
      have j1 : (i : Int) < n := by omega
      have j2 : (j : Int) < n := by omega
      have j3 : (i : Int) < (j : Int) := by omega
      have j4 : (0 : Int) ≤ (j : Int) := by omega
      have jne : ¬ i = j := by omega
      have hij : i < j := by omega
      have jw : IntKind.i64.wrap ((j : Int) - 1) = (j : Int) - 1 := by rw [IntKind.wrap_i64]; omega
      clear hx0 hx1 hjI hlt hj
      go_wp2_with fail
      go_region
      go_wp2
      have hj := HJ.out
      have ho2 : OwnInts ((wr.drew.setCell ⟨g, i, none⟩ (.int .i64 x1)).setCell ⟨g, j, none⟩ (.int .i64 x0)) base g cap ((ys.set i x1).set j x0) := OwnInts.set (OwnInts.set (W := wr.drew) (hown.keep rfl) i x1) j x0
      have ht2 : Turn (fun k => k = g) w ((wr.drew.setCell ⟨g, i, none⟩ (.int .i64 x1)).setCell ⟨g, j, none⟩ (.int .i64 x0)) := (Turn.trans (B := wr.drew) ⟨htn.os, htn.tape, htn.output, htn.size, htn.block⟩ (setCell_turn _ _ _ _) (fun _ _ e => e)).trans (setCell_turn _ _ _ _) (fun _ _ e => e)
      have hx := HX.out
      subst hj
      go_roundw
      case rel => exact ⟨i + 1, (ys.set i x1).set (n - 1 - i) x0, by omega, by go_num, by congr 1; omega, ⟨by simp [hy], hz, rev_set hz hy (by omega) hin HCO.out x0 x1 hx.1 hx.2⟩, ho2, ht2⟩
      case measure => simp [intOf]; omega
    · have HF : Hid (ys = zs.reverse) := rev_done hz hy hlt HCO.out
      go_wp2
      go_end0
      exact ⟨⟨_, rfl⟩, by rw [← HF.out]; exact hown, htn⟩
end Go.Proofs.Ythhkpgnjpieckaa
