/- state.askCounts, askOuts. -/
import Derived.Test.YthhkpgnjpieckaaTd
namespace Go.Proofs.Ythhkpgnjpieckaa
set_option linter.unusedVariables false
set_option maxRecDepth 100000
open Go.RowKit

def countsL (s : StateD) : List Int := [s.nextSeq, s.nextTag, s.came, s.acked, s.dropped]
theorem countsOk_eq (s : StateD) : countsOk s = (countsL s).all countOk := by simp [countsOk, countsL, Bool.and_assoc]

set_option maxRecDepth 100000 in
set_option maxHeartbeats 1000000 in
theorem askCounts_any (s : StateD) (b1 b2 b3 : Option Addr) (m1 d1 m2 d2 m3 d3 : Nat) (w : World) :
    Calls Try.prog 100 #[.agg #[.slice b1 m1 d1, .slice b2 m2 d2, .slice b3 m3 d3, .int .i64 s.nextSeq, .int .i64 s.nextTag, .int .i64 s.came, .int .i64 s.acked, .int .i64 s.dropped]] w fun e w' => e = askE (if countsOk s = true then 0 else 1) ∧ Below w.heap.size w w' := by
  rw [countsOk_eq]
  obtain ⟨D, hD⟩ : ∃ D : Int, D = if (countsL s).all countOk = true then 0 else 1 := ⟨_, rfl⟩
  rw [← hD]
  have HD := hidI hD
  clear hD
  obtain ⟨W1, hW1, hBw, hs1, hbx⟩ := s_boxed w #[.slice b1 m1 d1, .slice b2 m2 d2, .slice b3 m3 d3, .int .i64 s.nextSeq, .int .i64 s.nextTag, .int .i64 s.came, .int .i64 s.acked, .int .i64 s.dropped]
  have HW1 := hidI hW1
  have HS1 : Hid (w.heap.size + 1 = W1.heap.size) := hs1.symm
  have s0 := hBw.size
  obtain ⟨y0, y1, y2, y3, y4, y5, y6, y7⟩ := st_cells (hbx W1 (Below.refl _ _))
  obtain ⟨W2, hW2⟩ : ∃ W2, W2 = W1.alloc (.cells #[.int .i64 s.nextSeq, .int .i64 s.nextTag, .int .i64 s.came, .int .i64 s.acked, .int .i64 s.dropped] 3) := ⟨_, rfl⟩
  have hB2 : Below W1.heap.size W1 W2 := by rw [hW2]; exact (Below.refl _ _).alloc (Nat.le_refl _) _
  have hb2 : W2.heap[W1.heap.size]? = some (.cells #[.int .i64 s.nextSeq, .int .i64 s.nextTag, .int .i64 s.came, .int .i64 s.acked, .int .i64 s.dropped] 3 (0, 0)) := by rw [hW2]; exact World.alloc_heap_new W1 _
  have HC : Hid (∀ W, Below W2.heap.size W2 W → ∀ k (hk : k < 5), W.cell? ⟨w.heap.size + 1, k, none⟩ = some (.int .i64 ((countsL s)[k]'(by simpa [countsL] using hk)))) := fun W hW k hk => by
    rw [HS1.out]
    have := (hW.block _ (lt_of_heap hb2)).trans hb2
    match k, hk with
    | 0, _ => exact cell_of_cells this 0
    | 1, _ => exact cell_of_cells this 1
    | 2, _ => exact cell_of_cells this 2
    | 3, _ => exact cell_of_cells this 3
    | 4, _ => exact cell_of_cells this 4
  have HW2 := hidI hW2
  have k02 : Below w.heap.size w W2 := hBw.trans (hB2.mono s0)
  have s02 := k02.size
  have HLL : Hid ((countsL s).length = 5) := rfl
  clear hW1 hbx hs1 hW2 hB2 hb2
  go_enter Try.func100, Try.ntmps100
  go_wp2_with fail
  rw [← HW1.out, ← HW2.out]
  go_loopw [3, 16] (fun _ i wr => ∃ k : Nat, k ≤ 5 ∧ i = .int .i64 k ∧ (∀ x ∈ (countsL s).take k, countOk x = true) ∧ Below W2.heap.size W2 wr) (fun _ i _ => 5 - (intOf i).toNat)
  case atStart => exact ⟨0, Nat.zero_le _, rfl, by simp, Below.refl _ _⟩
  case round =>
    obtain ⟨k, hk, rfl, ha, hB⟩ := hrel
    have HA := hidI ha
    have hBs := hB.size
    clear ha
    by_cases hlt : k < 5
    · have hkl : k < (countsL s).length := hlt
      have e1 := HC.out wr hB k hlt
      have HTK := hidI (fun h1 h2 => take_all_snoc (p := countOk) (xs := countsL s) (k := k) hkl h1 h2)
      have HNOT := hidI (fun h2 => all_false_get (p := countOk) (xs := countsL s) (k := k) hkl h2)
      obtain ⟨x, hx⟩ : ∃ x, x = (countsL s)[k] := ⟨_, rfl⟩
      rw [← hx] at HTK HNOT e1
      have j1 : (0 : Int) ≤ (k : Int) := by omega
      have j2 : (k : Int) < 5 := by omega
      clear hx
      go_wp2_with fail
      by_cases hm1 : x < 0 ∨ 1048576 < x
      · have HNO : Hid ((countsL s).all countOk = false) := HNOT.out (by unfold countOk; simp; omega)
        refine (never_yes 1 [decide (x < 0), decide (1048576 < x)] _ _ (by simp) (bools_newG wr _ rfl) (by simp; omega)).mono ?_
        rintro e w5 ⟨rfl, hw5⟩
        exact ⟨rfl, by rw [HD.out, HNO.out]; rfl, by rw [hw5]; exact k02.trans ((hB.alloc hBs _).mono s02)⟩
      · have HOK : Hid (countOk x = true) := by show countOk x = true; unfold countOk; simp; omega
        refine (never_no 1 [decide (x < 0), decide (1048576 < x)] _ _ (by simp) (bools_newG wr _ rfl) (by simp; omega)).mono ?_
        rintro e w5 ⟨rfl, hw5⟩
        have k5 : Below W2.heap.size W2 w5 := by rw [hw5]; exact hB.alloc hBs _
        clear hw5
        go_wp2_with fail
        go_roundw
        case rel => exact ⟨k + 1, by omega, by go_num, HTK.out HA.out HOK.out, k5⟩
        case measure => simp [intOf]; omega
    · have hke : k = 5 := by omega
      subst hke
      have HYES : Hid ((countsL s).all countOk = true) := all_of_take HLL.out (Nat.lt_irrefl _) HA.out
      go_wp2_with fail
      go_end0
      exact ⟨by rw [HD.out, HYES.out]; rfl, k02.trans (hB.mono s02)⟩

theorem plan_keep {W W' : World} {b : Nat} {cs : Array Value} {t : TypeId} (h : W.heap[b]? = some (.cells cs t (0, 0))) (hB : Below W.heap.size W W') : W'.heap[b]? = some (.cells cs t (0, 0)) := (hB.block b (lt_of_heap h)).trans h
theorem OutsAt.get {W : World} {a : Option Addr} {xs : List OutD} (h : OutsAt W a xs) {k : Nat} (hk : k < xs.length) : ∃ g o, a = some ⟨g, o, none⟩ ∧ g < W.heap.size ∧ W.cell? ⟨g, o + k * 8, none⟩ = some (.int .i64 xs[k].tag) ∧ W.cell? ⟨g, o + k * 8 + 1, none⟩ = some (.int .i64 xs[k].taker) ∧ W.cell? ⟨g, o + k * 8 + 2, none⟩ = some (.int .i64 xs[k].queue) ∧ ItemCells W g (o + k * 8 + 3) xs[k].item := by
  rcases h with h | ⟨g, o, ha, hg, h⟩
  · rw [h] at hk; simp at hk
  · exact ⟨g, o, ha, hg, h k hk⟩
theorem lineOk_one (x : ItemD) : lineOk [x] = itemOk x := by
  unfold lineOk lineFrom lineFrom
  have h : itemOk x = true → -1 < x.seq := fun h => by unfold itemOk itemNums at h; simp at h; omega
  cases hi : itemOk x with
  | false => simp
  | true => simp [h hi]
theorem items_one (w : World) (x : ItemD) : ItemsAt (w.alloc (.cells #[.int .i64 x.seq, .string x.key, .string x.body, .bool x.again, .int .i64 x.deaths] 59)) (some ⟨w.heap.size, 0, none⟩) [x] := by
  have h := World.alloc_heap_new w (.cells #[.int .i64 x.seq, .string x.key, .string x.body, .bool x.again, .int .i64 x.deaths] 59)
  refine .inr ⟨w.heap.size, 0, rfl, by simp, fun i hi => ?_⟩
  have e : i = 0 := by simp at hi; omega
  subst e
  exact ⟨cell_of_cells h 0, cell_of_cells h 1, cell_of_cells h 2, cell_of_cells h 3, cell_of_cells h 4⟩
end Go.Proofs.Ythhkpgnjpieckaa
