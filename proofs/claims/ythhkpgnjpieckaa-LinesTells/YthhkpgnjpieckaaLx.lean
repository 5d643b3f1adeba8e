/- mailcoachref.push, PushOf. -/
import Derived.Deep.QuietTactic
import Derived.BigQuiet
import Derived.Test.YthhkpgnjpieckaaLs
namespace Go.Proofs.Ythhkpgnjpieckaa
set_option linter.unusedVariables false
set_option maxRecDepth 100000
open Go.RowKit

theorem idx_below {s : Int} : ∀ {xs : List ItemD} {j : Nat}, j < idxSeq s xs → ∃ h : j < xs.length, xs[j].seq < s
  | [], j, h => by simp [idxSeq] at h
  | x :: r, j, h => by
    unfold idxSeq at h
    by_cases hx : s ≤ x.seq
    · rw [if_pos hx] at h; omega
    · rw [if_neg hx] at h
      cases j with
      | zero => exact ⟨by simp, by simp; omega⟩
      | succ j => obtain ⟨h1, h2⟩ := idx_below (s := s) (xs := r) (j := j) (by omega); exact ⟨by simp; omega, by simpa using h2⟩
theorem idx_at {s : Int} : ∀ {xs : List ItemD} (h : idxSeq s xs < xs.length), s ≤ xs[idxSeq s xs].seq
  | [], h => by simp at h
  | x :: r, h => by
    by_cases hx : s ≤ x.seq
    · have e : idxSeq s (x :: r) = 0 := by unfold idxSeq; rw [if_pos hx]
      simp [e, hx]
    · have e : idxSeq s (x :: r) = idxSeq s r + 1 := by conv => lhs; unfold idxSeq
                                                        rw [if_neg hx]
      have h' : idxSeq s r < r.length := by rw [e] at h; simpa using h
      have := idx_at h'
      simpa [e] using this

def pushK (xs : List ItemD) (x : ItemD) (k : Nat) : List ItemD := if idxSeq x.seq xs < k then (pushL xs x).take (k + 1) else xs.take k
theorem pushL_len (xs : List ItemD) (x : ItemD) : (pushL xs x).length = xs.length + 1 := by
  have := idxSeq_le x.seq xs
  unfold pushL; simp; omega
theorem pushL_get {xs : List ItemD} {x : ItemD} {k : Nat} (h : idxSeq x.seq xs ≤ k) (hk : k < xs.length) : (pushL xs x)[k + 1]? = some xs[k] := by
  have h1 := idxSeq_le x.seq xs
  unfold pushL
  rw [List.getElem?_append_right (by simp; omega), List.getElem?_drop]
  have e : idxSeq x.seq xs + (k + 1 - (List.take (idxSeq x.seq xs) xs ++ [x]).length) = k := by simp; omega
  rw [e, List.getElem?_eq_getElem hk]
theorem pushK_zero (xs : List ItemD) (x : ItemD) : pushK xs x 0 = [] := by unfold pushK; simp
theorem pushK_other {xs : List ItemD} {x : ItemD} {k : Nat} (hk : k < xs.length) (h : idxSeq x.seq xs ≠ k) : pushK xs x (k + 1) = pushK xs x k ++ [xs[k]] := by
  unfold pushK
  by_cases h1 : idxSeq x.seq xs < k
  · rw [if_pos h1, if_pos (by omega), List.take_add_one, pushL_get (by omega) hk]; rfl
  · rw [if_neg h1, if_neg (by omega), List.take_succ_eq_append_getElem hk]
theorem pushK_here {xs : List ItemD} {x : ItemD} {k : Nat} (hk : k < xs.length) (h : idxSeq x.seq xs = k) : pushK xs x (k + 1) = pushK xs x k ++ [x] ++ [xs[k]] := by
  unfold pushK
  rw [if_pos (show idxSeq x.seq xs < k + 1 by omega), if_neg (show ¬ idxSeq x.seq xs < k by omega), List.take_add_one, pushL_get (by omega) hk]
  have e : (pushL xs x).take (k + 1) = xs.take k ++ [x] := by
    unfold pushL; rw [h, List.take_append_of_le_length (by simp; omega), List.take_of_length_le (by simp; omega)]
  rw [e]; rfl
theorem pushK_len {xs : List ItemD} {x : ItemD} {k : Nat} (hk : k ≤ xs.length) : (pushK xs x k).length ≤ xs.length + 1 := by
  unfold pushK; split
  · rw [List.length_take, pushL_len]; omega
  · rw [List.length_take]; omega
theorem pushK_all {xs : List ItemD} {x : ItemD} (h : idxSeq x.seq xs < xs.length) : pushK xs x xs.length = pushL xs x := by
  unfold pushK; rw [if_pos h, List.take_of_length_le (by rw [pushL_len]; omega)]
theorem pushK_end {xs : List ItemD} {x : ItemD} (h : ¬ idxSeq x.seq xs < xs.length) : pushL xs x = pushK xs x xs.length ++ [x] := by
  have := idxSeq_le x.seq xs
  have e : idxSeq x.seq xs = xs.length := by omega
  unfold pushK; rw [if_neg h]; unfold pushL; rw [e]; simp

theorem below_drewL {b n : Nat} {W w' : World} (h : Below b W w') : Below b W (w'.drewN n) := ⟨h.os, h.tape, h.output, h.size, h.block⟩
theorem app_below {W1 wq w3 : World} {o : Obj} {v : Value} {T : TypeId} {m : Nat} {xs : List Value} (hB : Below W1.heap.size W1 wq) (hrow : wq.ownsRow W1.heap.size T 5 v m xs) (hg : (wq.alloc o).grownBy w3 v.ownBlock) : Below W1.heap.size W1 w3 :=
  (hB.alloc hB.size o).grown hg (by have := hB.size; simp; omega) (own_ge hrow)

set_option maxHeartbeats 4000000 in
theorem rpush_any (xs : List ItemD) (a : Option Addr) (n c : Nat) (s d : Int) (ky b : ByteArray) (ag : Bool) (w : World) (hn : xs.length = n) (hf : n ≤ 1048576) (hp : ItemsAt w a xs) (hh : pushHas s xs = false) :
    Calls Try.prog 90 #[.slice a n c, .agg #[.int .i64 s, .string ky, .string b, .bool ag, .int .i64 d]] w fun e w' => ∃ v m, e = .returned v ∧ w'.ownsRow w.heap.size 59 5 v m (itemCells (pushL xs ⟨s, ky, b, ag, d⟩)) ∧ Below w.heap.size w w' := by
  obtain ⟨W1, hW1, hBw, hs1, hbx⟩ := item_box w (.int .i64 s) (.string ky) (.string b) (.bool ag) (.int .i64 d) 59
  have HW1 : Hid (W1 = _) := hW1
  have BX : Hid (∀ W, Below W1.heap.size W1 W → _) := hbx
  have HP : Hid (ItemsAt W1 a xs) := hp.keep hBw
  have HN : Hid (xs.length = n) := hn
  have HH : Hid (pushHas s xs = false) := hh
  obtain ⟨x, hx⟩ : ∃ x : ItemD, x = ⟨s, ky, b, ag, d⟩ := ⟨_, rfl⟩
  have HX : Hid (x = ⟨s, ky, b, ag, d⟩) := hx
  have HQ : Hid (x.seq = s) := by show x.seq = s; rw [hx]
  rw [← hx]
  clear hW1 hbx hp hn hh hx
  have hBs1 := hBw.size
  go_enter Try.func90, Try.ntmps90
  go_wp2_with fail
  rw [← HW1.out]
  go_loopw [5, 6, 7] (fun l dn i wr => ∃ (k m : Nat), k ≤ n ∧ i = .int .i64 k ∧ dn = .bool (decide (idxSeq s xs < k)) ∧ wr.ownsRow W1.heap.size 59 5 l m (itemCells (pushK xs x k)) ∧ Below W1.heap.size W1 wr) (fun _ _ i _ => n - (intOf i).toNat)
  case atStart => exact ⟨0, 0, Nat.zero_le _, rfl, by simp, by rw [pushK_zero]; exact World.ownsRow_nil _ _ _ _, Below.refl _ _⟩
  case round =>
    obtain ⟨k, m, hk, rfl, rfl, hrow, hB⟩ := hrel
    have hBs := hB.size
    have hml : m = (pushK xs x k).length := (own_items hrow).1
    have hmk : m ≤ n + 1 := by rw [hml, ← HN.out]; exact pushK_len (by rw [HN.out]; exact hk)
    obtain ⟨d0, d1, d2, d3, d4⟩ := BX.out wr hB
    clear hml
    by_cases hlt : k < n
    · have hkl : k < xs.length := by rw [HN.out]; exact hlt
      obtain ⟨g, o, rfl, hg, hx⟩ := HP.out.cells (by omega)
      obtain ⟨y, hyy⟩ : ∃ y, y = xs[k] := ⟨_, rfl⟩
      have hc := (hx k hkl).keep hB hg
      rw [← hyy] at hc
      have HY : Hid (y = xs[k]) := hyy
      have HC : Hid (ItemCells W1 g (o + k * 5) y) := by show ItemCells W1 g (o + k * 5) y; rw [hyy]; exact hx k hkl
      clear hx hyy
      obtain ⟨s', ky', b', ag', d'⟩ := y
      obtain ⟨c0, c1, c2, c3, c4⟩ := hc
      dsimp only at c0 c1 c2 c3 c4
      have j1 : (0 : Int) ≤ (k : Int) := by omega
      have j2 : (k : Int) < n := by omega
      have hgw : g < wr.heap.size := by omega
      by_cases hd : idxSeq s xs = k
      · have hq : s < s' := by
          have h1 := idx_at (s := s) (xs := xs) (by rw [hd]; exact hkl)
          have h2 : s ≤ s' := by simp only [hd] at h1; rw [← HY.out] at h1; exact h1
          have h3 : ¬ s' = s := by
            intro e
            have := HH.out
            unfold pushHas at this
            rw [hd, List.getElem?_eq_getElem hkl, ← HY.out] at this
            simp [e] at this
          omega
        have HF : Hid (pushK xs x (k + 1) = pushK xs x k ++ [x] ++ [⟨s', ky', b', ag', d'⟩]) := by
          show pushK xs x (k + 1) = _
          rw [pushK_here hkl (by rw [HQ.out]; exact hd), ← HY.out]
        have hdd : decide (idxSeq s xs < k) = false := by simp; omega
        have HD1 : Hid (decide (idxSeq s xs < k + 1) = true) := by show decide _ = true; simp; omega
        rw [hdd]
        clear hdd hd
        go_wp2_with fail
        go_quiet (fail)
        obtain ⟨wq, hwq⟩ : ∃ wq, wq = wr.drewN nq := ⟨_, rfl⟩
        have hBq : Below W1.heap.size W1 wq := by rw [hwq]; exact below_drewL hB
        have hrq : wq.ownsRow W1.heap.size 59 5 u5 m (itemCells (pushK xs x k)) := by rw [hwq]; exact hrow
        rw [← hwq]
        clear hwq hrow d0 d1 d2 d3 d4 hB
        obtain ⟨d0, d1, d2, d3, d4⟩ := BX.out wq hBq
        have hBqs := hBq.size
        go_wp2_with (first
          | (at_builtin; refine append_items rfl _ _ rfl W1.heap.size _ _ _ rfl (hrq.alloc _) (some ⟨wq.heap.size, 0, none⟩) 1 1 [x] rfl rfl (fun e => by cases e) (by rw [HX.out]; exact ItemsAt.single (World.alloc_heap_new _ _)) (by omega) (by simp; omega) ?_; intro v' w3 hown3 hgrow3; have hB3 := app_below hBq hrq hgrow3; have hB3s := hB3.size; clear d0 d1 d2 d3 d4; obtain ⟨e0, e1, e2, e3, e4⟩ := HC.out.keep hB3 hg)
          | (at_builtin; refine append_items rfl _ _ rfl W1.heap.size _ _ _ rfl (hown3.alloc _) (some ⟨w3.heap.size, 0, none⟩) 1 1 [⟨s', ky', b', ag', d'⟩] rfl rfl (fun e => by cases e) (ItemsAt.single (World.alloc_heap_new _ _)) (by omega) (by simp; omega) ?_; intro v4 w4 hown4 hgrow4))
        have hB4 := app_below hB3 hown3 hgrow4
        go_roundw
        case rel => exact ⟨k + 1, _, by omega, by go_num, by rw [HD1.out], by rw [HF.out]; exact hown4, hB4⟩
        case measure => simp [intOf]; omega
      · have HF : Hid (pushK xs x (k + 1) = pushK xs x k ++ [⟨s', ky', b', ag', d'⟩]) := by
          show pushK xs x (k + 1) = _
          rw [pushK_other hkl (by rw [HQ.out]; exact hd), ← HY.out]
        have hdn : (decide (idxSeq s xs < k) = true ∧ decide (idxSeq s xs < k + 1) = true) ∨ (decide (idxSeq s xs < k) = false ∧ decide (idxSeq s xs < k + 1) = false ∧ s' < s) := by
          rcases Nat.lt_or_ge (idxSeq s xs) k with h | h
          · left; simp; omega
          · right
            obtain ⟨_, h2⟩ := idx_below (s := s) (xs := xs) (j := k) (by omega)
            rw [← HY.out] at h2
            refine ⟨by simp; omega, by simp; omega, h2⟩
        clear hd
        rcases hdn with ⟨h1, h2⟩ | ⟨h1, h2, h3⟩
        all_goals
          rw [h1]
          have HD1 : Hid (decide (idxSeq s xs < k + 1) = _) := h2
          clear h1 h2
        · go_wp2_with fail
          go_quiet (fail)
          obtain ⟨wq, hwq⟩ : ∃ wq, wq = wr.drewN nq := ⟨_, rfl⟩
          have hBq : Below W1.heap.size W1 wq := by rw [hwq]; exact below_drewL hB
          have hrq : wq.ownsRow W1.heap.size 59 5 u5 m (itemCells (pushK xs x k)) := by rw [hwq]; exact hrow
          rw [← hwq]
          clear hwq hrow d0 d1 d2 d3 d4 hB c0 c1 c2 c3 c4
          have hBqs := hBq.size
          obtain ⟨e0, e1, e2, e3, e4⟩ := HC.out.keep hBq hg
          go_wp2_with (at_builtin; refine append_items rfl _ _ rfl W1.heap.size _ _ _ rfl (hrq.alloc _) (some ⟨wq.heap.size, 0, none⟩) 1 1 [⟨s', ky', b', ag', d'⟩] rfl rfl (fun e => by cases e) (ItemsAt.single (World.alloc_heap_new _ _)) (by omega) (by simp; omega) ?_; intro v4 w4 hown4 hgrow4)
          have hB4 := app_below hBq hrq hgrow4
          go_roundw
          case rel => exact ⟨k + 1, _, by omega, by go_num, by rw [HD1.out], by rw [HF.out]; exact hown4, hB4⟩
          case measure => simp [intOf]; omega
        · have h4 : decide (s < s') = false := by simp; omega
          clear h3
          go_wp2_with fail
          go_quiet (fail)
          obtain ⟨wq, hwq⟩ : ∃ wq, wq = wr.drewN nq := ⟨_, rfl⟩
          have hBq : Below W1.heap.size W1 wq := by rw [hwq]; exact below_drewL hB
          have hrq : wq.ownsRow W1.heap.size 59 5 u5 m (itemCells (pushK xs x k)) := by rw [hwq]; exact hrow
          rw [← hwq]
          clear hwq hrow d0 d1 d2 d3 d4 hB c0 c1 c2 c3 c4
          have hBqs := hBq.size
          obtain ⟨e0, e1, e2, e3, e4⟩ := HC.out.keep hBq hg
          go_wp2_with (at_builtin; refine append_items rfl _ _ rfl W1.heap.size _ _ _ rfl (hrq.alloc _) (some ⟨wq.heap.size, 0, none⟩) 1 1 [⟨s', ky', b', ag', d'⟩] rfl rfl (fun e => by cases e) (ItemsAt.single (World.alloc_heap_new _ _)) (by omega) (by simp; omega) ?_; intro v4 w4 hown4 hgrow4)
          have hB4 := app_below hBq hrq hgrow4
          go_roundw
          case rel => exact ⟨k + 1, _, by omega, by go_num, by rw [HD1.out], by rw [HF.out]; exact hown4, hB4⟩
          case measure => simp [intOf]; omega
    · have hkn : k = xs.length := by rw [HN.out]; omega
      by_cases hd : idxSeq s xs < k
      · have HF : Hid (pushK xs x k = pushL xs x) := by show pushK xs x k = _; rw [hkn]; exact pushK_all (by rw [HQ.out, ← hkn]; exact hd)
        have hdd : decide (idxSeq s xs < k) = true := by simpa using hd
        rw [hdd]
        clear hdd hd hkn
        go_wp2_with fail
        go_ret
        exact ⟨_, m, rfl, by rw [← HF.out]; exact own_base hrow (by omega), hBw.trans (hB.mono hBs1)⟩
      · have HF : Hid (pushL xs x = pushK xs x k ++ [x]) := by show pushL xs x = _; rw [hkn]; exact pushK_end (by rw [HQ.out, ← hkn]; exact hd)
        have hdd : decide (idxSeq s xs < k) = false := by simpa using hd
        rw [hdd]
        clear hdd hd hkn
        go_wp2_with (at_builtin; refine append_items rfl _ _ rfl W1.heap.size _ _ _ rfl (hrow.alloc _) (some ⟨wr.heap.size, 0, none⟩) 1 1 [x] rfl rfl (fun e => by cases e) (by rw [HX.out]; exact ItemsAt.single (World.alloc_heap_new _ _)) (by omega) (by simp; omega) ?_; intro v4 w4 hown4 hgrow4)
        have hB4 := app_below hB hrow hgrow4
        go_ret
        exact ⟨_, _, rfl, by rw [HF.out]; exact own_base hown4 (by omega), hBw.trans (hB4.mono hBs1)⟩
end Go.Proofs.Ythhkpgnjpieckaa
