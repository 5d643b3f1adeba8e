/- state.askOuts. -/
import Derived.Test.YthhkpgnjpieckaaTe
namespace Go.Proofs.Ythhkpgnjpieckaa
set_option linter.unusedVariables false
set_option maxRecDepth 100000
open Go.RowKit

set_option maxRecDepth 100000 in
set_option maxHeartbeats 1000000 in
theorem askOuts_any (s : StateD) (b1 b2 b3 : Option Addr) (m1 d1 m2 d2 m3 d3 : Nat) (w : World) (hs : StateAt w b1 b2 b3 m1 m2 m3 s) :
    Calls Try.prog 99 #[.agg #[.slice b1 m1 d1, .slice b2 m2 d2, .slice b3 m3 d3, .int .i64 s.nextSeq, .int .i64 s.nextTag, .int .i64 s.came, .int .i64 s.acked, .int .i64 s.dropped]] w fun e w' => e = askE (if outsFrom s.takers s.nextTag (-1) s.outs = true then 0 else 1) ∧ Below w.heap.size w w' := by
  obtain ⟨D, hD⟩ : ∃ D : Int, D = if outsFrom s.takers s.nextTag (-1) s.outs = true then 0 else 1 := ⟨_, rfl⟩
  rw [← hD]
  have HD := hidI hD
  clear hD
  obtain ⟨W1, hW1, hBw, hs1, hbx⟩ := s_boxed w #[.slice b1 m1 d1, .slice b2 m2 d2, .slice b3 m3 d3, .int .i64 s.nextSeq, .int .i64 s.nextTag, .int .i64 s.came, .int .i64 s.acked, .int .i64 s.dropped]
  have HW1 := hidI hW1
  have BX := hidI hbx
  have HS := hidI (hs.keep hBw)
  have HM2 : Hid (s.outs.length = m2) := hs.l2
  have HM3 : Hid (s.takers.length = m3) := hs.l3
  have hx2 := hs.x2
  have s0 := hBw.size
  have hs1' : w.heap.size < W1.heap.size := by omega
  obtain ⟨y0, y1, y2, y3, y4, y5, y6, y7⟩ := st_cells (hbx W1 (Below.refl _ _))
  clear hW1 hbx hs1 hs
  go_enter Try.func99, Try.ntmps99
  go_wp2_with fail
  rw [← HW1.out]
  go_loopw [2, 4, 5, 9] (fun la _ _ i wr => ∃ (k : Nat) (l : Int), k ≤ m2 ∧ i = .int .i64 k ∧ la = .int .i64 l ∧ outsFrom s.takers s.nextTag (-1) s.outs = outsFrom s.takers s.nextTag l (s.outs.drop k) ∧ Below W1.heap.size W1 wr) (fun _ _ _ i _ => m2 - (intOf i).toNat)
  case atStart => exact ⟨0, -1, Nat.zero_le _, rfl, rfl, by simp, Below.refl _ _⟩
  case round =>
    obtain ⟨k, l, hk, rfl, rfl, ha, hB⟩ := hrel
    have HA := hidI ha
    have hBs := hB.size
    clear ha y0 y1 y2 y3 y4 y5 y6 y7
    by_cases hlt : k < m2
    · have hkl : k < s.outs.length := by rw [HM2.out]; exact hlt
      obtain ⟨g, o, ha, hg, e1, e2, e3, e4⟩ := (HS.out.q2.keep hB).get hkl
      have hdr : s.outs.drop k = s.outs[k] :: s.outs.drop (k + 1) := List.drop_eq_getElem_cons hkl
      subst ha
      obtain ⟨x, hx⟩ : ∃ x, x = s.outs[k] := ⟨_, rfl⟩
      rw [← hx] at e1 e2 e3 e4 hdr
      have HDR := hidI hdr
      have HSTEP : Hid (outsFrom s.takers s.nextTag (-1) s.outs = (outOk s.takers s.nextTag l x && outsFrom s.takers s.nextTag x.tag (s.outs.drop (k + 1)))) := by
        show outsFrom s.takers s.nextTag (-1) s.outs = _
        rw [HA.out, HDR.out]; rfl
      obtain ⟨tg, tk, qu, it⟩ := x
      obtain ⟨sq, ky, bo, ag, de⟩ := it
      dsimp only at e1 e2 e3 e4 HSTEP
      obtain ⟨f0, f1, f2, f3, f4⟩ := e4
      dsimp only at f0 f1 f2 f3 f4
      have j1 : (0 : Int) ≤ (k : Int) := by omega
      have j2 : (k : Int) < m2 := by omega
      have sk : w.heap.size < wr.heap.size := by omega
      obtain ⟨y0, y1, y2, y3, y4, y5, y6, y7⟩ := st_cells (BX.out wr hB)
      obtain ⟨W3, hW3⟩ : ∃ W3, W3 = wr.alloc (.cells #[.int .i64 tg, .int .i64 tk, .int .i64 qu, .int .i64 sq, .string ky, .string bo, .bool ag, .int .i64 de] 131) := ⟨_, rfl⟩
      have HW3 := hidI hW3
      have k3 : Below W1.heap.size W1 W3 := by rw [hW3]; exact hB.alloc hBs _
      have b3' : W3.heap[wr.heap.size]? = some (.cells #[.int .i64 tg, .int .i64 tk, .int .i64 qu, .int .i64 sq, .string ky, .string bo, .bool ag, .int .i64 de] 131 (0, 0)) := by rw [hW3]; exact World.alloc_heap_new wr _
      have HZ3 : Hid (wr.heap.size + 1 = W3.heap.size) := by show wr.heap.size + 1 = W3.heap.size; rw [hW3]; simp
      have HB3 := hidI b3'
      clear hx hdr hW3 b3'
      go_wp2_with fail
      rw [← HW3.out]
      by_cases hc1 : tg ≤ l ∨ s.nextTag ≤ tg ∨ tk < 0 ∨ (m3 : Int) ≤ tk
      · have HNO : Hid (outsFrom s.takers s.nextTag (-1) s.outs = false) := by
          show outsFrom s.takers s.nextTag (-1) s.outs = false
          rw [HSTEP.out]; unfold outOk isNum; rw [HM3.out]; dsimp only
          have : (decide (l < tg) && decide (tg < s.nextTag) && decide (0 ≤ tk ∧ tk < (m3 : Int))) = false := by simp; omega
          rw [this]; rfl
        refine (never_yes 1 [decide (tg ≤ l), decide (s.nextTag ≤ tg), decide (tk < 0), decide ((m3 : Int) ≤ tk)] _ _ (by simp) (bools_newG W3 _ HZ3.out) (by simp; omega)).mono ?_
        rintro e w4 ⟨rfl, hw4⟩
        exact ⟨rfl, by rw [HD.out, HNO.out]; rfl, by rw [hw4]; exact hBw.trans ((k3.alloc k3.size _).mono s0)⟩
      · refine (never_no 1 [decide (tg ≤ l), decide (s.nextTag ≤ tg), decide (tk < 0), decide ((m3 : Int) ≤ tk)] _ _ (by simp) (bools_newG W3 _ HZ3.out) (by simp; omega)).mono ?_
        rintro e w4 ⟨rfl, hw4⟩
        have l4 : Below W3.heap.size W3 w4 := by rw [hw4]; exact (Below.refl _ _).alloc (Nat.le_refl _) _
        have k4 : Below W1.heap.size W1 w4 := k3.trans (l4.mono k3.size)
        have s4 := k4.size
        have b4 := (l4.block wr.heap.size (by have := HZ3.out; omega)).trans HB3.out
        have HB4 := hidI b4
        have g0 := cell_of_cells b4 0
        have g1 := cell_of_cells b4 1
        have g2 := cell_of_cells b4 2
        simp at g0 g1 g2
        have hw4s : wr.heap.size < w4.heap.size := lt_of_heap b4
        obtain ⟨tn, htn⟩ := Int.eq_ofNat_of_zero_le (show 0 ≤ tk by omega)
        subst htn
        have htl : tn < s.takers.length := by rw [HM3.out]; omega
        obtain ⟨gt, ot, hat, hgt, u1, u2⟩ := (HS.out.q3.keep k4).get htl
        have HOUT : Hid (outOk s.takers s.nextTag l ⟨tg, (tn : Int), qu, ⟨sq, ky, bo, ag, de⟩⟩ = (decide (s.takers[tn].queue ≠ -1) && decide (s.takers[tn].queue = qu) && itemOk ⟨sq, ky, bo, ag, de⟩)) := by
          show outOk s.takers s.nextTag l ⟨tg, (tn : Int), qu, ⟨sq, ky, bo, ag, de⟩⟩ = _
          unfold outOk isNum; rw [HM3.out]; dsimp only
          rw [show decide (l < tg) = true from decide_eq_true (by omega), show decide (tg < s.nextTag) = true from decide_eq_true (by omega), show decide (0 ≤ (tn : Int) ∧ (tn : Int) < (m3 : Int)) = true from decide_eq_true (by omega), Int.toNat_natCast, List.getElem?_eq_getElem htl]
          simp
        obtain ⟨t, ht⟩ : ∃ t, t = s.takers[tn] := ⟨_, rfl⟩
        rw [← ht] at u1 u2 HOUT
        obtain ⟨tq, tm⟩ := t
        dsimp only at u1 u2 HOUT
        subst hat
        obtain ⟨z0, z1, z2, z3, z4, z5, z6, z7⟩ := st_cells (BX.out w4 k4)
        have i1 : (0 : Int) ≤ (tn : Int) := by omega
        have i2 : (tn : Int) < m3 := by omega
        obtain ⟨W5, hW5⟩ : ∃ W5, W5 = w4.alloc (.cells #[.int .i64 tq, .int .i64 tm] 79) := ⟨_, rfl⟩
        have HW5 := hidI hW5
        have l5 : Below w4.heap.size w4 W5 := by rw [hW5]; exact (Below.refl _ _).alloc (Nat.le_refl _) _
        have k5 : Below W1.heap.size W1 W5 := k4.trans (l5.mono s4)
        have HZ5 : Hid (w4.heap.size + 1 = W5.heap.size) := by show w4.heap.size + 1 = W5.heap.size; rw [hW5]; simp
        have HB5 := hidI ((l5.block wr.heap.size hw4s).trans HB4.out)
        clear hW5 ht b4 hw4 l4 y0 y1 y2 y3 y4 y5 y6 y7 e1 e2 e3 f0 f1 f2 f3 f4 htl hc1
        go_wp2_with fail
        rw [← HW5.out]
        by_cases hc2 : tq = -1 ∨ tq ≠ qu
        · have HNO : Hid (outsFrom s.takers s.nextTag (-1) s.outs = false) := by
            show outsFrom s.takers s.nextTag (-1) s.outs = false
            rw [HSTEP.out, HOUT.out]
            have : (decide (tq ≠ -1) && decide (tq = qu)) = false := by simp; omega
            rw [this]; rfl
          refine (never_yes 1 [(tq == -1), (tq != qu)] _ _ (by simp) (bools_newG W5 _ HZ5.out) (by simp; omega)).mono ?_
          rintro e w6 ⟨rfl, hw6⟩
          exact ⟨rfl, by rw [HD.out, HNO.out]; rfl, by rw [hw6]; exact hBw.trans ((k5.alloc k5.size _).mono s0)⟩
        · refine (never_no 1 [(tq == -1), (tq != qu)] _ _ (by simp) (bools_newG W5 _ HZ5.out) (by simp; omega)).mono ?_
          rintro e w6 ⟨rfl, hw6⟩
          have l6 : Below W5.heap.size W5 w6 := by rw [hw6]; exact (Below.refl _ _).alloc (Nat.le_refl _) _
          have k6 : Below W1.heap.size W1 w6 := k5.trans (l6.mono k5.size)
          have s6 := k6.size
          have b6 := (l6.block wr.heap.size (lt_of_heap HB5.out)).trans HB5.out
          have HB6 := hidI b6
          have HO2 : Hid (outsFrom s.takers s.nextTag (-1) s.outs = (itemOk ⟨sq, ky, bo, ag, de⟩ && outsFrom s.takers s.nextTag tg (s.outs.drop (k + 1)))) := by
            show outsFrom s.takers s.nextTag (-1) s.outs = _
            rw [HSTEP.out, HOUT.out]
            have : (decide (tq ≠ -1) && decide (tq = qu)) = true := by simp; omega
            rw [this]; rfl
          have g3 := cell_of_cells b6 3
          have g4 := cell_of_cells b6 4
          have g5 := cell_of_cells b6 5
          have g6 := cell_of_cells b6 6
          have g7 := cell_of_cells b6 7
          simp at g3 g4 g5 g6 g7
          obtain ⟨W7, hW7⟩ : ∃ W7, W7 = w6.alloc (.cells #[.int .i64 sq, .string ky, .string bo, .bool ag, .int .i64 de] 59) := ⟨_, rfl⟩
          have HW7 := hidI hW7
          have l7 : Below w6.heap.size w6 W7 := by rw [hW7]; exact (Below.refl _ _).alloc (Nat.le_refl _) _
          have k7 : Below W1.heap.size W1 W7 := k6.trans (l7.mono s6)
          have HI7 : Hid (ItemsAt W7 (some ⟨w6.heap.size, 0, none⟩) [⟨sq, ky, bo, ag, de⟩]) := by show ItemsAt W7 _ _; rw [hW7]; exact items_one w6 ⟨sq, ky, bo, ag, de⟩
          have HB7 := hidI (plan_keep HB6.out l7)
          clear hW7 hw6 b6 g0 g1 g2 z0 z1 z2 z3 z4 z5 z6 z7 u1 u2 hc2
          go_wp2_with fail
          rw [← HW7.out]
          refine (lcheck_any [⟨sq, ky, bo, ag, de⟩] _ _ _ _ rfl (by unfold maxLen; simp) HI7.out).mono ?_
          rintro e w8 ⟨rfl, hB8⟩
          have k8 : Below W1.heap.size W1 w8 := k7.trans (hB8.mono k7.size)
          have s8 := k8.size
          have HB8 := hidI (plan_keep HB7.out hB8)
          have k9 := k8.alloc s8 (.cells #[.int .i64 (lineE [⟨sq, ky, bo, ag, de⟩])] 23)
          obtain ⟨ok, hok⟩ : ∃ ok, ok = itemOk ⟨sq, ky, bo, ag, de⟩ := ⟨_, rfl⟩
          rw [← hok] at HO2
          unfold lineE at k9 ⊢
          rw [lineOk_one, ← hok] at k9 ⊢
          clear hok hB8 g3 g4 g5 g6 g7
          cases ok with
          | true =>
            simp only [if_true] at k9 ⊢
            go_wp2_with (go_at_call 95; refine (ok_no _ _ (one_new _ _ _) (by simp)).mono ?_; rintro e w9 ⟨rfl, hB9⟩; have b9 := plan_keep (plan_keep HB8.out ((Below.refl _ _).alloc (Nat.le_refl _) _)) hB9; have g0 := cell_of_cells b9 0; simp at g0)
            go_roundw
            case rel => exact ⟨k + 1, tg, by omega, by go_num, rfl, by rw [HO2.out]; rfl, k9.trans (hB9.mono k9.size)⟩
            case measure => simp [intOf]; omega
          | false =>
            simp only [Bool.false_eq_true, if_false] at k9 ⊢
            go_wp2_with (go_at_call 95; refine (ok_yes 1 _ _ (one_new _ _ _) (by simp) (by decide)).mono ?_; rintro e w9 ⟨rfl, hB9⟩)
            exact ⟨rfl, by rw [HD.out, HO2.out]; rfl, hBw.trans ((k9.trans (hB9.mono k9.size)).mono s0)⟩
    · have hke : k = m2 := by omega
      subst hke
      have HYES : Hid (outsFrom s.takers s.nextTag (-1) s.outs = true) := by
        show outsFrom s.takers s.nextTag (-1) s.outs = true
        rw [HA.out, List.drop_eq_nil_of_le (by rw [HM2.out]; exact Nat.le_refl _)]; rfl
      clear hlt hk
      go_wp2_with fail
      go_end0
      exact ⟨by rw [HD.out, HYES.out]; rfl, hBw.trans (hB.mono s0)⟩
end Go.Proofs.Ythhkpgnjpieckaa
