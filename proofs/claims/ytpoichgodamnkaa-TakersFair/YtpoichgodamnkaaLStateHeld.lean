/- The walk of the law StateHeld. -/
import Derived.Test.YtpoichgodamnkaaTq
import Derived.Test.YtpoichgodamnkaaTp
import Derived.Test.YtpoichgodamnkaaTm
namespace Go.Proofs.Ytpoichgodamnkaa
set_option linter.unusedVariables false
set_option maxRecDepth 100000
open Go.RowKit Go.Maps

theorem rcheckState_any (p : PlanD) (a1 a2 a3 : Option Addr) (n1 c1 n2 c2 n3 c3 : Nat) (s : StateD) (b1 b2 b3 : Option Addr) (m1 d1 m2 d2 m3 d3 : Nat) (w : World) (hp : PlanAt w a1 a2 a3 n1 n2 n3 p) (hs : StateAt w b1 b2 b3 m1 m2 m3 s) :
    Calls Try.prog 16 #[.agg #[.slice a1 n1 c1, .slice a2 n2 c2, .slice a3 n3 c3], .agg #[.slice b1 m1 d1, .slice b2 m2 d2, .slice b3 m3 d3, .int .i64 s.nextSeq, .int .i64 s.nextTag, .int .i64 s.came, .int .i64 s.acked, .int .i64 s.dropped]] w fun e w' => e = .returned (.int .i64 (stE p s)) ∧ Below w.heap.size w w' :=
  rcheckState_of p _ _ _ _ _ _ _ _ _ s _ _ _ _ _ _ _ _ _ w hp hs fun W hW h0 h3 => formed_any p _ _ _ _ _ _ _ _ _ s _ _ _ _ _ _ _ _ _ W (hp.keep hW) (hs.keep hW) (chk_right h0) h3

set_option maxRecDepth 100000 in
set_option maxHeartbeats 1000000 in
theorem walk_StateHeld (p : PlanD) (a1 a2 a3 : Option Addr) (n1 c1 n2 c2 n3 c3 : Nat) (s : StateD) (b1 b2 b3 : Option Addr) (m1 d1 m2 d2 m3 d3 : Nat) (t : Int) (w : World) (hp : PlanAt w a1 a2 a3 n1 n2 n3 p) (hs : StateAt w b1 b2 b3 m1 m2 m3 s) :
    Calls Try.prog 4 #[.agg #[.slice a1 n1 c1, .slice a2 n2 c2, .slice a3 n3 c3], .agg #[.slice b1 m1 d1, .slice b2 m2 d2, .slice b3 m3 d3, .int .i64 s.nextSeq, .int .i64 s.nextTag, .int .i64 s.came, .int .i64 s.acked, .int .i64 s.dropped], .int .i64 t] w fun e w' => e = .returned (.bool true) ∧ Below w.heap.size w w' := by
  obtain ⟨W2, hW2, hBw, hs2, hbx⟩ := ps_boxed w #[.slice a1 n1 c1, .slice a2 n2 c2, .slice a3 n3 c3] #[.slice b1 m1 d1, .slice b2 m2 d2, .slice b3 m3 d3, .int .i64 s.nextSeq, .int .i64 s.nextTag, .int .i64 s.came, .int .i64 s.acked, .int .i64 s.dropped]
  have HW2 := hidI hW2
  have BX := hidI hbx
  have HS := hidI (hs.keep hBw)
  have HP := hidI (hp.keep hBw)
  have HM3 : Hid (s.takers.length = m3) := hs.l3
  have s0 := hBw.size
  have HBW := hidI hBw
  obtain ⟨x0, x1, x2⟩ := pl_cells (hbx W2 (Below.refl _ _)).1
  obtain ⟨y0, y1, y2, y3, y4, y5, y6, y7⟩ := st_cells (hbx W2 (Below.refl _ _)).2
  clear hW2 hbx hs2 hp hs hBw
  go_enter Try.func4, Try.ntmps4
  go_wp2_with fail
  rw [← HW2.out]
  refine (sheld_any p _ _ _ _ _ _ _ _ _ s _ _ _ _ _ _ _ _ _ t _ HP.out HS.out).mono ?_
  rintro e w3 ⟨rfl, k3⟩
  obtain ⟨D, hD⟩ : ∃ D : Int, D = hdE p s t := ⟨_, rfl⟩
  obtain ⟨N, hN⟩ : ∃ N : Int, N = hdN p s t := ⟨_, rfl⟩
  rw [← hD, ← hN]
  have HD := hidI hD
  have HN := hidI hN
  have s3 := k3.size
  clear hD hN x0 x1 x2 y0 y1 y2 y3 y4 y5 y6 y7
  obtain ⟨x0, x1, x2⟩ := pl_cells (BX.out w3 k3).1
  obtain ⟨y0, y1, y2, y3, y4, y5, y6, y7⟩ := st_cells (BX.out w3 k3).2
  go_wp2_with fail
  refine (rcheckState_any p _ _ _ _ _ _ _ _ _ s _ _ _ _ _ _ _ _ _ _ (HP.out.keep k3) (HS.out.keep k3)).mono ?_
  rintro e w4 ⟨rfl, k4'⟩
  have k4 := k3.trans (k4'.mono s3)
  have s4 := k4.size
  have K4 := hidI k4
  obtain ⟨E, hE⟩ : ∃ E : Int, E = stE p s := ⟨_, rfl⟩
  rw [← hE]
  have HE := hidI hE
  clear hE x0 x1 x2 y0 y1 y2 y3 y4 y5 y6 y7 k4'
  obtain ⟨y0, y1, y2, y3, y4, y5, y6, y7⟩ := st_cells (BX.out w4 k4).2
  by_cases h0 : E = 0
  · by_cases hr : isNum t m3 = true
    · have HD0 : Hid (D = 0) := by show D = 0; rw [HD.out]; unfold hdE; rw [← HE.out, if_pos h0, if_pos (by rw [HM3.out]; exact hr)]
      have HN0 : Hid (N = (heldN s t : Int)) := by show N = _; rw [HN.out]; unfold hdN; rw [← HD.out, if_pos HD0.out]
      subst h0
      obtain ⟨r1, r2⟩ := isNum_iff.1 hr
      have i1 : ¬ (t < 0) := by omega
      have i2 : ¬ ((m3 : Int) ≤ t) := by omega
      have hD0 := HD0.out
      subst hD0
      have hN0 := HN0.out
      subst hN0
      clear hr
      go_wp2_with fail
      refine (rheld_any s _ _ _ _ _ _ _ _ _ t _ (HS.out.keep k4)).mono ?_
      rintro e w5 ⟨rfl, k5'⟩
      have k5 := K4.out.trans (k5'.mono s4)
      have s5 := k5.size
      obtain ⟨n, hn⟩ : ∃ n : Nat, n = heldN s t := ⟨_, rfl⟩
      rw [← hn]
      have b1 : ((n : Int) == (n : Int)) = true := by simp
      clear hn k5' y0 y1 y2 y3 y4 y5 y6 y7
      go_wp2_with fail
      refine (stateBegun_any _).mono ?_
      rintro e w6 ⟨rfl, k6⟩
      go_wp2_with fail
      go_ret
      exact ⟨rfl, HBW.out.trans ((k5.trans (k6.mono s5)).mono s0)⟩
    · have HD0 : Hid (D = 5) := by show D = 5; rw [HD.out]; unfold hdE; rw [← HE.out, if_pos h0, if_neg (by rw [HM3.out]; exact hr)]
      have HN0 : Hid (N = 0) := by show N = _; rw [HN.out]; unfold hdN; rw [← HD.out, if_neg (by rw [HD0.out]; decide)]
      subst h0
      have hD0 := HD0.out
      subst hD0
      have hN0 := HN0.out
      subst hN0
      have hr' : t < 0 ∨ (m3 : Int) ≤ t := by
        rw [isNum_iff] at hr; omega
      clear hr
      rcases hr' with i1 | i2
      · go_wp2_with fail
        refine (stateBegun_any _).mono ?_
        rintro e w6 ⟨rfl, k6⟩
        go_wp2_with fail
        go_ret
        exact ⟨rfl, HBW.out.trans ((K4.out.trans (k6.mono s4)).mono s0)⟩
      · have i1 : ¬ (t < 0) := by omega
        go_wp2_with fail
        refine (stateBegun_any _).mono ?_
        rintro e w6 ⟨rfl, k6⟩
        go_wp2_with fail
        go_ret
        exact ⟨rfl, HBW.out.trans ((K4.out.trans (k6.mono s4)).mono s0)⟩
  · have HD0 : Hid (D = E) := by show D = E; rw [HD.out]; unfold hdE; rw [← HE.out, if_neg h0]
    have HN0 : Hid (N = 0) := by show N = _; rw [HN.out]; unfold hdN; rw [← HD.out, if_neg (by rw [HD0.out]; exact h0)]
    have hD0 := HD0.out
    subst hD0
    have hN0 := HN0.out
    subst hN0
    have h0' : (D == 0) = false := by simpa using h0
    have b1 : (D == D) = true := by simp
    clear h0
    go_wp2_with fail
    refine (stateBegun_any _).mono ?_
    rintro e w6 ⟨rfl, k6⟩
    go_wp2_with fail
    go_ret
    exact ⟨rfl, HBW.out.trans ((K4.out.trans (k6.mono s4)).mono s0)⟩
end Go.Proofs.Ytpoichgodamnkaa
