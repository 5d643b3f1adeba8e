/- The walk of the law RouteWays. -/
import Derived.Test.YthhkpgnjpieckaaSo
namespace Go.Proofs.Ythhkpgnjpieckaa
set_option linter.unusedVariables false
set_option maxRecDepth 100000
open Go.RowKit Go.Maps

set_option maxRecDepth 100000 in
set_option maxHeartbeats 1000000 in
theorem walk_RouteWays (p : PlanD) (a1 a2 a3 : Option Addr) (n1 c1 n2 c2 n3 c3 : Nat) (v : Int) (key : ByteArray) (q : Int) (w : World) (hp : PlanAt w a1 a2 a3 n1 n2 n3 p) :
    Calls Try.prog 10 #[.agg #[.slice a1 n1 c1, .slice a2 n2 c2, .slice a3 n3 c3], .int .i64 v, .string key, .int .i64 q] w fun e w' => e = .returned (.bool true) ∧ Below w.heap.size w w' := by
  obtain ⟨W1, hW1, hBw, hs1, hbx⟩ := plan_boxed w (.slice a1 n1 c1) (.slice a2 n2 c2) (.slice a3 n3 c3) 40
  have HP1 : Hid (PlanAt W1 a1 a2 a3 n1 n2 n3 p) := hp.keep hBw
  have BX := hidIt hbx
  have s0 := hBw.size
  have HW1 := hidIt hW1
  clear hp hbx hs1 hW1
  go_enter Try.func10, Try.ntmps10
  go_wp2_with fail
  rw [← HW1.out]
  refine (way_any p _ _ _ _ _ _ _ _ _ v key q _ HP1.out).mono ?_
  rintro e w2 ⟨ns, is, u, rfl, hw1, hw2, hrow, hB2⟩
  obtain ⟨d0, d1, d2⟩ := BX.out w2 hB2
  have HWY := hidIt (And.intro hw1 hw2)
  obtain ⟨g, hg⟩ : ∃ g, g = wayE p v key q := ⟨_, rfl⟩
  rw [← hg]
  have HG := hidIt hg
  clear hg
  have HB2 := hidIt hB2
  have hl12 : ns.length ≤ 12 := by
    cases his : is with
    | false => rw [(hw2 his).1]; simp
    | true =>
      have h1 := (hw1 his).2.few
      have h2 : rtE p v key = 0 := by
        have := (hw1 his).1
        unfold wayE at this
        by_cases h : rtE p v key = 0
        · exact h
        · rw [if_neg h] at this; exact absurd this h
      have := (chk_right (rt_zero h2).1).few.1
      omega
  rw [natV_ints] at hrow
  obtain ⟨zs, hzs⟩ : ∃ zs, zs = ns.map (fun n : Nat => (n : Int)) := ⟨_, rfl⟩
  rw [← hzs] at hrow
  have hz12 : zs.length ≤ 12 := by rw [hzs, List.length_map]; exact hl12
  have HZS := hidIt hzs
  obtain ⟨a, c, rfl, hI⟩ := ints_own hrow
  obtain ⟨m, hm⟩ : ∃ m, m = zs.length := ⟨_, rfl⟩
  rw [← hm] at hz12 ⊢
  have HM := hidIt hm
  clear hzs hm hl12
  have HI := hidIt hI
  clear hw1 hw2 hrow hI
  go_wp2_with fail
  refine (wayOf_any p _ _ _ _ _ _ _ _ _ v key q ns is _ (HP1.out.keep hB2) HWY.out.1 HWY.out.2).mono ?_
  rintro e w3 ⟨u, rfl, hrow, hB3⟩
  rw [← HG.out]
  rw [natV_ints, ← HZS.out] at hrow
  obtain ⟨a', c', rfl, hJ⟩ := ints_own hrow
  rw [← HM.out]
  have HJ := hidIt hJ
  have HB3 := hidIt hB3
  have hgg : (g == g) = true := by simp
  have hii : (is == is) = true := by simp
  clear hrow hJ d0 d1 d2 hB3
  go_wp2_with fail
  refine (routeBegun_any _).mono ?_
  rintro e w4 ⟨rfl, hB4⟩
  have HB4 := hidIt hB4
  have k4 := HB2.out.trans ((HB3.out.trans (hB4.mono HB3.out.size)).mono HB2.out.size)
  have HK4 := hidIt k4
  clear hB4 k4
  go_wp2_with fail
  refine (same_ints zs _ _ _ _ _ _ HM.out.symm (by omega) ((HI.out.keep HB3.out).keep HB4.out) (HJ.out.keep HB4.out)).mono ?_
  rintro e w5 ⟨rfl, hB5⟩
  go_wp2_with fail
  go_ret
  exact ⟨rfl, hBw.trans ((HK4.out.trans (hB5.mono HK4.out.size)).mono s0)⟩
end Go.Proofs.Ythhkpgnjpieckaa
