/- The walk of the law PlanChecks. -/
import Derived.Deep.RegionWith
import Derived.Test.YthhkpgnjpieckaaOf
namespace Go.Proofs.Ythhkpgnjpieckaa
set_option linter.unusedVariables false
set_option maxRecDepth 100000
open Go.RowKit

theorem below_of_drew {W w' : World} (h : Below W.heap.size W.drew w') : Below W.heap.size W w' := ⟨h.os, h.tape, h.output, h.size, h.block⟩

set_option maxRecDepth 100000 in
set_option maxHeartbeats 4000000 in
theorem walk_PlanChecks (p : PlanD) (a1 a2 a3 : Option Addr) (n1 c1 n2 c2 n3 c3 : Nat) (s : ByteArray) (hs : s.size ≤ maxLen) (w : World) (hp : PlanAt w a1 a2 a3 n1 n2 n3 p) :
    Calls Try.prog 7 #[.agg #[.slice a1 n1 c1, .slice a2 n2 c2, .slice a3 n3 c3], .string s] w fun e w' => e = .returned (.bool true) ∧ Below w.heap.size w w' := by
  obtain ⟨W1, hW1, hBw, hs1, hbx⟩ := plan_boxed w (.slice a1 n1 c1) (.slice a2 n2 c2) (.slice a3 n3 c3) 40
  have HP1 : Hid (PlanAt W1 a1 a2 a3 n1 n2 n3 p) := hp.keep hBw
  have BX : Hid (∀ W, Below W1.heap.size W1 W → W.cell? ⟨w.heap.size, 0, none⟩ = some (.slice a1 n1 c1) ∧ W.cell? ⟨w.heap.size, 1, none⟩ = some (.slice a2 n2 c2) ∧ W.cell? ⟨w.heap.size, 2, none⟩ = some (.slice a3 n3 c3)) := hbx
  obtain ⟨d, hd⟩ : ∃ d, d = chkP p := ⟨_, rfl⟩
  obtain ⟨b, hb⟩ : ∃ b, b = nameOk s.data.toList := ⟨_, rfl⟩
  have HC : Hid (∀ W, Below W1.heap.size W1 W → Calls Try.prog 27 #[.agg #[.slice a1 n1 c1, .slice a2 n2 c2, .slice a3 n3 c3]] W fun e w' => e = .returned (.int .i64 d) ∧ Below W.heap.size W w') := fun W hW => by
    have h := HP1.out.keep hW
    rw [hd]; exact check_any p _ _ _ _ _ _ _ _ _ _ h.l1 h.l2 h.l3 h.sz h.p1 h.p2 h.p3
  have HR : Hid (∀ W, Below W1.heap.size W1 W → Calls Try.prog 28 #[.agg #[.slice a1 n1 c1, .slice a2 n2 c2, .slice a3 n3 c3]] W fun e w' => e = .returned (.int .i64 d) ∧ Below W.heap.size W w') := fun W hW => by
    have h := HP1.out.keep hW
    rw [hd]; exact rcheck_any p _ _ _ _ _ _ _ _ _ _ h.l1 h.l2 h.l3 h.sz h.p1 h.p2 h.p3
  have HN : Hid (∀ W, Calls Try.prog 29 #[.string s] W fun e w' => e = .returned (.bool b) ∧ w' = W) := fun W => by rw [hb]; exact name_any s W hs
  have HI : Hid (∀ W, Calls Try.prog 30 #[.string s] W fun e w' => e = .returned (.bool b) ∧ w' = W) := fun W => by rw [hb]; exact isName_any s W hs
  have s0 := hBw.size
  clear hp hbx hs1 hd hb hs
  go_enter Try.func7, Try.ntmps7
  go_wp2_with fail
  rw [← hW1]
  clear hW1
  go_region_with (first
    | (go_at_call 26; refine (planBegun_any _).mono ?_; rintro e w2 ⟨rfl, hB2⟩; have k2 : Below W1.heap.size W1 w2 := below_of_drew (W := W1) hB2; obtain ⟨d0, d1, d2⟩ := BX.out w2 k2)
    | (go_at_call 27; refine (HC.out _ (by assumption)).mono ?_; rintro e w3 ⟨rfl, hB3⟩; have k3 : Below W1.heap.size W1 w3 := k2.trans (hB3.mono k2.size); obtain ⟨e0, e1, e2⟩ := BX.out w3 k3)
    | (go_at_call 28; refine (HR.out _ (by assumption)).mono ?_; rintro e w4 ⟨rfl, hB4⟩; have k4 : Below W1.heap.size W1 w4 := k3.trans (hB4.mono k3.size))
    | (go_at_call 29; refine (HN.out _).mono ?_; rintro e w5 ⟨rfl, rfl⟩)
    | (go_at_call 30; refine (HI.out _).mono ?_; rintro e w6 ⟨rfl, rfl⟩))
  all_goals
    go_wp2_with fail
    go_ret
    exact ⟨ret_bool (by simp), hBw.trans (Below.mono (by assumption) s0)⟩
end Go.Proofs.Ythhkpgnjpieckaa
