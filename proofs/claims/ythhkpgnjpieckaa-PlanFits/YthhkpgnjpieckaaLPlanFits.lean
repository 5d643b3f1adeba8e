/- The walk of the law PlanFits. -/
import Derived.Test.YthhkpgnjpieckaaOf
namespace Go.Proofs.Ythhkpgnjpieckaa
set_option linter.unusedVariables false
set_option maxRecDepth 100000
open Go.RowKit

set_option maxRecDepth 100000 in
set_option maxHeartbeats 4000000 in
theorem walk_PlanFits (p : PlanD) (a1 a2 a3 : Option Addr) (n1 c1 n2 c2 n3 c3 : Nat) (n : Int) (key : ByteArray) (w : World) (hp : PlanAt w a1 a2 a3 n1 n2 n3 p) :
    Calls Try.prog 8 #[.agg #[.slice a1 n1 c1, .slice a2 n2 c2, .slice a3 n3 c3], .int .i64 n, .string key] w fun e w' => e = .returned (.bool true) ∧ Below w.heap.size w w' := by
  obtain ⟨W1, hW1, hBw, hs1, hbx⟩ := plan_boxed w (.slice a1 n1 c1) (.slice a2 n2 c2) (.slice a3 n3 c3) 40
  have HP1 : Hid (PlanAt W1 a1 a2 a3 n1 n2 n3 p) := hp.keep hBw
  have BX : Hid (∀ W, Below W1.heap.size W1 W → W.cell? ⟨w.heap.size, 0, none⟩ = some (.slice a1 n1 c1) ∧ W.cell? ⟨w.heap.size, 1, none⟩ = some (.slice a2 n2 c2) ∧ W.cell? ⟨w.heap.size, 2, none⟩ = some (.slice a3 n3 c3)) := hbx
  obtain ⟨b, hb⟩ : ∃ b, b = fitB p n key := ⟨_, rfl⟩
  obtain ⟨d, hd⟩ : ∃ d, d = fitE p n key := ⟨_, rfl⟩
  have HC : Hid (∀ W, Below W1.heap.size W1 W → Calls Try.prog 31 #[.agg #[.slice a1 n1 c1, .slice a2 n2 c2, .slice a3 n3 c3], .int .i64 n, .string key] W fun e w' => e = .returned (.tuple #[.bool b, .int .i64 d]) ∧ Below W.heap.size W w') := fun W hW => by
    rw [hb, hd]; exact fits_any p _ _ _ _ _ _ _ _ _ n key W (HP1.out.keep hW)
  have HR : Hid (∀ W, Below W1.heap.size W1 W → Calls Try.prog 32 #[.agg #[.slice a1 n1 c1, .slice a2 n2 c2, .slice a3 n3 c3], .int .i64 n, .string key] W fun e w' => e = .returned (.tuple #[.bool b, .int .i64 d]) ∧ Below W.heap.size W w') := fun W hW => by
    rw [hb, hd]; exact fitsOf_any p _ _ _ _ _ _ _ _ _ n key W (HP1.out.keep hW)
  have s0 := hBw.size
  clear hp hbx hs1 hd hb
  go_enter Try.func8, Try.ntmps8
  go_wp2_with fail
  rw [← hW1]
  clear hW1
  refine (HC.out _ (Below.refl _ _)).mono ?_
  rintro e w2 ⟨rfl, hB2⟩
  obtain ⟨d0, d1, d2⟩ := BX.out w2 hB2
  go_wp2_with fail
  refine (HR.out _ hB2).mono ?_
  rintro e w3 ⟨rfl, hB3⟩
  clear d0 d1 d2
  go_wp2_with fail
  refine (planBegun_any _).mono ?_
  rintro e w4 ⟨rfl, hB4⟩
  go_wp2_with fail
  go_ret
  have s2 := hB2.size
  have s3 := hB3.size
  exact ⟨ret_bool (by simp), hBw.trans ((hB2.mono s0).trans ((hB3.mono (by omega)).trans (hB4.mono (by omega))))⟩
end Go.Proofs.Ythhkpgnjpieckaa
