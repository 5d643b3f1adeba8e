/- ask.Tried: a panic is told as an error. -/
import Derived.Defers
import Derived.Recover
import Derived.Test.YthhkpgnjpieckaaTa
namespace Go.Proofs.Ythhkpgnjpieckaa
set_option linter.unusedVariables false
set_option maxRecDepth 100000
open Go.RowKit

theorem run_errno (d : Int) (w : World) : (Instr.typeAssert (.iface 23 (.int .i64 d)) 20 23 true).run Try.prog w = .ok (.tuple #[.int .i64 d, .bool true]) w := by kernel_rfl

theorem tried1_idle (B : Nat) (w : World) :
    CallsD Try.prog 119 #[.pointer (some ⟨B, 0, none⟩)] .returning w fun e u' w' => e = .returned (.tuple #[]) ∧ u' = .returning ∧ w' = w := by
  refine callsD_of_wpS Try.func119 rfl fun c₀ cs hu => ?_
  apply wpS_seq
  apply wpS_region
  simp [wpOpsS, go_sem, recoverD, hu, Try.ntmps119, Exit.thenS]
  refine wpS_of_wp ?_
  go_wp2
  cases c₀
  simp_all [bodyPostS, results, Try.results119]

set_option maxHeartbeats 1000000 in
theorem tried1_pan (B : Nat) (d x : Int) (older : List PanicEntry) (w : World) (hc : w.cell? ⟨B, 0, none⟩ = some (.int .i64 x)) (hz : w.frozen? ⟨B, 0, none⟩ = false) :
    CallsD Try.prog 119 #[.pointer (some ⟨B, 0, none⟩)] (.panicking ({ v := .iface 23 (.int .i64 d), recovered := false } :: older)) w fun e u' w' =>
      e = .returned (.tuple #[]) ∧ u' = .panicking ({ v := .iface 23 (.int .i64 d), recovered := true } :: older) ∧ w' = w.setCell ⟨B, 0, none⟩ (.int .i64 d) := by
  have hta := run_errno
  refine callsD_of_wpS Try.func119 rfl fun c₀ cs hu => ?_
  apply wpS_seq
  apply wpS_region
  simp [wpOpsS, go_sem, recoverD, hu, Try.ntmps119, Exit.thenS]
  refine wpS_of_wp ?_
  go_wp2
  cases c₀
  simp_all [bodyPostS, results, Try.results119]

set_option maxHeartbeats 1000000 in
theorem tried_check (B1 B2 : Nat) (D : Int) (w : World) (hdo : Calls Try.prog 94 #[.pointer (some ⟨B1, 0, none⟩), .pointer (some ⟨B2, 0, none⟩)] (w.alloc (.cells #[.int .i64 0] 23)) fun e w' => e = askE D ∧ Below (w.heap.size + 1) (w.alloc (.cells #[.int .i64 0] 23)) w') :
    Calls Try.prog 93 #[.func (.func 94) #[] #[.pointer (some ⟨B1, 0, none⟩), .pointer (some ⟨B2, 0, none⟩)]] w fun e w' => e = .returned (.int .i64 D) ∧ Below w.heap.size w w' := by
  have hmf : ∀ (fn : Fn) (first cap : Array Value) (w : World), (Instr.makeFunc fn first cap).run Try.prog w = .ok (.func fn first cap) w := fun _ _ _ _ => rfl
  have HDO : Hid (Calls Try.prog 94 #[.pointer (some ⟨B1, 0, none⟩), .pointer (some ⟨B2, 0, none⟩)] (w.alloc (.cells #[.int .i64 0] 23)) fun e w' => e = askE D ∧ Below (w.heap.size + 1) (w.alloc (.cells #[.int .i64 0] 23)) w') := hdo
  clear hdo
  go_enter_defers Try.func93, Try.ntmps93
  go_wp2_with fail
  refine HDO.out.mono ?_
  rintro e w2 ⟨rfl, hB⟩
  have hb := (hB.block w.heap.size (by omega)).trans (World.alloc_heap_new w (.cells #[.int .i64 0] 23))
  have c0 := cell_of_cells hb 0
  have f0 := free_of_cells hb 0
  simp at c0
  have hBw : Below w.heap.size w w2 := ((Below.refl _ _).alloc (Nat.le_refl _) _).trans (hB.mono (Nat.le_succ _))
  by_cases hD : D = 0
  · subst hD
    rw [askE_ok]
    unfold okE
    go_wp2_with fail
    refine leaves_cons (f := 119) (args := #[.pointer (some ⟨w.heap.size, 0, none⟩)]) (by simp) (by simp [go_sem]) ?_
    refine (tried1_idle w.heap.size _).mono ?_
    rintro e u' w'' ⟨rfl, rfl, rfl⟩
    have c1 := cell_of_cells (setCell_block hb (j := 0) (.int .i64 0)) 0
    simp at c1
    have hBe := hBw.setCell (p := ⟨w.heap.size, 0, none⟩) (Nat.le_refl _) (.int .i64 0)
    simp [Leaves, settle, results, Try.results93, go_sem, c1]
    exact hBe
  · rw [askE_pan hD]
    unfold panE
    go_wp2_with fail
    refine leaves_cons (f := 119) (args := #[.pointer (some ⟨w.heap.size, 0, none⟩)]) (by simp) (by simp [go_sem]) ?_
    refine (tried1_pan w.heap.size D 0 [] _ c0 f0).mono ?_
    rintro e u' w'' ⟨rfl, rfl, rfl⟩
    have c1 := cell_of_cells (setCell_block hb (j := 0) (.int .i64 D)) 0
    simp at c1
    have hBe := hBw.setCell (p := ⟨w.heap.size, 0, none⟩) (Nat.le_refl _) (.int .i64 D)
    simp [Leaves, settle, results, Try.results93, go_sem, c1]
    exact hBe
end Go.Proofs.Ythhkpgnjpieckaa
