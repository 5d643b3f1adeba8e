import Derived.Test.YtpoichgodamnkaaYUk
import Derived.KernelRfl
import Derived.Deep.RegionHeld3
import Derived.Test.YtpoichgodamnkaaTjx
import Derived.Test.YtpoichgodamnkaaTbx
namespace Go.Proofs.Ytpoichgodamnkaa
open Go.RowKit Go.Maps
set_option linter.unusedVariables false
set_option maxRecDepth 100000
def resV (E : Int) (s : StateD) : StateD := if E = 0 then s else beginS 0
theorem StRes.stV {W : World} {n : Nat} {v : Value} {E : Int} {s : StateD} (h : StRes W n v E s) : StV W v (resV E s) := by
 unfold resV
 by_cases hE : E = 0
 ·rw [if_pos hE]; exact (h.1 hE).st
 ·rw [if_neg hE, h.2 hE]
  exact ⟨none, none, none, 0, 0, 0, 0, 0, 0, rfl, ⟨rfl, rfl, rfl, Nat.zero_le _, Nat.zero_le _, Nat.zero_le _, .inl rfl, .inl rfl, .inl rfl⟩, fun _ => rfl, fun _ => rfl⟩
theorem StRes.boxV {W : World} {n : Nat} {v : Value} {E : Int} {S : StateD} (h : StRes W n v E S) {s : StateD} (hs : s = resV E S) : ∃ b1 b2 b3 m1 d1 m2 d2 m3 d3 W', v = .agg #[.slice b1 m1 d1, .slice b2 m2 d2, .slice b3 m3 d3, .int .i64 s.nextSeq, .int .i64 s.nextTag, .int .i64 s.came, .int .i64 s.acked, .int .i64 s.dropped] ∧ W' = W.alloc (.cells #[.slice b1 m1 d1, .slice b2 m2 d2, .slice b3 m3 d3, .int .i64 s.nextSeq, .int .i64 s.nextTag, .int .i64 s.came, .int .i64 s.acked, .int .i64 s.dropped] 31) ∧ Below W.heap.size W W' ∧ W'.heap[W.heap.size]? = some (.cells #[.slice b1 m1 d1, .slice b2 m2 d2, .slice b3 m3 d3, .int .i64 s.nextSeq, .int .i64 s.nextTag, .int .i64 s.came, .int .i64 s.acked, .int .i64 s.dropped] 31 (0, 0)) ∧ StateAt W' b1 b2 b3 m1 m2 m3 s ∧ (b2 = none → d2 = 0) ∧ (b3 = none → d3 = 0) := by
 subst hs
 obtain ⟨b1, b2, b3, m1, d1, m2, d2, m3, d3, h1, h2, h3⟩ := h.stV
 exact ⟨b1, b2, b3, m1, d1, m2, d2, m3, d3, _, h1, rfl, (Below.refl _ _).alloc (Nat.le_refl _) _, World.alloc_heap_new W _, h2.keep ((Below.refl _ _).alloc (Nat.le_refl _) _), h3⟩
def bS : StateD := busyS (bOut 1) ⟨-1, 1⟩ ⟨0, 2⟩ 1
theorem BusyAt.setT {W : World} {gI gR gO gT : Nat} {o : OutD} {t0 t1 : TakerD} (h : BusyAt W gI gR gO gT o t0 t1) (h1 : gI ≠ gT) (h2 : gR ≠ gT) (h3 : gT ≠ gO) : BusyAt (W.setCell ⟨gT, 2, none⟩ (.int .i64 1)) gI gR gO gT o t0 ⟨1, t1.most⟩ :=
 ⟨(heap_setCell_other W ⟨gT, 2, none⟩ gI _ h1).trans h.i, (heap_setCell_other W ⟨gT, 2, none⟩ gR _ h2).trans h.r, (heap_setCell_other W ⟨gT, 2, none⟩ gO _ (fun e => h3 e.symm)).trans h.o, scb_ h.t _⟩
end Go.Proofs.Ytpoichgodamnkaa
