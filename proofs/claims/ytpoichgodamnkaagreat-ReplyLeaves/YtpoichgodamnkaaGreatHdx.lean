import Derived.Test.YtpoichgodamnkaaGreatGxx
namespace Go.Proofs.YtpoichgodamnkaaGreat
open Go.RowKit Go.Deep Go.Joins Go.ChangeShapes Go.WideShapes
set_option linter.unusedVariables false
set_option maxRecDepth 100000
variable {H : Type} {enc : TypeId × Value → H} {w : World} {base : Nat} {spare : Nat → Bool} {held : Bool}
theorem state_caps {b1 b2 b3 : Option Addr} {m1 d1 m2 d2 m3 d3 : Nat} {s : StateD} {d : DataW H} {p : List MemPlace} (h : DataW.Trod enc Tryz.prog w base spare held 31 (.agg #[.slice b1 m1 d1, .slice b2 m2 d2, .slice b3 m3 d3, .int .i64 s.nextSeq, .int .i64 s.nextTag, .int .i64 s.came, .int .i64 s.acked, .int .i64 s.dropped]) d p) : m2 ≤ d2 ∧ d2 ≤ maxLen := by
 obtain ⟨m, hm⟩ := h
 obtain ⟨y0, y1, y2, y3, y4, y5, y6, y7, n, hd, hl, h0, h1, h2, h3, h4, h5, h6, h7⟩ := trod_struct8 Tryz.underlying31 hm
 simp only [Value.cells, cellsOuts, cellsTakers] at h1 h2
 rcases open_slice Tryz.underlying28 h1 with ⟨hcs, _⟩ | ⟨a, len, cap, m', n, D, Pl, hcs, _, hle, hcm, _⟩
 ·simp at hcs; rw [hcs.2.1, hcs.2.2]; exact ⟨Nat.le_refl _, by unfold maxLen; omega⟩
 ·simp at hcs; rw [hcs.2.1, hcs.2.2]; exact ⟨hle, hcm⟩
end Go.Proofs.YtpoichgodamnkaaGreat
