/- words.Match. -/
import Derived.Test.YtpoichgodamnkaaPr
namespace Go.Proofs.Ytpoichgodamnkaa
set_option linter.unusedVariables false
set_option maxRecDepth 100000
open Go.RowKit Go.Shelf
attribute [local go_sem] Oper.semAt_some

/-- 'make([]T, n)' inside a fence. -/
theorem make_full_in {F : Fence} {n : Nat} {P : Program} (w : World) {ops : Array Oper} {rest : List Oper} {o : Oper} {a : Act} {Q : Exit → Act → World → Prop}
    (hg : o.guard = none) (l c : Operand) (t : TypeId) (hop : o.op = Op.makeSlice t l c)
    (base : Nat) (e : TypeId) (i : TypeInfo) (z : Value) (size : Nat) (h1 : P.underlying t = some (.slice e)) (h2 : P.info? e = some i) (h3 : i.zero = some z) (h4 : i.size = size)
    (kl kc : IntKind) (L C : Int) (m : Nat) (hl : a.eval l = .int kl L) (hc : a.eval c = .int kc C) (hL : L = (m : Int)) (hC : C = (m : Int)) (b2 : i.bytes * m ≤ 281474976710656) (b3 : m ≤ maxLen) (b4 : base ≤ w.heap.size)
    (hK : ∀ w', w'.ownsRow base e size (.slice (some ⟨w.heap.size, 0, none⟩) m m) m (madeCells z.cells (m * size)).toList → w.grownBy w' none → wpListIn F n P ops Q rest (a.put o.dst (.slice (some ⟨w.heap.size, 0, none⟩) m m)) w') :
    wpListIn F n P ops Q (o :: rest) a w := by
  subst hL hC
  obtain ⟨w', hrun, r1, r2⟩ := run_make_full (P := P) w base t e i z size h1 h2 h3 h4 kl kc m b2 b3 b4
  refine wpListIn_plain hg fun K hK' => ⟨by simp [Oper.about, hop], ?_⟩
  rw [Oper.semAt_plain F _ _ (by rw [hop]; intro c hc'; cases hc')]
  simp [execOp, hop, hl, hc, hrun, Result.andThen]
  exact hK' _ _ (hK w' r1 r2)

theorem keeps_below {W W' : World} (h : Below W.heap.size W W') : KeepsOthers W W' :=
  ⟨h.size, fun k _ hk _ => (h.block k (Array.getElem?_eq_some_iff.1 hk).1).trans hk⟩

theorem made_cell {w : World} {base g n : Nat} (h : w.ownsRow base 4 1 (.slice (some ⟨g, 0, none⟩) (n + 1) (n + 1)) (n + 1) (List.replicate (n + 1) (.bool false))) : ∀ o, (w.alloc o).cell? ⟨g, 0, none⟩ = some (.bool false) := by
  intro o; rw [(h.alloc o).cellAt 0 (by omega)]; simp
theorem made_free {w : World} {base g n : Nat} (h : w.ownsRow base 4 1 (.slice (some ⟨g, 0, none⟩) (n + 1) (n + 1)) (n + 1) (List.replicate (n + 1) (.bool false))) : ∀ o, (w.alloc o).frozen? ⟨g, 0, none⟩ = false := by
  intro o; exact (h.alloc o).frozenAt 0

theorem cell_other {W : World} {b o b' o' : Nat} {v : Value} (h : b ≠ b') : (W.setCell ⟨b, o, none⟩ v).cell? ⟨b', o', none⟩ = W.cell? ⟨b', o', none⟩ :=
  World.cell?_setCell_other _ _ _ _ (by intro e; cases e; exact h rfl)

theorem isBools_own {W : World} {base g cap : Nat} {bs : List Bool} (h : W.ownsRow base 4 1 (.slice (some ⟨g, 0, none⟩) bs.length cap) bs.length (bs.map Value.bool)) : IsBools W g 0 bs := by
  intro i hi; rw [Nat.zero_add, h.cellAt i (by omega)]; simp [hi]

theorem match_start {w2 w3 : World} {xs : List ByteArray} {gk ck : Nat} {pv : Value}
    (hown : w3.ownsRow w2.heap.size 4 1 (.slice (some ⟨w2.heap.size + 1, 0, none⟩) (xs.length + 1) (xs.length + 1)) (xs.length + 1) (List.replicate (xs.length + 1) (.bool false)))
    (hgrow : (w2.alloc (.cells #[.slice (some ⟨gk, 0, none⟩) xs.length ck] 68)).grownBy w3 none) (ht : IsTexts w2 gk 0 xs) (hne : 0 < xs.length) :
    let W0 := (((w3.alloc (.cells #[.slice (some ⟨w2.heap.size + 1, 0, none⟩) (xs.length + 1) (xs.length + 1)] 122)).setCell ⟨w2.heap.size + 1, 0, none⟩ (.bool true)).alloc (.cells #[pv] 9))
    W0.cell? ⟨w3.heap.size, 0, none⟩ = some (.slice (some ⟨w2.heap.size + 1, 0, none⟩) (xs.length + 1) (xs.length + 1)) ∧ W0.frozen? ⟨w3.heap.size, 0, none⟩ = false ∧ IsBools W0 (w2.heap.size + 1) 0 (reachB xs []) ∧
      W0.cell? ⟨w2.heap.size, 0, none⟩ = some (.slice (some ⟨gk, 0, none⟩) xs.length ck) ∧ IsTexts W0 gk 0 xs ∧ Below w2.heap.size w2 W0 := by
  intro W0
  have hz := hgrow.size
  simp only [World.size_alloc] at hz
  have hlt : w2.heap.size + 1 < w3.heap.size := by
    rcases hown.2 with ⟨h, _⟩ | ⟨g, cap, cur, h, _, hh, _⟩
    · cases h
    · cases h; exact (Array.getElem?_eq_some_iff.1 hh).1
  have b3 : Boxed (w3.alloc (.cells #[.slice (some ⟨w2.heap.size + 1, 0, none⟩) (xs.length + 1) (xs.length + 1)] 122)) w3.heap.size 122 (.slice (some ⟨w2.heap.size + 1, 0, none⟩) (xs.length + 1) (xs.length + 1)) := Boxed.new w3 _ _
  have b3' : Boxed W0 w3.heap.size 122 (.slice (some ⟨w2.heap.size + 1, 0, none⟩) (xs.length + 1) (xs.length + 1)) := (b3.kept (grownBy_setCell' _ (w2.heap.size + 1) (.bool true)) (by simp; omega)).alloc _
  have b1 : Boxed W0 w2.heap.size 68 (.slice (some ⟨gk, 0, none⟩) xs.length ck) := ((((Boxed.new w2 68 _).kept hgrow (by simp)).alloc _).kept (grownBy_setCell' _ (w2.heap.size + 1) (.bool true)) (by simp)).alloc _
  have hB : Below w2.heap.size w2 W0 := ((((((Below.refl _ w2).alloc (Nat.le_refl _) _).grown hgrow (by simp) (fun k e => by cases e)).alloc (by omega) _).setCell (p := ⟨w2.heap.size + 1, 0, none⟩) (by simp) _).alloc (by simp; omega) _)
  refine ⟨b3'.cell, b3'.frozen, ?_, b1.cell, ht.keep hne hB, hB⟩
  have hst := (((hown.alloc (.cells #[.slice (some ⟨w2.heap.size + 1, 0, none⟩) (xs.length + 1) (xs.length + 1)] 122)).stored 0 (.bool true)).1).alloc (.cells #[pv] 9)
  have e : (List.replicate (xs.length + 1) (Value.bool false)).set 0 (.bool true) = (reachB xs []).map Value.bool := by
    rw [reachB_start]; simp [List.replicate_succ]
  rw [e] at hst
  have hl := reachB_length xs []
  refine isBools_own (base := w2.heap.size) (cap := xs.length + 1) ?_
  rw [hl]; exact hst
