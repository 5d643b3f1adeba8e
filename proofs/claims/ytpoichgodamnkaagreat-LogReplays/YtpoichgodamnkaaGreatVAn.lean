import Derived.Test.YtpoichgodamnkaaGreatKtx
import Derived.Test.YtpoichgodamnkaaGreatVUr
namespace Go.Proofs.YtpoichgodamnkaaGreat
open Go.RowKit Go.Maps
set_option linter.unusedVariables false
set_option maxRecDepth 100000
def arr1 : List ArrD := [⟨0, ⟨#[120, 46, 121]⟩, ⟨#[110, 101, 119]⟩, 0⟩, ⟨1, ⟨#[122]⟩, ⟨#[111, 116, 104, 101, 114]⟩, 0⟩]
def arr2 : List ArrD := [⟨3, ⟨#[120]⟩, ⟨#[]⟩, 0⟩]
def arrA : StateD := arrS officeP 600 bS arr1
theorem OwnSt.lineCell {W : World} {n : Nat} {b1 b2 b3 : Option Addr} {m1 d1 m2 d2 m3 d3 : Nat} {s : StateD} (h : OwnSt W n b1 b2 b3 m1 d1 m2 d2 m3 d3 s) {q : Nat} (hq : q < s.ready.length) : ∃ g bl cl, b1 = some ⟨g, 0, none⟩ ∧ W.cell? ⟨g, q, none⟩ = some (.slice bl (lineAt s q).length cl) ∧ ItemsAt W bl (lineAt s q) := by
 obtain ⟨vs, hr1, hlv⟩ := h.r1
 have hm1 := h.l1
 obtain ⟨g, rfl⟩ : ∃ g, b1 = some ⟨g, 0, none⟩ := by
  rcases hr1.2 with ⟨e, e0⟩ | ⟨g, cap, cur, e, _⟩
  ·omega
  ·cases e; exact ⟨g, rfl⟩
 obtain ⟨v, bl, cl, hv1, hlj⟩ := hlv.get q hq
 have hcell := hr1.cellAt q (by omega)
 rw [hv1, hlj.v] at hcell
 have hsj : s.ready[q]'hq = lineAt s q := (lineAt_get hq).symm
 rw [hsj] at hcell hlj
 exact ⟨g, bl, cl, rfl, hcell, hlj.it⟩
end Go.Proofs.YtpoichgodamnkaaGreat
