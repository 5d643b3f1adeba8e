import Derived.Test.YtpoichgodamnkaaGreatKvx
import Derived.Test.YtpoichgodamnkaaGreatKjx
namespace Go.Proofs.YtpoichgodamnkaaGreat
open Go.RowKit Go.Deep Go.Joins Go.ChangeShapes Go.WideShapes
set_option linter.unusedVariables false
set_option maxRecDepth 100000
theorem cellsArr : Tryz.prog.cellsOf 101 = 4 := by kernel_rfl
variable {H : Type} {enc : TypeId × Value → H} {w : World} {base : Nat} {spare : Nat → Bool} {held : Bool}
theorem arr_read {m : Nat} {cs : List Value} {x : DataW H × List MemPlace} (h : DataW.trod enc Tryz.prog w base spare held m 101 cs = some x) : ∃ p : ArrD, cs = [.int .i64 p.queue, .string p.key, .string p.body, .int .i64 p.deaths] ∧ True := by
 obtain ⟨y0, y1, y2, y3, n, _, hl, h0, h1, h2, h3⟩ := trod_struct4 Tryz.underlying101 h
 rw [cellsArr] at hl
 match cs, hl with
 | [c0, c1, c2, c3], _ =>
   simp only [cells9, cells3] at h0 h1 h2 h3
   obtain ⟨q, e0, _, _⟩ := DataW.trod_int Tryz.underlying3 h0
   obtain ⟨k, e1, _, _⟩ := DataW.trod_string Tryz.underlying9 h1
   obtain ⟨b, e2, _, _⟩ := DataW.trod_string Tryz.underlying9 h2
   obtain ⟨d, e3, _, _⟩ := DataW.trod_int Tryz.underlying3 h3
   simp at e0 e1 e2 e3
   subst e0 e1 e2 e3
   exact ⟨⟨q, k, b, d⟩, rfl, trivial⟩
theorem arrs_read0 {m : Nat} {v : Value} {x : DataW H × List MemPlace} (h : DataW.trod enc Tryz.prog w base spare held m 32 [v] = some x) :
 ∃ (xs : List ArrD) (a : Option Addr) (c : Nat), v = .slice a xs.length c ∧ xs.length ≤ c ∧ c ≤ maxLen ∧ (a = none → c = 0 ∧ xs.length = 0) ∧ ArrsAt w a xs := by
 rcases open_slice Tryz.underlying32 h with ⟨hcs, _⟩ | ⟨a, len, cap, m', n, D, Pl, hcs, _, hl, hcm, hm, _, hx⟩
 ·simp at hcs; subst hcs
  exact ⟨[], none, 0, rfl, Nat.le_refl _, Nat.zero_le _, fun _ => ⟨rfl, rfl⟩, .inl rfl⟩
 ·simp at hcs; subst hcs
  rw [cellsArr] at hx
  have hle : len ≤ m' := by rw [hm]; split <;> omega
  have : Inhabited ArrD := ⟨⟨0, ⟨#[]⟩, ⟨#[]⟩, 0⟩⟩
  obtain ⟨xs, h1, h2, h3⟩ := elems_read (w := w) (base := base) (sz := 4) (by omega) (a := a) (len := len) (vals := fun p : ArrD => [.int .i64 p.queue, .string p.key, .string p.body, .int .i64 p.deaths]) (q := fun _ => True) (fun _ => rfl) (fun i hi => by
   obtain ⟨cs, q1, q2⟩ := hx i (by omega)
   obtain ⟨p, q3, q4⟩ := arr_read q2
   exact ⟨cs, q1, p, q3, q4⟩)
  refine ⟨xs, some a, cap, by rw [h1], by omega, hcm, (fun e => by cases e), ?_⟩
  rcases h3 with h3 | ⟨g, o, rfl, hg, h3⟩
  ·subst h3; exact .inl rfl
  ·refine .inr ⟨g, o, rfl, hg, fun j u hj => ?_⟩
   have hjl : j < (arrCells xs).length := (List.getElem?_eq_some_iff.1 hj).1
   rw [arrCells_len] at hjl
   have hq : j / 4 < xs.length := by omega
   have hr : j % 4 < 4 := by omega
   have e := flat_at (f := ArrD.cells) (k := 4) (fun _ => rfl) xs (j / 4) hq (j % 4) hr
   rw [show j / 4 * 4 + j % 4 = j by omega] at e
   have e2 := h3 (j / 4) hq (j % 4) hr
   rw [show o + j = o + j / 4 * 4 + j % 4 by omega]
   have e3 : some u = (xs[j / 4]'hq).cells[j % 4]? := by rw [← hj]; exact e
   rw [e3]
   exact e2
theorem arrs_read {r : Reach} {b0 : Nat} {v : Value} {d : DataW H} {p : List MemPlace} (hv : Value.okWide Tryz.prog w r b0 32 v) (h : DataW.Trod enc Tryz.prog w base spare held 32 v d p) :
 ∃ (xs : List ArrD) (a : Option Addr) (c : Nat), v = .slice a xs.length c ∧ xs.length ≤ c ∧ c ≤ maxLen ∧ (a = none → c = 0 ∧ xs.length = 0) ∧ ArrsAt w a xs := by
 obtain ⟨a0, len, cap, rfl⟩ := okWide_slice Tryz.underlying32 hv
 obtain ⟨m, hm⟩ := h
 exact arrs_read0 hm
end Go.Proofs.YtpoichgodamnkaaGreat
