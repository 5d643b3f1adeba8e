/- How letters that came in are read. -/
import Derived.Test.YthhkpgnjpieckaaRz
import Derived.Test.YthhkpgnjpieckaaLc
namespace Go.Proofs.Ythhkpgnjpieckaa
set_option linter.unusedVariables false
set_option maxRecDepth 100000
open Go.RowKit Go.Deep Go.Joins Go.ChangeShapes Go.WideShapes

theorem cellsItem : Try.prog.cellsOf 59 = 5 := by kernel_rfl
variable {H : Type} {enc : TypeId × Value → H} {w : World} {base : Nat} {spare : Nat → Bool} {held : Bool}

theorem trod_struct5 {P : Program} {t : TypeId} {f0 f1 f2 f3 f4 : Field} {fuel : Nat} {cs : List Value} {x : DataW H × List MemPlace} (ht : P.underlying t = some (.struct #[f0, f1, f2, f3, f4])) (h : DataW.trod enc P w base spare held fuel t cs = some x) :
    ∃ y0 y1 y2 y3 y4 n, cs.length = P.cellsOf t ∧ DataW.trod enc P w base spare held n f0.type ((cs.drop f0.offset).take (P.cellsOf f0.type)) = some y0 ∧ DataW.trod enc P w base spare held n f1.type ((cs.drop f1.offset).take (P.cellsOf f1.type)) = some y1 ∧
      DataW.trod enc P w base spare held n f2.type ((cs.drop f2.offset).take (P.cellsOf f2.type)) = some y2 ∧ DataW.trod enc P w base spare held n f3.type ((cs.drop f3.offset).take (P.cellsOf f3.type)) = some y3 ∧ DataW.trod enc P w base spare held n f4.type ((cs.drop f4.offset).take (P.cellsOf f4.type)) = some y4 := by
  obtain ⟨xs, n, _, rfl, hl, hlen, hf⟩ := DataW.trod_struct ht h
  match xs, hlen with
  | [y0, y1, y2, y3, y4], _ => exact ⟨y0, y1, y2, y3, y4, n, hl, by simpa using hf 0 f0 rfl, by simpa using hf 1 f1 rfl, by simpa using hf 2 f2 rfl, by simpa using hf 3 f3 rfl, by simpa using hf 4 f4 rfl⟩

theorem item_read {m : Nat} {cs : List Value} {x : DataW H × List MemPlace} (h : DataW.trod enc Try.prog w base spare held m 59 cs = some x) : ∃ p : ItemD, cs = [.int .i64 p.seq, .string p.key, .string p.body, .bool p.again, .int .i64 p.deaths] ∧ True := by
  obtain ⟨y0, y1, y2, y3, y4, n, hl, h0, h1, h2, h3, h4⟩ := trod_struct5 Try.underlying59 h
  rw [cellsItem] at hl
  match cs, hl with
  | [c0, c1, c2, c3, c4], _ =>
    simp only [cells9, cells3, cells4] at h0 h1 h2 h3 h4
    obtain ⟨q, e0, _, _⟩ := DataW.trod_int Try.underlying3 h0
    obtain ⟨k, e1, _, _⟩ := DataW.trod_string Try.underlying9 h1
    obtain ⟨b, e2, _, _⟩ := DataW.trod_string Try.underlying9 h2
    obtain ⟨ag, e3, _⟩ := DataW.trod_bool Try.underlying4 h3
    obtain ⟨d, e4, _, _⟩ := DataW.trod_int Try.underlying3 h4
    simp at e0 e1 e2 e3 e4
    subst e0 e1 e2 e3 e4
    exact ⟨⟨q, k, b, ag, d⟩, rfl, trivial⟩

theorem items_read {m : Nat} {v : Value} {x : DataW H × List MemPlace} (h : DataW.trod enc Try.prog w base spare held m 57 [v] = some x) :
    ∃ (xs : List ItemD) (a : Option Addr) (c : Nat), v = .slice a xs.length c ∧ xs.length ≤ c ∧ c ≤ maxLen ∧ (a = none → c = 0) ∧ ItemsAt w a xs := by
  rcases open_slice Try.underlying57 h with ⟨hcs, _⟩ | ⟨a, len, cap, m', n, D, Pl, hcs, _, hl, hcm, hm, _, hx⟩
  · simp at hcs; subst hcs
    exact ⟨[], none, 0, rfl, Nat.le_refl _, Nat.zero_le _, fun _ => rfl, .inl rfl⟩
  · simp at hcs; subst hcs
    rw [cellsItem] at hx
    have hle : len ≤ m' := by rw [hm]; split <;> omega
    have : Inhabited ItemD := ⟨⟨0, ⟨#[]⟩, ⟨#[]⟩, false, 0⟩⟩
    obtain ⟨xs, h1, h2, h3⟩ := elems_read (w := w) (base := base) (sz := 5) (by omega) (a := a) (len := len) (vals := fun p : ItemD => [.int .i64 p.seq, .string p.key, .string p.body, .bool p.again, .int .i64 p.deaths]) (q := fun _ => True) (fun _ => rfl) (fun i hi => by
      obtain ⟨cs, q1, q2⟩ := hx i (by omega)
      obtain ⟨p, q3, q4⟩ := item_read q2
      exact ⟨cs, q1, p, q3, q4⟩)
    refine ⟨xs, some a, cap, by rw [h1], by omega, hcm, (fun e => by cases e), ?_⟩
    rcases h3 with h3 | ⟨g, o, rfl, hg, h3⟩
    · exact .inl h3
    · exact .inr ⟨g, o, rfl, hg, fun i hi => ⟨by simpa using h3 i hi 0 (by omega), by simpa using h3 i hi 1 (by omega), by simpa using h3 i hi 2 (by omega), by simpa using h3 i hi 3 (by omega), by simpa using h3 i hi 4 (by omega)⟩⟩

/-- A line that came in. -/
theorem line_read {r : Reach} {b0 : Nat} {v : Value} {d : DataW H} {p : List MemPlace} (hv : Value.okWide Try.prog w r b0 57 v) (h : DataW.Trod enc Try.prog w base spare held 57 v d p) :
    ∃ (xs : List ItemD) (a : Option Addr) (c : Nat), v = .slice a xs.length c ∧ xs.length ≤ c ∧ c ≤ maxLen ∧ (a = none → c = 0) ∧ ItemsAt w a xs := by
  obtain ⟨a0, len, cap, rfl⟩ := okWide_slice Try.underlying57 hv
  obtain ⟨m, hm⟩ := h
  exact items_read hm
/-- A letter that came in by value. -/
theorem letter_read {r : Reach} {b0 : Nat} {v : Value} {d : DataW H} {p : List MemPlace} (hv : Value.okWide Try.prog w r b0 59 v) (h : DataW.Trod enc Try.prog w base spare held 59 v d p) :
    ∃ x : ItemD, v = .agg #[.int .i64 x.seq, .string x.key, .string x.body, .bool x.again, .int .i64 x.deaths] := by
  obtain ⟨cs, rfl, hsz⟩ := okWide_struct Try.underlying59 hv
  obtain ⟨m, hm⟩ := h
  obtain ⟨x, hx, _⟩ := item_read hm
  refine ⟨x, ?_⟩
  have : cs.toList = [.int .i64 x.seq, .string x.key, .string x.body, .bool x.again, .int .i64 x.deaths] := by simpa [Value.cells] using hx
  rw [← this]
end Go.Proofs.Ythhkpgnjpieckaa
