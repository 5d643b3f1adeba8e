/- How a state that came in is read. -/
import Derived.SizedLaws
import Derived.Test.YthhkpgnjpieckaaRd
import Derived.Test.YthhkpgnjpieckaaRi
import Derived.Test.YthhkpgnjpieckaaTb
namespace Go.Proofs.Ythhkpgnjpieckaa
set_option linter.unusedVariables false
set_option maxRecDepth 100000
open Go.RowKit Go.Deep Go.Joins Go.ChangeShapes Go.WideShapes

theorem cellsLine : Try.prog.cellsOf 57 = 1 := by kernel_rfl
theorem cellsOut : Try.prog.cellsOf 131 = 8 := by kernel_rfl
theorem cellsTaker : Try.prog.cellsOf 79 = 2 := by kernel_rfl
theorem cellsState : Try.prog.cellsOf 74 = 8 := by kernel_rfl
theorem cellsLines : Try.prog.cellsOf 70 = 1 := by kernel_rfl
theorem cellsOuts : Try.prog.cellsOf 71 = 1 := by kernel_rfl
theorem cellsTakers : Try.prog.cellsOf 72 = 1 := by kernel_rfl
theorem bytesOut : Try.prog.bytesOf 131 = 80 := by kernel_rfl
variable {H : Type} {enc : TypeId × Value → H} {w : World} {base : Nat} {spare : Nat → Bool} {held : Bool}

theorem trod_struct8 {P : Program} {t : TypeId} {f0 f1 f2 f3 f4 f5 f6 f7 : Field} {fuel : Nat} {cs : List Value} {x : DataW H × List MemPlace} (ht : P.underlying t = some (.struct #[f0, f1, f2, f3, f4, f5, f6, f7])) (h : DataW.trod enc P w base spare held fuel t cs = some x) :
    ∃ y0 y1 y2 y3 y4 y5 y6 y7 n, x.1 = .agg [y0.1, y1.1, y2.1, y3.1, y4.1, y5.1, y6.1, y7.1] ∧ cs.length = P.cellsOf t ∧ DataW.trod enc P w base spare held n f0.type ((cs.drop f0.offset).take (P.cellsOf f0.type)) = some y0 ∧ DataW.trod enc P w base spare held n f1.type ((cs.drop f1.offset).take (P.cellsOf f1.type)) = some y1 ∧
      DataW.trod enc P w base spare held n f2.type ((cs.drop f2.offset).take (P.cellsOf f2.type)) = some y2 ∧ DataW.trod enc P w base spare held n f3.type ((cs.drop f3.offset).take (P.cellsOf f3.type)) = some y3 ∧ DataW.trod enc P w base spare held n f4.type ((cs.drop f4.offset).take (P.cellsOf f4.type)) = some y4 ∧
      DataW.trod enc P w base spare held n f5.type ((cs.drop f5.offset).take (P.cellsOf f5.type)) = some y5 ∧ DataW.trod enc P w base spare held n f6.type ((cs.drop f6.offset).take (P.cellsOf f6.type)) = some y6 ∧ DataW.trod enc P w base spare held n f7.type ((cs.drop f7.offset).take (P.cellsOf f7.type)) = some y7 := by
  obtain ⟨xs, n, _, rfl, hl, hlen, hf⟩ := DataW.trod_struct ht h
  match xs, hlen with
  | [y0, y1, y2, y3, y4, y5, y6, y7], _ => exact ⟨y0, y1, y2, y3, y4, y5, y6, y7, n, rfl, hl, by simpa using hf 0 f0 rfl, by simpa using hf 1 f1 rfl, by simpa using hf 2 f2 rfl, by simpa using hf 3 f3 rfl, by simpa using hf 4 f4 rfl, by simpa using hf 5 f5 rfl, by simpa using hf 6 f6 rfl, by simpa using hf 7 f7 rfl⟩

theorem taker_read {m : Nat} {cs : List Value} {x : DataW H × List MemPlace} (h : DataW.trod enc Try.prog w base spare held m 79 cs = some x) : ∃ p : TakerD, cs = [.int .i64 p.queue, .int .i64 p.most] ∧ True := by
  obtain ⟨y0, y1, n, _, hl, h0, h1⟩ := trod_struct2 Try.underlying79 h
  rw [cellsTaker] at hl
  match cs, hl with
  | [c0, c1], _ =>
    simp only [cells3] at h0 h1
    obtain ⟨q, e0, _, _⟩ := DataW.trod_int Try.underlying3 h0
    obtain ⟨k, e1, _, _⟩ := DataW.trod_int Try.underlying3 h1
    simp at e0 e1
    subst e0 e1
    exact ⟨⟨q, k⟩, rfl, trivial⟩
theorem out_read {m : Nat} {cs : List Value} {x : DataW H × List MemPlace} (h : DataW.trod enc Try.prog w base spare held m 131 cs = some x) : ∃ p : OutD, cs = [.int .i64 p.tag, .int .i64 p.taker, .int .i64 p.queue, .int .i64 p.item.seq, .string p.item.key, .string p.item.body, .bool p.item.again, .int .i64 p.item.deaths] ∧ True := by
  obtain ⟨y0, y1, y2, y3, n, _, hl, h0, h1, h2, h3⟩ := trod_struct4 Try.underlying131 h
  rw [cellsOut] at hl
  match cs, hl with
  | [c0, c1, c2, c3, c4, c5, c6, c7], _ =>
    simp only [cells3, cellsItem] at h0 h1 h2 h3
    obtain ⟨tg, e0, _, _⟩ := DataW.trod_int Try.underlying3 h0
    obtain ⟨tk, e1, _, _⟩ := DataW.trod_int Try.underlying3 h1
    obtain ⟨qu, e2, _, _⟩ := DataW.trod_int Try.underlying3 h2
    obtain ⟨it, e3, _⟩ := item_read h3
    simp at e0 e1 e2 e3
    obtain ⟨rfl, rfl, rfl, rfl, rfl⟩ := e3
    subst e0 e1 e2
    exact ⟨⟨tg, tk, qu, it⟩, rfl, trivial⟩
theorem takers_read {m : Nat} {v : Value} {x : DataW H × List MemPlace} (h : DataW.trod enc Try.prog w base spare held m 72 [v] = some x) :
    ∃ (xs : List TakerD) (a : Option Addr) (c : Nat), v = .slice a xs.length c ∧ xs.length ≤ maxLen ∧ TakersAt w a xs := by
  rcases open_slice Try.underlying72 h with ⟨hcs, _⟩ | ⟨a, len, cap, m', n, D, Pl, hcs, _, hl, hcm, hm, _, hx⟩
  · simp at hcs; subst hcs
    exact ⟨[], none, 0, rfl, Nat.zero_le _, .inl rfl⟩
  · simp at hcs; subst hcs
    rw [cellsTaker] at hx
    have hle : len ≤ m' := by rw [hm]; split <;> omega
    have : Inhabited TakerD := ⟨⟨0, 0⟩⟩
    obtain ⟨xs, h1, h2, h3⟩ := elems_read (w := w) (base := base) (sz := 2) (by omega) (a := a) (len := len) (vals := fun p : TakerD => [.int .i64 p.queue, .int .i64 p.most]) (q := fun _ => True) (fun _ => rfl) (fun i hi => by
      obtain ⟨cs, q1, q2⟩ := hx i (by omega)
      obtain ⟨p, q3, q4⟩ := taker_read q2
      exact ⟨cs, q1, p, q3, q4⟩)
    refine ⟨xs, some a, cap, by rw [h1], by omega, ?_⟩
    rcases h3 with h3 | ⟨g, o, rfl, hg, h3⟩
    · exact .inl h3
    · exact .inr ⟨g, o, rfl, hg, fun i hi => ⟨by simpa using h3 i hi 0 (by omega), by simpa using h3 i hi 1 (by omega)⟩⟩
theorem outs_read {m : Nat} {v : Value} {x : DataW H × List MemPlace} (h : DataW.trod enc Try.prog w base spare held m 71 [v] = some x) :
    ∃ (xs : List OutD) (a : Option Addr) (c : Nat), v = .slice a xs.length c ∧ OutsAt w a xs ∧ (xs = [] ∨ ∃ n ∈ x.1.weights Try.prog 71, xs.length * 80 ≤ n) := by
  rcases open_slice Try.underlying71 h with ⟨hcs, _⟩ | ⟨a, len, cap, m', n, D, Pl, hcs, _, hl, hcm, hm, hxe, hx⟩
  · simp at hcs; subst hcs
    exact ⟨[], none, 0, rfl, .inl rfl, .inl rfl⟩
  · simp at hcs; subst hcs
    rw [cellsOut] at hx
    have hle : len ≤ m' := by rw [hm]; split <;> omega
    have : Inhabited OutD := ⟨⟨0, 0, 0, ⟨0, ⟨#[]⟩, ⟨#[]⟩, false, 0⟩⟩⟩
    obtain ⟨xs, h1, h2, h3⟩ := elems_read (w := w) (base := base) (sz := 8) (by omega) (a := a) (len := len) (vals := fun p : OutD => [.int .i64 p.tag, .int .i64 p.taker, .int .i64 p.queue, .int .i64 p.item.seq, .string p.item.key, .string p.item.body, .bool p.item.again, .int .i64 p.item.deaths]) (q := fun _ => True) (fun _ => rfl) (fun i hi => by
      obtain ⟨cs, q1, q2⟩ := hx i (by omega)
      obtain ⟨p, q3, q4⟩ := out_read q2
      exact ⟨cs, q1, p, q3, q4⟩)
    refine ⟨xs, some a, cap, by rw [h1], ?_, .inr ⟨(len + (List.range (m' - len)).length) * 80, ?_, by rw [h1]; exact Nat.mul_le_mul_right _ (Nat.le_add_right _ _)⟩⟩
    · rcases h3 with h3 | ⟨g, o, rfl, hg, h3⟩
      · exact .inl h3
      · exact .inr ⟨g, o, rfl, hg, fun i hi => ⟨by simpa using h3 i hi 0 (by omega), by simpa using h3 i hi 1 (by omega), by simpa using h3 i hi 2 (by omega), by simpa using h3 i hi 3 (by omega), by simpa [Nat.add_assoc] using h3 i hi 4 (by omega), by simpa [Nat.add_assoc] using h3 i hi 5 (by omega), by simpa [Nat.add_assoc] using h3 i hi 6 (by omega), by simpa [Nat.add_assoc] using h3 i hi 7 (by omega)⟩⟩
    · rw [hxe]
      simp only [DataW.weights, Try.underlying71, bytesOut, List.length_map, List.length_range]
      exact List.mem_cons_self
theorem lines_read {m : Nat} {v : Value} {x : DataW H × List MemPlace} (h : DataW.trod enc Try.prog w base spare held m 70 [v] = some x) :
    ∃ (xss : List (List ItemD)) (a : Option Addr) (c : Nat), v = .slice a xss.length c ∧ xss.length ≤ maxLen ∧ LinesAt w a xss := by
  rcases open_slice Try.underlying70 h with ⟨hcs, _⟩ | ⟨a, len, cap, m', n, D, Pl, hcs, _, hl, hcm, hm, _, hx⟩
  · simp at hcs; subst hcs
    exact ⟨[], none, 0, rfl, Nat.zero_le _, .inl rfl⟩
  · simp at hcs; subst hcs
    rw [cellsLine] at hx
    have hle : len ≤ m' := by rw [hm]; split <;> omega
    have : Inhabited (List ItemD × Option Addr × Nat) := ⟨([], none, 0)⟩
    obtain ⟨ts, h1, h2, h3⟩ := elems_read (w := w) (base := base) (sz := 1) (by omega) (a := a) (len := len) (vals := fun p : List ItemD × Option Addr × Nat => [.slice p.2.1 p.1.length p.2.2]) (q := fun p => p.1.length ≤ p.2.2 ∧ p.2.2 ≤ maxLen ∧ (p.2.1 = none → p.2.2 = 0) ∧ ItemsAt w p.2.1 p.1) (fun _ => rfl) (fun i hi => by
      obtain ⟨cs, q1, q2⟩ := hx i (by omega)
      have hcl : cs.length = 1 := (World.cells?_some q1).2.1
      match cs, hcl with
      | [c0], _ =>
        obtain ⟨xs, b, c, rfl, r1, r2, r3, r4⟩ := items_read q2
        exact ⟨_, q1, (xs, b, c), rfl, r1, r2, r3, r4⟩)
    refine ⟨ts.map Prod.fst, some a, cap, by rw [List.length_map, h1], by rw [List.length_map]; omega, ?_⟩
    rcases h3 with h3 | ⟨g, o, rfl, hg, h3⟩
    · exact .inl (by rw [h3]; rfl)
    · refine .inr ⟨g, o, rfl, hg, fun i hi => ?_⟩
      have hi' : i < ts.length := by simpa using hi
      obtain ⟨r1, r2, r3, r4⟩ := h2 _ (List.getElem_mem hi')
      refine ⟨ts[i].2.1, ts[i].2.2, ?_, ?_, r2, r3, ?_⟩
      · have := h3 i hi' 0 (by omega)
        simpa using this
      · simpa using r1
      · simpa using r4

/-- A state that came in. -/
theorem state_read {r : Reach} {b0 : Nat} {v : Value} {d : DataW H} {p : List MemPlace} (hv : Value.okWide Try.prog w r b0 74 v) (h : DataW.Trod enc Try.prog w base spare held 74 v d p) :
    ∃ (s : StateD) (b1 b2 b3 : Option Addr) (m1 d1 m2 d2 m3 d3 : Nat), v = .agg #[.slice b1 m1 d1, .slice b2 m2 d2, .slice b3 m3 d3, .int .i64 s.nextSeq, .int .i64 s.nextTag, .int .i64 s.came, .int .i64 s.acked, .int .i64 s.dropped] ∧ ((∀ n ∈ d.weights Try.prog 74, n ≤ reachBytes) → StateAt w b1 b2 b3 m1 m2 m3 s) := by
  obtain ⟨cs, rfl, hsz⟩ := okWide_struct Try.underlying74 hv
  obtain ⟨m, hm⟩ := h
  obtain ⟨y0, y1, y2, y3, y4, y5, y6, y7, n, hd, hl, h0, h1, h2, h3, h4, h5, h6, h7⟩ := trod_struct8 Try.underlying74 hm
  rw [cellsState] at hl
  have hcl : cs.toList.length = 8 := by simpa [Value.cells] using hl
  obtain ⟨c0, c1, c2, c3, c4, c5, c6, c7, hc⟩ : ∃ c0 c1 c2 c3 c4 c5 c6 c7, cs.toList = [c0, c1, c2, c3, c4, c5, c6, c7] := by
    match cs.toList, hcl with
    | [c0, c1, c2, c3, c4, c5, c6, c7], _ => exact ⟨c0, c1, c2, c3, c4, c5, c6, c7, rfl⟩
  have hcs : cs = #[c0, c1, c2, c3, c4, c5, c6, c7] := by rw [← Array.toArray_toList (xs := cs), hc]
  subst hcs
  simp only [Value.cells, cells3, cellsLines, cellsOuts, cellsTakers] at h0 h1 h2 h3 h4 h5 h6 h7
  obtain ⟨xss, b1, e1, k1, x1, q1⟩ := lines_read h0
  obtain ⟨os, b2, e2, k2, q2, wz⟩ := outs_read h1
  obtain ⟨ts, b3, e3, k3, x3, q3⟩ := takers_read h2
  obtain ⟨z3, g3, _, _⟩ := DataW.trod_int Try.underlying3 h3
  obtain ⟨z4, g4, _, _⟩ := DataW.trod_int Try.underlying3 h4
  obtain ⟨z5, g5, _, _⟩ := DataW.trod_int Try.underlying3 h5
  obtain ⟨z6, g6, _, _⟩ := DataW.trod_int Try.underlying3 h6
  obtain ⟨z7, g7, _, _⟩ := DataW.trod_int Try.underlying3 h7
  simp at g3 g4 g5 g6 g7
  subst k1 k2 k3 g3 g4 g5 g6 g7
  refine ⟨⟨xss, os, ts, z3, z4, z5, z6, z7⟩, b1, b2, b3, _, e1, _, e2, _, e3, rfl, fun hall => ⟨rfl, rfl, rfl, x1, ?_, x3, q1, q2, q3⟩⟩
  rcases wz with rfl | ⟨n, hn, hle⟩
  · simp
  · have hd' : d = .agg [y0.1, y1.1, y2.1, y3.1, y4.1, y5.1, y6.1, y7.1] := hd
    have := hall n (by
      rw [hd']
      simp only [DataW.weights, Try.underlying74]
      exact DataW.weights_mem_each (j := 1) rfl rfl n hn)
    exact Nat.le_trans hle (by simpa [reachBytes] using this)
end Go.Proofs.Ythhkpgnjpieckaa
