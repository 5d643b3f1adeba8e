/- How a plan that came in is read, and how large its binds may be; how a bind is read. -/
import Derived.SizedLaws
import Derived.Test.YthhkpgnjpieckaaRd
namespace Go.Proofs.Ythhkpgnjpieckaa
set_option linter.unusedVariables false
set_option maxRecDepth 100000
open Go.RowKit Go.Deep Go.Joins Go.ChangeShapes Go.WideShapes

theorem bytesBind : Try.prog.bytesOf 55 = 40 := by kernel_rfl
variable {H : Type} {enc : TypeId × Value → H} {w : World} {base : Nat} {spare : Nat → Bool} {held : Bool}

theorem binds_readS {m : Nat} {v : Value} {x : DataW H × List MemPlace} (h : DataW.trod enc Try.prog w base spare held m 38 [v] = some x) :
    ∃ (xs : List BindD) (a : Option Addr) (c : Nat), v = .slice a xs.length c ∧ BindsAt w a xs ∧ (a = none → c = 0) ∧ (xs = [] ∨ ∃ n ∈ x.1.weights Try.prog 38, xs.length * 40 ≤ n) := by
  obtain ⟨xs, a, c, rfl, hb⟩ := binds_read h
  refine ⟨xs, a, c, rfl, hb, ?_⟩
  rcases open_slice Try.underlying38 h with ⟨hcs, _⟩ | ⟨a', len, cap, m', n, D, Pl, hcs, _, hl, _, hm, hx, _⟩
  · simp at hcs
    obtain ⟨rfl, h0, rfl⟩ := hcs
    exact ⟨fun _ => rfl, .inl h0⟩
  · simp at hcs
    obtain ⟨rfl, rfl, rfl⟩ := hcs
    refine ⟨fun e => (nomatch e), .inr ⟨(xs.length + (List.range (m' - xs.length)).length) * 40, ?_, Nat.mul_le_mul_right _ (Nat.le_add_right _ _)⟩⟩
    rw [hx]
    simp only [DataW.weights, Try.underlying38, bytesBind, List.length_map, List.length_range]
    exact List.mem_cons_self

/-- A plan that came in. -/
theorem plan_readS {r : Reach} {b0 : Nat} {v : Value} {d : DataW H} {p : List MemPlace} (hv : Value.okWide Try.prog w r b0 40 v) (h : DataW.Trod enc Try.prog w base spare held 40 v d p) :
    ∃ (P : PlanD) (a1 a2 a3 : Option Addr) (n1 c1 n2 c2 n3 c3 : Nat), v = .agg #[.slice a1 n1 c1, .slice a2 n2 c2, .slice a3 n3 c3] ∧ PlanAt w a1 a2 a3 n1 n2 n3 P ∧ (a3 = none → c3 = 0) ∧ ((∀ n ∈ d.weights Try.prog 40, n ≤ reachBytes) → n3 * 40 ≤ 140737488351232) := by
  obtain ⟨v0, v1, v2, y0, y1, y2, n, rfl, rfl, _, h0, h1, h2⟩ := open_agg3 Try.underlying40 (by kernel_rfl) cellsPlan hv h
  obtain ⟨xs, a1, c1, rfl, s1, k1⟩ := posts_read h0
  obtain ⟨ys, a2, c2, rfl, s2, k2⟩ := queues_read h1
  obtain ⟨zs, a3, c3, rfl, k3, hz, hw⟩ := binds_readS h2
  refine ⟨⟨xs, ys, zs⟩, a1, a2, a3, _, c1, _, c2, _, c3, rfl, ⟨rfl, rfl, rfl, ⟨fun x hx => by obtain ⟨p, hp, rfl⟩ := List.mem_map.1 hx; exact s1 p hp, fun x hx => by obtain ⟨p, hp, rfl⟩ := List.mem_map.1 hx; exact s2 p hp⟩, k1, k2, k3⟩, hz, fun hall => ?_⟩
  rcases hw with rfl | ⟨n, hn, hle⟩
  · simp
  · have := hall n (by
      simp only [DataW.weights, Try.underlying40]
      exact DataW.weights_mem_each (j := 2) rfl rfl n hn)
    exact Nat.le_trans hle (by simpa [reachBytes] using this)
/-- A bind that came in by value. -/
theorem bind_value {r : Reach} {b0 : Nat} {v : Value} {d : DataW H} {p : List MemPlace} (hv : Value.okWide Try.prog w r b0 55 v) (h : DataW.Trod enc Try.prog w base spare held 55 v d p) :
    ∃ x : BindD, v = .agg #[.int .i64 x.src, .bool x.toPost, .int .i64 x.dst, .string x.pat] := by
  obtain ⟨cs, rfl, hsz⟩ := okWide_struct Try.underlying55 hv
  obtain ⟨m, hm⟩ := h
  obtain ⟨x, hx, _⟩ := bind_read hm
  refine ⟨x, ?_⟩
  have : cs.toList = [.int .i64 x.src, .bool x.toPost, .int .i64 x.dst, .string x.pat] := by simpa [Value.cells] using hx
  rw [← this]
end Go.Proofs.Ythhkpgnjpieckaa
