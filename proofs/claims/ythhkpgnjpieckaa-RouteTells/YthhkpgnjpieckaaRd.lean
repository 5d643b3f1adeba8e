/- How a plan that came in is read. -/
import Derived.Lib.SmallJoins
import Derived.Deep.Slices
import Derived.Deep.Strs
import Derived.Test.YthhkpgnjpieckaaRz
import Derived.Test.YthhkpgnjpieckaaFt
namespace Go.Proofs.Ythhkpgnjpieckaa
set_option linter.unusedVariables false
set_option maxRecDepth 100000
open Go.RowKit Go.Deep Go.Joins Go.ChangeShapes

theorem cellsPost : Try.prog.cellsOf 93 = 2 := by kernel_rfl
theorem cellsQueue : Try.prog.cellsOf 91 = 3 := by kernel_rfl
theorem cellsBind : Try.prog.cellsOf 55 = 4 := by kernel_rfl
theorem cellsPlan : Try.prog.cellsOf 40 = 3 := by kernel_rfl

variable {H : Type} {enc : TypeId × Value → H} {w : World} {base : Nat} {spare : Nat → Bool} {held : Bool}

theorem post_read {m : Nat} {cs : List Value} {x : DataW H × List MemPlace} (h : DataW.trod enc Try.prog w base spare held m 93 cs = some x) : ∃ p : PostD, cs = [.string p.name, .int .i64 p.kind] ∧ p.name.size ≤ maxLen := by
  obtain ⟨y0, y1, n, _, hl, h0, h1⟩ := trod_struct2 Try.underlying93 h
  rw [cellsPost] at hl
  match cs, hl with
  | [c0, c1], _ =>
    simp only [cells9, cells3] at h0 h1
    obtain ⟨s, e0, _, hs⟩ := DataW.trod_string Try.underlying9 h0
    obtain ⟨k, e1, _, _⟩ := DataW.trod_int Try.underlying3 h1
    simp at e0 e1
    subst e0 e1
    exact ⟨⟨s, k⟩, rfl, hs⟩
theorem queue_read {m : Nat} {cs : List Value} {x : DataW H × List MemPlace} (h : DataW.trod enc Try.prog w base spare held m 91 cs = some x) : ∃ p : QueueD, cs = [.string p.name, .int .i64 p.limit, .int .i64 p.dead] ∧ p.name.size ≤ maxLen := by
  obtain ⟨y0, y1, y2, n, _, hl, h0, h1, h2⟩ := trod_struct3 Try.underlying91 h
  rw [cellsQueue] at hl
  match cs, hl with
  | [c0, c1, c2], _ =>
    simp only [cells9, cells3] at h0 h1 h2
    obtain ⟨s, e0, _, hs⟩ := DataW.trod_string Try.underlying9 h0
    obtain ⟨k, e1, _, _⟩ := DataW.trod_int Try.underlying3 h1
    obtain ⟨d, e2, _, _⟩ := DataW.trod_int Try.underlying3 h2
    simp at e0 e1 e2
    subst e0 e1 e2
    exact ⟨⟨s, k, d⟩, rfl, hs⟩
theorem bind_read {m : Nat} {cs : List Value} {x : DataW H × List MemPlace} (h : DataW.trod enc Try.prog w base spare held m 55 cs = some x) : ∃ p : BindD, cs = [.int .i64 p.src, .bool p.toPost, .int .i64 p.dst, .string p.pat] ∧ True := by
  obtain ⟨y0, y1, y2, y3, n, _, hl, h0, h1, h2, h3⟩ := trod_struct4 Try.underlying55 h
  rw [cellsBind] at hl
  match cs, hl with
  | [c0, c1, c2, c3], _ =>
    simp only [cells9, cells3, cells4] at h0 h1 h2 h3
    obtain ⟨f, e0, _, _⟩ := DataW.trod_int Try.underlying3 h0
    obtain ⟨tp, e1, _⟩ := DataW.trod_bool Try.underlying4 h1
    obtain ⟨t, e2, _, _⟩ := DataW.trod_int Try.underlying3 h2
    obtain ⟨s, e3, _, hs⟩ := DataW.trod_string Try.underlying9 h3
    simp at e0 e1 e2 e3
    subst e0 e1 e2 e3
    exact ⟨⟨f, tp, t, s⟩, rfl, trivial⟩

theorem posts_read {m : Nat} {v : Value} {x : DataW H × List MemPlace} (h : DataW.trod enc Try.prog w base spare held m 36 [v] = some x) :
    ∃ (xs : List PostD) (a : Option Addr) (c : Nat), v = .slice a xs.length c ∧ (∀ x ∈ xs, x.name.size ≤ maxLen) ∧ PostsAt w a xs := by
  rcases open_slice Try.underlying36 h with ⟨hcs, _⟩ | ⟨a, len, cap, m', n, D, Pl, hcs, _, hl, _, hm, _, hx⟩
  · simp at hcs; subst hcs
    exact ⟨[], none, 0, rfl, by simp, .inl rfl⟩
  · simp at hcs; subst hcs
    rw [cellsPost] at hx
    have hle : len ≤ m' := by rw [hm]; split <;> omega
    have : Inhabited PostD := ⟨⟨⟨#[]⟩, 0⟩⟩
    obtain ⟨xs, h1, h2, h3⟩ := elems_read (w := w) (base := base) (sz := 2) (by omega) (a := a) (len := len) (vals := fun p : PostD => [.string p.name, .int .i64 p.kind]) (q := fun p => p.name.size ≤ maxLen) (fun _ => rfl) (fun i hi => by
      obtain ⟨cs, q1, q2⟩ := hx i (by omega)
      obtain ⟨p, q3, q4⟩ := post_read q2
      exact ⟨cs, q1, p, q3, q4⟩)
    refine ⟨xs, some a, cap, by rw [h1], h2, ?_⟩
    rcases h3 with h3 | ⟨g, o, rfl, hg, h3⟩
    · exact .inl h3
    · exact .inr ⟨g, o, rfl, hg, fun i hi => ⟨by simpa using h3 i hi 0 (by omega), by simpa using h3 i hi 1 (by omega)⟩⟩
theorem queues_read {m : Nat} {v : Value} {x : DataW H × List MemPlace} (h : DataW.trod enc Try.prog w base spare held m 37 [v] = some x) :
    ∃ (xs : List QueueD) (a : Option Addr) (c : Nat), v = .slice a xs.length c ∧ (∀ x ∈ xs, x.name.size ≤ maxLen) ∧ QueuesAt w a xs := by
  rcases open_slice Try.underlying37 h with ⟨hcs, _⟩ | ⟨a, len, cap, m', n, D, Pl, hcs, _, hl, _, hm, _, hx⟩
  · simp at hcs; subst hcs
    exact ⟨[], none, 0, rfl, by simp, .inl rfl⟩
  · simp at hcs; subst hcs
    rw [cellsQueue] at hx
    have hle : len ≤ m' := by rw [hm]; split <;> omega
    have : Inhabited QueueD := ⟨⟨⟨#[]⟩, 0, 0⟩⟩
    obtain ⟨xs, h1, h2, h3⟩ := elems_read (w := w) (base := base) (sz := 3) (by omega) (a := a) (len := len) (vals := fun p : QueueD => [.string p.name, .int .i64 p.limit, .int .i64 p.dead]) (q := fun p => p.name.size ≤ maxLen) (fun _ => rfl) (fun i hi => by
      obtain ⟨cs, q1, q2⟩ := hx i (by omega)
      obtain ⟨p, q3, q4⟩ := queue_read q2
      exact ⟨cs, q1, p, q3, q4⟩)
    refine ⟨xs, some a, cap, by rw [h1], h2, ?_⟩
    rcases h3 with h3 | ⟨g, o, rfl, hg, h3⟩
    · exact .inl h3
    · exact .inr ⟨g, o, rfl, hg, fun i hi => ⟨by simpa using h3 i hi 0 (by omega), by simpa using h3 i hi 1 (by omega), by simpa using h3 i hi 2 (by omega)⟩⟩
theorem binds_read {m : Nat} {v : Value} {x : DataW H × List MemPlace} (h : DataW.trod enc Try.prog w base spare held m 38 [v] = some x) :
    ∃ (xs : List BindD) (a : Option Addr) (c : Nat), v = .slice a xs.length c ∧ BindsAt w a xs := by
  rcases open_slice Try.underlying38 h with ⟨hcs, _⟩ | ⟨a, len, cap, m', n, D, Pl, hcs, _, hl, _, hm, _, hx⟩
  · simp at hcs; subst hcs
    exact ⟨[], none, 0, rfl, .inl rfl⟩
  · simp at hcs; subst hcs
    rw [cellsBind] at hx
    have hle : len ≤ m' := by rw [hm]; split <;> omega
    have : Inhabited BindD := ⟨⟨0, false, 0, ⟨#[]⟩⟩⟩
    obtain ⟨xs, h1, h2, h3⟩ := elems_read (w := w) (base := base) (sz := 4) (by omega) (a := a) (len := len) (vals := fun p : BindD => [.int .i64 p.src, .bool p.toPost, .int .i64 p.dst, .string p.pat]) (q := fun _ => True) (fun _ => rfl) (fun i hi => by
      obtain ⟨cs, q1, q2⟩ := hx i (by omega)
      obtain ⟨p, q3, q4⟩ := bind_read q2
      exact ⟨cs, q1, p, q3, q4⟩)
    refine ⟨xs, some a, cap, by rw [h1], ?_⟩
    rcases h3 with h3 | ⟨g, o, rfl, hg, h3⟩
    · exact .inl h3
    · exact .inr ⟨g, o, rfl, hg, fun i hi => ⟨by simpa using h3 i hi 0 (by omega), by simpa using h3 i hi 1 (by omega), by simpa using h3 i hi 2 (by omega), by simpa using h3 i hi 3 (by omega)⟩⟩

/-- A plan that came in. -/
theorem plan_read {r : Reach} {b0 : Nat} {v : Value} {d : DataW H} {p : List MemPlace} (hv : Value.okWide Try.prog w r b0 40 v) (h : DataW.Trod enc Try.prog w base spare held 40 v d p) :
    ∃ (P : PlanD) (a1 a2 a3 : Option Addr) (n1 c1 n2 c2 n3 c3 : Nat), v = .agg #[.slice a1 n1 c1, .slice a2 n2 c2, .slice a3 n3 c3] ∧ PlanAt w a1 a2 a3 n1 n2 n3 P := by
  obtain ⟨v0, v1, v2, y0, y1, y2, n, rfl, _, _, h0, h1, h2⟩ := open_agg3 Try.underlying40 (by kernel_rfl) cellsPlan hv h
  obtain ⟨xs, a1, c1, rfl, s1, k1⟩ := posts_read h0
  obtain ⟨ys, a2, c2, rfl, s2, k2⟩ := queues_read h1
  obtain ⟨zs, a3, c3, rfl, k3⟩ := binds_read h2
  exact ⟨⟨xs, ys, zs⟩, a1, a2, a3, _, c1, _, c2, _, c3, rfl, ⟨rfl, rfl, rfl, ⟨fun x hx => by obtain ⟨p, hp, rfl⟩ := List.mem_map.1 hx; exact s1 p hp, fun x hx => by obtain ⟨p, hp, rfl⟩ := List.mem_map.1 hx; exact s2 p hp⟩, k1, k2, k3⟩⟩
end Go.Proofs.Ythhkpgnjpieckaa
